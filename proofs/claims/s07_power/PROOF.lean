import PyProof.Rows.All
import Wide.All
import OpenK.AllK
import Wide.FinOn
import PyProof.EqAt
import PyProof.EqKinds
import PyProof.TupleCall
import KE.BitLaws
import Open.SpecLaws
import KE.OsHead
import KE.OsGo
import PySem.Challenge.RW_rootrows_s07_power
section
set_option Elab.async false
set_option linter.all false
set_option maxRecDepth 100000
namespace L2
open PySem PySem.Spec PyProof.Rows

abbrev Key := Sum Int Str
def keyIs : Key → Value → Bool
  | .inl k, v => Value.isInt k v
  | .inr x, v => Value.isStrOf x v
def keyH (w : World) : Key → Int
  | .inl k => hashInt k
  | .inr x => hashStr w x
theorem keyIs_shape : ∀ {k : Key} {v : Value}, keyIs k v = true → (∃ i t, k = Sum.inl i ∧ v = Value.int i t) ∨ (∃ x t, k = Sum.inr x ∧ v = Value.str x t)
  | .inl i, v, h => by
    obtain ⟨t, e⟩ := Value.isInt_shape (k := i) (v := v) h
    exact .inl ⟨i, t, rfl, e⟩
  | .inr x, v, h => by
    obtain ⟨t, e⟩ := Value.isStrOf_shape (x := x) (v := v) h
    exact .inr ⟨x, t, rfl, e⟩
theorem key_ll (a b : Int) : decide ((Sum.inl a : Key) = Sum.inl b) = (a == b) := by
  by_cases e : a = b
  · subst e; simp
  · have h : ¬ (Sum.inl a : Key) = Sum.inl b := fun q => e (Sum.inl.inj q)
    rw [decide_eq_false h]
    exact (beq_eq_false_iff_ne.mpr e).symm
theorem key_rr (a b : Str) : decide ((Sum.inr a : Key) = Sum.inr b) = decide (a = b) := by
  by_cases e : a = b
  · subst e; simp
  · have h : ¬ (Sum.inr a : Key) = Sum.inr b := fun q => e (Sum.inr.inj q)
    rw [decide_eq_false h, decide_eq_false e]
theorem key_lr (a : Int) (b : Str) : decide ((Sum.inl a : Key) = Sum.inr b) = false := decide_eq_false (fun q => nomatch q)
theorem key_rl (a : Str) (b : Int) : decide ((Sum.inr a : Key) = Sum.inl b) = false := decide_eq_false (fun q => nomatch q)

def mixKind (prog : Program) (w : World) : PySem.KeyKind prog w Key where
  is := keyIs
  hash := keyH w
  inj := fun v a b ha hb => by
    rcases keyIs_shape ha with ⟨i, t, rfl, rfl⟩ | ⟨x, t, rfl, rfl⟩
    · rcases keyIs_shape hb with ⟨j, u, rfl, e⟩ | ⟨y, u, rfl, e⟩
      · injection e with e1 _; rw [e1]
      · exact nomatch e
    · rcases keyIs_shape hb with ⟨j, u, rfl, e⟩ | ⟨y, u, rfl, e⟩
      · exact nomatch e
      · injection e with e1 _; rw [e1]
  byValue := fun k v h => by
    rcases keyIs_shape h with ⟨i, t, rfl, rfl⟩ | ⟨x, t, rfl, rfl⟩ <;> rfl
  pyHash := fun hv h => by
    rcases keyIs_shape hv with ⟨i, t, rfl, rfl⟩ | ⟨x, t, rfl, rfl⟩
    · exact wpAny_pyHash_int h
    · exact wpAny_pyHash_str h
  eqBool := fun hu hv h => by
    rcases keyIs_shape hu with ⟨i, t, rfl, rfl⟩ | ⟨x, t, rfl, rfl⟩
    · rcases keyIs_shape hv with ⟨j, u, rfl, rfl⟩ | ⟨y, u, rfl, rfl⟩
      · rw [key_ll] at h; exact wpAny_eqBool_int h
      · rw [key_lr] at h; exact SeqAt.EqAt.int_str i t y u _ _ _ _ h
    · rcases keyIs_shape hv with ⟨j, u, rfl, rfl⟩ | ⟨y, u, rfl, rfl⟩
      · rw [key_rl] at h; exact SeqAt.EqAt.str_int x t j u _ _ _ _ h
      · rw [key_rr] at h; exact wpAny_eqBool_str h
  «strs» := fun k x t v h => by
    rcases keyIs_shape h with ⟨i, u, rfl, e⟩ | ⟨y, u, rfl, e⟩
    · exact nomatch e
    · injection e with e1 _
      subst e1
      cases v <;> rfl

end L2

namespace L2
open PySem PySem.Spec PyProof.Rows

inductive V where
  | non | bl (b : Bool) | int (i : Int) | str (x : Str) | byt (b : Array UInt8) | flt (b : UInt64) | ref (a : Addr) | ty (n : String)
  deriving DecidableEq

def RelV : V → Value → Prop
  | .non, u => u = Value.none
  | .bl b, u => u = Value.bool b
  | .int i, u => ∃ t, u = Value.int i t
  | .str x, u => ∃ t, u = Value.str x t
  | .byt b, u => ∃ t, u = Value.bytes b t
  | .flt b, u => ∃ t, u = Value.float b t
  | .ref a, u => u = Value.ref a
  | .ty n, u => u = Value.type n

abbrev Vals : List V → List Value → Prop := Paired RelV
theorem Vals.length {xs : List V} {us : List Value} (r : Vals xs us) : xs.length = us.length := Paired.length r
theorem Vals.get : ∀ {xs : List V} {us : List Value} {i : Nat} {x : V}, Vals xs us → xs[i]? = some x → ∃ u, us[i]? = some u ∧ RelV x u
  | _, _, _, _, .nil, e => by simp at e
  | _, _, 0, _, .cons r _, e => by simp at e; subst e; exact ⟨_, rfl, r⟩
  | _, _, i + 1, x, .cons _ t, e => by
    obtain ⟨u, h1, h2⟩ := Vals.get (i := i) (x := x) t (by simpa using e)
    exact ⟨u, by simpa using h1, h2⟩
theorem Vals.set {x : V} {u : Value} (r : RelV x u) : ∀ {xs : List V} {us : List Value} (i : Nat), Vals xs us → Vals (xs.set i x) (us.set i u)
  | _, _, _, .nil => .nil
  | _, _, 0, .cons _ t => .cons r t
  | _, _, i + 1, .cons q t => .cons q (Vals.set r i t)
theorem Vals.append : ∀ {xs ys : List V} {us ws : List Value}, Vals xs us → Vals ys ws → Vals (xs ++ ys) (us ++ ws)
  | _, _, _, _, .nil, s => s
  | _, _, _, _, .cons r t, s => .cons r (Vals.append t s)
theorem Vals.take : ∀ {xs : List V} {us : List Value} (n : Nat), Vals xs us → Vals (xs.take n) (us.take n)
  | _, _, 0, _ => .nil
  | _, _, _ + 1, .nil => .nil
  | _, _, n + 1, .cons r t => .cons r (Vals.take n t)
theorem Vals.drop : ∀ {xs : List V} {us : List Value} (n : Nat), Vals xs us → Vals (xs.drop n) (us.drop n)
  | _, _, 0, r => r
  | _, _, _ + 1, .nil => .nil
  | _, _, n + 1, .cons _ t => Vals.drop n t

def RelO : Option V → Option Value → Prop
  | some v, some u => RelV v u
  | none, none => True
  | _, _ => False
def KV {κ : Type} : List (κ × V) → List (κ × Value) → Prop := Paired fun (p : κ × V) (q : κ × Value) => p.1 = q.1 ∧ RelV p.2 q.2

def kV : Key → V
  | .inl i => .int i
  | .inr x => .str x

inductive HO where
    | lst (xs : List V)
    | tup (xs : List V)
    | dK (kvs : List (Key × V)) | dT (kvs : List (List Key × V))
    | set (S : Int → Bool) (n : Nat)
    | ins (C dx : Addr) (fs : List (Str × V))
    | own (x : Addr)
    | xd (fs : List (Str × V))
    | met (f x : Addr)
    | rng (lo hi : Int)
    | frz (o : Obj) (u : HO)
    | tbl (ps : Array Value)
    | ext (φ : Heap → Prop)

abbrev Hp := Addr → Option HO
def upd (H : Hp) (a : Addr) (o : HO) : Hp := fun b => if b = a then some o else H b
theorem upd_same {H : Hp} {a : Addr} {o : HO} : upd H a o a = some o := by unfold upd; rw [if_pos rfl]
theorem upd_ne {H : Hp} {a b : Addr} {o : HO} (h : b ≠ a) : upd H a o b = H b := by unfold upd; rw [if_neg h]
theorem ne_of_none {H : Hp} {a b : Addr} {o : HO} (h : H a = some o) (h' : H b = none) : a ≠ b := by
  intro e; subst e; rw [h] at h'; cases h'

section
variable (P : Program) (w : World)
def ObjOk (H : Hp) (h : Heap) (a : Addr) : HO → Prop
  | .lst xs => xs.length ≤ sizeLine ∧ ∃ (its : List Value) (n : Nat), Vals xs its ∧ h.get? a = some { cls := .type "list", data := .seq its.toArray n }
  | .tup xs => xs.length ≤ sizeLine ∧ ∃ its : List Value, Vals xs its ∧ IsTup h a its.toArray
  | .dK kvs => kvs.length ≤ sizeLine ∧ (a == sysModules) = false ∧ ∃ vs, KV kvs vs ∧ h.DictOf (mixKind P w) a vs
  | .dT kvs => kvs.length ≤ sizeLine ∧ (a == sysModules) = false ∧ ∃ xs : List (List Key × Addr × Value),
      Paired (fun (p : List Key × V) (q : List Key × Addr × Value) => p.1 = q.1 ∧ H q.2.1 = some (.tup (p.1.map kV)) ∧ RelV p.2 q.2.2) kvs xs ∧
      ∃ o es ep, h.get? a = some o ∧ o.ExactDict ∧ o.data = .dict es ep ∧ es.toList = xs.map (entryOfKey (tupleKind (mixKind P w))) ∧ (xs.map (·.1)).Nodup
  | .set S n => h.SetOf (intKind P w) a S n
  | .ins C dx fs => H dx = some (.own a) ∧ fs.length ≤ 1000 ∧ dx ≠ a ∧ h.get? a = some (PySem.W.instObj C dx) ∧
      ∃ mA, h.Ns1 dx mA ∧ (∀ f, RelO (fs.lookup f) (mA f)) ∧ PySem.Within mA (fs.map (·.1))
  | .own _ => ∃ o, h.get? a = some o
  | .xd fs => ∃ mA, h.Ns1 a mA ∧ ∀ f, RelO (fs.lookup f) (mA f)
  | .rng lo hi => ∃ t u v, h.get? a = some { cls := .type "range", data := .fields #[.int lo t, .int hi u, .int 1 v] }
  | .frz o u => h.get? a = some o ∧ ObjOk H h a u
  | .tbl ps => h.get? a = some { cls := .none, data := .fields ps }
  | .met f x => h.get? a = some (PySem.W.methodObj (.ref f) (.ref x))
  | .ext φ => φ h ∧ (∃ o, h.get? a = some o) ∧ ∀ h1 h2 : Heap, φ h1 → (∀ o, h1.get? a = some o → h2.get? a = some o) → φ h2
def HOk (H : Hp) (h : Heap) : Prop := ∀ a o, H a = some o → ObjOk P w H h a o
end

section
variable {P : Program} {w : World} {H H' : Hp} {h h' : Heap} {a : Addr} {o : HO}
theorem ObjOk.lt (x : ObjOk P w H h a o) : a < h.objs.size := by
  cases o with
  | lst xs => obtain ⟨_, _, _, _, e⟩ := x; exact Heap.lt_size e
  | tup xs => obtain ⟨_, _, _, p⟩ := x; exact p.lt
  | dK kvs => obtain ⟨_, _, _, _, o, _, _, e, _⟩ := x; exact Heap.lt_size e
  | dT kvs => obtain ⟨_, _, _, _, o, _, _, e, _⟩ := x; exact Heap.lt_size e
  | set S n => obtain ⟨o, _, _, _, e, _⟩ := x; exact Heap.lt_size e
  | ins C dx fs => obtain ⟨_, _, _, e, _⟩ := x; exact Heap.lt_size e
  | own y => obtain ⟨_, e⟩ := x; exact Heap.lt_size e
  | xd fs => obtain ⟨_, ⟨_, _, _, e, _⟩, _⟩ := x; exact Heap.lt_size e
  | rng lo hi => obtain ⟨_, _, _, e⟩ := x; exact Heap.lt_size e
  | frz ob u => obtain ⟨e, _⟩ := x; exact Heap.lt_size e
  | tbl ps => exact Heap.lt_size (show h.get? a = some _ from x)
  | met f y => exact Heap.lt_size (show h.get? a = some _ from x)
  | ext φ => obtain ⟨_, ⟨_, e⟩, _⟩ := x; exact Heap.lt_size e
theorem Paired.mapP {α β : Type} {F G : α → β → Prop} : ∀ {l₁ : List α} {l₂ : List β}, Paired F l₁ l₂ → (∀ a b, F a b → G a b) → Paired G l₁ l₂
  | _, _, .nil, _ => .nil
  | _, _, .cons r t, f => .cons (f _ _ r) (Paired.mapP t f)
theorem ObjOk.stay (x : ObjOk P w H h a o) (k : ∀ b u, (b = a ∨ H b = some (.own a)) → h.get? b = some u → h'.get? b = some u)
    (ho : ∀ b, H b = some (.own a) → H' b = some (.own a)) (ht : ∀ b xs, H b = some (.tup xs) → H' b = some (.tup xs)) : ObjOk P w H' h' a o := by
  induction o with
  | lst xs => obtain ⟨z, its, n, r, e⟩ := x; exact ⟨z, its, n, r, k _ _ (.inl rfl) e⟩
  | tup xs => obtain ⟨z, its, r, ob, e, c⟩ := x; exact ⟨z, its, r, ob, k _ _ (.inl rfl) e, c⟩
  | dK kvs => obtain ⟨z, y, vs, r, ob, es, ep, e, c⟩ := x; exact ⟨z, y, vs, r, ob, es, ep, k _ _ (.inl rfl) e, c⟩
  | dT kvs =>
    obtain ⟨z, y, xs, r, ob, es, ep, e, c⟩ := x
    exact ⟨z, y, xs, Paired.mapP r fun p q z => ⟨z.1, ht _ _ z.2.1, z.2.2⟩, ob, es, ep, k _ _ (.inl rfl) e, c⟩
  | set S n => obtain ⟨ob, es, ep, t, e, c⟩ := x; exact ⟨ob, es, ep, t, k _ _ (.inl rfl) e, c⟩
  | ins C dx fs =>
    obtain ⟨d, z, ne, e, mA, ⟨od, es, ep, e2, c⟩, r⟩ := x
    exact ⟨ho _ d, z, ne, k _ _ (.inl rfl) e, mA, ⟨od, es, ep, k _ _ (.inr d) e2, c⟩, r⟩
  | own y => obtain ⟨ob, e⟩ := x; exact ⟨ob, k _ _ (.inl rfl) e⟩
  | xd fs => obtain ⟨mA, ⟨od, es, ep, e, c⟩, r⟩ := x; exact ⟨mA, ⟨od, es, ep, k _ _ (.inl rfl) e, c⟩, r⟩
  | rng lo hi => obtain ⟨t, u, v, e⟩ := x; exact ⟨t, u, v, k _ _ (.inl rfl) e⟩
  | frz ob u ih => obtain ⟨e, q⟩ := x; exact ⟨k _ _ (.inl rfl) e, ih q⟩
  | tbl ps =>
    have e : h.get? a = some { cls := .none, data := .fields ps } := x
    show h'.get? a = some { cls := .none, data := .fields ps }
    exact k a _ (.inl rfl) e
  | met f y =>
    have e : h.get? a = some (PySem.W.methodObj (.ref f) (.ref y)) := x
    show h'.get? a = some (PySem.W.methodObj (.ref f) (.ref y))
    exact k a _ (.inl rfl) e
  | ext φ => obtain ⟨p, ⟨o, e⟩, st⟩ := x; exact ⟨st _ _ p fun o q => k _ _ (.inl rfl) q, ⟨o, k _ _ (.inl rfl) e⟩, st⟩
theorem HOk.lt (x : HOk P w H h) (e : H a = some o) : a < h.objs.size := (x a o e).lt
theorem HOk.fresh (x : HOk P w H h) (e : h.objs.size ≤ a) : H a = none := by
  cases q : H a with
  | none => rfl
  | some u => exact absurd (Nat.lt_of_lt_of_le (x.lt q) e) (Nat.lt_irrefl _)
theorem HOk.kept (x : HOk P w H h) (k : ∀ b u, h.get? b = some u → h'.get? b = some u) : HOk P w H h' := fun a o e =>
  (x a o e).stay (fun b u _ q => k b u q) (fun _ q => q) fun _ _ q => q
theorem HOk.laid (x : HOk P w H h) (k : ∀ b u, h.get? b = some u → h'.get? b = some u) (hp : h.objs.size ≤ a) (new : ObjOk P w (upd H a o) h' a o) : HOk P w (upd H a o) h' := fun b u e => by
  have hn := x.fresh hp
  by_cases hb : b = a
  · subst hb; rw [upd_same] at e; cases e; exact new
  · rw [upd_ne hb] at e
    exact (x b u e).stay (fun c v _ q => k c v q) (fun c q => by rw [upd_ne (ne_of_none q hn)]; exact q) fun c xs q => by rw [upd_ne (ne_of_none q hn)]; exact q
end

def Rd (H : Hp) (a : Addr) (u : HO) : Prop := H a = some u ∨ ∃ o, H a = some (.frz o u)
theorem Rd.ok {P : Program} {w : World} {H : Hp} {h : Heap} {a : Addr} {u : HO} (r : Rd H a u) (x : HOk P w H h) : ObjOk P w H h a u := by
  rcases r with r | ⟨o, r⟩
  · exact x a u r
  · obtain ⟨_, q⟩ := x a _ r
    exact q
def Mut : Option HO → Prop
  | some (.lst _) => True
  | some (.dK _) => True
  | some (.dT _) => True
  | some (.set _ _) => True
  | some (.ins _ _ _) => True
  | some (.ext _) => True
  | _ => False
section
variable {P : Program} {w : World} {H : Hp} {h h' : Heap} {x e : Addr} {o' : HO}
theorem HOk.write (ok : HOk P w H h) (mu : Mut (H x)) (he : e = x ∨ H e = some (.own x)) (k : ∀ b u, b ≠ e → h.get? b = some u → h'.get? b = some u) (heo : ∃ u, h'.get? e = some u)
    (new : ObjOk P w (upd H x o') h' x o') : HOk P w (upd H x o') h' := fun b u q => by
  have nown : ∀ c y, H c = some (.own y) → c ≠ x := fun c y r z => by subst z; rw [r] at mu; exact mu
  have ntup : ∀ c xs, H c = some (.tup xs) → c ≠ x := fun c xs r z => by subst z; rw [r] at mu; exact mu
  by_cases hb : b = x
  · subst hb; rw [upd_same] at q; cases q; exact new
  · rw [upd_ne hb] at q
    by_cases hbe : b = e
    · have q' : H b = some (.own x) := by
        rcases he with z | z
        · exact absurd (hbe.trans z) hb
        · rw [hbe]; exact z
      rw [q] at q'; cases q'
      obtain ⟨v, hv⟩ := heo
      exact ⟨v, by rw [hbe]; exact hv⟩
    · refine (ok b u q).stay (fun c v hc r => k c v ?_ r) (fun c r => by rw [upd_ne (nown c b r)]; exact r) fun c xs r => by rw [upd_ne (ntup c xs r)]; exact r
      rcases hc with rfl | hc
      · exact hbe
      · rintro rfl
        rcases he with z | z
        · exact nown c b hc z
        · rw [hc] at z; cases z; exact hb rfl
end

structure Un (fs ex : List Addr) (H H' : Hp) (h h' : Heap) : Prop where
  keep : ∀ b o, h.get? b = some o → H b = none → b ∉ fs → b ∉ ex → h'.get? b = some o
  slot : ∀ b o, h.get? b = some o → H b = none → b ∈ fs → b ∉ ex → ∃ sl, h'.get? b = some { o with slots := sl }
  free : ∀ b o, h.get? b = some o → H b = none → b ∉ ex → H' b = none
  there : ∀ b o, h.get? b = some o → b ∉ ex → ∃ o', h'.get? b = some o'
  tups : ∀ b xs, H b = some (.tup xs) → H' b = some (.tup xs)
  frzs : ∀ b o u, H b = some (.frz o u) → H' b = some (.frz o u)
  tbls : ∀ b ps, H b = some (.tbl ps) → ∃ more, H' b = some (.tbl (ps ++ more))
section
variable {fs fs' ex ex' : List Addr} {H H1 H2 : Hp} {h h1 h2 h' : Heap} {a x e : Addr} {o : HO}
theorem Un.any (u : Un fs ex H H1 h h1) {b : Addr} {ob : Obj} (q : h.get? b = some ob) (n : H b = none) (hx : b ∉ ex) : ∃ sl, h1.get? b = some { ob with slots := sl } := by
  by_cases hb : b ∈ fs
  · exact u.slot b ob q n hb hx
  · exact ⟨ob.slots, u.keep b ob q n hb hx⟩
theorem Un.kept (k : ∀ b u, h.get? b = some u → h'.get? b = some u) : Un fs ex H H h h' :=
  ⟨fun b ob q _ _ _ => k b ob q, fun b ob q _ _ _ => ⟨ob.slots, k b ob q⟩, fun _ _ _ n _ => n, fun b ob q _ => ⟨ob, k b ob q⟩, fun _ _ q => q, fun _ _ _ q => q, fun _ ps q => ⟨#[], by rw [q]; simp⟩⟩
theorem Un.refl : Un fs ex H H h h := Un.kept fun _ _ q => q
theorem Un.laid (k : ∀ b u, h.get? b = some u → h'.get? b = some u) (hp : h.objs.size ≤ a) (hn : H a = none) : Un fs ex H (upd H a o) h h' where
  keep := fun b u q _ _ _ => k b u q
  slot := fun b u q _ _ _ => ⟨u.slots, k b u q⟩
  free := fun b u q n _ => by rw [upd_ne (Nat.ne_of_lt (Nat.lt_of_lt_of_le (Heap.lt_size q) hp))]; exact n
  there := fun b u q _ => ⟨u, k b u q⟩
  tups := fun b xs q => by rw [upd_ne (ne_of_none q hn)]; exact q
  frzs := fun b u xs q => by rw [upd_ne (ne_of_none q hn)]; exact q
  tbls := fun b ps q => ⟨#[], by rw [upd_ne (ne_of_none q hn), q]; simp⟩
theorem Un.write (mu : Mut (H x)) (he : e = x ∨ H e = some (.own x)) (k : ∀ b u, b ≠ e → h.get? b = some u → h'.get? b = some u) (heo : ∃ u, h'.get? e = some u) : Un fs ex H (upd H x o) h h' := by
  have hx : ∀ b, H b = none → b ≠ x := fun b n z => by subst z; rw [n] at mu; exact mu
  have hb : ∀ b, H b = none → b ≠ e := fun b n z => by
    subst z
    rcases he with r | r
    · exact hx b n r
    · rw [n] at r; cases r
  have hm : ∀ b u, H b = some u → ¬ Mut (some u) → b ≠ x := fun b u q nm z => by subst z; rw [q] at mu; exact nm mu
  refine ⟨fun b u q n _ _ => k b u (hb b n) q, fun b u q n _ _ => ⟨u.slots, k b u (hb b n) q⟩, fun b u q n _ => by rw [upd_ne (hx b n)]; exact n, fun b u q _ => ?_,
    fun b xs q => by rw [upd_ne (hm b _ q fun z => z)]; exact q, fun b u xs q => by rw [upd_ne (hm b _ q fun z => z)]; exact q, fun b ps q => ⟨#[], by rw [upd_ne (hm b _ q fun z => z), q]; simp⟩⟩
  by_cases hbe : b = e
  · subst hbe; exact heo
  · exact ⟨u, k b u hbe q⟩
end

def trk (h : Heap) (H : Hp) : List Addr := (List.range h.objs.size).filter fun a => (H a).isSome
def hidT (h : Heap) (H : Hp) : Heap := PySem.W.hideAll h (trk h H)
theorem hidT_size (h : Heap) (H : Hp) : (hidT h H).objs.size = h.objs.size := PySem.W.hideAll_size _ _
theorem hidT_get {h : Heap} {H : Hp} {b : Addr} {o : Obj} (e : h.get? b = some o) (n : H b = none) : (hidT h H).get? b = some o :=
  PySem.W.hideAll_get _ e fun hm => by
    have q : (H b).isSome = true := (List.mem_filter.mp hm).2
    rw [n] at q; simp at q
theorem of_hidT {h : Heap} {H : Hp} {b : Addr} {o : Obj} (e : (hidT h H).get? b = some o) : h.get? b = some o ∧ H b = none := by
  have e' : h.get? b = some o := PySem.W.of_hideAll (trk h H) e
  refine ⟨e', ?_⟩
  cases q : H b with
  | none => rfl
  | some x =>
    have hm : b ∈ trk h H := List.mem_filter.mpr ⟨List.mem_range.mpr (Heap.lt_size e'), by simp [q]⟩
    have z : (hidT h H).get? b = none := PySem.W.hideAll_none (trk h H) hm
    rw [z] at e; cases e

def allNews (g h : Heap) (L : Addr) : List (Addr × Obj) := (List.range h.objs.size).filterMap fun a => if a = L ∨ (g.get? a).isSome = true then none else (h.get? a).map fun o => (a, o)
def rest (g h : Heap) (L d : Addr) : List (Addr × Obj) := (allNews g h L).filter fun p => decide (p.1 ≠ d)
end L2

namespace L2
open PySem PySem.Spec PyProof.Rows

structure Mod (K : PySem.W.Frag) (mg : Str → Option Value) (base : Heap) : Prop where
  kin : K.In base
  glob : base.Ns mainGlobals mg
  blt : ∃ mb, base.Ns builtinsNs mb ∧ ∀ x : Str, x ≠ "__name__" → mb x = bootBuiltins x
  nolimit : base.NoLimit

structure Cx where
  prog : Program
  w : World
  K : PySem.W.Frag
  mg : Str → Option Value
  base : Heap
  A : Around
  N : List Str
  s_0 : Shared
  H_0 : Hp
  env : Env
  outer : List Env
  stack : List Env
  ex : List Addr
  fn : Str → Bool
  calm : Bool
  pn : List (Addr × Obj)
  xe : Value → Shared → Prop
def frs (l : List Env) : List Addr := l.filterMap (·.frame)
abbrev Cx.fs (X : Cx) : List Addr := frs X.outer

def Vis (sc : Scope) (x : Str) : Prop := sc.names.lookup x = some .local ∨ sc.names.lookup x = some .cell ∨ sc.names.lookup x = some .free
def Loc (sc : Scope) (x : Str) : Prop := sc.names.lookup x = some .local ∨ sc.names.lookup x = some .cell
def Look (env : Env) (h : Heap) (m : Str → Option Value) (x : Str) (u : Value) : Prop :=
  (env.kindOf x = some .local ∧ m x = some u) ∨ ((env.kindOf x = some .cell ∨ env.kindOf x = some .free) ∧ ∃ c, env.cells.lookup x = some c ∧ h.IsCell c (some u))

structure Cx.Ok (X : Cx) : Prop where
  mod : Mod X.K X.mg X.base
  kind : X.env.scope.kind = .function
  glob : X.env.globals = mainGlobals
  blt : X.env.builtins = builtinsNs
  above : X.s_0.heap.objs.size ≤ X.env.locals
  inj : ∀ x y c, X.env.cells.lookup x = some c → X.env.cells.lookup y = some c → x = y
  has : ∀ x, (X.env.kindOf x = some .cell ∨ X.env.kindOf x = some .free) → ∃ c, X.env.cells.lookup x = some c
  cab : ∀ x c, X.fn x = true → X.env.cells.lookup x = some c → X.s_0.heap.objs.size ≤ c
  hd : X.calm = true → X.A.handled = none
  frames : X.A.frames = some X.stack
  stk : X.stack = X.outer ∨ (X.stack = X.env :: X.outer ∧ X.env.frame = some X.env.locals)
  exf : ∀ b ∈ X.ex, b ≠ X.env.locals ∧ ∀ x c, X.env.cells.lookup x = some c → c ≠ b
  bs : ∀ b o, X.base.get? b = some o → X.s_0.heap.get? b = some o ∧ X.H_0 b = none
  bsz : X.base.objs.size ≤ X.s_0.heap.objs.size
  noex : ∀ b o, X.base.get? b = some o → b ∉ X.ex
  exfs : ∀ b ∈ X.ex, b ∉ X.fs
  funs : X.s_0.heap.FunFrames X.base X.outer
  frf : ∀ b ∈ X.fs, X.H_0 b = none

structure Inv (X : Cx) (pins : List (Addr × Obj)) (σ : List (Option V)) (H : Hp) (s : Shared) : Prop where
  ok : X.Ok
  os : s.os = X.s_0.os
  bare : AllBare s.gens
  base : Un X.fs X.ex X.H_0 H X.s_0.heap s.heap
  loc : ∃ m, s.heap.Ns X.env.locals m ∧ ∀ (i : Nat) (x : Str) (v : V), X.N[i]? = some x → σ[i]? = some (some v) → Vis X.env.scope x → ∃ u, RelV v u ∧ Look X.env s.heap m x u
  cell : ∀ x c, X.env.cells.lookup x = some c → ∃ v, s.heap.IsCell c v
  free : H X.env.locals = none
  freeC : ∀ x c, X.env.cells.lookup x = some c → H c = none
  pin : ∀ p ∈ X.pn ++ pins, s.heap.get? p.1 = some p.2 ∧ H p.1 = none ∧ p.1 ≠ X.env.locals ∧ p.1 ∉ X.fs ∧ ∀ v, p.2.data ≠ .cell v
  hok : HOk X.prog X.w H s.heap
  len : σ.length = X.N.length

section
variable {X : Cx} {pins : List (Addr × Obj)} {σ : List (Option V)} {H H' : Hp} {s : Shared} {h' : Heap}

theorem Cx.Ok.nofr (ok : X.Ok) {b : Addr} {o : Obj} (e : X.base.get? b = some o) : b ∉ X.fs := fun hb => by
  have := (ok.funs.mem hb).1
  rw [e] at this; cases this
theorem Inv.bs (I : Inv X pins σ H s) : ∀ b o, X.base.get? b = some o → s.heap.get? b = some o ∧ H b = none := fun b o e =>
  ⟨I.base.keep b o (I.ok.bs b o e).1 (I.ok.bs b o e).2 (I.ok.nofr e) (I.ok.noex b o e), I.base.free b o (I.ok.bs b o e).1 (I.ok.bs b o e).2 (I.ok.noex b o e)⟩
theorem Inv.bk (I : Inv X pins σ H s) : ∀ b o, X.base.get? b = some o → s.heap.get? b = some o := fun b o e => (I.bs b o e).1
theorem Inv.mod (I : Inv X pins σ H s) : Mod X.K X.mg X.base := I.ok.mod
theorem Inv.kIn (I : Inv X pins σ H s) : X.K.In s.heap := I.ok.mod.kin.keeps I.bk
theorem Inv.fr (I : Inv X pins σ H s) : ∃ m, Fr X.base X.env.locals s.heap m :=
  let ⟨m, hn, _⟩ := I.loc
  ⟨m, hn, I.bk, Nat.le_trans I.ok.bsz I.ok.above⟩
theorem Inv.lt (I : Inv X pins σ H s) : X.env.locals < s.heap.objs.size := let ⟨_, hn, _⟩ := I.loc; hn.lt
theorem Inv.sz (I : Inv X pins σ H s) : X.s_0.heap.objs.size ≤ s.heap.objs.size := Nat.le_trans I.ok.above (Nat.le_of_lt I.lt)
theorem Inv.nofs (I : Inv X pins σ H s) {a : Addr} (h : s.heap.objs.size ≤ a) : a ∉ X.fs := fun hb => by
  obtain ⟨_, o, ho, _⟩ := I.ok.funs.mem hb
  exact absurd (Nat.lt_of_lt_of_le (Heap.lt_size ho) (Nat.le_trans I.sz h)) (Nat.lt_irrefl _)
theorem Inv.cne (I : Inv X pins σ H s) : ∀ x c, X.env.cells.lookup x = some c → c ≠ X.env.locals := fun x c e z => by
  obtain ⟨v, o, ho, hd⟩ := I.cell x c e
  obtain ⟨m, ⟨o', es, ep, ho', hd', _⟩, _⟩ := I.loc
  rw [z, ho'] at ho; cases ho; rw [hd'] at hd; cases hd
theorem Inv.funs (I : Inv X pins σ H s) : s.heap.FunFrames X.base X.outer := by
  have all : ∀ (l : List Env), (∀ b ∈ frs l, b ∈ X.fs) → X.s_0.heap.FunFrames X.base l → s.heap.FunFrames X.base l := by
    intro l
    induction l with
    | nil => intro _ _; trivial
    | cons env r ih =>
      intro hs hl
      obtain ⟨hk, ⟨L, o, hf, hn, ho, hd⟩, hr⟩ := hl
      have hL : L ∈ X.fs := hs L (by unfold frs; rw [List.filterMap_cons, hf]; exact List.mem_cons_self)
      obtain ⟨sl, e⟩ := I.base.slot L o ho (I.ok.frf L hL) hL fun z => I.ok.exfs L z hL
      exact ⟨hk, ⟨L, _, hf, hn, e, hd⟩, ih (fun b hb => hs b (by unfold frs; rw [List.filterMap_cons, hf]; exact List.mem_cons_of_mem _ hb)) hr⟩
  exact all X.outer (fun _ hb => hb) I.ok.funs

theorem Inv.stack (I : Inv X pins σ H s) : s.heap.FunFrames X.base X.stack := by
  rcases I.ok.stk with e | ⟨e, hf⟩
  · rw [e]; exact I.funs
  · rw [e]
    obtain ⟨m, hn, _⟩ := I.loc
    refine .cons (by rw [I.ok.kind]; decide) hf hn ?_ I.funs
    exact Heap.get?_none_of_le (Nat.le_trans I.ok.bsz I.ok.above)
theorem Inv.stkSub (I : Inv X pins σ H s) : ∀ b ∈ frs X.stack, b ∈ X.env.locals :: X.fs := fun b hb => by
  rcases I.ok.stk with e | ⟨e, hf⟩
  · rw [e] at hb; exact List.mem_cons_of_mem _ hb
  · rw [e] at hb
    unfold frs at hb
    rw [List.filterMap_cons, hf] at hb
    exact hb
theorem Inv.stkFree (I : Inv X pins σ H s) : ∀ b ∈ frs X.stack, H b = none := fun b hb => by
  rcases List.mem_cons.mp (I.stkSub b hb) with e | hb
  · rw [e]; exact I.free
  · obtain ⟨_, o, ho, _⟩ := I.ok.funs.mem hb
    exact I.base.free b o ho (I.ok.frf b hb) fun z => I.ok.exfs b z hb

theorem Inv.step {g' : Array GenState} {t' : Nat} {d' : Drawn} {ch : List Addr} (I : Inv X pins σ H s)
    (hch : ∀ b ∈ ch, (b ∈ X.ex ∨ X.s_0.heap.objs.size ≤ b) ∧ b ≠ X.env.locals ∧ (∀ x c, X.env.cells.lookup x = some c → c ≠ b) ∧ ∀ p ∈ X.pn ++ pins, p.1 ≠ b)
    (keep : ∀ b o, b ≠ X.env.locals → b ∉ X.fs → b ∉ ch → s.heap.get? b = some o → H b = none → h'.get? b = some o)
    (slot : ∀ b o, b ≠ X.env.locals → b ∈ X.fs → b ∉ ch → s.heap.get? b = some o → H b = none → ∃ sl, h'.get? b = some { o with slots := sl }) (free : ∀ b o, b ∉ ch → s.heap.get? b = some o → H b = none → H' b = none)
    (there : ∀ b o, b ∉ ch → s.heap.get? b = some o → ∃ o', h'.get? b = some o')
    (tups : ∀ b xs, H b = some (.tup xs) → H' b = some (.tup xs)) (frzs : ∀ b o u, H b = some (.frz o u) → H' b = some (.frz o u)) (tbls : ∀ b ps, H b = some (.tbl ps) → ∃ more, H' b = some (.tbl (ps ++ more)))
    (ns : ∀ m, s.heap.Ns X.env.locals m → h'.Ns X.env.locals m) (hok : HOk X.prog X.w H' h') (hg : AllBare g') :
    Inv X pins σ H' { s with heap := h', gens := g', drawn := d', toks := t' } := by
  have neL : ∀ b o, X.s_0.heap.get? b = some o → b ≠ X.env.locals := fun b o e => Nat.ne_of_lt (Nat.lt_of_lt_of_le (Heap.lt_size e) I.ok.above)
  have neC : ∀ b o, X.s_0.heap.get? b = some o → b ∉ X.ex → b ∉ ch := fun b o e hx hb => by
    rcases (hch b hb).1 with z | z
    · exact hx z
    · exact absurd (Nat.lt_of_lt_of_le (Heap.lt_size e) z) (Nat.lt_irrefl _)
  have cellK : ∀ x c, X.env.cells.lookup x = some c → ∀ v, s.heap.IsCell c v → h'.IsCell c v := fun x c e v ⟨o, ho, hd⟩ => by
    have nch : c ∉ ch := fun z => (hch c z).2.2.1 x c e rfl
    by_cases hc : c ∈ X.fs
    · obtain ⟨sl, q⟩ := slot c o (I.cne x c e) hc nch ho (I.freeC x c e)
      exact ⟨_, q, hd⟩
    · exact ⟨o, keep c o (I.cne x c e) hc nch ho (I.freeC x c e), hd⟩
  refine ⟨I.ok, I.os, hg, ⟨fun b o e n hb hx => ?_, fun b o e n hb hx => ?_, fun b o e n hx => ?_, fun b o e hx => ?_, fun b xs e => tups b xs (I.base.tups b xs e), fun b o xs e => frzs b o xs (I.base.frzs b o xs e), fun b ps e => ?_⟩, ?_, fun x c e => ?_, ?_, fun x c e => ?_, fun p hp => ?_, hok, I.len⟩
  · exact keep b o (neL b o e) hb (neC b o e hx) (I.base.keep b o e n hb hx) (I.base.free b o e n hx)
  · obtain ⟨sl, e1⟩ := I.base.slot b o e n hb hx
    obtain ⟨sl', e2⟩ := slot b _ (neL b o e) hb (neC b o e hx) e1 (I.base.free b o e n hx)
    exact ⟨sl', e2⟩
  · obtain ⟨o', e1⟩ := I.base.there b o e hx
    exact free b o' (neC b o e hx) e1 (I.base.free b o e n hx)
  · obtain ⟨o', e1⟩ := I.base.there b o e hx
    exact there b o' (neC b o e hx) e1
  · obtain ⟨m1, e1⟩ := I.base.tbls b ps e
    obtain ⟨m2, e2⟩ := tbls b _ e1
    exact ⟨m1 ++ m2, by rw [e2, Array.append_assoc]⟩
  · obtain ⟨m, hn, hl⟩ := I.loc
    refine ⟨m, ns m hn, fun i x v e1 e2 e3 => ?_⟩
    obtain ⟨u, r, l⟩ := hl i x v e1 e2 e3
    refine ⟨u, r, ?_⟩
    rcases l with l | ⟨k, c, e, z⟩
    · exact .inl l
    · exact .inr ⟨k, c, e, cellK x c e _ z⟩
  · obtain ⟨v, z⟩ := I.cell x c e
    exact ⟨v, cellK x c e v z⟩
  · obtain ⟨m, ⟨o, _, _, ho, _⟩, _⟩ := I.loc
    exact free _ o (fun z => (hch _ z).2.1 rfl) ho I.free
  · obtain ⟨v, o, ho, hd⟩ := I.cell x c e
    exact free c o (fun z => (hch c z).2.2.1 x c e rfl) ho (I.freeC x c e)
  · obtain ⟨e, n, ne, nf, d⟩ := I.pin p hp
    have nch : p.1 ∉ ch := fun z => (hch p.1 z).2.2.2 p hp rfl
    exact ⟨keep p.1 p.2 ne nf nch e n, free p.1 p.2 nch e n, ne, nf, d⟩
theorem Inv.un {t' : Nat} (I : Inv X pins σ H s) (u : Un X.fs [] H H' s.heap h') (hok : HOk X.prog X.w H' h') : Inv X pins σ H' { s with heap := h', toks := t' } := by
  obtain ⟨m, ⟨o, es, ep, ho, r⟩, _⟩ := id I.loc
  obtain ⟨sl, hL⟩ := u.any ho I.free (by simp)
  exact I.step (g' := s.gens) (d' := s.drawn) (ch := []) (fun _ z => nomatch z) (fun b o _ hb _ e n => u.keep b o e n hb (by simp)) (fun b o _ hb _ e n => u.slot b o e n hb (by simp)) (fun b o _ e n => u.free b o e n (by simp)) (fun b o _ e => u.there b o e (by simp)) u.tups u.frzs u.tbls (fun m' hm => by
    obtain ⟨o', es', ep', ho', r'⟩ := hm
    rw [ho] at ho'; cases ho'
    exact ⟨_, es', ep', hL, r'⟩) hok I.bare
theorem Inv.call {g' : Array GenState} {t' : Nat} {d' : Drawn} {ch : List Addr} (I : Inv X pins σ H s) (u : Un (frs X.stack) ch H H' s.heap h') (hok : HOk X.prog X.w H' h') (hg : AllBare g')
    (hch : ∀ b ∈ ch, (b ∈ X.ex ∨ X.s_0.heap.objs.size ≤ b) ∧ b ≠ X.env.locals ∧ (∀ x c, X.env.cells.lookup x = some c → c ≠ b) ∧ ∀ p ∈ X.pn ++ pins, p.1 ≠ b) :
    Inv X pins σ H' { s with heap := h', gens := g', drawn := d', toks := t' } := by
  obtain ⟨m, ⟨o, es, ep, ho, r⟩, _⟩ := id I.loc
  obtain ⟨sl, hL⟩ := u.any ho I.free fun z => (hch _ z).2.1 rfl
  exact I.step (ch := ch) hch (fun b o hL hb hc e n => u.keep b o e n (fun z => (List.mem_cons.mp (I.stkSub b z)).elim hL hb) hc) (fun b o _ _ hc e n => u.any e n hc) (fun b o hc e n => u.free b o e n hc) (fun b o hc e => u.there b o e hc) u.tups u.frzs u.tbls (fun m' hm => by
    obtain ⟨o', es', ep', ho', r'⟩ := hm
    rw [ho] at ho'; cases ho'
    exact ⟨_, es', ep', hL, r'⟩) hok hg
theorem Inv.turned {t' : Nat} {it : Addr} (I : Inv X pins σ H s) (k : ∀ b o, b ≠ it → s.heap.get? b = some o → h'.get? b = some o) (hn : H it = none) (hL : it ≠ X.env.locals)
    (h1 : it ∈ X.ex ∨ X.s_0.heap.objs.size ≤ it) (h2 : ∀ x c, X.env.cells.lookup x = some c → c ≠ it) (h3 : ∀ p ∈ X.pn ++ pins, p.1 ≠ it) : Inv X pins σ H { s with heap := h', toks := t' } := by
  have nit : ∀ b u, H b = some u → b ≠ it := fun b u e z => by rw [z, hn] at e; cases e
  refine I.step (g' := s.gens) (d' := s.drawn) (ch := [it]) (fun b hb => ?_) (fun b o _ _ hc e _ => k b o (fun z => hc (by simp [z])) e) (fun b o _ _ hc e _ => ⟨o.slots, k b o (fun z => hc (by simp [z])) e⟩) (fun _ _ _ _ n => n)
    (fun b o hc e => ⟨o, k b o (fun z => hc (by simp [z])) e⟩) (fun _ _ e => e) (fun _ _ _ e => e) (fun b ps e => ⟨#[], by rw [e]; simp⟩) (fun m hm => ?_) (fun b u e => ?_) I.bare
  · have e : b = it := by simpa using hb
    subst e
    exact ⟨h1, hL, h2, h3⟩
  · obtain ⟨o, es, ep, ho, r⟩ := hm
    exact ⟨o, es, ep, k _ o (Ne.symm hL) ho, r⟩
  · refine (I.hok b u e).stay (fun c v hc q => k c v ?_ q) (fun _ q => q) fun _ _ q => q
    rcases hc with z | z
    · rw [z]; exact nit b u e
    · exact nit c _ z
theorem Inv.tok (I : Inv X pins σ H s) (t : Nat) : Inv X pins σ H { s with toks := t } := I.un (h' := s.heap) (t' := t) Un.refl I.hok
theorem Inv.kept {t' : Nat} (I : Inv X pins σ H s) (k : ∀ b u, s.heap.get? b = some u → h'.get? b = some u) : Inv X pins σ H { s with heap := h', toks := t' } := I.un (Un.kept k) (I.hok.kept k)
theorem Inv.laid {a : Addr} {o : HO} {t' : Nat} (I : Inv X pins σ H s) (k : ∀ b u, s.heap.get? b = some u → h'.get? b = some u) (hp : s.heap.objs.size ≤ a) (new : ObjOk X.prog X.w (upd H a o) h' a o) :
    Inv X pins σ (upd H a o) { s with heap := h', toks := t' } := I.un (Un.laid k hp (I.hok.fresh hp)) (I.hok.laid k hp new)
theorem Inv.write {x e : Addr} {o : HO} {t' : Nat} (I : Inv X pins σ H s) (mu : Mut (H x)) (he : e = x ∨ H e = some (.own x)) (k : ∀ b u, b ≠ e → s.heap.get? b = some u → h'.get? b = some u) (heo : ∃ u, h'.get? e = some u)
    (new : ObjOk X.prog X.w (upd H x o) h' x o) : Inv X pins σ (upd H x o) { s with heap := h', toks := t' } := I.un (Un.write mu he k heo) (I.hok.write mu he k heo new)
theorem Inv.weak {σ' : List (Option V)} (I : Inv X pins σ H s) (hl : σ'.length = σ.length) (w : ∀ (i : Nat) v, σ'[i]? = some (some v) → σ[i]? = some (some v)) : Inv X pins σ' H s :=
  ⟨I.ok, I.os, I.bare, I.base, let ⟨m, hn, hl'⟩ := I.loc; ⟨m, hn, fun i x v e1 e2 e3 => hl' i x v e1 (w i v e2) e3⟩, I.cell, I.free, I.freeC, I.pin, I.hok, hl.trans I.len⟩
theorem Inv.pins_of {pins' : List (Addr × Obj)} (I : Inv X pins σ H s) (h : ∀ p ∈ pins', s.heap.get? p.1 = some p.2 ∧ H p.1 = none ∧ p.1 ≠ X.env.locals ∧ p.1 ∉ X.fs ∧ ∀ v, p.2.data ≠ .cell v) : Inv X pins' σ H s :=
  ⟨I.ok, I.os, I.bare, I.base, I.loc, I.cell, I.free, I.freeC, fun p hp => (List.mem_append.mp hp).elim (fun z => I.pin p (List.mem_append_left _ z)) (h p), I.hok, I.len⟩

theorem nodup_ix {N : List Str} (hN : N.Nodup) {i j : Nat} {x : Str} (a : N[i]? = some x) (b : N[j]? = some x) : i = j := by
  obtain ⟨h1, e1⟩ := List.getElem?_eq_some_iff.mp a
  obtain ⟨h2, e2⟩ := List.getElem?_eq_some_iff.mp b
  exact (List.getElem_inj hN).mp (e1.trans e2.symm)

theorem store_ok2 {M : Model} {A : Around} {E : Value → Shared → Prop} {i : Nat} {x : Str} {v : V} {u : Value} {Q : Unit → Shared → Prop} (I : Inv X pins σ H s) (hN : X.N.Nodup) (hi : X.N[i]? = some x) (hx : Loc X.env.scope x) (r : RelV v u)
    (h : ∀ s', Inv X pins (σ.set i (some v)) H s' → (∃ a, Heap.SameBut a s.heap s'.heap ∧ (a = X.env.locals ∨ X.env.cells.lookup x = some a)) → Q () s') (hf : X.fn x = true ∨ X.env.scope.names.lookup x = some .local := by first | exact .inl rfl | exact .inr rfl | assumption) : wpAny M A (storeName X.env x u) Q E s := by
  obtain ⟨m, hn, hl⟩ := id I.loc
  have hcls : (X.env.scope.kind == .class || (X.env.scope.kind == .module && X.env.locals != X.env.globals)) = false := by rw [I.ok.kind]; rfl
  have hiσ : i < σ.length := by rw [I.len]; exact (List.getElem?_eq_some_iff.mp hi).1
  have cne := I.cne
  have tracked : ∀ {a : Addr} {h' : Heap}, (∃ o, s.heap.get? a = some o ∧ H a = none) → Heap.SameBut a s.heap h' → HOk X.prog X.w H h' := fun {a h'} ha hs b ob e => by
    obtain ⟨_, _, hfree⟩ := ha
    refine (I.hok b ob e).stay (fun c w' hc q => (hs.2 c ?_).trans q) (fun _ q => q) fun _ _ q => q
    rintro rfl
    rcases hc with rfl | hc
    · rw [hfree] at e; cases e
    · rw [hfree] at hc; cases hc
  rcases hx with hk | hk
  · refine wpAny_storeName_local hk hn (fun h' hn' hs => ?_) hcls
    obtain ⟨oL, _, _, hoL, _⟩ := id hn
    refine h _ ⟨I.ok, I.os, I.bare, ⟨fun b o e n hb hx => ?_, fun b o e n hb hx => ?_, I.base.free, fun b o e hx => ?_, I.base.tups, I.base.frzs, I.base.tbls⟩, ⟨_, hn', fun j y v' e1 e2 e3 => ?_⟩, fun y c e => ?_, I.free, I.freeC, fun p hp => ?_, tracked ⟨oL, hoL, I.free⟩ hs, by simpa using I.len⟩ ⟨_, hs, .inl rfl⟩
    · exact (hs.2 b (Nat.ne_of_lt (Nat.lt_of_lt_of_le (Heap.lt_size e) I.ok.above))).trans (I.base.keep b o e n hb hx)
    · obtain ⟨sl, e1⟩ := I.base.slot b o e n hb hx
      exact ⟨sl, (hs.2 b (Nat.ne_of_lt (Nat.lt_of_lt_of_le (Heap.lt_size e) I.ok.above))).trans e1⟩
    · obtain ⟨o', e1⟩ := I.base.there b o e hx
      exact ⟨o', (hs.2 b (Nat.ne_of_lt (Nat.lt_of_lt_of_le (Heap.lt_size e) I.ok.above))).trans e1⟩
    · by_cases hj : j = i
      · subst hj
        rw [hi] at e1; cases e1
        rw [List.getElem?_set_self hiσ] at e2
        cases e2
        exact ⟨u, r, .inl ⟨hk, by simp⟩⟩
      · rw [List.getElem?_set_ne (Ne.symm hj)] at e2
        obtain ⟨u', r', q⟩ := hl j y v' e1 e2 e3
        refine ⟨u', r', ?_⟩
        rcases q with ⟨k, e⟩ | ⟨k, c, e, z⟩
        · refine .inl ⟨k, ?_⟩
          have : y ≠ x := fun e => hj (nodup_ix hN e1 (e ▸ hi))
          simp [this, e]
        · exact .inr ⟨k, c, e, z.sameBut hs (cne y c e)⟩
    · obtain ⟨w', z⟩ := I.cell y c e
      exact ⟨w', z.sameBut hs (cne y c e)⟩
    · obtain ⟨e, n, ne, nf, d⟩ := I.pin p hp
      exact ⟨(hs.2 p.1 ne).trans e, n, ne, nf, d⟩
  · have hfn : X.fn x = true := by
      rcases hf with z | z
      · exact z
      · rw [z] at hk; cases hk
    obtain ⟨c, hc⟩ := I.ok.has x (.inl hk)
    obtain ⟨w', z⟩ := I.cell x c hc
    refine wpAny_storeName_cell I.ok.kind hk hc z (fun h' hc' hs => ?_)
    obtain ⟨oc, hoc, hocd⟩ := id z
    refine h { s with heap := h' } ⟨I.ok, I.os, I.bare, ⟨fun b o e n hb hx => ?_, fun b o e n hb hx => ?_, I.base.free, fun b o e hx => ?_, I.base.tups, I.base.frzs, I.base.tbls⟩, ⟨m, hn.sameBut hs (Ne.symm (cne x c hc)), fun j y v' e1 e2 e3 => ?_⟩, fun y c' e => ?_, I.free, I.freeC, fun p hp => ?_, tracked ⟨oc, hoc, I.freeC x c hc⟩ hs, by simpa using I.len⟩ ⟨c, hs, .inr hc⟩
    · exact (hs.2 b (Nat.ne_of_lt (Nat.lt_of_lt_of_le (Heap.lt_size e) (I.ok.cab x c hfn hc)))).trans (I.base.keep b o e n hb hx)
    · obtain ⟨sl, e1⟩ := I.base.slot b o e n hb hx
      exact ⟨sl, (hs.2 b (Nat.ne_of_lt (Nat.lt_of_lt_of_le (Heap.lt_size e) (I.ok.cab x c hfn hc)))).trans e1⟩
    · obtain ⟨o', e1⟩ := I.base.there b o e hx
      exact ⟨o', (hs.2 b (Nat.ne_of_lt (Nat.lt_of_lt_of_le (Heap.lt_size e) (I.ok.cab x c hfn hc)))).trans e1⟩
    · by_cases hj : j = i
      · subst hj
        rw [hi] at e1; cases e1
        rw [List.getElem?_set_self hiσ] at e2
        cases e2
        exact ⟨u, r, .inr ⟨.inl hk, c, hc, hc'⟩⟩
      · rw [List.getElem?_set_ne (Ne.symm hj)] at e2
        obtain ⟨u', r', q⟩ := hl j y v' e1 e2 e3
        refine ⟨u', r', ?_⟩
        rcases q with q | ⟨k, c', e, z'⟩
        · exact .inl q
        · refine .inr ⟨k, c', e, z'.sameBut hs ?_⟩
          rintro rfl
          exact hj (nodup_ix hN e1 (I.ok.inj _ _ _ e hc ▸ hi))
    · by_cases hcc : c' = c
      · subst hcc; exact ⟨_, hc'⟩
      · obtain ⟨w2, z2⟩ := I.cell y c' e
        exact ⟨w2, z2.sameBut hs hcc⟩
    · obtain ⟨e, n, ne, nf, d⟩ := I.pin p hp
      refine ⟨(hs.2 p.1 ?_).trans e, n, ne, nf, d⟩
      intro q
      rw [q, hoc] at e
      have q' : oc = p.2 := Option.some.inj e
      exact d w' (by rw [← q']; exact hocd)
theorem store_ok {M : Model} {A : Around} {E : Value → Shared → Prop} {i : Nat} {x : Str} {v : V} {u : Value} {Q : Unit → Shared → Prop} (I : Inv X pins σ H s) (hN : X.N.Nodup) (hi : X.N[i]? = some x) (hx : Loc X.env.scope x) (r : RelV v u)
    (h : ∀ s', Inv X pins (σ.set i (some v)) H s' → Q () s') (hf : X.fn x = true ∨ X.env.scope.names.lookup x = some .local := by first | exact .inl rfl | exact .inr rfl | assumption) : wpAny M A (storeName X.env x u) Q E s :=
  store_ok2 I hN hi hx r (fun s' I' _ => h s' I') hf
theorem Inv.call' {s' : Shared} {ch : List Addr} (I : Inv X pins σ H s) (ho : s'.os = s.os) (u : Un (frs X.stack) ch H H' s.heap s'.heap) (hok : HOk X.prog X.w H' s'.heap) (hg : AllBare s'.gens)
    (hch : ∀ b ∈ ch, (b ∈ X.ex ∨ X.s_0.heap.objs.size ≤ b) ∧ b ≠ X.env.locals ∧ (∀ x c, X.env.cells.lookup x = some c → c ≠ b) ∧ ∀ p ∈ X.pn ++ pins, p.1 ≠ b) : Inv X pins σ H' s' := by
  obtain ⟨h', g', d', t', o'⟩ := s'
  have e : o' = s.os := ho
  subst e
  exact I.call (g' := g') (t' := t') (d' := d') u hok hg hch
end

abbrev XK := Value → Option Addr → Hp → Prop
abbrev St := List (Option V)
abbrev VK := V → Hp → Prop
abbrev TE := St → Hp → VK → Prop
abbrev TT := St → Hp → (Bool → Hp → Prop) → Prop
abbrev TA := St → Hp → (List V → Hp → Prop) → Prop
structure Ends where
  nx : St → Hp → Prop
  rt : VK
  bk : St → Hp → Prop := fun _ _ => False
  ct : St → Hp → Prop := fun _ _ => False
abbrev TS := Ends → St → Hp → Prop

def EP (X : Cx) (pins : List (Addr × Obj)) (σ : St) (Q : VK) (u : Value) (s' : Shared) : Prop := ∃ v H', Inv X pins σ H' s' ∧ RelV v u ∧ Q v H'
def TP (X : Cx) (pins : List (Addr × Obj)) (σ : St) (Q : Bool → Hp → Prop) (b : Bool) (s' : Shared) : Prop := ∃ H', Inv X pins σ H' s' ∧ Q b H'
def AP (X : Cx) (pins : List (Addr × Obj)) (σ : St) (Q : List V → Hp → Prop) (us : List Value) (s' : Shared) : Prop := ∃ vs H', Inv X pins σ H' s' ∧ Vals vs us ∧ Q vs H'
def SP (X : Cx) (pins : List (Addr × Obj)) (D : Ends) (f : Flow) (s' : Shared) : Prop :=
  match f with
  | .next => ∃ σ' H', Inv X pins σ' H' s' ∧ D.nx σ' H'
  | .brk => ∃ σ' H', Inv X pins σ' H' s' ∧ D.bk σ' H'
  | .cont => ∃ σ' H', Inv X pins σ' H' s' ∧ D.ct σ' H'
  | .ret u => ∃ v σ' H', Inv X pins σ' H' s' ∧ RelV v u ∧ D.rt v H'

def PE (X : Cx) (e : Expr) (t : TE) : Prop :=
  ∀ (pins : List (Addr × Obj)) (s : Shared) (σ : St) (H : Hp) (Q : VK), Inv X pins σ H s → t σ H Q → wpAny (model X.prog X.w) X.A (eval e X.env) (EP X pins σ Q) X.xe s
def PT (X : Cx) (e : Expr) (t : TT) : Prop :=
  ∀ (pins : List (Addr × Obj)) (s : Shared) (σ : St) (H : Hp) (Q : Bool → Hp → Prop), Inv X pins σ H s → t σ H Q → wpAny (model X.prog X.w) X.A (isTrue e X.env (eval e X.env)) (TP X pins σ Q) X.xe s
def PW (X : Cx) (e : Expr) (t : TT) : Prop :=
  ∀ (whole : Sem Value) (pins : List (Addr × Obj)) (s : Shared) (σ : St) (H : Hp) (Q : Bool → Hp → Prop), Inv X pins σ H s → t σ H Q → wpAny (model X.prog X.w) X.A (isTrue e X.env whole) (TP X pins σ Q) X.xe s
theorem PW.pt {X : Cx} {e : Expr} {t : TT} (h : PW X e t) : PT X e t := h _
def PA (X : Cx) (es : List Expr) (t : TA) : Prop :=
  ∀ (pos : Pos) (pins : List (Addr × Obj)) (s : Shared) (σ : St) (H : Hp) (Q : List V → Hp → Prop), Inv X pins σ H s → t σ H Q → wpAny (model X.prog X.w) X.A (spliced (backTo pos (starEach es X.env))) (AP X pins σ Q) X.xe s
def PS (X : Cx) (st : Stmt) (t : TS) : Prop :=
  ∀ (pins : List (Addr × Obj)) (s : Shared) (σ : St) (H : Hp) (D : Ends), Inv X pins σ H s → t D σ H → wpAny (model X.prog X.w) X.A (exec st X.env) (SP X pins D) X.xe s
def PSs (X : Cx) (st : List Stmt) (t : TS) : Prop :=
  ∀ (pins : List (Addr × Obj)) (s : Shared) (σ : St) (H : Hp) (D : Ends), Inv X pins σ H s → t D σ H → wpAny (model X.prog X.w) X.A (execs st X.env) (SP X pins D) X.xe s
theorem thn {α : Type} {t : Sem α} {Q Q' : α → Shared → Prop} {M : Model} {A : Around} {E : Value → Shared → Prop} {s : Shared} (h : wpAny M A t Q E s) (hQ : ∀ a s, Q a s → Q' a s) : wpAny M A t Q' E s := wpAny_mono h hQ fun _ _ x => x
end L2

namespace L2
open PySem PySem.Spec PyProof.Rows
section
variable {X : Cx}

theorem bin {a b : Expr} {ta tb : TE} (ha : PE X a ta) (hb : PE X b tb) {pins : List (Addr × Obj)} {s : Shared} {σ : St} {H : Hp} {R : V → V → Hp → Prop} (I : Inv X pins σ H s) (h : ta σ H fun x H1 => tb σ H1 fun y H2 => R x y H2)
    {α : Type} {Q : α → Shared → Prop} {f : Value → Value → Sem α}
    (hf : ∀ v u s2 x y H2, Inv X pins σ H2 s2 → RelV x v → RelV y u → R x y H2 → wpAny (model X.prog X.w) X.A (f v u) Q X.xe s2) :
    wpAny (model X.prog X.w) X.A (eval a X.env) (fun v s₁ => wpAny (model X.prog X.w) X.A (eval b X.env) (fun u s₂ => wpAny (model X.prog X.w) X.A (f v u) Q X.xe s₂) X.xe s₁) X.xe s := by
  refine thn (ha pins s σ H _ I h) fun v s1 ⟨x, H1, I1, r1, q1⟩ => ?_
  refine thn (hb pins s1 σ H1 _ I1 q1) fun u s2 ⟨y, H2, I2, r2, q2⟩ => ?_
  exact hf v u s2 x y H2 I2 r1 r2 q2

def tVar (i : Nat) : TE := fun σ H Q => ∃ v, σ[i]? = some (some v) ∧ Q v H
def tC (v : V) : TE := fun _ H Q => Q v H
theorem pe_var {i : Nat} {x : Str} {pos : Pos} (hN : X.N[i]? = some x) (hv : Vis X.env.scope x) (hd : (x == ("__debug__" : Str)) = false := by decide) (hcd : (x == ("__classdict__" : Str)) = false := by decide) : PE X (.Name x pos) (tVar i) := by
  intro pins s σ H Q I h
  obtain ⟨v, e, h⟩ := h
  obtain ⟨m, hn, hl⟩ := I.loc
  obtain ⟨u, r, l⟩ := hl i x v hN e hv
  have fin : EP X pins σ Q u s := ⟨v, H, I, r, h⟩
  rcases l with ⟨hk, hm⟩ | ⟨hk, c, hc, hcell⟩
  · exact wpAny_Name (wpAny_loadName_local I.ok.kind hk hn hm fin) hd
  · rcases hk with hk | hk
    · exact wpAny_Name (wpAny_loadName_cell I.ok.kind hk hc hcell fin) hd
    · exact wpAny_Name (wpAny_loadName_free I.ok.kind hk hc hcell fin hcd) hd
theorem pe_int {i j pos} : PE X (.Constant (.int i) j pos) (tC (.int i)) := fun _ _ _ H _ I h => wpAny_Constant_int ⟨.int i, H, I.tok _, ⟨_, rfl⟩, h⟩
theorem pe_bl {b j pos} : PE X (.Constant (.bool b) j pos) (tC (.bl b)) := fun _ _ _ H _ I h => Constant_bool ⟨.bl b, H, I, rfl, h⟩

def Gl (X : Cx) (x : Str) : Prop := X.env.kindOf x = some .globalImplicit
theorem ld_glob {E : Value → Shared → Prop} {pins : List (Addr × Obj)} {s : Shared} {σ : St} {H : Hp} {x : Str} {u : Value} {pos : Pos} {Q : Value → Shared → Prop} (I : Inv X pins σ H s) (hg : Gl X x) (hm : X.mg x = some u) (h : Q u s)
    (hd : (x == ("__debug__" : Str)) = false := by decide) : wpAny (model X.prog X.w) X.A (eval (.Name x pos) X.env) Q E s :=
  Calls.Name_function_global I.ok.kind hg (Calls.loadGlobal_global (by rw [I.ok.glob]; exact I.mod.glob.keeps I.bk) hm h) hd
theorem ld_blt {E : Value → Shared → Prop} {pins : List (Addr × Obj)} {s : Shared} {σ : St} {H : Hp} {x : Str} {u : Value} {pos : Pos} {Q : Value → Shared → Prop} (I : Inv X pins σ H s) (hg : Gl X x) (hm : X.mg x = none) (hv : bootBuiltins x = some u) (h : Q u s)
    (hn : x ≠ "__name__" := by decide) (hd : (x == ("__debug__" : Str)) = false := by decide) : wpAny (model X.prog X.w) X.A (eval (.Name x pos) X.env) Q E s := by
  obtain ⟨mb, h1, h2⟩ := I.mod.blt
  exact Calls.Name_function_global I.ok.kind hg (Calls.loadGlobal_builtin (by rw [I.ok.glob]; exact I.mod.glob.keeps I.bk) hm (by rw [I.ok.blt]; exact h1.keeps I.bk) ((h2 x hn).trans hv) h) hd
theorem pe_glob {x : Str} {v : V} {u : Value} {pos : Pos} (hg : Gl X x) (hm : X.mg x = some u) (r : RelV v u) (hd : (x == ("__debug__" : Str)) = false := by decide) : PE X (.Name x pos) (tC v) :=
  fun _ _ _ H _ I h => ld_glob I hg hm ⟨v, H, I, r, h⟩ hd

def t2I (ta tb : TE) (k : Int → Int → Hp → Prop) : St → Hp → Prop := fun σ H => ta σ H fun x H1 => tb σ H1 fun y H2 => ∃ i j, x = .int i ∧ y = .int j ∧ k i j H2
def tAdd (ta tb : TE) : TE := fun σ H Q => t2I ta tb (fun i j H2 => Q (.int (i + j)) H2) σ H
def tSub (ta tb : TE) : TE := fun σ H Q => t2I ta tb (fun i j H2 => Q (.int (i - j)) H2) σ H
def tMul (ta tb : TE) : TE := fun σ H Q => t2I ta tb (fun i j H2 => (-(2 ^ 64) < i ∧ i < 2 ^ 64) ∧ Q (.int (i * j)) H2) σ H
variable {a b : Expr} {ta tb : TE} {pos : Pos}

def PC (X : Cx) (op : CmpOp) (a b : Expr) (t : TE) : Prop :=
  ∀ (pins : List (Addr × Obj)) (s : Shared) (σ : St) (H : Hp) (Q : VK), Inv X pins σ H s → t σ H Q →
    wpAny (model X.prog X.w) X.A (eval a X.env) (fun v s₁ => wpAny (model X.prog X.w) X.A (eval b X.env) (fun u s₂ => wpAny (model X.prog X.w) X.A (compareOp op v u) (EP X pins σ Q) X.xe s₂) X.xe s₁) X.xe s
def tCmp (p : Int → Int → Bool) (ta tb : TE) : TE := fun σ H Q => t2I ta tb (fun i j H2 => Q (.bl (p i j)) H2) σ H
abbrev tLt : TE → TE → TE := tCmp fun i j => decide (i < j)
abbrev tLe : TE → TE → TE := tCmp fun i j => decide (i ≤ j)
abbrev tGt : TE → TE → TE := tCmp fun i j => decide (j < i)
abbrev tGe : TE → TE → TE := tCmp fun i j => decide (j ≤ i)
abbrev tEqI : TE → TE → TE := tCmp fun i j => decide (i = j)
abbrev tNeI : TE → TE → TE := tCmp fun i j => !decide (i = j)
def tIsN (ta : TE) : TE := fun σ H Q => ta σ H fun x H1 => Q (.bl (decide (x = .non))) H1
def tNotN (ta : TE) : TE := fun σ H Q => ta σ H fun x H1 => Q (.bl (!decide (x = .non))) H1
def tB (t : TE) : TT := fun σ H Q => t σ H fun x H1 => ∃ c, x = .bl c ∧ Q c H1
theorem pt_cmp {op : CmpOp} {t : TE} (h : PC X op a b t) (h1 : behindInMarks op b = false := by first | exact nobehind _ (by decide) (by decide) | rfl) : PT X (.Compare a [op] [b] pos) (tB t) := by
  intro pins s σ H Q I hw
  refine wpAny_isTrue_Compare1 (thn (h pins s σ H _ I hw) fun v s1 h1 => thn h1 fun u s2 h2 => thn h2 fun c s3 ⟨x, H1, I1, r1, q1⟩ => ?_) h1
  obtain ⟨d, rfl, q⟩ := q1
  cases r1
  exact wpAny_truthy_bool ⟨H1, I1, q⟩
theorem pt_val {e : Expr} {t : TE} (h : PE X e t) (he : ∀ whole, isTrue e X.env whole = (do let v ← whole; standAt e.pos; holding [v] (truthy v)) := by intro _; rfl) : PT X e (tB t) := by
  intro pins s σ H Q I hw
  refine isTrue_plain (thn (h pins s σ H _ I hw) fun v s1 ⟨x, H1, I1, r1, q1⟩ => ?_) (he _)
  obtain ⟨d, rfl, q⟩ := q1
  cases r1
  exact wpAny_truthy_bool ⟨H1, I1, q⟩

variable {tA tB' : TT} {rest : List Expr}
def tAnd (t u : TT) : TT := fun σ H Q => t σ H fun c H1 => if c = true then u σ H1 Q else Q false H1
def tOr (t u : TT) : TT := fun σ H Q => t σ H fun c H1 => if c = true then Q true H1 else u σ H1 Q
def tNot (t : TT) : TT := fun σ H Q => t σ H fun c H1 => Q (!c) H1
theorem pw_or1 (ha : PT X a tA) : PW X (.BoolOp .Or [a] pos) tA := by
  intro wh pins s σ H Q I h
  refine isTrue_or (thn (ha pins s σ H Q I h) fun c s1 e => ?_)
  cases c with
  | false => exact isTrue_or_nil e
  | true => exact e
theorem pw_or (ha : PT X a tA) (hb : PW X (.BoolOp .Or (b :: rest) pos) tB') : PW X (.BoolOp .Or (a :: b :: rest) pos) (tOr tA tB') := by
  intro wh pins s σ H Q I h
  refine isTrue_or (thn (ha pins s σ H _ I h) fun c s1 ⟨H1, I1, q1⟩ => ?_)
  cases c with
  | true => exact ⟨H1, I1, q1⟩
  | false => exact hb wh pins s1 σ H1 Q I1 q1
theorem pt_not (ha : PT X a tA) : PT X (.UnaryOp .Not a pos) (tNot tA) := by
  intro pins s σ H Q I h
  exact isTrue_not (ha pins s σ H (fun c H1 => Q (!c) H1) I h)
def tAndV (ta tb : TE) : TE := fun σ H Q => ta σ H fun x H1 => ∃ c, x = .bl c ∧ if c = true then tb σ H1 Q else Q (.bl false) H1
def tOrV (ta tb : TE) : TE := fun σ H Q => ta σ H fun x H1 => ∃ c, x = .bl c ∧ if c = true then Q (.bl true) H1 else tb σ H1 Q
def tNotV (ta : TE) : TE := fun σ H Q => ta σ H fun x H1 => ∃ c, x = .bl c ∧ Q (.bl (!c)) H1
theorem pe_one {op} {t : TE} (h : PE X a t) : PE X (.BoolOp op [a] pos) t := fun pins s σ H Q I hw => BoolOp_one (h pins s σ H Q I hw)
theorem pe_and (ha : PE X a ta) (hb : PE X (.BoolOp .And (b :: rest) pos) tb) : PE X (.BoolOp .And (a :: b :: rest) pos) (tAndV ta tb) := by
  intro pins s σ H Q I h
  refine BoolOp_and (thn (ha pins s σ H _ I h) fun v s1 ⟨x, H1, I1, r1, q1⟩ => ?_)
  obtain ⟨c, rfl, q1⟩ := q1
  cases r1
  refine wpAny_truthy_bool ?_
  cases c with
  | true => exact hb pins s1 σ H1 Q I1 q1
  | false => exact ⟨.bl false, H1, I1, rfl, q1⟩
theorem pe_not (ha : PE X a ta) : PE X (.UnaryOp .Not a pos) (tNotV ta) := by
  intro pins s σ H Q I h
  refine UnaryOp_ (thn (ha pins s σ H _ I h) fun v s1 ⟨x, H1, I1, r1, q1⟩ => ?_)
  obtain ⟨c, rfl, q1⟩ := q1
  cases r1
  exact not_of (wpAny_truthy_bool ⟨.bl (!c), H1, I1, rfl, q1⟩)
def tIf (t : TT) (ta tb : TE) : TE := fun σ H Q => t σ H fun c H1 => if c = true then ta σ H1 Q else tb σ H1 Q
theorem pe_ifExp {c : Expr} (hc : PT X c tA) (ha : PE X a ta) (hb : PE X b tb) : PE X (.IfExp c a b pos) (tIf tA ta tb) := by
  intro pins s σ H Q I h
  refine wpAny_IfExp (thn (hc pins s σ H _ I h) fun d s1 ⟨H1, I1, q1⟩ => ?_)
  cases d with
  | true => exact ha pins s1 σ H1 Q I1 q1
  | false => exact hb pins s1 σ H1 Q I1 q1
end
end L2

namespace L2
open PySem PySem.Spec PyProof.Rows

def SqL (K : PySem.W.Frag) (H : Hp) (a : Addr) (xs : List V) : Prop :=
  Rd H a (.lst xs) ∨
    ∃ (o : Obj) (its : Array Value) (n : Nat), K.lookup a = some o ∧ o.cls = .type "list" ∧ o.dict = none ∧ o.data = .seq its n ∧ its.size ≤ sizeLine ∧ Vals xs its.toList
def SqT (K : PySem.W.Frag) (H : Hp) (a : Addr) (xs : List V) : Prop :=
  Rd H a (.tup xs) ∨
    ∃ (o : Obj) (its : Array Value) (n : Nat), K.lookup a = some o ∧ o.cls = .type "tuple" ∧ o.data = .seq its n ∧ its.size ≤ sizeLine ∧ Vals xs its.toList
def absV : Value → Option V
  | .none => some .non
  | .bool b => some (.bl b)
  | .int i _ => some (.int i)
  | .str x _ => some (.str x)
  | .bytes b _ => some (.byt b)
  | .float b _ => some (.flt b)
  | .ref a => some (.ref a)
  | .type n => some (.ty n)
  | _ => none
theorem RelV.abs {x : V} {u : Value} (r : RelV x u) : absV u = some x := by
  cases x with
  | non => cases r; rfl
  | bl _ => cases r; rfl
  | int _ => obtain ⟨t, rfl⟩ := r; rfl
  | str _ => obtain ⟨t, rfl⟩ := r; rfl
  | byt _ => obtain ⟨t, rfl⟩ := r; rfl
  | flt _ => obtain ⟨t, rfl⟩ := r; rfl
  | ref _ => cases r; rfl
  | ty _ => cases r; rfl
theorem RelV.inj {x y : V} {u : Value} (r : RelV x u) (q : RelV y u) : x = y := Option.some.inj (r.abs.symm.trans q.abs)
theorem Vals.inj : ∀ {xs ys : List V} {us : List Value}, Vals xs us → Vals ys us → xs = ys
  | _, _, _, .nil, .nil => rfl
  | _, _, _, .cons r t, .cons r' t' => by rw [r.inj r', Vals.inj t t']
section
variable {X : Cx} {pins : List (Addr × Obj)} {σ : St} {H : Hp} {s : Shared} {a : Addr} {xs ys : List V}
theorem SqL.of {K : PySem.W.Frag} (h : H a = some (.lst xs)) : SqL K H a xs := .inl (.inl h)
theorem SqT.of {K : PySem.W.Frag} (h : H a = some (.tup xs)) : SqT K H a xs := .inl (.inl h)
theorem Inv.list (I : Inv X pins σ H s) (h : SqL X.K H a xs) : ∃ its : List Value, Vals xs its ∧ PlainL s.heap a its.toArray ∧ xs.length ≤ sizeLine := by
  rcases h with h | ⟨o, its, n, hk, hc, hd, hs, hz, r⟩
  · obtain ⟨z, its, n, r, e⟩ := h.ok I.hok
    exact ⟨its, r, ⟨_, n, e, rfl, rfl, rfl⟩, z⟩
  · refine ⟨its.toList, r, ⟨o, n, I.kIn a o hk, hc, hd, by simpa using hs⟩, ?_⟩
    have e := r.length
    simp only [Array.length_toList] at e
    omega
theorem Inv.tuple (I : Inv X pins σ H s) (h : SqT X.K H a xs) : ∃ its : List Value, Vals xs its ∧ IsTup s.heap a its.toArray ∧ xs.length ≤ sizeLine := by
  rcases h with h | ⟨o, its, n, hk, hc, hs, hz, r⟩
  · obtain ⟨z, its, r, p⟩ := h.ok I.hok
    exact ⟨its, r, p, z⟩
  · refine ⟨its.toList, r, ⟨o, I.kIn a o hk, hc, n, by simpa using hs⟩, ?_⟩
    have e := r.length
    simp only [Array.length_toList] at e
    omega
theorem Inv.list_inj (I : Inv X pins σ H s) (h : SqL X.K H a xs) (h' : SqL X.K H a ys) : xs = ys := by
  obtain ⟨its, r, ⟨o, n, e, _, _, d⟩, _⟩ := I.list h
  obtain ⟨its', r', ⟨o', n', e', _, _, d'⟩, _⟩ := I.list h'
  rw [e] at e'; cases e'
  rw [d] at d'
  injection d' with d1 _
  have : its = its' := by simpa using congrArg Array.toList d1
  subst this
  exact r.inj r'
end

abbrev Cx.wish (X : Cx) (E : Value → Shared → Prop) : Cx := { X with xe := E }
abbrev Cx.nox (X : Cx) : Cx := X.wish fun _ _ => False
theorem Cx.Ok.wish {X : Cx} (ok : X.Ok) (E : Value → Shared → Prop) : (X.wish E).Ok :=
  ⟨ok.mod, ok.kind, ok.glob, ok.blt, ok.above, ok.inj, ok.has, ok.cab, ok.hd, ok.frames, ok.stk, ok.exf, ok.bs, ok.bsz, ok.noex, ok.exfs, ok.funs, ok.frf⟩
theorem Cx.Ok.unwish {X : Cx} {E : Value → Shared → Prop} (ok : (X.wish E).Ok) : X.Ok :=
  ⟨ok.mod, ok.kind, ok.glob, ok.blt, ok.above, ok.inj, ok.has, ok.cab, ok.hd, ok.frames, ok.stk, ok.exf, ok.bs, ok.bsz, ok.noex, ok.exfs, ok.funs, ok.frf⟩
section
variable {X : Cx} {pins : List (Addr × Obj)} {σ : St} {H : Hp} {s : Shared} {E : Value → Shared → Prop}
theorem Inv.wish (I : Inv X pins σ H s) (E : Value → Shared → Prop) : Inv (X.wish E) pins σ H s := ⟨I.ok.wish E, I.os, I.bare, I.base, I.loc, I.cell, I.free, I.freeC, I.pin, I.hok, I.len⟩
theorem Inv.unwish (I : Inv (X.wish E) pins σ H s) : Inv X pins σ H s := ⟨I.ok.unwish, I.os, I.bare, I.base, I.loc, I.cell, I.free, I.freeC, I.pin, I.hok, I.len⟩
theorem SP.unwish {D : Ends} {f : Flow} {s' : Shared} (h : SP (X.wish E) pins D f s') : SP X pins D f s' := by
  cases f with
  | next => obtain ⟨σ', H', I, q⟩ := h; exact ⟨σ', H', I.unwish, q⟩
  | brk => obtain ⟨σ', H', I, q⟩ := h; exact ⟨σ', H', I.unwish, q⟩
  | cont => obtain ⟨σ', H', I, q⟩ := h; exact ⟨σ', H', I.unwish, q⟩
  | ret u => obtain ⟨v, σ', H', I, r, q⟩ := h; exact ⟨v, σ', H', I.unwish, r, q⟩
theorem PSs.nox {st : List Stmt} {t : TS} (h : PSs X.nox st t) : PSs X st t := fun pins s σ H D I hw =>
  wpAny_mono (h pins s σ H D (I.wish _) hw) (fun _ _ q => q.unwish) fun _ _ z => False.elim z
end

section
variable {X : Cx} {st : Stmt} {rest : List Stmt} {t u : TS} {e : Expr} {te : TE} {pos : Pos}
def tNext : TS := fun D σ H => D.nx σ H
def tSeq (t u : TS) : TS := fun D σ H => t { D with nx := u D } σ H
theorem pss_nil : PSs X [] tNext := fun _ _ σ H _ I h => wpAny_execs_nil ⟨σ, H, I, h⟩
theorem pss_cons (h1 : PS X st t) (h2 : PSs X rest u) : PSs X (st :: rest) (tSeq t u) := by
  intro pins s σ H D I h
  refine wpAny_execs_cons (thn (h1 pins s σ H { D with nx := u D } I h) fun f s1 q => ?_)
  cases f with
  | next =>
    obtain ⟨σ', H', I', q⟩ := q
    exact h2 pins s1 σ' H' D I' q
  | ret v => exact q
  | brk => exact q
  | cont => exact q
theorem pss_one (h1 : PS X st t) : PSs X [st] t := by
  intro pins s σ H D I h
  refine wpAny_execs_cons (thn (h1 pins s σ H D I h) fun f s1 q => ?_)
  cases f with
  | next => exact wpAny_execs_nil q
  | ret v => exact q
  | brk => exact q
  | cont => exact q
def tBreak : TS := fun D σ H => D.bk σ H
def tCont : TS := fun D σ H => D.ct σ H
theorem ps_continue : PS X (.Continue pos) tCont := fun _ _ σ H _ I h => wpAny_Continue ⟨σ, H, I, h⟩
def tDrop (te : TE) : TS := fun D σ H => te σ H fun _ H1 => D.nx σ H1
def tRet (te : TE) : TS := fun D σ H => te σ H D.rt
theorem ps_ret (he : PE X e te) : PS X (.Return (some e) pos) (tRet te) := by
  intro pins s σ H D I h
  exact wpAny_Return_some (thn (he pins s σ H _ I h) fun v s1 ⟨x, H1, I1, r1, q1⟩ => ⟨x, σ, H1, I1, r1, q1⟩)
def tRetN : TS := fun D _ H => D.rt .non H
def tIfS (c : TT) (t u : TS) : TS := fun D σ H => c σ H fun b H1 => if b = true then t D σ H1 else u D σ H1
theorem ps_if {c : Expr} {a b : List Stmt} {tc : TT} (hc : PT X c tc) (ha : PSs X a t) (hb : PSs X b u) : PS X (.If c a b pos) (tIfS tc t u) := by
  intro pins s σ H D I h
  refine wpAny_If (thn (hc pins s σ H _ I h) fun d s1 ⟨H1, I1, q1⟩ => ?_)
  cases d with
  | true => exact ha pins s1 σ H1 D I1 q1
  | false => exact hb pins s1 σ H1 D I1 q1
def tNever : TS := fun _ _ _ => False
end

abbrev TG := V → St → Hp → (St → Hp → Prop) → Prop
abbrev TGs := List V → St → Hp → (St → Hp → Prop) → Prop
def PG (X : Cx) (target : Expr) (t : TG) : Prop :=
  ∀ (pins : List (Addr × Obj)) (s : Shared) (σ : St) (H : Hp) (v : V) (u : Value) (Q : St → Hp → Prop), Inv X pins σ H s → RelV v u → t v σ H Q →
    wpAny (model X.prog X.w) X.A (assign target X.env u) (fun _ s' => ∃ σ' H', Inv X pins σ' H' s' ∧ Q σ' H') X.xe s
def PGs (X : Cx) (ts : List Expr) (t : TGs) : Prop :=
  ∀ (pins : List (Addr × Obj)) (s : Shared) (σ : St) (H : Hp) (vs : List V) (us : List Value) (Q : St → Hp → Prop), Inv X pins σ H s → Vals vs us → t vs σ H Q →
    wpAny (model X.prog X.w) X.A (assignInOrder ((assignEach ts X.env).map (·.2)) us) (fun _ s' => ∃ σ' H', Inv X pins σ' H' s' ∧ Q σ' H') X.xe s
abbrev TSet := V → V → V → Hp → (Hp → Prop) → Prop
def PSet (X : Cx) (t : TSet) : Prop :=
  ∀ (pins : List (Addr × Obj)) (s : Shared) (σ : St) (H : Hp) (o i v : V) (ov iv u : Value) (Q : Hp → Prop), Inv X pins σ H s → RelV o ov → RelV i iv → RelV v u → t o i v H Q →
    wpAny (model X.prog X.w) X.A (setItem ov iv u) (fun _ s' => ∃ H', Inv X pins σ H' s' ∧ Q H') X.xe s
abbrev TIp := V → V → Hp → VK → Prop
def PIp (X : Cx) (op : Operator) (t : TIp) : Prop :=
  ∀ (pins : List (Addr × Obj)) (s : Shared) (σ : St) (H : Hp) (x y : V) (v u : Value) (Q : VK), Inv X pins σ H s → RelV x v → RelV y u → t x y H Q →
    wpAny (model X.prog X.w) X.A (inplaceOp op v u) (EP X pins σ Q) X.xe s
section
variable {X : Cx} {pos : Pos}
def gName (i : Nat) : TG := fun v σ H Q => Q (σ.set i (some v)) H
theorem pg_name {i : Nat} {x : Str} (hN : X.N.Nodup) (hi : X.N[i]? = some x) (hx : Loc X.env.scope x) (hf : X.fn x = true ∨ X.env.scope.names.lookup x = some .local := by first | exact .inl rfl | exact .inr rfl | assumption) : PG X (.Name x pos) (gName i) := by
  intro pins s σ H v u Q I r h
  exact wpAny_assign_Name (store_ok I hN hi hx r (fun s' I' => ⟨_, H, I', h⟩) hf)
def gNil : TGs := fun vs σ H Q => vs = [] ∧ Q σ H
def gCons (t : TG) (u : TGs) : TGs := fun vs σ H Q => ∃ v r, vs = v :: r ∧ t v σ H fun σ' H' => u r σ' H' Q
theorem pgs_nil : PGs X [] gNil := by
  intro pins s σ H vs us Q I r h
  obtain ⟨e, h⟩ := h
  subst e
  cases r
  exact assignInOrder_nil ⟨σ, H, I, h⟩
theorem pgs_cons {e : Expr} {es : List Expr} {t : TG} {u : TGs} (h1 : PG X e t) (h2 : PGs X es u)
    (hs : (assignEach (e :: es) X.env).map (·.2) = assign e X.env :: (assignEach es X.env).map (·.2) := by rfl) : PGs X (e :: es) (gCons t u) := by
  intro pins s σ H vs us Q I r h
  obtain ⟨v, vr, e1, h⟩ := h
  subst e1
  cases r with
  | cons r rr =>
    rw [hs]
    refine assignInOrder_cons (thn (h1 pins s σ H _ _ _ I r h) fun _ s1 ⟨σ1, H1, I1, q1⟩ => ?_)
    exact h2 pins s1 σ1 H1 _ _ Q I1 rr q1
def gTup (K : PySem.W.Frag) (n : Nat) (t : TGs) : TG := fun v σ H Q => ∃ a xs, v = .ref a ∧ SqT K H a xs ∧ xs.length = n ∧ t xs σ H Q
theorem pg_tup {es : List Expr} {k : Nat} {t : TGs} {n : Nat} (hc : X.calm = true) (h : PGs X es t)
    (hn : (assignEach es X.env).length = n := by rfl) (hst : (assignEach es X.env).findIdx? (·.1) = none := by rfl) : PG X (.Tuple es k pos) (gTup X.K n t) := by
  intro pins s σ H v u Q I r hw
  obtain ⟨a, xs, e1, hq, hl, hw⟩ := hw
  subst e1
  cases r
  obtain ⟨its, rv, ht, hz⟩ := I.tuple hq
  refine assign_Tuple_tuple (I.ok.hd hc) ht (by simp [hn, ← hl, rv.length]) hst fun h' hx => ?_
  have I1 : Inv X pins σ H { s with heap := h' } := I.kept (t' := s.toks) fun b o e => hx b o (Nat.ne_of_lt (Heap.lt_size e)) e
  exact h pins _ σ H xs _ Q I1 (by simpa using rv) hw
def gSub (to ti : TE) (t : TSet) : TG := fun v σ H Q => to σ H fun o H1 => ti σ H1 fun i H2 => t o i v H2 fun H3 => Q σ H3
def tAsg (te : TE) (g : TG) : TS := fun D σ H => te σ H fun x H1 => g x σ H1 D.nx
theorem ps_set {i : Nat} {x : Str} {e : Expr} {te : TE} {pos' : Pos} (hN : X.N.Nodup) (hi : X.N[i]? = some x) (hx : Loc X.env.scope x) (he : PE X e te) (hs : swapsWith e (some (.Name x pos')) pos.line X.env = pure false := by rfl) (hf : X.fn x = true ∨ X.env.scope.names.lookup x = some .local := by first | exact .inl rfl | exact .inr rfl | assumption) :
    PS X (.Assign [.Name x pos'] e pos) (tAsg te (gName i)) := by
  intro pins s σ H D I h
  refine wpAny_Assign_Name (thn (he pins s σ H _ I h) fun v s1 ⟨y, H1, I1, r1, q1⟩ => ?_) hs
  exact store_ok I1 hN hi hx r1 (fun s2 I2 => ⟨_, H1, I2, q1⟩) hf
def tPar (i j : Nat) (ta : TA) : TS := fun D σ H => ta σ H fun vs H1 => ∃ v w, vs = [v, w] ∧ D.nx ((σ.set i (some v)).set j (some w)) H1
def tAug (i : Nat) (te : TE) (ti : TIp) : TS := fun D σ H => ∃ x, σ[i]? = some (some x) ∧ te σ H fun y H1 => ti x y H1 fun z H2 => D.nx (σ.set i (some z)) H2
theorem ps_aug {i : Nat} {x : Str} {e : Expr} {te : TE} {op : Operator} {ti : TIp} {pos' : Pos} (hN : X.N.Nodup) (hi : X.N[i]? = some x) (hx : Loc X.env.scope x) (he : PE X e te) (ho : PIp X op ti) (hf : X.fn x = true ∨ X.env.scope.names.lookup x = some .local := by first | exact .inl rfl | exact .inr rfl | assumption) :
    PS X (.AugAssign (.Name x pos') op e pos) (tAug i te ti) := by
  intro pins s σ H D I h
  obtain ⟨v, e1, h⟩ := h
  obtain ⟨m, hn, hl⟩ := I.loc
  have vis : Vis X.env.scope x := by rcases hx with k | k; exact .inl k; exact .inr (.inl k)
  obtain ⟨u, r, l⟩ := hl i x v hi e1 vis
  refine wpAny_AugAssign_Name ?_
  have go : wpAny (model X.prog X.w) X.A (eval e X.env) (fun w s₂ => wpAny (model X.prog X.w) X.A (inplaceOp op u w) (fun r s₃ => wpAny (model X.prog X.w) X.A (storeName X.env x r) (fun _ => SP X pins D .next) X.xe s₃) X.xe s₂) X.xe s := by
    refine thn (he pins s σ H _ I h) fun w s1 ⟨y, H1, I1, r1, q1⟩ => ?_
    refine thn (ho pins s1 σ H1 v y u w _ I1 r r1 q1) fun z s2 ⟨zv, H2, I2, r2, q2⟩ => ?_
    exact store_ok I2 hN hi hx r2 (fun s3 I3 => ⟨_, H2, I3, q2⟩) hf
  rcases l with ⟨hk, hm⟩ | ⟨hk, c, hc, hcell⟩
  · exact wpAny_loadName_local I.ok.kind hk hn hm go
  · rcases hk with hk | hk
    · exact wpAny_loadName_cell I.ok.kind hk hc hcell go
    · rcases hx with k | k
      · have : X.env.scope.names.lookup x = some .free := hk
        rw [k] at this; cases this
      · have : X.env.scope.names.lookup x = some .free := hk
        rw [k] at this; cases this
def tAugS (to ti te : TE) (tget : V → V → Hp → VK → Prop) (tip : TIp) (tset : TSet) : TS := fun D σ H => to σ H fun o H1 => ti σ H1 fun i H2 => tget o i H2 fun x H3 => te σ H3 fun y H4 => tip x y H4 fun z H5 => tset o i z H5 fun H6 => D.nx σ H6
def PGet (X : Cx) (t : V → V → Hp → VK → Prop) : Prop :=
  ∀ (pins : List (Addr × Obj)) (s : Shared) (σ : St) (H : Hp) (o i : V) (ov iv : Value) (Q : VK), Inv X pins σ H s → RelV o ov → RelV i iv → t o i H Q →
    wpAny (model X.prog X.w) X.A (getItem ov iv) (EP X pins σ Q) X.xe s
theorem ps_augS {o i e : Expr} {to ti te : TE} {tget : V → V → Hp → VK → Prop} {tip : TIp} {tset : TSet} {op : Operator} {tpos : Pos} (ho : PE X o to) (hi : PE X i ti) (hg : PGet X tget) (he : PE X e te) (hp : PIp X op tip) (hs : PSet X tset)
    (ha : ∀ ov iv new, augStore i ov iv new = (do holding [new, ov, iv] (setItem ov iv new); release [new, ov, iv] []; pure .next) := by intros; rfl) : PS X (.AugAssign (.Subscript o i tpos) op e pos) (tAugS to ti te tget tip tset) := by
  intro pins s σ H D I h
  refine wpAny_AugAssign_SubscriptAny (thn (ho pins s σ H _ I h) fun ov s1 ⟨x1, H1, I1, r1, q1⟩ => ?_) ha
  refine thn (hi pins s1 σ H1 _ I1 q1) fun iv s2 ⟨x2, H2, I2, r2, q2⟩ => ?_
  refine thn (hg pins s2 σ H2 x1 x2 ov iv _ I2 r1 r2 q2) fun old s3 ⟨x3, H3, I3, r3, q3⟩ => ?_
  refine thn (he pins s3 σ H3 _ I3 q3) fun v s4 ⟨x4, H4, I4, r4, q4⟩ => ?_
  refine thn (hp pins s4 σ H4 x3 x4 old v _ I4 r3 r4 q4) fun new s5 ⟨x5, H5, I5, r5, q5⟩ => ?_
  exact thn (hs pins s5 σ H5 x1 x2 x5 ov iv new _ I5 r1 r2 r5 q5) fun _ s6 ⟨H6, I6, q6⟩ => ⟨σ, H6, I6, q6⟩
def ipI (f : Int → Int → Int) : TIp := fun x y H Q => ∃ i j, x = .int i ∧ y = .int j ∧ Q (.int (f i j)) H
theorem ip_add : PIp X .Add (ipI fun i j => i + j) := by
  intro pins s σ H x y v u Q I r1 r2 h
  obtain ⟨i, j, e1, e2, q⟩ := h
  subst e1; subst e2
  obtain ⟨t, rfl⟩ := r1
  obtain ⟨t', rfl⟩ := r2
  exact iadd_int ⟨.int _, H, I.tok _, ⟨_, rfl⟩, q⟩
theorem ip_sub : PIp X .Sub (ipI fun i j => i - j) := by
  intro pins s σ H x y v u Q I r1 r2 h
  obtain ⟨i, j, e1, e2, q⟩ := h
  subst e1; subst e2
  obtain ⟨t, rfl⟩ := r1
  obtain ⟨t', rfl⟩ := r2
  exact isub_int ⟨.int _, H, I.tok _, ⟨_, rfl⟩, q⟩
end

section
variable {X : Cx} {pos : Pos}
def tWhile (c : TT) (tb : TS) : TS := fun D σ H => ∃ W : Nat → St → Hp → Prop, (∃ m, W m σ H) ∧ ∀ m σ H, W m σ H →
  c σ H fun b H1 => if b = true then ∃ N : St → Hp → Prop, (∀ σ' H', N σ' H' → ∃ m', m' < m ∧ W m' σ' H') ∧ tb { D with nx := N, ct := N, bk := D.nx } σ H1 else D.nx σ H1
theorem ps_while {c : Expr} {body : List Stmt} {tc : TT} {tb : TS} (hp : PassesOwn (model X.prog X.w) X.A X.env X.xe) (hc : PT X c tc) (hb : PSs X body tb) : PS X (.While c body [] pos) (tWhile tc tb) := by
  intro pins s σ H D I h
  obtain ⟨W, ⟨m0, w0⟩, turn⟩ := h
  refine wpAny_While (codeAny_whileLoop (fun n s' => ∃ σ' H', Inv X pins σ' H' s' ∧ W n σ' H') ?_ m0 ⟨σ, H, I, w0⟩)
  rintro n s1 ⟨σ1, H1, I1, w1⟩
  refine wpAny_passesOwn hp (thn (hc pins s1 σ1 H1 _ I1 (turn n σ1 H1 w1)) fun b s2 ⟨H2, I2, q2⟩ => ?_)
  cases b with
  | true =>
    obtain ⟨N, hN, q2⟩ := q2
    rw [if_pos rfl]
    refine wpAny_passesOwn hp (thn (hb pins s2 σ1 H2 _ I2 q2) fun f s3 q3 => ?_)
    cases f with
    | next =>
      obtain ⟨σ3, H3, I3, n3⟩ := q3
      obtain ⟨m', hm, w3⟩ := hN σ3 H3 n3
      exact ⟨m', hm, σ3, H3, I3, w3⟩
    | cont =>
      obtain ⟨σ3, H3, I3, n3⟩ := q3
      obtain ⟨m', hm, w3⟩ := hN σ3 H3 n3
      exact ⟨m', hm, σ3, H3, I3, w3⟩
    | brk => exact q3
    | ret v => exact q3
  | false =>
    rw [if_neg Bool.false_ne_true]
    exact wpAny_execs_nil ⟨σ1, H2, I2, q2⟩
end

structure It where
  go : Nat → Hp → Prop
  yld : Nat → Hp → V → Hp → Prop
  stop : Nat → Hp → Prop
def FpOk (X : Cx) (pins : List (Addr × Obj)) (H : Hp) (b : Addr) : Prop :=
  H b = none ∧ b ≠ X.env.locals ∧ b ∉ X.fs ∧ (b ∈ X.ex ∨ X.s_0.heap.objs.size ≤ b) ∧ (∀ x c, X.env.cells.lookup x = some c → c ≠ b) ∧ ∀ p ∈ X.pn ++ pins, p.1 ≠ b
theorem Inv.fpOk {X : Cx} {pins : List (Addr × Obj)} {σ : St} {H H' : Hp} {s : Shared} {b : Addr} (I : Inv X pins σ H s) (hb : s.heap.objs.size ≤ b) (hn : H' b = none) : FpOk X pins H' b := by
  refine ⟨hn, Nat.ne_of_gt (Nat.lt_of_lt_of_le I.lt hb), I.nofs hb, .inr (Nat.le_trans I.sz hb), fun x c e z => ?_, fun p hp z => ?_⟩
  · obtain ⟨v, q⟩ := I.cell x c e
    exact absurd (Nat.lt_of_lt_of_le q.lt (by rw [z]; exact hb)) (Nat.lt_irrefl _)
  · exact absurd (Nat.lt_of_lt_of_le (Heap.lt_size (I.pin p hp).1) (by rw [z]; exact hb)) (Nat.lt_irrefl _)
structure Turn (P : Program) (w : World) (K : PySem.W.Frag) (tg : Expr) (J : It) (fp : List Addr) (it : Addr) (tn : Nat → Heap → Prop) : Prop where
  mem : it ∈ fp
  obj : ∀ i h, tn i h → ∀ b ∈ fp, ∃ o, h.get? b = some o ∧ ∀ v, o.data ≠ .cell v
  keep : ∀ i h h', tn i h → (∀ b ∈ fp, ∀ o, h.get? b = some o → h'.get? b = some o) → tn i h'
  item : ∀ (X : Cx), X.prog = P → X.w = w → X.K = K → X.calm = true → ∀ (i : Nat) (pins : List (Addr × Obj)) (s : Shared) (σ : St) (H : Hp) (E : Value → Shared → Prop), Inv X pins σ H s → (∀ b ∈ fp, FpOk X pins H b) → tn i s.heap → J.go i H →
    wpAny (model P w) X.A (pyNext (.ref it)) (fun r s1 => ∃ u, r = some u ∧
      wpAny (model P w) X.A (letOwnedTupleGo tg (.ref it) u) (fun _ s2 => ∃ x H', Inv X pins σ H' s2 ∧ RelV x u ∧ J.yld i H x H' ∧ tn (i + 1) s2.heap ∧ ∀ b ∈ fp, H' b = none) E s1) E s
  done : ∀ (X : Cx), X.prog = P → X.w = w → X.K = K → X.calm = true → ∀ (i : Nat) (pins : List (Addr × Obj)) (s : Shared) (σ : St) (H : Hp) (E : Value → Shared → Prop), Inv X pins σ H s → (∀ b ∈ fp, FpOk X pins H b) → tn i s.heap → J.stop i H →
    wpAny (model P w) X.A (pyNext (.ref it)) (fun r s1 => r = none ∧ Inv X pins σ H s1) E s
  self : ∀ (A : Around) (i : Nat) (s : Shared) (Q : Value → Shared → Prop) (E : Value → Shared → Prop), tn i s.heap → Q (.ref it) s → wpAny (model P w) A (pyIter (.ref it)) Q E s
abbrev TI := St → Hp → (It → Hp → Prop) → Prop
def PIE (X : Cx) (pins : List (Addr × Obj)) (σ : St) (tg : Expr) (R : It → Hp → Prop) (itv : Value) (s2 : Shared) : Prop :=
  ∃ (it : Addr) (fp : List Addr) (tn : Nat → Heap → Prop) (J : It) (H' : Hp), itv = .ref it ∧ Inv X pins σ H' s2 ∧ Turn X.prog X.w X.K tg J fp it tn ∧ tn 0 s2.heap ∧ (∀ b ∈ fp, FpOk X pins H' b) ∧ R J H'
def PI (X : Cx) (tg iter : Expr) (wi : TI) : Prop :=
  ∀ (pins : List (Addr × Obj)) (s : Shared) (σ : St) (H : Hp) (R : It → Hp → Prop), Inv X pins σ H s → wi σ H R →
    wpAny (model X.prog X.w) X.A (eval iter X.env) (fun v s1 => wpAny (model X.prog X.w) X.A (pyIter v) (PIE X pins σ tg R) X.xe s1) X.xe s

theorem go_of {M : Model} {A : Around} {E : Value → Shared → Prop} {s : Shared} {tg : Expr} {it : Addr} {u : Value} {o : Obj} {n : String} {vs : Array Value} {Q : Unit → Shared → Prop} (ho : s.heap.get? it = some o) (hc : o.cls = .type n) (hd : o.data = .fields vs)
    (hn : ["enumerate", "zip", "dict_itemiterator", "dict_reverseitemiterator", "odict_iterator", "itertools.zip_longest", "itertools.pairwise"].contains n = false) (hQ : Q () s) : wpAny M A (letOwnedTupleGo tg (.ref it) u) Q E s := by
  unfold letOwnedTupleGo
  cases tg <;> first
    | exact wpAny_pure hQ
    | (cases u <;> first
        | exact wpAny_pure hQ
        | (refine wpAny_bind (wpAny_load ho ?_)
           rw [hc, hd]
           show wpAny M A (if (["enumerate", "zip", "dict_itemiterator", "dict_reverseitemiterator", "odict_iterator", "itertools.zip_longest", "itertools.pairwise"].contains n && vs[0]? == some (rawInt _)) = true then _ else _) Q E s
           rw [if_neg (by intro h; rw [hn, Bool.false_and] at h; cases h)]
           exact wpAny_pure hQ))

def Itl (K : PySem.W.Frag) (a : Addr) : It :=
  ⟨fun i H => ∃ xs x, SqL K H a xs ∧ xs[i]? = some x, fun i H x H' => H' = H ∧ ∀ xs, SqL K H a xs → xs[i]? = some x, fun i H => ∃ xs, SqL K H a xs ∧ xs.length ≤ i⟩
def Itt (K : PySem.W.Frag) (a : Addr) : It :=
  ⟨fun i H => ∃ xs x, SqT K H a xs ∧ xs[i]? = some x, fun i H x H' => H' = H ∧ ∀ xs, SqT K H a xs → xs[i]? = some x, fun i H => ∃ xs, SqT K H a xs ∧ xs.length ≤ i⟩
def Itr (lo : Int) (n : Nat) : It := ⟨fun i _ => i < n, fun i H x H' => H' = H ∧ x = .int (lo + i), fun i _ => n ≤ i⟩
theorem turn_list {P : Program} {w : World} {K : PySem.W.Frag} {tg : Expr} (a it : Addr) : Turn P w K tg (Itl K a) [it] it (fun i h => h.IsListIter it a i) where
  mem := by simp
  obj := fun i h st b hb => by
    have e : b = it := by simpa using hb
    subst e
    obtain ⟨o, e, c, d⟩ := st
    exact ⟨o, e, fun v z => by rw [d] at z; cases z⟩
  keep := fun i h h' st k => st.at fun o e => k it (by simp) o e
  item := by
    intro X hP hw hK hc i pins s σ H E I hf st hg
    subst hP hw hK
    obtain ⟨xs, x, hq, hx⟩ := hg
    obtain ⟨its, rv, p, hz⟩ := I.list hq
    obtain ⟨u, hu, ru⟩ := rv.get hx
    obtain ⟨f0, f1, f2, f3, f4, f5⟩ := hf it (by simp)
    refine wpAny_pyNext_list_item st p.isList (x := u) (by simpa using hu) fun h' st' sb => ?_
    have I1 : Inv X pins σ H { s with heap := h' } := I.turned (t' := s.toks) (fun b o hb e => (sb.2 b hb).trans e) f0 f1 f3 f4 f5
    obtain ⟨o, e, c, d⟩ := id st'
    exact ⟨u, rfl, go_of (s := { s with heap := h' }) e c d (by decide) ⟨x, H, I1, ru, ⟨rfl, fun ys hy => by rw [I.list_inj hy hq]; exact hx⟩, st', fun b hb => (hf b hb).1⟩⟩
  done := by
    intro X hP hw hK hc i pins s σ H E I hf st hg
    subst hP hw hK
    obtain ⟨xs, hq, hx⟩ := hg
    obtain ⟨its, rv, p, hz⟩ := I.list hq
    obtain ⟨f0, f1, f2, f3, f4, f5⟩ := hf it (by simp)
    have hl := rv.length
    exact wpAny_pyNext_list_end (I.ok.hd hc) st p.isList (by simp; omega) fun h' eb => ⟨rfl, I.turned (t' := s.toks) (fun b o hb e => eb b o hb e) f0 f1 f3 f4 f5⟩
  self := fun _ _ _ _ _ st h => wpAny_pyIter_listiter st h
theorem turn_range {P : Program} {w : World} {K : PySem.W.Frag} {tg : Expr} (it : Addr) (lo : Int) (n : Nat) : Turn P w K tg (Itr lo n) [it] it (fun i h => IsRangeIter h it (lo + (i : Nat) * 1) ((n : Int) - (i : Nat)) 1) where
  mem := by simp
  obj := fun i h st b hb => by
    have e : b = it := by simpa using hb
    subst e
    exact ⟨_, st, fun v z => by
      have z' : Data.fields _ = Data.cell v := z
      cases z'⟩
  keep := fun i h h' st k => k it (by simp) _ st
  item := by
    intro X hP hw hK hc i pins s σ H E I hf st hg
    subst hP hw hK
    obtain ⟨f0, f1, f2, f3, f4, f5⟩ := hf it (by simp)
    have W := Walks.range (prog := X.prog) (w := X.w) (I.ok.hd hc) it lo 1 n
    refine W.item i s _ _ hg st fun v h' tk hv st' kk => ?_
    obtain ⟨t, rfl⟩ := hv
    have I1 : Inv X pins σ H { s with heap := h', toks := tk } := I.turned (fun b o hb e => kk b o (by simpa using hb) e) f0 f1 f3 f4 f5
    refine ⟨_, rfl, go_of (s := { s with heap := h', toks := tk }) (n := "range_iterator") st' rfl rfl (by decide) ⟨.int (lo + i), H, I1, ⟨t, ?_⟩, ⟨rfl, rfl⟩, st', fun b hb => (hf b hb).1⟩⟩
    rw [Int.mul_one]
  done := by
    intro X hP hw hK hc i pins s σ H E I hf st hg
    subst hP hw hK
    obtain ⟨f0, f1, f2, f3, f4, f5⟩ := hf it (by simp)
    exact wpAny_pyNext_range_end (I.ok.hd hc) st (by have : n ≤ i := hg; omega) fun h' eb => ⟨rfl, I.turned (t' := s.toks) (fun b o hb e => eb b o hb e) f0 f1 f3 f4 f5⟩
  self := fun _ _ _ _ _ st h => wpAny_pyIter_rangeiter st h
end L2

namespace L2
open PySem PySem.Spec PyProof.Rows
section
variable {X : Cx} {tg : Expr}
def iList (K : PySem.W.Frag) (tl : TE) : TI := fun σ H R => tl σ H fun x H1 => ∃ a, x = .ref a ∧ (∃ xs, SqL K H1 a xs) ∧ R (Itl K a) H1
def iTup (K : PySem.W.Frag) (tl : TE) : TI := fun σ H R => tl σ H fun x H1 => ∃ a, x = .ref a ∧ (∃ xs, SqT K H1 a xs) ∧ R (Itt K a) H1
theorem pi_list {l : Expr} {tl : TE} (hl : PE X l tl) : PI X tg l (iList X.K tl) := by
  intro pins s σ H R I h
  refine thn (hl pins s σ H _ I h) fun v s1 ⟨x, H1, I1, r1, q1⟩ => ?_
  obtain ⟨a, e, ⟨xs, hq⟩, q⟩ := q1
  subst e
  cases r1
  obtain ⟨its, rv, p, hz⟩ := I1.list hq
  refine wpAny_pyIter_list p.isList ?_
  refine ⟨s1.heap.objs.size, [s1.heap.objs.size], _, _, H1, rfl, I1.kept (t' := s1.toks) fun b o e => Heap.get?_push_of_some _ e, turn_list a _, ⟨_, Heap.get?_push_size _ rfl, rfl, rfl⟩, fun b hb => ?_, q⟩
  have e : b = s1.heap.objs.size := by simpa using hb
  subst e
  exact I1.fpOk (Nat.le_refl _) (I1.hok.fresh (Nat.le_refl _))
theorem range_it {pins : List (Addr × Obj)} {σ : St} {H : Hp} {s : Shared} {R : It → Hp → Prop} {E : Value → Shared → Prop} {lo hi : Int} {t u v : Tok} {tk : Nat} (I : Inv X pins σ H s) (h1 : -(2 ^ 62) ≤ lo) (h2 : lo < 2 ^ 62) (h3 : -(2 ^ 62) ≤ hi) (h4 : hi < 2 ^ 62)
    (q : R (Itr lo (hi - lo).toNat) H) : wpAny (model X.prog X.w) X.A (pyIter (.ref s.heap.objs.size)) (PIE X pins σ tg R) E { s with heap := s.heap.push { cls := .type "range", data := .fields #[.int lo t, .int hi u, .int 1 v] }, toks := tk } := by
  refine wpAny_pyIter_range (IsRange.new ..) (small_one h1 h2 h3 h4) ?_
  have I1 : Inv X pins σ H { s with heap := s.heap.push { cls := .type "range", data := .fields #[.int lo t, .int hi u, .int 1 v] }, toks := tk } := I.kept fun b o e => Heap.get?_push_of_some _ e
  refine ⟨(s.heap.push { cls := .type "range", data := .fields #[.int lo t, .int hi u, .int 1 v] }).objs.size, [(s.heap.push { cls := .type "range", data := .fields #[.int lo t, .int hi u, .int 1 v] }).objs.size], _, _, H, rfl,
    I1.kept (t' := tk) fun b o e => Heap.get?_push_of_some _ e, turn_range _ lo (hi - lo).toNat, ?_, fun b hb => ?_, q⟩
  · have e1 : lo + ((0 : Nat) : Int) * 1 = lo := by simp
    have e2 : (((hi - lo).toNat : Nat) : Int) - ((0 : Nat) : Int) = Builtin.Range.rangeSize lo hi 1 := by rw [rangeSize_one]; split <;> omega
    show IsRangeIter _ _ (lo + ((0 : Nat) : Int) * 1) ((((hi - lo).toNat : Nat) : Int) - ((0 : Nat) : Int)) 1
    rw [e1, e2]
    exact Heap.get?_push_size _ rfl
  · have e : b = (s.heap.push { cls := .type "range", data := .fields #[.int lo t, .int hi u, .int 1 v] }).objs.size := by simpa using hb
    subst e
    exact I1.fpOk (Nat.le_refl _) (I1.hok.fresh (Nat.le_refl _))
def iRng1 (ta : TA) : TI := fun σ H R => ta σ H fun vs H1 => ∃ j : Int, vs = [.int j] ∧ -(2 ^ 62) ≤ j ∧ j < 2 ^ 62 ∧ R (Itr 0 j.toNat) H1
def iRng2 (ta : TA) : TI := fun σ H R => ta σ H fun vs H1 => ∃ i j : Int, vs = [.int i, .int j] ∧ (-(2 ^ 62) ≤ i ∧ i < 2 ^ 62 ∧ -(2 ^ 62) ≤ j ∧ j < 2 ^ 62) ∧ R (Itr i (j - i).toNat) H1
theorem pi_range1 {a : Expr} {ta : TA} {p pos : Pos} (hg : Gl X "range") (hm : X.mg "range" = none) (ha : PA X [a] ta) (hs : starEach [a] X.env = [(false, eval a X.env)] := by rfl) : PI X tg (.Call (.Name "range" p) [a] [] pos) (iRng1 ta) := by
  intro pins s σ H R I h
  refine Call_ (ld_blt I hg hm boot_range (PyProof.Rows.callWith_type1 (thn (ha pos pins s σ H _ I h) fun us s1 ⟨vs, H1, I1, r1, q1⟩ => ?_) hs rfl))
  obtain ⟨j, e, q1, q2, q⟩ := q1
  subst e
  cases r1 with
  | cons r rr =>
    cases rr
    obtain ⟨t, rfl⟩ := r
    exact call_range_1 (range_it I1 (by omega) (by omega) q1 q2 (by simpa using q))
theorem pi_range2 {a b : Expr} {ta : TA} {p pos : Pos} (hg : Gl X "range") (hm : X.mg "range" = none) (ha : PA X [a, b] ta) (hs : starEach [a, b] X.env = [(false, eval a X.env), (false, eval b X.env)] := by rfl) (hs2 : starEach [b] X.env = [(false, eval b X.env)] := by rfl) :
    PI X tg (.Call (.Name "range" p) [a, b] [] pos) (iRng2 ta) := by
  intro pins s σ H R I h
  refine Call_ (ld_blt I hg hm boot_range (PyProof.Rows.callWith_type1 (thn (ha pos pins s σ H _ I h) fun us s1 ⟨vs, H1, I1, r1, q1⟩ => ?_) (by rw [hs, hs2]) (by rw [hs2]; rfl)))
  obtain ⟨i, j, e, ⟨q1, q2, q3, q4⟩, q⟩ := q1
  subst e
  cases r1 with
  | cons r rr =>
    cases rr with
    | cons r' rr =>
      cases rr
      obtain ⟨t, rfl⟩ := r
      obtain ⟨t', rfl⟩ := r'
      exact call_range_2 (range_it I1 q1 q2 q3 q4 q)

def tFor (wi : TI) (g : TG) (tb : TS) : TS := fun D σ H => wi σ H fun J H1 => ∃ W : Nat → Nat → St → Hp → Prop, (∃ m, W 0 m σ H1) ∧ ∀ i m σ H, W i m σ H →
  (J.stop i H ∧ D.nx σ H) ∨ (J.go i H ∧ ∃ N : St → Hp → Prop, (∀ σ' H', N σ' H' → ∃ m', m' < m ∧ W (i + 1) m' σ' H') ∧ ∀ x H', J.yld i H x H' → g x σ H' fun σ2 H2 => tb { D with nx := N, ct := N, bk := D.nx } σ2 H2)
def pinsAt (fp : List Addr) (h : Heap) : List (Addr × Obj) := fp.filterMap fun b => (h.get? b).map fun o => (b, o)
theorem mem_pinsAt {fp : List Addr} {h : Heap} {b : Addr} {o : Obj} (hb : b ∈ fp) (e : h.get? b = some o) : (b, o) ∈ pinsAt fp h := List.mem_filterMap.mpr ⟨b, hb, by rw [e]; rfl⟩
theorem of_pinsAt {fp : List Addr} {h : Heap} {p : Addr × Obj} (hp : p ∈ pinsAt fp h) : p.1 ∈ fp ∧ h.get? p.1 = some p.2 := by
  obtain ⟨b, hb, e⟩ := List.mem_filterMap.mp hp
  cases q : h.get? b with
  | none => rw [q] at e; cases e
  | some o =>
    rw [q] at e
    have e' : (b, o) = p := Option.some.inj e
    subst e'
    exact ⟨hb, q⟩
theorem Inv.pinned {pins : List (Addr × Obj)} {σ : St} {H : Hp} {s : Shared} {fp : List Addr} (I : Inv X pins σ H s) (hf : ∀ b ∈ fp, FpOk X pins H b) (ho : ∀ b ∈ fp, ∃ o, s.heap.get? b = some o ∧ ∀ v, o.data ≠ .cell v) : Inv X (pins ++ pinsAt fp s.heap) σ H s :=
  I.pins_of fun p hp => (List.mem_append.mp hp).elim (fun z => I.pin p (List.mem_append_right _ z)) fun z => by
    obtain ⟨hb, e⟩ := of_pinsAt z
    obtain ⟨f0, f1, f2, _⟩ := hf p.1 hb
    obtain ⟨o, e', d⟩ := ho p.1 hb
    rw [e] at e'; cases e'
    exact ⟨e, f0, f1, f2, d⟩
theorem Inv.unpinned {pins pl : List (Addr × Obj)} {σ : St} {H : Hp} {s : Shared} (I : Inv X (pins ++ pl) σ H s) : Inv X pins σ H s := I.pins_of fun p hp => I.pin p (List.mem_append_right _ (List.mem_append_left _ hp))
theorem ps_for {iter : Expr} {body : List Stmt} {wi : TI} {g : TG} {tb : TS} {pos : Pos} (hp : PassesOwn (model X.prog X.w) X.A X.env X.xe) (hc : X.calm = true) (hi : PI X tg iter wi) (hg : PG X tg g) (hb : PSs X body tb)
    (hs : ∀ x, foldedSetIterable iter X.env x = pure x := by intro _; rfl) : PS X (.For tg iter body [] pos) (tFor wi g tb) := by
  intro pins s σ H D I h
  refine wpAny_For (thn (hi pins s σ H _ I h) fun v s1 h1 => thn h1 fun itv s2 h2 => ?_) hs
  obtain ⟨it, fp, tn, J, H2, e, I2, T, st2, f2, W, ⟨m0, w0⟩, turn⟩ := h2
  subst e
  have stat : ∀ {H' : Hp}, (∀ b ∈ fp, H' b = none) → ∀ b ∈ fp, FpOk X pins H' b := fun hn b hb => ⟨hn b hb, (f2 b hb).2⟩
  refine codeAny_forLoop_any (fun n s' => ∃ i σ' H', Inv X pins σ' H' s' ∧ tn i s'.heap ∧ (∀ b ∈ fp, H' b = none) ∧ W i n σ' H') ?_ m0 ⟨0, σ, H2, I2, st2, fun b hb => (f2 b hb).1, w0⟩
  rintro n s3 ⟨i, σ3, H3, I3, st3, fr3, w3⟩
  rcases turn i n σ3 H3 w3 with ⟨stop, qn⟩ | ⟨go, N, hN, step⟩
  · refine wpAny_passesOwn hp (thn (T.done X rfl rfl rfl hc i pins s3 σ3 H3 X.xe I3 (stat fr3) st3 stop) fun r s4 ⟨hr, I4⟩ => ?_)
    subst hr
    exact wpAny_execs_nil ⟨σ3, H3, I4, qn⟩
  · refine wpAny_passesOwn hp (thn (T.item X rfl rfl rfl hc i pins s3 σ3 H3 X.xe I3 (stat fr3) st3 go) fun r s4 ⟨u, hr, h4⟩ => ?_)
    subst hr
    refine wpAny_passesOwn hp (thn h4 fun _ s5 ⟨x, H5, I5, r5, y5, st5, fr5⟩ => ?_)
    have I5' := I5.pinned (stat fr5) (T.obj _ _ st5)
    refine wpAny_passesOwn hp (thn (hg _ s5 σ3 H5 x u _ I5' r5 (step x H5 y5)) fun _ s6 ⟨σ6, H6, I6, q6⟩ => ?_)
    refine wpAny_passesOwn hp (thn (hb _ s6 σ6 H6 _ I6 q6) fun f s7 q7 => ?_)
    have again : ∀ {σ7 : St} {H7 : Hp}, Inv X (pins ++ pinsAt fp s5.heap) σ7 H7 s7 → N σ7 H7 → ∃ m, m < n ∧ ∃ i σ' H', Inv X pins σ' H' s7 ∧ tn i s7.heap ∧ (∀ b ∈ fp, H' b = none) ∧ W i m σ' H' := fun {σ7 H7} I7 n7 => by
      obtain ⟨m', hm, w7⟩ := hN σ7 H7 n7
      refine ⟨m', hm, i + 1, σ7, H7, I7.unpinned, T.keep _ _ _ st5 fun b hb o e => (I7.pin (b, o) (List.mem_append_right _ (List.mem_append_right _ (mem_pinsAt hb e)))).1, fun b hb => ?_, w7⟩
      obtain ⟨o, e, d⟩ := T.obj _ _ st5 b hb
      exact (I7.pin (b, o) (List.mem_append_right _ (List.mem_append_right _ (mem_pinsAt hb e)))).2.1
    cases f with
    | next => obtain ⟨σ7, H7, I7, n7⟩ := q7; exact again I7 n7
    | cont => obtain ⟨σ7, H7, I7, n7⟩ := q7; exact again I7 n7
    | brk => obtain ⟨σ7, H7, I7, q7⟩ := q7; exact ⟨σ7, H7, I7.unpinned, q7⟩
    | ret v => obtain ⟨x7, σ7, H7, I7, r7, q7⟩ := q7; exact ⟨x7, σ7, H7, I7.unpinned, r7, q7⟩
end

theorem for_list {K : PySem.W.Frag} {a : Addr} {xs : List V} {g : TG} {tb : TS} {D : Ends} {σ : St} {H : Hp} (Pv : Nat → St → Hp → Prop) (h0 : Pv 0 σ H) (hl : ∀ i σ H, i ≤ xs.length → Pv i σ H → SqL K H a xs)
    (hs : ∀ i x σ H, xs[i]? = some x → Pv i σ H → g x σ H fun σ2 H2 => tb { D with nx := Pv (i + 1), ct := Pv (i + 1), bk := D.nx } σ2 H2) (hd : ∀ σ H, Pv xs.length σ H → D.nx σ H) :
    ∃ W : Nat → Nat → St → Hp → Prop, (∃ m, W 0 m σ H) ∧ ∀ i m σ H, W i m σ H →
      ((Itl K a).stop i H ∧ D.nx σ H) ∨ ((Itl K a).go i H ∧ ∃ N : St → Hp → Prop, (∀ σ' H', N σ' H' → ∃ m', m' < m ∧ W (i + 1) m' σ' H') ∧ ∀ x H', (Itl K a).yld i H x H' → g x σ H' fun σ2 H2 => tb { D with nx := N, ct := N, bk := D.nx } σ2 H2) := by
  refine ⟨fun i m σ H => m = xs.length - i ∧ i ≤ xs.length ∧ Pv i σ H, ⟨xs.length, by simp, Nat.zero_le _, h0⟩, ?_⟩
  rintro i m σ H ⟨rfl, hi, p⟩
  have q := hl i σ H hi p
  by_cases hlt : i < xs.length
  · refine .inr ⟨⟨xs, xs[i], q, by simp [hlt]⟩, Pv (i + 1), fun σ' H' p' => ⟨xs.length - (i + 1), by omega, rfl, hlt, p'⟩, fun x H' y => ?_⟩
    obtain ⟨e, y⟩ := y
    subst e
    exact hs i x σ _ (y xs q) p
  · have e : i = xs.length := by omega
    subst e
    exact .inl ⟨⟨xs, q, Nat.le_refl _⟩, hd σ H p⟩
theorem for_range {lo : Int} {n : Nat} {g : TG} {tb : TS} {D : Ends} {σ : St} {H : Hp} (Pv : Nat → St → Hp → Prop) (h0 : Pv 0 σ H)
    (hs : ∀ i σ H, i < n → Pv i σ H → g (.int (lo + i)) σ H fun σ2 H2 => tb { D with nx := Pv (i + 1), ct := Pv (i + 1), bk := D.nx } σ2 H2) (hd : ∀ σ H, Pv n σ H → D.nx σ H) :
    ∃ W : Nat → Nat → St → Hp → Prop, (∃ m, W 0 m σ H) ∧ ∀ i m σ H, W i m σ H →
      ((Itr lo n).stop i H ∧ D.nx σ H) ∨ ((Itr lo n).go i H ∧ ∃ N : St → Hp → Prop, (∀ σ' H', N σ' H' → ∃ m', m' < m ∧ W (i + 1) m' σ' H') ∧ ∀ x H', (Itr lo n).yld i H x H' → g x σ H' fun σ2 H2 => tb { D with nx := N, ct := N, bk := D.nx } σ2 H2) := by
  refine ⟨fun i m σ H => m = n - i ∧ i ≤ n ∧ Pv i σ H, ⟨n, by simp, Nat.zero_le _, h0⟩, ?_⟩
  rintro i m σ H ⟨rfl, hi, p⟩
  by_cases hlt : i < n
  · refine .inr ⟨hlt, Pv (i + 1), fun σ' H' p' => ⟨n - (i + 1), by omega, rfl, hlt, p'⟩, fun x H' y => ?_⟩
    obtain ⟨e, y⟩ := y
    subst e y
    exact hs i σ _ hlt p
  · have e : i = n := by omega
    subst e
    exact .inl ⟨Nat.le_refl _, hd σ H p⟩
theorem while_by {c : TT} {tb : TS} {D : Ends} {σ : St} {H : Hp} (Pv : St → Hp → Prop) (μ : St → Hp → Nat) (h0 : Pv σ H)
    (hs : ∀ σ H, Pv σ H → c σ H fun b H1 => if b = true then tb { D with nx := fun σ' H' => Pv σ' H' ∧ μ σ' H' < μ σ H, ct := fun σ' H' => Pv σ' H' ∧ μ σ' H' < μ σ H, bk := D.nx } σ H1 else D.nx σ H1)
    (mono : ∀ σ H Q Q', (∀ b H1, Q b H1 → Q' b H1) → c σ H Q → c σ H Q') : tWhile c tb D σ H := by
  refine ⟨fun m σ H => m = μ σ H ∧ Pv σ H, ⟨_, rfl, h0⟩, ?_⟩
  rintro m σ H ⟨rfl, p⟩
  refine mono σ H _ _ (fun b H1 q => ?_) (hs σ H p)
  cases b with
  | true => exact ⟨_, fun σ' H' ⟨p', l⟩ => ⟨_, l, rfl, p'⟩, q⟩
  | false => exact q
end L2

namespace L2
open PySem PySem.Spec PyProof.Rows

abbrev R2 := V → V → Hp → VK → Prop
def OpR (X : Cx) (f : Value → Value → Sem Value) (r : R2) : Prop :=
  ∀ (pins : List (Addr × Obj)) (s : Shared) (σ : St) (H : Hp) (x y : V) (v u : Value) (Q : VK), Inv X pins σ H s → RelV x v → RelV y u → r x y H Q →
    wpAny (model X.prog X.w) X.A (f v u) (EP X pins σ Q) X.xe s
def UnR (X : Cx) (f : Value → Sem Value) (r : V → Hp → VK → Prop) : Prop :=
  ∀ (pins : List (Addr × Obj)) (s : Shared) (σ : St) (H : Hp) (x : V) (v : Value) (Q : VK), Inv X pins σ H s → RelV x v → r x H Q →
    wpAny (model X.prog X.w) X.A (f v) (EP X pins σ Q) X.xe s
def CallR (X : Cx) (f : Value) (r : List V → Hp → VK → Prop) : Prop :=
  ∀ (pins : List (Addr × Obj)) (s : Shared) (σ : St) (H : Hp) (xs : List V) (us : List Value) (Q : VK), Inv X pins σ H s → Vals xs us → r xs H Q →
    wpAny (model X.prog X.w) X.A (call f us) (EP X pins σ Q) X.xe s
def TruR (X : Cx) (r : V → Hp → (Bool → Hp → Prop) → Prop) : Prop :=
  ∀ (pins : List (Addr × Obj)) (s : Shared) (σ : St) (H : Hp) (x : V) (v : Value) (Q : Bool → Hp → Prop), Inv X pins σ H s → RelV x v → r x H Q →
    wpAny (model X.prog X.w) X.A (truthy v) (TP X pins σ Q) X.xe s

def tOp (r : R2) (ta tb : TE) : TE := fun σ H Q => ta σ H fun x H1 => tb σ H1 fun y H2 => r x y H2 Q
def tUn (r : V → Hp → VK → Prop) (ta : TE) : TE := fun σ H Q => ta σ H fun x H1 => r x H1 Q
def rI (C : Int → Int → Prop) (g : Int → Int → V) : R2 := fun x y H Q => ∃ i j, x = .int i ∧ y = .int j ∧ C i j ∧ Q (g i j) H
def rI0 (g : Int → Int → V) : R2 := fun x y H Q => ∃ i j, x = .int i ∧ y = .int j ∧ Q (g i j) H
def rU (g : Int → V) : V → Hp → VK → Prop := fun x H Q => ∃ i, x = .int i ∧ Q (g i) H

section
variable {X : Cx} {a b c : Expr} {ta tb tc : TE} {pos : Pos}

theorem binT (ha : PE X a ta) (hb : PE X b tb) {pins : List (Addr × Obj)} {s : Shared} {σ : St} {H : Hp} {R : V → V → Hp → Prop} (I : Inv X pins σ H s)
    (h : ta σ H fun x H1 => tb σ H1 fun y H2 => R x y H2) {Q : Value → Shared → Prop} {f : Value → Value → Sem Value}
    (hf : ∀ v u s2 x y H2, Inv X pins σ H2 s2 → RelV x v → RelV y u → R x y H2 → wpAny (model X.prog X.w) X.A (f v u) Q X.xe s2) :
    wpAny (model X.prog X.w) X.A (eval a X.env) (fun v s₁ => wpAny (model X.prog X.w) X.A (eval b X.env) (fun u s₂ => wpAny (model X.prog X.w) X.A (f v u) Q X.xe s₂) X.xe s₁) X.xe s := by
  refine thn (ha pins s σ H _ I h) fun v s1 ⟨x, H1, I1, r1, q1⟩ => ?_
  refine thn (hb pins s1 σ H1 _ I1 q1) fun u s2 ⟨y, H2, I2, r2, q2⟩ => ?_
  exact hf v u s2 x y H2 I2 r1 r2 q2

theorem pe_op {op : Operator} {r : R2} (ho : OpR X (binaryOp op) r) (ha : PE X a ta) (hb : PE X b tb) : PE X (.BinOp a op b pos) (tOp r ta tb) := by
  intro pins s σ H Q I h
  exact wpAny_BinOp (binT ha hb I h fun v u s2 x y H2 I2 rx ry q => ho pins s2 σ H2 x y v u Q I2 rx ry q)
theorem pe_un {op : UnaryOp} {r : V → Hp → VK → Prop} (ho : UnR X (unaryOp op) r) (ha : PE X a ta) : PE X (.UnaryOp op a pos) (tUn r ta) := by
  intro pins s σ H Q I h
  exact UnaryOp_ (thn (ha pins s σ H _ I h) fun v s1 ⟨x, H1, I1, r1, q1⟩ => ho pins s1 σ H1 x v Q I1 r1 q1)

theorem opI {f : Value → Value → Sem Value} {C : Int → Int → Prop} {g : Int → Int → Int}
    (rule : ∀ (i j : Int) (t u : Tok) (s : Shared) (Q : Value → Shared → Prop) (E : Value → Shared → Prop), C i j → Q (.int (g i j) s.toks) { s with toks := s.toks + 1 } → wpAny (model X.prog X.w) X.A (f (.int i t) (.int j u)) Q E s) :
    OpR X f (rI C fun i j => .int (g i j)) := by
  intro pins s σ H x y v u Q I rx ry h
  obtain ⟨i, j, rfl, rfl, hc, q⟩ := h
  obtain ⟨t, rfl⟩ := rx
  obtain ⟨t', rfl⟩ := ry
  exact rule i j t t' s _ _ hc ⟨.int (g i j), H, I.tok _, ⟨_, rfl⟩, q⟩
theorem opI0 {f : Value → Value → Sem Value} {g : Int → Int → Int}
    (rule : ∀ (i j : Int) (t u : Tok) (s : Shared) (Q : Value → Shared → Prop) (E : Value → Shared → Prop), Q (.int (g i j) s.toks) { s with toks := s.toks + 1 } → wpAny (model X.prog X.w) X.A (f (.int i t) (.int j u)) Q E s) :
    OpR X f (rI0 fun i j => .int (g i j)) := by
  intro pins s σ H x y v u Q I rx ry h
  obtain ⟨i, j, rfl, rfl, q⟩ := h
  obtain ⟨t, rfl⟩ := rx
  obtain ⟨t', rfl⟩ := ry
  exact rule i j t t' s _ _ ⟨.int (g i j), H, I.tok _, ⟨_, rfl⟩, q⟩
theorem opB0 {f : Value → Value → Sem Value} {g : Int → Int → Bool}
    (rule : ∀ (i j : Int) (t u : Tok) (s : Shared) (Q : Value → Shared → Prop) (E : Value → Shared → Prop), Q (.bool (g i j)) s → wpAny (model X.prog X.w) X.A (f (.int i t) (.int j u)) Q E s) :
    OpR X f (rI0 fun i j => .bl (g i j)) := by
  intro pins s σ H x y v u Q I rx ry h
  obtain ⟨i, j, rfl, rfl, q⟩ := h
  obtain ⟨t, rfl⟩ := rx
  obtain ⟨t', rfl⟩ := ry
  exact rule i j t t' s _ _ ⟨.bl (g i j), H, I, rfl, q⟩

def CDiv (i j : Int) : Prop := 0 < j ∧ j < 1073741824
def CDivN (i j : Int) : Prop := j ≠ 0 ∧ j.natAbs < 1073741824
def CPow (i j : Int) : Prop := 0 ≤ j ∧ j ≤ 1000000 ∧ i.natAbs < 2 ^ 64
def CMul (i j : Int) : Prop := (-(2 ^ 64) < i ∧ i < 2 ^ 64) ∨ (-(2 ^ 64) < j ∧ j < 2 ^ 64)
theorem CMul.ok {i j : Int} (h : CMul i j) : IntMulOk i j := by
  rcases h with ⟨h1, h2⟩ | ⟨h1, h2⟩
  · exact .of_left (intBits_le_64 h1 h2)
  · exact .of_right (intBits_le_64 h1 h2)
theorem two_pow_nn (k : Nat) : (0 : Int) ≤ 2 ^ k := by
  rw [two_pow_cast]
  exact Int.natCast_nonneg _

theorem op_add : OpR X (binaryOp .Add) (rI0 fun i j => .int (i + j)) := opI0 fun _ _ _ _ _ _ _ q => add_int q
theorem op_sub : OpR X (binaryOp .Sub) (rI0 fun i j => .int (i - j)) := opI0 fun _ _ _ _ _ _ _ q => sub_int q
theorem op_mul : OpR X (binaryOp .Mult) (rI CMul fun i j => .int (i * j)) := opI fun _ _ _ _ _ _ _ hc q => mul_int q hc.ok
theorem op_fdiv : OpR X (binaryOp .FloorDiv) (rI CDiv fun i j => .int (i / j)) := opI fun i j _ _ _ _ _ hc q => by
  have h1 : (0 : Int) < j := hc.1
  have h2 : j < 1073741824 := hc.2
  exact floordiv_int (by omega) (by rw [Int.fdiv_eq_ediv_of_nonneg i (by omega)]; exact q) (.inl (PyProof.noPylong_small (by omega)))
theorem op_mod : OpR X (binaryOp .Mod) (rI (fun _ j => 0 < j) fun i j => .int (i % j)) := opI fun i j _ _ _ _ _ hc q => by
  have h1 : (0 : Int) < j := hc
  exact mod_int' (by omega) (by rw [Int.fmod_eq_emod_of_nonneg i (by omega)]; exact q)
theorem op_shr : OpR X (binaryOp .RShift) (rI (fun _ j => 0 ≤ j) fun i j => .int (i / 2 ^ j.toNat)) := opI fun i j _ _ _ _ _ hc q =>
  rshift_int hc (by rw [Int.fdiv_eq_ediv_of_nonneg i (two_pow_nn _)]; exact q)
theorem op_and : OpR X (binaryOp .BitAnd) (rI0 fun i j => .int (Builtin.bitAnd i j)) := opI0 fun _ _ _ _ _ _ _ q => and_int q


theorem unI {f : Value → Sem Value} {g : Int → Int}
    (rule : ∀ (i : Int) (t : Tok) (s : Shared) (Q : Value → Shared → Prop) (E : Value → Shared → Prop), Q (.int (g i) s.toks) { s with toks := s.toks + 1 } → wpAny (model X.prog X.w) X.A (f (.int i t)) Q E s) :
    UnR X f (rU fun i => .int (g i)) := by
  intro pins s σ H x v Q I rx h
  obtain ⟨i, rfl, q⟩ := h
  obtain ⟨t, rfl⟩ := rx
  exact rule i t s _ _ ⟨.int (g i), H, I.tok _, ⟨_, rfl⟩, q⟩
theorem un_neg : UnR X (unaryOp .USub) (rU fun i => .int (-i)) := unI fun _ _ _ _ _ q => neg_int q

end

def scal : V → V → Bool
  | .non, .non => true | .non, .int _ => true | .int _, .non => true | .non, .bl _ => true | .bl _, .non => true | .non, .str _ => true | .str _, .non => true
  | .int _, .int _ => true | .bl _, .bl _ => true | .str _, .str _ => true | .byt _, .byt _ => true
  | .int _, .str _ => true | .str _, .int _ => true | .bl _, .str _ => true | .str _, .bl _ => true
  | _, _ => false
def rEq : R2 := fun x y H Q => scal x y = true ∧ Q (.bl (decide (x = y))) H
def rNe : R2 := fun x y H Q => scal x y = true ∧ Q (.bl (!decide (x = y))) H

theorem dec_int {i j : Int} : decide (V.int i = V.int j) = (i == j) := by
  rw [Bool.eq_iff_iff]
  simp
theorem dec_bl {i j : Bool} : decide (V.bl i = V.bl j) = (i == j) := by
  rw [Bool.eq_iff_iff]
  simp
theorem dec_str {i j : Str} : decide (V.str i = V.str j) = (i == j) := by
  rw [Bool.eq_iff_iff]
  simp
theorem dec_byt {i j : Array UInt8} : decide (V.byt i = V.byt j) = (i.toList == j.toList) := by
  rw [Bool.eq_iff_iff]
  cases i
  cases j
  simp

section
variable {X : Cx} {a b c : Expr} {ta tb tc : TE} {pos : Pos}
theorem fin_bl {pins : List (Addr × Obj)} {σ : St} {H : Hp} {s : Shared} {Q : VK} {k k' : Bool} (I : Inv X pins σ H s) (q : Q (.bl k) H) (e : k = k') : EP X pins σ Q (.bool k') s := by
  subst e
  exact ⟨.bl k, H, I, rfl, q⟩
theorem op_eq : OpR X (compareOp .Eq) rEq := by
  intro pins s σ H x y v u Q I rx ry h
  obtain ⟨hs, q⟩ := h
  cases x with
  | non =>
    cases rx
    cases y with
    | non => cases ry; exact PySem.EqNone.eq_none_none (fin_bl I q (by simp))
    | bl j => cases ry; exact PySem.EqNone.eq_none_bool (fin_bl I q (by simp))
    | int j => obtain ⟨t', rfl⟩ := ry; exact PySem.EqNone.eq_none_int (fin_bl I q (by simp))
    | str j => obtain ⟨t', rfl⟩ := ry; exact PySem.EqNone.eq_none_str (fin_bl I q (by simp))
    | _ => exact absurd (show false = true from hs) Bool.false_ne_true
  | bl i =>
    cases rx
    cases y with
    | non => cases ry; exact PySem.EqNone.eq_bool_none (fin_bl I q (by simp))
    | bl j => cases ry; exact eq_bool (fin_bl I q dec_bl)
    | str j => obtain ⟨t', rfl⟩ := ry; exact PySem.EqMixed.eq_bool_str (fin_bl I q (by simp))
    | _ => exact absurd (show false = true from hs) Bool.false_ne_true
  | int i =>
    obtain ⟨t, rfl⟩ := rx
    cases y with
    | non => cases ry; exact PySem.EqNone.eq_int_none (fin_bl I q (by simp))
    | int j => obtain ⟨t', rfl⟩ := ry; exact eq_int (fin_bl I q dec_int)
    | str j => obtain ⟨t', rfl⟩ := ry; exact PySem.EqMixed.eq_int_str (fin_bl I q (by simp))
    | _ => exact absurd (show false = true from hs) Bool.false_ne_true
  | str i =>
    obtain ⟨t, rfl⟩ := rx
    cases y with
    | non => cases ry; exact PySem.EqNone.eq_str_none (fin_bl I q (by simp))
    | bl j => cases ry; exact PySem.EqMixed.eq_str_bool (fin_bl I q (by simp))
    | int j => obtain ⟨t', rfl⟩ := ry; exact PySem.EqMixed.eq_str_int (fin_bl I q (by simp))
    | str j => obtain ⟨t', rfl⟩ := ry; exact eq_str (fin_bl I q dec_str)
    | _ => exact absurd (show false = true from hs) Bool.false_ne_true
  | byt i =>
    obtain ⟨t, rfl⟩ := rx
    cases y with
    | byt j => obtain ⟨t', rfl⟩ := ry; exact PySem.W.eq_bytes (fin_bl I q dec_byt)
    | _ => exact absurd (show false = true from hs) Bool.false_ne_true
  | _ => cases y <;> exact absurd (show false = true from hs) Bool.false_ne_true
theorem op_ne : OpR X (compareOp .NotEq) rNe := by
  intro pins s σ H x y v u Q I rx ry h
  obtain ⟨hs, q⟩ := h
  cases x with
  | non =>
    cases rx
    cases y with
    | non => cases ry; exact PySem.EqNone.ne_none_none (fin_bl I q (by simp))
    | bl j => cases ry; exact PySem.EqNone.ne_none_bool (fin_bl I q (by simp))
    | int j => obtain ⟨t', rfl⟩ := ry; exact PySem.EqNone.ne_none_int (fin_bl I q (by simp))
    | str j => obtain ⟨t', rfl⟩ := ry; exact PySem.EqNone.ne_none_str (fin_bl I q (by simp))
    | _ => exact absurd (show false = true from hs) Bool.false_ne_true
  | bl i =>
    cases rx
    cases y with
    | non => cases ry; exact PySem.EqNone.ne_bool_none (fin_bl I q (by simp))
    | bl j => cases ry; exact ne_bool (fin_bl I q (congrArg not dec_bl))
    | str j => obtain ⟨t', rfl⟩ := ry; exact PySem.EqMixed.ne_bool_str (fin_bl I q (by simp))
    | _ => exact absurd (show false = true from hs) Bool.false_ne_true
  | int i =>
    obtain ⟨t, rfl⟩ := rx
    cases y with
    | non => cases ry; exact PySem.EqNone.ne_int_none (fin_bl I q (by simp))
    | int j => obtain ⟨t', rfl⟩ := ry; exact ne_int (fin_bl I q (congrArg not dec_int))
    | str j => obtain ⟨t', rfl⟩ := ry; exact PySem.EqMixed.ne_int_str (fin_bl I q (by simp))
    | _ => exact absurd (show false = true from hs) Bool.false_ne_true
  | str i =>
    obtain ⟨t, rfl⟩ := rx
    cases y with
    | non => cases ry; exact PySem.EqNone.ne_str_none (fin_bl I q (by simp))
    | bl j => cases ry; exact PySem.EqMixed.ne_str_bool (fin_bl I q (by simp))
    | int j => obtain ⟨t', rfl⟩ := ry; exact PySem.EqMixed.ne_str_int (fin_bl I q (by simp))
    | str j => obtain ⟨t', rfl⟩ := ry; exact ne_str (fin_bl I q (congrArg not dec_str))
    | _ => exact absurd (show false = true from hs) Bool.false_ne_true
  | byt i =>
    obtain ⟨t, rfl⟩ := rx
    cases y with
    | byt j => obtain ⟨t', rfl⟩ := ry; exact PySem.W.ne_bytes (fin_bl I q (congrArg not dec_byt))
    | _ => exact absurd (show false = true from hs) Bool.false_ne_true
  | _ => cases y <;> exact absurd (show false = true from hs) Bool.false_ne_true

theorem op_lt : OpR X (compareOp .Lt) (rI0 fun i j => .bl (decide (i < j))) := opB0 fun _ _ _ _ _ _ _ q => lt_int q
theorem op_le : OpR X (compareOp .LtE) (rI0 fun i j => .bl (decide (i ≤ j))) := opB0 fun _ _ _ _ _ _ _ q => le_int q
theorem op_gt : OpR X (compareOp .Gt) (rI0 fun i j => .bl (decide (j < i))) := opB0 fun _ _ _ _ _ _ _ q => gt_int q
theorem op_ge : OpR X (compareOp .GtE) (rI0 fun i j => .bl (decide (j ≤ i))) := opB0 fun _ _ _ _ _ _ _ q => ge_int q


def isObj : HO → Bool
  | .lst _ => true
  | .ins _ _ _ => true
  | _ => false


theorem nomark (b : Expr) {op : CmpOp} (h : op ≠ .In := by decide) (h2 : op ≠ .NotIn := by decide) : behindInMarks op b = false := by
  have e1 : (op == CmpOp.In) = false := by cases op <;> first | rfl | exact absurd rfl h
  have e2 : (op == CmpOp.NotIn) = false := by cases op <;> first | rfl | exact absurd rfl h2
  cases b <;> simp [behindInMarks, e1, e2]
theorem pe_cmpR {op : CmpOp} {r : R2} (ho : OpR X (compareOp op) r) (ha : PE X a ta) (hb : PE X b tb) (hm : behindInMarks op b = false) : PE X (.Compare a [op] [b] pos) (tOp r ta tb) := by
  intro pins s σ H Q I h
  exact wpAny_Compare1 (binT ha hb I h fun v u s2 x y H2 I2 rx ry q => ho pins s2 σ H2 x y v u Q I2 rx ry q) hm
def tTest (t : TE) : TT := fun σ H Q => t σ H fun x H' => ∃ k, x = .bl k ∧ Q k H'
theorem pt_cmpR {op : CmpOp} {r : R2} (ho : OpR X (compareOp op) r) (ha : PE X a ta) (hb : PE X b tb) (hm : behindInMarks op b = false) : PT X (.Compare a [op] [b] pos) (tTest (tOp r ta tb)) := by
  intro pins s σ H Q I h
  refine wpAny_isTrue_Compare1 (thn (ha pins s σ H _ I h) fun v s1 ⟨x, H1, I1, r1, q1⟩ => thn (hb pins s1 σ H1 _ I1 q1) fun u s2 ⟨y, H2, I2, r2, q2⟩ =>
    thn (ho pins s2 σ H2 x y v u _ I2 r1 r2 q2) fun c s3 ⟨z, H3, I3, r3, k, e, q3⟩ => ?_) hm
  subst e
  cases r3
  exact wpAny_truthy_bool ⟨H3, I3, q3⟩
def tChain (r r' : R2) (ta tb tc : TE) : TE := fun σ H Q => ta σ H fun x H1 => tb σ H1 fun y H2 => r x y H2 fun z H3 => ∃ k, z = .bl k ∧
  (if k = true then tc σ H3 fun w' H4 => r' y w' H4 Q else Q (.bl false) H3)

def TruV (K : PySem.W.Frag) (x : V) (H : Hp) (k : Bool) : Prop :=
  match x with
  | .non => k = false
  | .bl b => k = b
  | .int i => k = (i != 0)
  | .str y => y.length ≤ sizeLine ∧ k = ((y.length : Int) != 0)
  | .byt y => y.size ≤ sizeLine ∧ k = ((y.size : Int) != 0)
  | .ref p => (∃ xs, SqL K H p xs ∧ k = !xs.isEmpty) ∨ (∃ xs, SqT K H p xs ∧ k = !xs.isEmpty) ∨ ∃ kvs, H p = some (.dK kvs) ∧ k = !kvs.isEmpty
  | _ => False
theorem line63 : (sizeLine : Nat) < 2 ^ 63 := by rw [sizeLine_eq]; decide


def PlainIxT (b : Expr) : Prop := ∀ o i, subscripted b false o i = operate [o, i] (getItem o i)

theorem vals1 {x : V} {us : List Value} (r : Vals [x] us) : ∃ u, us = [u] ∧ RelV x u := by
  cases r with
  | cons r1 r2 => cases r2; exact ⟨_, rfl, r1⟩
theorem vals2 {x y : V} {us : List Value} (r : Vals [x, y] us) : ∃ u w', us = [u, w'] ∧ RelV x u ∧ RelV y w' := by
  cases r with
  | cons r1 r2 =>
    cases r2 with
    | cons r3 r4 => cases r4; exact ⟨_, _, rfl, r1, r3⟩
theorem call_abs : CallR X (.builtin "abs") (fun xs H Q => ∃ i, xs = [.int i] ∧ Q (.int (if i < 0 then -i else i)) H) := by
  intro pins s σ H xs us Q I r h
  obtain ⟨i, rfl, q⟩ := h
  obtain ⟨u, rfl, t, rfl⟩ := vals1 r
  exact call_abs_int fun u tk => ⟨.int (if i < 0 then -i else i), H, I.tok _, ⟨_, rfl⟩, q⟩
theorem call_max2 (hc : X.calm = true) : CallR X (.builtin "max") (fun xs H Q => ∃ i j, xs = [.int i, .int j] ∧ Q (.int (if j > i then j else i)) H) := by
  intro pins s σ H xs us Q I r h
  obtain ⟨i, j, rfl, q⟩ := h
  obtain ⟨u, w', rfl, ⟨t, rfl⟩, ⟨t', rfl⟩⟩ := vals2 r
  refine max_two_ints (I.ok.hd hc) fun h' tk k => ⟨_, H, I.kept k, ?_, q⟩
  by_cases hj : j > i
  · rw [if_pos hj, if_pos hj]; exact ⟨_, rfl⟩
  · rw [if_neg hj, if_neg hj]; exact ⟨_, rfl⟩
theorem call_min2 (hc : X.calm = true) : CallR X (.builtin "min") (fun xs H Q => ∃ i j, xs = [.int i, .int j] ∧ Q (.int (if j < i then j else i)) H) := by
  intro pins s σ H xs us Q I r h
  obtain ⟨i, j, rfl, q⟩ := h
  obtain ⟨u, w', rfl, ⟨t, rfl⟩, ⟨t', rfl⟩⟩ := vals2 r
  refine min_two_ints (I.ok.hd hc) fun h' tk k => ⟨_, H, I.kept k, ?_, q⟩
  by_cases hj : j < i
  · rw [if_pos hj, if_pos hj]; exact ⟨_, rfl⟩
  · rw [if_neg hj, if_neg hj]; exact ⟨_, rfl⟩
def LenV (K : PySem.W.Frag) (x : V) (H : Hp) (n : Nat) : Prop :=
  match x with
  | .str y => y.length ≤ sizeLine ∧ n = y.length
  | .byt y => y.size ≤ sizeLine ∧ n = y.size
  | .ref p => (∃ xs, SqL K H p xs ∧ n = xs.length) ∨ ∃ xs, SqT K H p xs ∧ n = xs.length
  | _ => False
end
end L2

namespace L2
open PySem PySem.Spec PyProof.Rows

structure ObjM (h : Heap) (x dx C : Addr) (mA : Str → Option Value) : Prop where
  obj : h.get? x = some (PySem.W.instObj C dx)
  ns : h.Ns1 dx mA
  ne : dx ≠ x



section
variable {prog : Program} {w : World} {A : Around} {E : Value → Shared → Prop} {s : Shared} {K : PySem.W.Frag} {x dx C f : Addr} {mA : Str → Option Value} {name : Str} {v : Value}





end

def putF (f : Str) (v : V) : List (Str × V) → List (Str × V)
  | [] => [(f, v)]
  | (g, x) :: r => if g = f then (g, v) :: r else (g, x) :: putF f v r


section
variable {P : Program} {w : World} {H H' : Hp} {h h' : Heap} {a C dx : Addr} {fs fs' : List (Str × V)}
end

structure Cls (K : PySem.W.Frag) (C : Addr) : Prop where
  pg : PySem.W.plainGet K C Str.empty = true
  hd : PySem.W.hasDictIn K C = true
  po : PySem.W.plainOver K C = true
  sa : PySem.W.findIn K (.ref C) "__setattr__" = some (some (.builtin "object.__setattr__"))
def NoAttr (K : PySem.W.Frag) (C : Addr) (f : Str) : Prop := PySem.W.findIn K (.ref C) f = some none
structure Con (K : PySem.W.Frag) (C : Addr) (f : Str) (v : V) (u : Value) : Prop where
  at_ : PySem.W.findIn K (.ref C) f = some (some u)
  rel : RelV v u
  get : PySem.W.specialIn K u "__get__" = some none
  cp : PySem.W.copiedNames.contains f = false
structure Meth (K : PySem.W.Frag) (C : Addr) (m : Str) (f : Addr) : Prop where
  at_ : PySem.W.findIn K (.ref C) m = some (some (.ref f))
  fn : PySem.W.isFn K (.ref f) = true
  kp : PySem.W.keepIn K (.ref f) = true

section
variable {X : Cx} {pins : List (Addr × Obj)} {σ : St} {H : Hp} {s : Shared} {a C dx : Addr} {fs : List (Str × V)} {f : Str} {v : V} {A : Around} {E : Value → Shared → Prop}






end

def tFld (K : PySem.W.Frag) (ta : TE) (f : Str) : TE := fun σ H Q => ta σ H fun x H1 => ∃ a C dx fs v, x = .ref a ∧ H1 a = some (.ins C dx fs) ∧ Cls K C ∧ NoAttr K C f ∧ fs.lookup f = some v ∧ Q v H1
def tCon (K : PySem.W.Frag) (ta : TE) (f : Str) : TE := fun σ H Q => ta σ H fun x H1 => ∃ a C dx fs v u, x = .ref a ∧ H1 a = some (.ins C dx fs) ∧ Cls K C ∧ Con K C f v u ∧ fs.lookup f = none ∧ Q v H1
def sFld (K : PySem.W.Frag) (ta tv : TE) (f : Str) : TS := fun D σ H => tv σ H fun y H1 => ta σ H1 fun x H2 => ∃ a C dx fs, x = .ref a ∧ H2 a = some (.ins C dx fs) ∧ Cls K C ∧ NoAttr K C f ∧ fs.length < 1000 ∧
  D.nx σ (upd H2 a (.ins C dx (putF f y fs)))
def InOp (X : Cx) (op : Operator) (rd : V → V → Hp → VK → Prop) : Prop :=
  ∀ (pins : List (Addr × Obj)) (s : Shared) (σ : St) (H : Hp) (x y : V) (u v : Value) (Q : VK), Inv X pins σ H s → RelV x u → RelV y v → rd x y H Q → wpAny (model X.prog X.w) X.A (inplaceOp op u v) (EP X pins σ Q) X.xe s
def sFldAug (K : PySem.W.Frag) (ta tv : TE) (rd : V → V → Hp → VK → Prop) (f : Str) : TS := fun D σ H => ta σ H fun x H1 => ∃ a C dx fs v, x = .ref a ∧ H1 a = some (.ins C dx fs) ∧ Cls K C ∧ NoAttr K C f ∧ fs.lookup f = some v ∧
  tv σ H1 fun y H2 => rd v y H2 fun z H3 => ∃ dx' fs', H3 a = some (.ins C dx' fs') ∧ fs'.length < 1000 ∧ D.nx σ (upd H3 a (.ins C dx' (putF f z fs')))

section
variable {X : Cx} {o e value : Expr} {f : Str} {pos pos' tpos : Pos} {ta tv : TE}
def rAdd : V → V → Hp → VK → Prop := fun x y H Q => ∃ i j, x = .int i ∧ y = .int j ∧ Q (.int (i + j)) H
def rSub : V → V → Hp → VK → Prop := fun x y H Q => ∃ i j, x = .int i ∧ y = .int j ∧ Q (.int (i - j)) H

end

section
variable {X : Cx} {pins : List (Addr × Obj)} {σ : St} {H : Hp} {s : Shared} {A : Around} {E : Value → Shared → Prop} {Q : Value → Shared → Prop} {c : Value} {b : Bool}
inductive TyOf (K : PySem.W.Frag) (H : Hp) : V → Value → Prop where
  | non : TyOf K H .non (.type "NoneType")
  | bl (x : Bool) : TyOf K H (.bl x) (.type "bool")
  | int (i : Int) : TyOf K H (.int i) (.type "int")
  | str (x : Str) : TyOf K H (.str x) (.type "str")
  | flt (x : UInt64) : TyOf K H (.flt x) (.type "float")
  | lst {a : Addr} {xs : List V} (e : H a = some (.lst xs)) : TyOf K H (.ref a) (.type "list")
  | frz {a : Addr} {o : Obj} {xs : List V} (e : H a = some (.frz o (.lst xs))) : TyOf K H (.ref a) (.type "list")
  | tup {a : Addr} {xs : List V} (e : H a = some (.tup xs)) : TyOf K H (.ref a) (.type "tuple")
  | dK {a : Addr} {kvs : List (Key × V)} (e : H a = some (.dK kvs)) : TyOf K H (.ref a) (.type "dict")
  | dT {a : Addr} {kvs : List (List Key × V)} (e : H a = some (.dT kvs)) : TyOf K H (.ref a) (.type "dict")
  | ins {a C dx : Addr} {fs : List (Str × V)} (e : H a = some (.ins C dx fs)) (cl : Cls K C) (ha : PySem.W.findIn K (.ref C) "__class__" = some (some (.builtin "object.__class__")))
      (hn : PySem.W.specialIn K (.builtin "object.__class__") "__get__" = some (some (.builtin "getset_descriptor.__get__"))) (htk : PySem.W.takesIn K (.builtin "object.__class__") = some true)
      (hm : PySem.W.mroIn K C (.type "object") = some true) : TyOf K H (.ref a) (.ref C)
end
end L2

namespace L2
open PySem PySem.Spec PyProof.Rows

structure Room (k : Nat) (A : Around) : Prop where
  hd : A.handled = none
  dp : A.depth + 3 * k + 5 < recursionLimit
  un : A.units + 16 * k + 200 < cLine
theorem Room.mono {j k : Nat} {A : Around} (r : Room k A) (h : j ≤ k) : Room j A := ⟨r.hd, by have := r.dp; omega, by have := r.un; omega⟩
theorem Room.deeper {k : Nat} {A : Around} (r : Room (k + 1) A) (env : Env) : Room k (A.deeper env) :=
  ⟨r.hd, by have := r.dp; show A.depth + 1 + 3 * k + 5 < _; omega, by have := r.un; show A.units + 3 + 16 * k + 200 < _; omega⟩
theorem Room.depth {k : Nat} {A : Around} (r : Room k A) : A.depth < recursionLimit := by have := r.dp; omega

def tNil : TA := fun _ H Q => Q [] H
def tCons (ta : TE) (tr : TA) : TA := fun σ H Q => ta σ H fun x H1 => tr σ H1 fun xs H2 => Q (x :: xs) H2
section
variable {X : Cx} {e : Expr} {es : List Expr} {te : TE} {t : TA} {pos : Pos}
theorem pa_nil : PA X [] tNil := fun _ _ _ _ H Q I h => Calls.spliced_nil ⟨[], H, I, .nil, h⟩
theorem pa_cons (ha : PE X e te) (hr : PA X es t) (hs : starEach (e :: es) X.env = (false, eval e X.env) :: starEach es X.env := by rfl) : PA X (e :: es) (tCons te t) := by
  intro pos pins s σ H Q I h
  rw [hs]
  show wpAny _ _ (spliced ((false, eval e X.env) :: backTo pos (starEach es X.env))) _ _ s
  refine Calls.spliced_cons (thn (ha pins s σ H _ I h) fun u s1 ⟨x, H1, I1, r1, q1⟩ => ?_)
  exact thn (hr pos pins s1 σ H1 _ I1 q1) fun us s2 ⟨xs, H2, I2, r2, q2⟩ => ⟨x :: xs, H2, I2, .cons r1 r2, q2⟩

def tTup (t : TA) : TE := fun σ H Q => t σ H fun xs H1 => xs.length ≤ sizeLine ∧ ∀ p, H1 p = none → Q (.ref p) (upd H1 p (.tup xs))
def tLst (t : TA) : TE := fun σ H Q => t σ H fun xs H1 => xs.length ≤ sizeLine ∧ ∀ p, H1 p = none → Q (.ref p) (upd H1 p (.lst xs))
theorem pe_lst (h : PA X es t) : PE X (.List es pos) (tLst t) := by
  intro pins s σ H Q I hq
  refine wpAny_List_spliced (thn (h pos pins s σ H _ I hq) fun us s1 ⟨xs, H1, I1, r, z, q⟩ => ⟨by rw [← r.length]; exact z, ?_⟩)
  have hf : H1 s1.heap.objs.size = none := I1.hok.fresh (Nat.le_refl _)
  refine ⟨.ref s1.heap.objs.size, upd H1 s1.heap.objs.size (.lst xs), I1.laid (t' := s1.toks) (fun b u e => Heap.get?_push_of_some _ e) (Nat.le_refl _) ?_, rfl, q _ hf⟩
  exact ⟨z, us, 0, r, Heap.get?_push_size _ rfl⟩
end

abbrev Sp := List V → Hp → VK → XK → Prop
abbrev CXT := List Env → Hp → Shared → XK → Value → Shared → Prop

structure Env0 (P : Program) (w : World) (K : PySem.W.Frag) (mg : Str → Option Value) (base : Heap) (A : Around) (outer : List Env) (s : Shared) (H : Hp) : Prop where
  frames : A.frames = some outer
  mod : Mod K mg base
  bs : ∀ b o, base.get? b = some o → s.heap.get? b = some o ∧ H b = none
  bsz : base.objs.size ≤ s.heap.objs.size
  funs : s.heap.FunFrames base outer
  frf : ∀ b ∈ frs outer, H b = none
  hok : HOk P w H s.heap
  bare : AllBare s.gens
def CE (outer : List Env) (P : Program) (w : World) (H : Hp) (s : Shared) (Q : VK) (u : Value) (s' : Shared) : Prop :=
  ∃ v H', s'.os = s.os ∧ AllBare s'.gens ∧ Un (frs outer) [] H H' s.heap s'.heap ∧ HOk P w H' s'.heap ∧ RelV v u ∧ Q v H'
def CR (CX : CXT) (outer : List Env) (P : Program) (w : World) (H : Hp) (s : Shared) (Q : VK) (E : XK) (r : Result) (s' : Shared) : Prop :=
  match r with
  | .ok (.ret u) => CE outer P w H s Q u s'
  | .ok _ => False
  | .error e => CX outer H s E e s'
structure FnOk (P : Program) (w : World) (K : PySem.W.Frag) (mg : Str → Option Value) (base : Heap) (CX : CXT) (k : Nat) (f : Addr) (fd : FuncData) (ps : List Str) (sp : Sp) : Prop where
  len : ∀ vs H Q E, sp vs H Q E → vs.length = ps.length
  run : ∀ (A : Around) (outer : List Env) (s : Shared) (H : Hp) (args : Args) (us : List Value) (vs : List V) (Q : VK) (E : XK), Room k A → Env0 P w K mg base A outer s H → BindsTo s fd args (ps.zip us) → Vals vs us → sp vs H Q E →
    codeAny (model P w) A (.call (.ref f) args) (CR CX outer P w H s Q E) s


section
variable {X : Cx} {pins : List (Addr × Obj)} {σ : St} {H : Hp} {s s' : Shared}
theorem Inv.env0 (I : Inv X pins σ H s) : Env0 X.prog X.w X.K X.mg X.base X.A X.stack s H :=
  ⟨I.ok.frames, I.ok.mod, I.bs, Nat.le_trans I.ok.bsz I.sz, I.stack, I.stkFree, I.hok, I.bare⟩
theorem Inv.after {Q : VK} {u : Value} (I : Inv X pins σ H s) (h : CE X.stack X.prog X.w H s Q u s') : EP X pins σ Q u s' := by
  obtain ⟨v, H', os, bare, un, hok, r, q⟩ := h
  obtain ⟨hh, g, d, t, os'⟩ := s'
  obtain rfl : os' = s.os := os
  exact ⟨v, H', I.call (h' := hh) (g' := g) (d' := d) (t' := t) (ch := []) un hok bare (fun b z => absurd z (by simp)), r, q⟩
end

def tCall (sp : Sp) (dvs : List V) (E : XK) (t : TA) : TE := fun σ H Q => t σ H fun vs H1 => sp (vs ++ dvs) H1 Q E
def tMeth (C : Addr) (m : Str) (sp : Sp) (dvs : List V) (E : XK) (ta : TE) (t : TA) : TE := fun σ H Q => ta σ H fun x H1 => ∃ a dx fs, x = .ref a ∧ H1 a = some (.ins C dx fs) ∧ fs.lookup m = none ∧
  t σ H1 fun vs H2 => sp (x :: (vs ++ dvs)) H2 Q E
def tMake (C : Addr) (sp : Sp) (dvs : List V) (E : XK) (t : TA) : TE := fun σ H Q => t σ H fun vs H1 => ∀ x dx, H1 x = none → H1 dx = none → dx ≠ x →
  sp (.ref x :: (vs ++ dvs)) (upd (upd H1 dx (.own x)) x (.ins C dx [])) (fun v H2 => v = .non ∧ Q (.ref x) H2) E

def Binds (K : PySem.W.Frag) (fd : FuncData) (ps : List Str) (ds : List Value) : Prop :=
  ∀ (s : Shared) (us : List Value), K.In s.heap → (us ++ ds).length = ps.length → BindsTo s fd ⟨us, []⟩ (ps.zip (us ++ ds))
theorem Binds.all {K : PySem.W.Frag} {fd : FuncData} {ps : List Str} (h : ∀ us : List Value, us.length = ps.length → bindArgs fd ⟨us, []⟩ = pure (ps.zip us)) : Binds K fd ps [] := fun s us _ hl => by
  rw [List.append_nil] at hl ⊢
  exact .of_eq (h us hl)

def Passes (CX : CXT) (X : Cx) (E : XK) : Prop := ∀ (pins : List (Addr × Obj)) (σ : St) (H : Hp) (s : Shared) (e : Value) (s' : Shared), Inv X pins σ H s → CX X.stack H s E e s' → X.xe e s'

section
variable {X : Cx} {CX : CXT} {k : Nat} {f C : Addr} {fd : FuncData} {ps : List Str} {sp : Sp} {dvs : List V} {ds : List Value} {E : XK} {x m : Str} {p pos apos : Pos} {e o : Expr} {es : List Expr} {ta : TE} {t : TA}

theorem run_fn {pins : List (Addr × Obj)} {σ : St} {H : Hp} {s : Shared} {Q : VK} {us : List Value} {vs : List V} (F : FnOk X.prog X.w X.K X.mg X.base CX k f fd ps sp) (hr : Room k X.A) (hb : Binds X.K fd ps ds) (hd : Vals dvs ds) (hx : Passes CX X E)
    (I : Inv X pins σ H s) (r : Vals vs us) (h : sp (vs ++ dvs) H Q E) : wpAny (model X.prog X.w) X.A (call (.ref f) us) (EP X pins σ Q) X.xe s := by
  have r2 : Vals (vs ++ dvs) (us ++ ds) := r.append hd
  have hl : (us ++ ds).length = ps.length := by rw [← r2.length]; exact F.len _ _ _ _ h
  refine wpAny_call (codeAny_mono (F.run X.A X.stack s H ⟨us, []⟩ (us ++ ds) (vs ++ dvs) Q E hr I.env0 (hb s us I.kIn hl) r2 h) fun r s' hq => ?_)
  cases r with
  | error e => exact hx pins σ H s e s' I hq
  | ok fl =>
    cases fl with
    | ret u => exact I.after hq
    | next => exact False.elim hq
    | brk => exact False.elim hq
    | cont => exact False.elim hq

theorem pe_call (F : FnOk X.prog X.w X.K X.mg X.base CX k f fd ps sp) (hr : Room k X.A) (hg : Gl X x) (hm : X.mg x = some (.ref f)) (hk : PySem.W.keepIn X.K (.ref f) = true) (hb : Binds X.K fd ps ds) (hd : Vals dvs ds) (hx : Passes CX X E)
    (ha : PA X (e :: es) t) (hdb : (x == ("__debug__" : Str)) = false := by decide) (he : starEach (e :: es) X.env = (false, eval e X.env) :: starEach es X.env := by rfl) (hpl : (backTo pos (starEach es X.env)).any (·.1) = false := by rfl) :
    PE X (.Call (.Name x p) (e :: es) [] pos) (tCall sp dvs E t) := by
  intro pins s σ H Q I h
  refine wpAny_Call_Name_kw (ld_glob I hg hm ?_ hdb)
  refine PySem.W.callWith_K (h₀ := X.base) I.ok.mod.kin hk (thn (ha pos pins s σ H _ I h) fun us s1 ⟨vs, H1, I1, r, q⟩ => ⟨I1.kIn, ?_⟩) he hpl
  exact run_fn F hr hb hd hx I1 r q


structure Mk (K : PySem.W.Frag) (C f : Addr) : Prop where
  makes : PySem.W.makesIn K C = true
  init : PySem.W.findIn K (.ref C) "__init__" = some (some (.ref f))
  fn : PySem.W.isFn K (.ref f) = true
  kp : PySem.W.keepIn K (.ref C) = true

end

def PK (X : Cx) (kws : List Keyword) (t : TA) : Prop :=
  ∀ (pos : Pos) (pins : List (Addr × Obj)) (s : Shared) (σ : St) (H : Hp) (Q : List V → Hp → Prop), Inv X pins σ H s → t σ H Q → wpAny (model X.prog X.w) X.A (evalAll ((backToKw pos (keywordEach kws X.env)).map (·.2))) (AP X pins σ Q) X.xe s
section
variable {X : Cx} {CX : CXT} {k : Nat} {f C : Addr} {fd : FuncData} {ps ks : List Str} {sp : Sp} {E : XK} {x m : Str} {p pos apos kpos : Pos} {e o : Expr} {es : List Expr} {kws : List Keyword} {te ta : TE} {t tk : TA} {nm : Option Str}

structure KBinds (K : PySem.W.Frag) (fd : FuncData) (ps ks : List Str) (g : List Value → List Value → List Value) (gV : List V → List V → List V) : Prop where
  to : ∀ (s : Shared) (us ws : List Value), K.In s.heap → (g us ws).length = ps.length → BindsTo s fd ⟨us, ks.zip ws⟩ (ps.zip (g us ws))
  rel : ∀ {vs : List V} {us : List Value} {zs : List V} {ws : List Value}, Vals vs us → Vals zs ws → Vals (gV vs zs) (g us ws)
def tCallK (sp : Sp) (gV : List V → List V → List V) (E : XK) (t tk : TA) : TE := fun σ H Q => t σ H fun vs H1 => tk σ H1 fun zs H2 => sp (gV vs zs) H2 Q E
variable {g : List Value → List Value → List Value} {gV : List V → List V → List V}
end

structure FnScope (N P : List Str) (sc : Scope) : Prop where
  kind : sc.kind = .function
  co : sc.isCoroutine = false
  gen : sc.isGenerator = false
  nd : N.Nodup
  pre : N.take P.length = P
  par : ∀ x ∈ P, sc.names.lookup x = some .local ∨ sc.names.lookup x = some .cell
  nofree : ∀ y ∈ sc.names, y.2 ≠ .free

theorem bindL_out {kindOf : Str → Option NameKind} {x : Str} : ∀ {binds : List (Str × Value)} {m : Str → Option Value}, (∀ v, (x, v) ∉ binds) → bindL kindOf binds m x = m x
  | [], _, _ => rfl
  | (n, v) :: r, m, h => by
    unfold bindL
    rw [bindL_out fun w hw => h w (List.mem_cons_of_mem _ hw)]
    split
    · have : x ≠ n := by rintro rfl; exact h v List.mem_cons_self
      simp [this]
    · rfl
theorem bindC_out {kindOf : Str → Option NameKind} {x : Str} : ∀ {binds : List (Str × Value)} {m : Str → Option Value}, (∀ v, (x, v) ∉ binds) → bindC kindOf binds m x = m x
  | [], _, _ => rfl
  | (n, v) :: r, m, h => by
    unfold bindC
    rw [bindC_out fun w hw => h w (List.mem_cons_of_mem _ hw)]
    split
    · rfl
    · have : x ≠ n := by rintro rfl; exact h v List.mem_cons_self
      simp [this]
theorem bindL_get {kindOf : Str → Option NameKind} {x : Str} {v : Value} : ∀ {P : List Str} {vs : List Value} {i : Nat} {m : Str → Option Value}, P.Nodup → P[i]? = some x → vs[i]? = some v → kindOf x = some .local →
    bindL kindOf (P.zip vs) m x = some v
  | [], _, _, _, _, h, _, _ => by simp at h
  | _ :: _, [], _, _, _, _, h, _ => by simp at h
  | p :: P, w :: vs, 0, m, nd, h1, h2, hk => by
    simp at h1 h2; subst h1; subst h2
    show bindL kindOf ((p, w) :: P.zip vs) m p = _
    unfold bindL
    rw [bindL_out fun v hv => (List.nodup_cons.mp nd).1 (List.of_mem_zip hv).1, if_pos hk]
    simp
  | p :: P, w :: vs, i + 1, m, nd, h1, h2, hk => by
    show bindL kindOf ((p, w) :: P.zip vs) m x = _
    unfold bindL
    exact bindL_get (i := i) (List.nodup_cons.mp nd).2 (by simpa using h1) (by simpa using h2) hk
theorem bindC_get {kindOf : Str → Option NameKind} {x : Str} {v : Value} : ∀ {P : List Str} {vs : List Value} {i : Nat} {m : Str → Option Value}, P.Nodup → P[i]? = some x → vs[i]? = some v → kindOf x ≠ some .local →
    bindC kindOf (P.zip vs) m x = some v
  | [], _, _, _, _, h, _, _ => by simp at h
  | _ :: _, [], _, _, _, _, h, _ => by simp at h
  | p :: P, w :: vs, 0, m, nd, h1, h2, hk => by
    simp at h1 h2; subst h1; subst h2
    show bindC kindOf ((p, w) :: P.zip vs) m p = _
    unfold bindC
    rw [bindC_out fun v hv => (List.nodup_cons.mp nd).1 (List.of_mem_zip hv).1, if_neg hk]
    simp
  | p :: P, w :: vs, i + 1, m, nd, h1, h2, hk => by
    show bindC kindOf ((p, w) :: P.zip vs) m x = _
    unfold bindC
    exact bindC_get (i := i) (List.nodup_cons.mp nd).2 (by simpa using h1) (by simpa using h2) hk

def start (N : List Str) (vs : List V) : St := vs.map some ++ List.replicate (N.length - vs.length) none

def cxOf (CX : CXT) (P : Program) (w : World) (K : PySem.W.Frag) (mg : Str → Option Value) (base : Heap) (N : List Str) (qual : Str) (scope : Scope) (f : Addr) (cd : Value) (A : Around) (outer : List Env) (s : Shared) (H : Hp) (E : XK) : Cx where
  prog := P
  w := w
  K := K
  mg := mg
  base := base
  A := A.deeper (envOfC qual scope s.heap.objs.size f cd)
  N := N
  s_0 := s
  H_0 := H
  env := envOfC qual scope s.heap.objs.size f cd
  outer := outer
  stack := envOfC qual scope s.heap.objs.size f cd :: outer
  ex := []
  calm := true
  fn := fun _ => true
  pn := []
  xe := fun e s' => wpAny (model P w) (A.deeper (envOfC qual scope s.heap.objs.size f cd)) (leaving (envOfC qual scope s.heap.objs.size f cd) e) (fun _ s'' => CX outer H s E e s'') (fun e' s'' => CX outer H s E e' s'') s'

theorem cell_has {sc : Scope} {n : Nat} {x : Str} (h : sc.names.lookup x = some .cell) : ∃ c, (cellsFrom n sc.names []).lookup x = some c := by
  have q := PySem.W.cellsFrom_some sc.names n [] (.inl h)
  exact Option.isSome_iff_exists.mp q

theorem inv_start {CX : CXT} {P : Program} {w : World} {K : PySem.W.Frag} {mg : Str → Option Value} {base : Heap} {N ps : List Str} {qual : Str} {scope : Scope} {f : Addr} {cd : Value} {A : Around} {outer : List Env} {s s1 : Shared} {H : Hp} {E : XK} {us : List Value} {vs : List V}
    (S : FnScope N ps scope) (hd : A.handled = none) (e0 : Env0 P w K mg base A outer s H) (hl : vs.length = ps.length) (r : Vals vs us)
    (x : InCallC s s.heap.objs.size (bindL (envOfC qual scope s.heap.objs.size f cd).kindOf (ps.zip us) fun _ => none) (cellsFrom (s.heap.objs.size + 1) scope.names []) (bindC (envOfC qual scope s.heap.objs.size f cd).kindOf (ps.zip us) fun _ => none) s1) :
    Inv (cxOf CX P w K mg base N qual scope f cd A outer s H E) [] (start N vs) H s1 := by
  have hpl : ps.length ≤ N.length := by have := congrArg List.length S.pre; rw [List.length_take] at this; omega
  obtain ⟨h1, tk, rfl, hk⟩ := x.done
  have noA : ∀ b : Addr, b ∉ (cxOf CX P w K mg base N qual scope f cd A outer s H E).ex := fun b z => absurd (show b ∈ ([] : List Addr) from z) (by simp)
  refine ⟨⟨e0.mod, S.kind, rfl, rfl, Nat.le_refl _, fun y z c h1 h2 => ?_, fun y hy => ?_, fun y c _ h => ?_, fun _ => hd, Around.frames_deeper e0.frames, .inr ⟨rfl, rfl⟩, fun b z => absurd z (noA b), e0.bs, e0.bsz, fun b _ _ => noA b, fun b z => absurd z (noA b), e0.funs, e0.frf⟩,
    rfl, e0.bare, Un.kept hk, ⟨_, x.toInCall.ns, fun i y v h1 h2 h3 => ?_⟩, fun y c h => ⟨_, x.cell y c h⟩, e0.hok.fresh (Nat.le_refl _), fun y c h => ?_, fun p hp => absurd (show p ∈ ([] : List (Addr × Obj)) from hp) (by simp), e0.hok.kept hk, ?_⟩
  · exact name_of_addr x.apart (PySem.mem_of_lookup h1) (PySem.mem_of_lookup h2)
  · have hy : scope.names.lookup y = some .cell ∨ scope.names.lookup y = some .free := hy
    rcases hy with hy | hy
    · exact cell_has hy
    · exact absurd rfl (S.nofree _ (PySem.mem_of_lookup hy))
  · exact Nat.le_of_lt (x.above y c (PySem.mem_of_lookup h))
  · have hi : i < vs.length := by
      unfold start at h2
      by_cases hi : i < vs.length
      · exact hi
      · rw [List.getElem?_append_right (by simpa using hi)] at h2
        rw [List.getElem?_replicate] at h2
        split at h2 <;> cases h2
    have ha : vs[i]? = some v := by
      unfold start at h2
      rw [List.getElem?_append_left (by simpa using hi), List.getElem?_map] at h2
      cases e : vs[i]? with
      | none => rw [e] at h2; cases h2
      | some a => rw [e] at h2; cases h2; rfl
    obtain ⟨u, hu, rv⟩ := r.get ha
    have hp : ps[i]? = some y := by
      rw [← S.pre, List.getElem?_take_of_lt (by omega)]; exact h1
    have ndP : ps.Nodup := by rw [← S.pre]; exact S.nd.sublist (List.take_sublist _ _)
    refine ⟨u, rv, ?_⟩
    rcases S.par y (List.mem_of_getElem? hp) with k | k
    · exact .inl ⟨k, bindL_get ndP hp hu k⟩
    · obtain ⟨c, e⟩ := cell_has (n := s.heap.objs.size + 1) k
      refine .inr ⟨.inl k, c, e, ?_⟩
      have q := x.cell y c e
      rw [bindC_get ndP hp hu (by show scope.names.lookup y ≠ _; rw [k]; decide)] at q
      exact q
  · exact e0.hok.fresh (Nat.le_of_lt (x.above y c (PySem.mem_of_lookup h)))
  · unfold start
    show _ = N.length
    rw [List.length_append, List.length_map, List.length_replicate]
    omega

theorem fn_of {CX : CXT} {P : Program} {w : World} {K : PySem.W.Frag} {mg : Str → Option Value} {base : Heap} {k : Nat} {f : Addr} {name qual : Str} {params : Arguments} {body : List Stmt} {scope : Scope} {dV kV doc pm cdv ct oc : Value} {an od : Option Addr}
    {osl : Array (Option Value)} {N ps : List Str} {sp : Sp} (lk : K.lookup f = some ⟨oc, od, .func (PySem.W.fnOf name qual params body scope dV kV doc pm an cdv ct), osl⟩) (hcd : PySem.W.codeIn K cdv qual = true) (S : FnScope N ps scope)
    (len : ∀ vs H Q E, sp vs H Q E → vs.length = ps.length)
    (hbody : ∀ (A : Around) (outer : List Env) (s : Shared) (H : Hp) (vs : List V) (Q : VK) (E : XK), Room k (A.deeper (envOfC qual scope s.heap.objs.size f cdv)) → sp vs H Q E →
      ∃ t, PSs (cxOf CX P w K mg base N qual scope f cdv A outer s H E) body t ∧ t { nx := fun _ H' => Q .non H', rt := Q } (start N vs) H) :
    FnOk P w K mg base CX (k + 1) f (PySem.W.fnOf name qual params body scope dV kV doc pm an cdv ct) ps sp := by
  refine ⟨len, fun A outer s H args us vs Q E hr e0 hb r hsp => ?_⟩
  have hl := len _ _ _ _ hsp
  have KX : K.In s.heap := e0.mod.kin.keeps fun b o e => (e0.bs b o e).1
  have lim : s.heap.NoLimit := e0.mod.nolimit.keeps fun b o e => (e0.bs b o e).1
  have hkind : ∀ y ∈ ps.zip us, scope.names.lookup y.1 = some .local ∨ (scope.names.lookup y.1 = some .cell ∧ ((cellsFrom (s.heap.objs.size + 1) scope.names []).lookup y.1).isSome = true) := fun ⟨n, v⟩ hy => by
    rcases S.par n (List.of_mem_zip hy).1 with q | q
    · exact .inl q
    · exact .inr ⟨q, PySem.W.cellsFrom_some _ _ _ (.inl q)⟩
  refine codeAny_call_function hr.depth (KX _ _ lk) rfl S.co S.gen rfl (PySem.W.codeRec_of KX hcd) (hb _ _ _ _ ?_)
  refine wpAny_newFunctionEnv_cells S.kind hkind fun env he s1 x => ?_
  subst he
  refine ⟨lim.keeps x.toInCall.keep, codeAny_func ?_⟩
  obtain ⟨t, ht, hq⟩ := hbody A outer s H vs Q E (hr.deeper _) hsp
  have I : Inv (cxOf CX P w K mg base N qual scope f cdv A outer s H E) [] (start N vs) H s1 := inv_start S hr.hd e0 hl r x
  refine wpAny_mono (ht [] s1 (start N vs) H _ I hq) (fun fl s' hs => ?_) fun e s' hs => hs
  have fin : ∀ {σ' : St} {H' : Hp} {v : V} {u : Value}, Inv (cxOf CX P w K mg base N qual scope f cdv A outer s H E) [] σ' H' s' → RelV v u → Q v H' → CE outer P w H s Q u s' :=
    fun {σ' H' v u} J rv q => ⟨v, H', J.os, J.bare, J.base, J.hok, rv, q⟩
  cases fl with
  | ret u =>
    obtain ⟨v, σ', H', J, rv, q⟩ := hs
    exact fin J rv q
  | next =>
    obtain ⟨σ', H', J, q⟩ := hs
    exact fin (v := V.non) (u := Value.none) J rfl q
  | brk =>
    obtain ⟨_, _, _, q⟩ := hs
    exact False.elim q
  | cont =>
    obtain ⟨_, _, _, q⟩ := hs
    exact False.elim q
end L2

namespace L2
open PySem PySem.Spec PyProof.Rows
section
variable {X : Cx} {x : Str} {p pos : Pos} {e : Expr} {es : List Expr} {t : TA} {id T : String} {r : List V → Hp → VK → Prop}

def tCB (r : List V → Hp → VK → Prop) (t : TA) : TE := fun σ H Q => t σ H fun vs H1 => r vs H1 Q
theorem pe_callB (hc : CallR X (.builtin id) r) (hg : Gl X x) (hm : X.mg x = none) (hv : bootBuiltins x = some (.builtin id)) (ha : PA X (e :: es) t) (hn : x ≠ "__name__" := by decide) (hdb : (x == ("__debug__" : Str)) = false := by decide)
    (he : starEach (e :: es) X.env = (false, eval e X.env) :: starEach es X.env := by rfl) (hpl : (backTo pos (starEach es X.env)).any (·.1) = false := by rfl) : PE X (.Call (.Name x p) (e :: es) [] pos) (tCB r t) := by
  intro pins s σ H Q I h
  refine wpAny_Call_Name_kw (ld_blt I hg hm hv ?_ hn hdb)
  exact PyProof.Rows.callWith_builtin1 (thn (ha pos pins s σ H _ I h) fun us s1 ⟨vs, H1, I1, r1, q1⟩ => hc pins s1 σ H1 vs us Q I1 r1 q1) he hpl
theorem pe_callTy (hc : CallR X (.type T) r) (hg : Gl X x) (hm : X.mg x = none) (hv : bootBuiltins x = some (.type T)) (ha : PA X (e :: es) t) (hn : x ≠ "__name__" := by decide) (hdb : (x == ("__debug__" : Str)) = false := by decide)
    (he : starEach (e :: es) X.env = (false, eval e X.env) :: starEach es X.env := by rfl) (hpl : (backTo pos (starEach es X.env)).any (·.1) = false := by rfl) : PE X (.Call (.Name x p) (e :: es) [] pos) (tCB r t) := by
  intro pins s σ H Q I h
  refine wpAny_Call_Name_kw (ld_blt I hg hm hv ?_ hn hdb)
  exact PyProof.Rows.callWith_type1 (thn (ha pos pins s σ H _ I h) fun us s1 ⟨vs, H1, I1, r1, q1⟩ => hc pins s1 σ H1 vs us Q I1 r1 q1) he hpl
end
end L2

namespace HT
open PySem PyProof.Rows

def lexLt : List Int → List Int → Bool
  | [], [] => false
  | [], _ :: _ => true
  | _ :: _, [] => false
  | x :: xs, y :: ys => if x = y then lexLt xs ys else decide (x < y)


section
open PySem.SeqAt
open PySem.AutoSeq1 (wpAny_loadPart')
open PySem.MeetsSeq PySem.MeetsSeq2 PySem.MeetsSeq3

end

section
variable {prog : Program} {w : World} {A : Around} {E : Value → Shared → Prop} {s : Shared}



def sIx (n d : Nat) : Option Int → Nat
  | none => d
  | some v => if v < 0 then (v + (n : Int)).toNat else min v.toNat n
theorem sIx_none (n d : Nat) : sIx n d none = d := rfl

end
end HT

namespace L2
open PySem PySem.Spec PyProof.Rows

abbrev TO := St → Hp → (Option Int → Hp → Prop) → Prop
def PO (X : Cx) (e : Option Expr) (t : TO) : Prop :=
  ∀ (pins : List (Addr × Obj)) (s : Shared) (σ : St) (H : Hp) (Q : Option Int → Hp → Prop), Inv X pins σ H s → t σ H Q →
    wpAny (model X.prog X.w) X.A (evalPart e X.env) (fun u s' => ∃ o H', Inv X pins σ H' s' ∧ IsPart u o ∧ Q o H') X.xe s
def tNoPart : TO := fun _ H Q => Q none H
def tPart (t : TE) : TO := fun σ H Q => t σ H fun x H1 => ∃ i, x = .int i ∧ Q (some i) H1


section
variable {X : Cx} {e : Expr} {te : TE} {lo hi : Option Expr} {tl th : TO} {pos p2 : Pos}

theorem po_none : PO X none tNoPart := by
  intro pins s σ H Q I h
  rw [evalPart_none]
  exact wpAny_pure ⟨none, H, I, .none, h⟩
theorem po_some (h : PE X e te) : PO X (some e) (tPart te) := by
  intro pins s σ H Q I hw
  rw [evalPart_some]
  refine thn (h pins s σ H _ I hw) fun u s1 ⟨x, H1, I1, r1, q1⟩ => ?_
  obtain ⟨i, rfl, q⟩ := q1
  obtain ⟨t, rfl⟩ := r1
  exact ⟨some i, H1, I1, .int i t, q⟩

def SlR (X : Cx) (r : V → Option Int → Option Int → Hp → VK → Prop) : Prop :=
  ∀ (pins : List (Addr × Obj)) (s : Shared) (σ : St) (H : Hp) (x : V) (v vl vu : Value) (lo hi : Option Int) (sl : Addr) (Q : VK), Inv X pins σ H s → RelV x v → s.heap.IsSliceOf sl vl vu .none → IsPart vl lo → IsPart vu hi → r x lo hi H Q →
    ∃ T id, typeLookup (.type T) "__getitem__" = pure (some (.builtin id)) ∧ s.TypeIs v T ∧ wpAny (model X.prog X.w) X.A (getItem v (.ref sl)) (EP X pins σ Q) X.xe s
def tSl (r : V → Option Int → Option Int → Hp → VK → Prop) (te : TE) (tl th : TO) : TE := fun σ H Q => te σ H fun x H1 => tl σ H1 fun l H2 => th σ H2 fun u H3 => r x l u H3 Q
theorem pe_slice {r : V → Option Int → Option Int → Hp → VK → Prop} (hr : SlR X r) (he : PE X e te) (hl : PO X lo tl) (hu : PO X hi th) : PE X (.Subscript e (.Slice lo hi none p2) pos) (tSl r te tl th) := by
  intro pins s σ H Q I h
  refine Subscript_ (thn (he pins s σ H _ I h) fun v s1 ⟨x, H1, I1, r1, q1⟩ => ?_)
  refine wpAny_Slice (thn (hl pins s1 σ H1 _ I1 q1) fun vl s2 ⟨l, H2, I2, pl, q2⟩ => thn (hu pins s2 σ H2 _ I2 q2) fun vu s3 ⟨u, H3, I3, pu, q3⟩ => ?_)
  rw [evalPart_none]
  refine wpAny_pure ?_
  have I4 : Inv X pins σ H3 { s3 with heap := s3.heap.push { cls := .type "slice", data := .fields #[vl, vu, .none] } } := I3.kept (t' := s3.toks) fun b ob q => Heap.get?_push_of_some _ q
  obtain ⟨T, id, hT, ht, hg⟩ := hr pins { s3 with heap := s3.heap.push { cls := .type "slice", data := .fields #[vl, vu, .none] } } σ H3 x v vl vu l u s3.heap.objs.size Q I4 r1 (Heap.IsSliceOf.new ..) pl pu q3
  show wpAny (model X.prog X.w) X.A (subscriptTail e (.Slice lo hi none p2) v (.ref s3.heap.objs.size)) (EP X pins σ Q) X.xe { s3 with heap := s3.heap.push { cls := .type "slice", data := .fields #[vl, vu, .none] } }
  exact tail_any (ops := [.ref s3.heap.objs.size, v]) ht hT hg (by with_unfolding_all rfl)

def cutV (xs : List V) (lo hi : Option Int) : List V := (xs.drop (HT.sIx xs.length 0 lo)).take (HT.sIx xs.length xs.length hi - HT.sIx xs.length 0 lo)
theorem cutV_length (xs : List V) (lo hi : Option Int) : (cutV xs lo hi).length ≤ xs.length := by
  unfold cutV
  rw [List.length_take, List.length_drop]
  omega
def rSlT (K : PySem.W.Frag) : V → Option Int → Option Int → Hp → VK → Prop := fun x lo hi H Q => ∃ a xs, x = .ref a ∧ SqT K H a xs ∧
  ¬ (HT.sIx xs.length 0 lo = 0 ∧ HT.sIx xs.length xs.length hi = xs.length) ∧ ∀ p, H p = none → Q (.ref p) (upd H p (.tup (cutV xs lo hi)))

def rLtT (K : PySem.W.Frag) : R2 := fun x y H Q => ∃ a b ns ms, x = .ref a ∧ y = .ref b ∧ SqT K H a (ns.map V.int) ∧ SqT K H b (ms.map V.int) ∧ Q (.bl (HT.lexLt ns ms)) H
def rCatT (K : PySem.W.Frag) : R2 := fun x y H Q => ∃ a b xs ys, x = .ref a ∧ y = .ref b ∧ SqT K H a xs ∧ SqT K H b ys ∧ xs ≠ [] ∧ xs.length + ys.length ≤ sizeLine ∧
  (ys = [] → Q (.ref a) H) ∧ (ys ≠ [] → ∀ p, H p = none → Q (.ref p) (upd H p (.tup (xs ++ ys))))
end
end L2

namespace L2
open PySem PySem.Spec PyProof.Rows

def ixN (n : Nat) (i : Int) : Option Nat := if 0 ≤ i then (if i < n then some i.toNat else none) else if -(n : Int) ≤ i then some (i + n).toNat else none
def atI {α : Type} (xs : List α) (i : Int) : Option α := (ixN xs.length i).bind fun j => xs[j]?
theorem ixN_seq {n : Nat} {i : Int} {j : Nat} (h : ixN n i = some j) : seqIndex? i n = some j ∧ j < n ∧ -(n : Int) ≤ i ∧ i < n := by
  unfold ixN at h
  by_cases h0 : 0 ≤ i
  · rw [if_pos h0] at h
    by_cases h1 : i < n
    · rw [if_pos h1] at h
      have e : i.toNat = j := Option.some.inj h
      exact ⟨by rw [seqIndex_of h0 h1, e], by omega, by omega, h1⟩
    · rw [if_neg h1] at h; cases h
  · rw [if_neg h0] at h
    by_cases h1 : -(n : Int) ≤ i
    · rw [if_pos h1] at h
      have e : (i + n).toNat = j := Option.some.inj h
      exact ⟨by rw [seqIndex_neg (by omega) h1, e], by omega, h1, by omega⟩
    · rw [if_neg h1] at h; cases h
theorem atI_get {α : Type} {xs : List α} {i : Int} {v : α} (h : atI xs i = some v) : ∃ j, seqIndex? i xs.length = some j ∧ xs[j]? = some v ∧ j < xs.length ∧ -(xs.length : Int) ≤ i ∧ i < xs.length := by
  unfold atI at h
  cases e : ixN xs.length i with
  | none => rw [e] at h; cases h
  | some j =>
    rw [e] at h
    obtain ⟨h1, h2, h3, h4⟩ := ixN_seq e
    exact ⟨j, h1, h, h2, h3, h4⟩
theorem atI_nat {α : Type} {xs : List α} {j : Nat} {v : α} (h : xs[j]? = some v) : atI xs (j : Int) = some v := by
  have hj : j < xs.length := (List.getElem?_eq_some_iff.mp h).1
  have e : ixN xs.length (j : Int) = some j := by
    unfold ixN
    rw [if_pos (by omega), if_pos (by omega)]; simp
  unfold atI; rw [e]; exact h
theorem atI_last {α : Type} (xs : List α) (v : α) : atI (xs ++ [v]) (-1) = some v := by
  have hl : (xs ++ [v]).length = xs.length + 1 := by simp
  have e : ixN (xs ++ [v]).length (-1) = some xs.length := by
    unfold ixN
    rw [hl, if_neg (by decide), if_pos (by omega)]
    congr 1
    omega
  unfold atI
  rw [e]
  show (xs ++ [v])[xs.length]? = some v
  simp

def PlainIx (b : Expr) : Prop := ∀ o i, subscripted b false o i = operate [o, i] (getItem o i)
def IxR (X : Cx) (r : R2) : Prop :=
  ∀ (value slice : Expr) (pins : List (Addr × Obj)) (s : Shared) (σ : St) (H : Hp) (x y : V) (v u : Value) (Q : VK), Inv X pins σ H s → RelV x v → RelV y u → r x y H Q →
    subscripted slice false v u = operate [v, u] (getItem v u) → wpAny (model X.prog X.w) X.A (subscriptTail value slice v u) (EP X pins σ Q) X.xe s
def MtR (X : Cx) (id : String) (r : V → List V → Hp → VK → Prop) : Prop :=
  ∀ (pins : List (Addr × Obj)) (s : Shared) (σ : St) (H : Hp) (x : V) (xs : List V) (v : Value) (us : List Value) (Q : VK), Inv X pins σ H s → RelV x v → Vals xs us → r x xs H Q →
    wpAny (model X.prog X.w) X.A (call (.builtin id) (v :: us)) (EP X pins σ Q) X.xe s
section
variable {X : Cx} {a b : Expr} {ta tb : TE} {pos : Pos}
theorem pe_ix {r : R2} (hr : IxR X r) (ha : PE X a ta) (hb : PE X b tb) (hs : PlainIx b) : PE X (.Subscript a b pos) (tOp r ta tb) := by
  intro pins s σ H Q I h
  exact Subscript_ (binT ha hb I h fun v u s2 x y H2 I2 rx ry q => hr a b pins s2 σ H2 x y v u Q I2 rx ry q (hs _ _))

def rIxL (K : PySem.W.Frag) : R2 := fun x y H Q => ∃ p xs i v, x = .ref p ∧ y = .int i ∧ SqL K H p xs ∧ atI xs i = some v ∧ Q v H
def rIxT (K : PySem.W.Frag) : R2 := fun x y H Q => ∃ p xs i v, x = .ref p ∧ y = .int i ∧ SqT K H p xs ∧ atI xs i = some v ∧ Q v H
def rIxS : R2 := fun x y H Q => ∃ z i c, x = .str z ∧ y = .int i ∧ z.length ≤ sizeLine ∧ atI z.cps.toList i = some c ∧ Q (.str ⟨#[c]⟩) H
theorem ix_list : IxR X (rIxL X.K) := by
  intro value slice pins s σ H x y v u Q I rx ry h hs
  obtain ⟨p, xs, i, z, rfl, rfl, hq, he, q⟩ := h
  cases rx
  obtain ⟨t, rfl⟩ := ry
  obtain ⟨its, r, pl, hz⟩ := I.list hq
  obtain ⟨j, h1, h2, h3, h4, h5⟩ := atI_get he
  obtain ⟨w, ew, rw'⟩ := r.get h2
  have hl := r.length
  have hn := line63
  have fin : EP X pins σ Q w s := ⟨z, H, I, rw', q⟩
  by_cases h0 : 0 ≤ i
  · have hj : i.toNat = j := by
      rw [seqIndex_of h0 h5] at h1
      exact Option.some.inj h1
    exact item_listR pl.isList h0 (by omega) (by rw [hj]; simpa using ew) fin hs
  · have hj : (i + (its.toArray.size : Int)).toNat = j := by
      rw [seqIndex_neg (by omega) h4] at h1
      rw [List.size_toArray, ← hl]
      exact Option.some.inj h1
    exact subscriptTail_builtinR (x := w) pl.isList.typeIs slot_list_getitem.lookup
      (wpAny_getItem_list_neg (Q := fun r s' => r = w ∧ EP X pins σ Q r s') pl.isList (by omega) (by rw [List.size_toArray] <;> omega) (by omega) (by rw [hj]; simpa using ew) ⟨rfl, fin⟩) hs
def rIx (K : PySem.W.Frag) : R2 := fun x y H Q => rIxL K x y H Q ∨ rIxT K x y H Q ∨ rIxS x y H Q

theorem mapSeq_set (its : List Value) (n j : Nat) (u : Value) : Obj.mapSeq (·.setIfInBounds j u) { cls := .type "list", data := .seq its.toArray n } = { cls := .type "list", data := .seq (its.set j u).toArray n } := by
  simp [Obj.mapSeq]
theorem Inv.lst {pins : List (Addr × Obj)} {σ : St} {H : Hp} {s : Shared} {p : Addr} {xs : List V} (I : Inv X pins σ H s) (h : H p = some (.lst xs)) :
    ∃ (its : List Value) (n : Nat), Vals xs its ∧ s.heap.get? p = some { cls := .type "list", data := .seq its.toArray n } ∧ xs.length ≤ sizeLine := by
  obtain ⟨z, its, n, r, e⟩ := I.hok p _ h
  exact ⟨its, n, r, e, z⟩
theorem Inv.lstUpd {pins : List (Addr × Obj)} {σ : St} {H : Hp} {s : Shared} {p : Addr} {xs ys : List V} {its its' : List Value} {n n' : Nat} {f : Obj → Obj} (I : Inv X pins σ H s) (h : H p = some (.lst xs))
    (ho : s.heap.get? p = some { cls := .type "list", data := .seq its.toArray n }) (hf : f { cls := .type "list", data := .seq its.toArray n } = { cls := .type "list", data := .seq its'.toArray n' }) (r : Vals ys its') (hz : ys.length ≤ sizeLine) (t : Nat) :
    Inv X pins σ (upd H p (.lst ys)) { s with heap := s.heap.update p f, toks := t } := by
  have e : (s.heap.update p f).get? p = some { cls := .type "list", data := .seq its'.toArray n' } := by
    rw [Heap.get?_update_self f ho (by rw [hf] <;> rfl), hf]
  refine I.write (x := p) (e := p) (by rw [h]; trivial) (.inl rfl) (fun b u hb q => (Heap.get?_update_other _ _ (Ne.symm hb)).trans q) ⟨_, e⟩ ?_
  exact ⟨hz, its', n', r, e⟩
def rSetL : V → V → V → Hp → (Hp → Prop) → Prop := fun o i v H Q => ∃ p xs k j, o = .ref p ∧ i = .int k ∧ H p = some (.lst xs) ∧ ixN xs.length k = some j ∧ Q (upd H p (.lst (xs.set j v)))
theorem set_list : PSet X rSetL := by
  intro pins s σ H o i v ov iv u Q I ro ri rv h
  obtain ⟨p, xs, k, j, rfl, rfl, hp, hj, q⟩ := h
  cases ro
  obtain ⟨t, rfl⟩ := ri
  obtain ⟨its, n, r, ho, hz⟩ := I.lst hp
  obtain ⟨h1, h2, h3, h4⟩ := ixN_seq hj
  have hl := r.length
  have hn := line63
  have I' : Inv X pins σ (upd H p (.lst (xs.set j v))) { s with heap := s.heap.update p (Obj.mapSeq (·.setIfInBounds j u)) } :=
    I.lstUpd hp ho (mapSeq_set its n j u) (r.set rv j) (by rw [List.length_set]; exact hz) s.toks
  by_cases h0 : 0 ≤ k
  · have hk : k.toNat = j := by
      rw [seqIndex_of h0 h4] at h1
      exact Option.some.inj h1
    exact PySem.W.ki_setAt ho h0 (by omega) (by rw [List.size_toArray, ← hl]; exact h4) (by rw [hk]; exact ⟨_, I', q⟩)
  · have hk : (k + (its.toArray.size : Int)).toNat = j := by
      rw [seqIndex_neg (by omega) h3] at h1
      rw [List.size_toArray, ← hl]
      exact Option.some.inj h1
    exact PySem.W.ki_setBack ho (by omega) (by rw [List.size_toArray, ← hl]; exact h3) (by omega) (by rw [hk]; exact ⟨_, I', q⟩)

theorem slice_bounds (lo hi : Option Int) (n : Nat) : (sliceBounds lo hi none n).1 = ((HT.sIx n 0 lo : Nat) : Int) ∧ (sliceBounds lo hi none n).2.1 = ((HT.sIx n n hi : Nat) : Int) ∧ (sliceBounds lo hi none n).2.2 = 1 := by
  refine ⟨?_, ?_, rfl⟩
  · cases lo with
    | none => simp [sliceBounds, HT.sIx]
    | some i =>
      simp only [sliceBounds, HT.sIx, Option.getD_none, show (1 : Int) > 0 by decide, if_true]
      by_cases h : i < 0
      · simp only [h, if_true] <;> omega
      · simp only [h, if_false] <;> omega
  · cases hi with
    | none => simp [sliceBounds, HT.sIx]
    | some i =>
      simp only [sliceBounds, HT.sIx, Option.getD_none, show (1 : Int) > 0 by decide, if_true]
      by_cases h : i < 0
      · simp only [h, if_true] <;> omega
      · simp only [h, if_false] <;> omega
theorem slicePick_cut (its : List Value) (lo hi : Option Int) : slicePick its.toArray lo hi none = ((its.drop (HT.sIx its.length 0 lo)).take (HT.sIx its.length its.length hi - HT.sIx its.length 0 lo)).toArray := by
  obtain ⟨h1, h2, h3⟩ := slice_bounds lo hi its.toArray.size
  unfold slicePick
  rw [h1, h2, h3]
  simp only [sliceRange_one, pick_run, List.size_toArray] <;> rfl
def rSlL (K : PySem.W.Frag) : V → Option Int → Option Int → Hp → VK → Prop := fun x lo hi H Q => ∃ a xs, x = .ref a ∧ SqL K H a xs ∧ ∀ p, H p = none → Q (.ref p) (upd H p (.lst (cutV xs lo hi)))
theorem sl_list : SlR X (rSlL X.K) := by
  intro pins s σ H x v vl vu lo hi sl Q I rx hs pl pu h
  obtain ⟨a, xs, rfl, hx, q⟩ := h
  cases rx
  obtain ⟨its, r, ht, hz⟩ := I.list hx
  have hlen := r.length
  refine ⟨"list", _, slot_list_getitem.lookup, ht.isList.typeIs, ?_⟩
  refine wpAny_getItem_list_slice ht.isList hs pl pu .none (by simp) ?_ (by rw [List.size_toArray] <;> omega)
  rw [slicePick_cut, ← hlen]
  refine ⟨.ref s.heap.objs.size, _, I.laid (t' := s.toks) (o := .lst (cutV xs lo hi)) (fun b ob q => Heap.get?_push_of_some _ q) (Nat.le_refl _) ?_, rfl, q _ (I.hok.fresh (Nat.le_refl _))⟩
  exact ⟨Nat.le_trans (cutV_length xs lo hi) hz, _, 0, (r.drop (HT.sIx xs.length 0 lo)).take (HT.sIx xs.length xs.length hi - HT.sIx xs.length 0 lo), Heap.get?_push_size _ rfl⟩

def flatV : V → Bool
  | .non => true
  | .bl _ => true
  | .int _ => true
  | .str _ => true
  | _ => false
def eqV : V → V → Bool
  | .non, .non => true
  | .bl a, .bl b => a == b
  | .bl a, .int b => (if a then 1 else 0) == b
  | .int a, .bl b => a == (if b then 1 else 0)
  | .int a, .int b => a == b
  | .str a, .str b => a == b
  | _, _ => false
def eqU (x : V) (u : Value) : Bool := match u with
  | .none => eqV .non x
  | .bool b => eqV (.bl b) x
  | .int i _ => eqV (.int i) x
  | .str z _ => eqV (.str z) x
  | _ => false
def inV (x : V) (xs : List V) : Bool := xs.any fun y => eqV y x
def rIn (K : PySem.W.Frag) (neg : Bool) : R2 := fun x y H Q => ∃ p xs, y = .ref p ∧ (SqL K H p xs ∨ SqT K H p xs) ∧ flatV x = true ∧ xs.all flatV = true ∧ Q (.bl (if neg then !inV x xs else inV x xs)) H

theorem call_len_seq : CallR X (.builtin "len") (fun xs H Q => ∃ p ys, xs = [.ref p] ∧ (SqL X.K H p ys ∨ SqT X.K H p ys) ∧ Q (.int ys.length) H) := by
  intro pins s σ H xs us Q I r h
  obtain ⟨p, ys, rfl, hq, q⟩ := h
  obtain ⟨u, rfl, rx⟩ := vals1 r
  cases rx
  have hn := line63
  rcases hq with hq | hq
  · obtain ⟨its, r', pl, hz⟩ := I.list hq
    have hlen := r'.length
    exact Calls.call_len_list pl.isList (by simp only [List.size_toArray] <;> omega) ⟨.int ys.length, H, I.tok _, ⟨s.toks + 1, by rw [List.size_toArray, hlen]⟩, q⟩
  · obtain ⟨its, r', pl, hz⟩ := I.tuple hq
    have hlen := r'.length
    exact len_tuple pl (by simp only [List.size_toArray] <;> omega) ⟨.int ys.length, H, I.tok _, ⟨s.toks + 1, by rw [List.size_toArray, hlen]⟩, q⟩
theorem call_list_of : CallR X (.type "list") (fun xs H Q => ∃ p ys, xs = [.ref p] ∧ (SqL X.K H p ys ∨ SqT X.K H p ys) ∧ ∀ l, H l = none → Q (.ref l) (upd H l (.lst ys))) := by
  intro pins s σ H xs us Q I r h
  obtain ⟨p, ys, rfl, hq, q⟩ := h
  obtain ⟨u, rfl, rx⟩ := vals1 r
  cases rx
  have fin : ∀ (its : List Value), Vals ys its → ys.length ≤ sizeLine → ∀ (h' : Heap) (c' : Nat), (∀ b o', s.heap.get? b = some o' → h'.get? b = some o') →
      h'.get? s.heap.objs.size = some { cls := .type "list", dict := none, data := .seq its.toArray c', slots := #[] } → EP X pins σ Q (.ref s.heap.objs.size) { s with heap := h' } := fun its r' hz h' c' kp e =>
    ⟨.ref s.heap.objs.size, _, I.laid (t' := s.toks) kp (Nat.le_refl _) (show ObjOk X.prog X.w _ h' _ (.lst ys) from ⟨hz, its, c', r', e⟩), rfl, q _ (I.hok.fresh (Nat.le_refl _))⟩
  rcases hq with hq | hq
  · obtain ⟨its, r', pl, hz⟩ := I.list hq
    have hlen := r'.length
    obtain ⟨o, ho, hc, n, hd⟩ := pl.isList
    exact call_list_seq p (.inl rfl) ho hc hd (fun h' c' kp e => fin its r' hz h' c' kp e) (by simp only [List.size_toArray] <;> omega)
  · obtain ⟨its, r', pl, hz⟩ := I.tuple hq
    have hlen := r'.length
    obtain ⟨o, ho, hc, n, hd⟩ := pl
    exact call_list_seq p (.inr rfl) ho hc hd (fun h' c' kp e => fin its r' hz h' c' kp e) (by simp only [List.size_toArray] <;> omega)

def tyV (K : PySem.W.Frag) (T : String) (x : V) (H : Hp) : Prop := match x with
  | .str _ => T = "str"
  | .int _ => T = "int"
  | .ref p => (T = "list" ∧ ∃ xs, SqL K H p xs) ∨ (T = "tuple" ∧ ∃ o, K.lookup p = some o ∧ o.cls = .type "tuple" ∧ o.dict = none) ∨
      (T = "dict" ∧ ((∃ kvs, H p = some (.dK kvs)) ∨ ∃ kvs, H p = some (.dT kvs))) ∨ (T = "set" ∧ ∃ S n, H p = some (.set S n))
  | _ => False
theorem tyV_is {pins : List (Addr × Obj)} {σ : St} {H : Hp} {s : Shared} {T : String} {x : V} {v : Value} (I : Inv X pins σ H s) (r : RelV x v) (ty : tyV X.K T x H) :
    s.TypeIs v T ∧ ∀ a, v = .ref a → ∃ ob, s.heap.get? a = some ob ∧ ob.dict = none := by
  cases x with
  | str z =>
    obtain ⟨t, rfl⟩ := r
    cases (show T = "str" from ty)
    exact ⟨typeIs_str s z t, fun _ e => nomatch e⟩
  | int i =>
    obtain ⟨t, rfl⟩ := r
    cases (show T = "int" from ty)
    exact ⟨typeIs_int s i t, fun _ e => nomatch e⟩
  | ref p =>
    cases r
    rcases ty with ⟨rfl, xs, hq⟩ | ⟨rfl, o, hk, hc, hd⟩ | ⟨rfl, hk⟩ | ⟨rfl, S, n, hk⟩
    · obtain ⟨its, _, pl, _⟩ := I.list hq
      refine ⟨pl.isList.typeIs, fun a e => ?_⟩
      cases e
      obtain ⟨o, n, e, c, hd, _⟩ := pl
      exact ⟨o, e, hd⟩
    · refine ⟨⟨o, I.kIn p o hk, hc⟩, fun a e => ?_⟩
      cases e
      exact ⟨o, I.kIn _ o hk, hd⟩
    · have z : ∃ o, s.heap.get? p = some o ∧ o.ExactDict := by
        rcases hk with ⟨kvs, hk⟩ | ⟨kvs, hk⟩
        · obtain ⟨_, _, _, _, o, _, _, e, ex, _⟩ := I.hok p _ hk
          exact ⟨o, e, ex⟩
        · obtain ⟨_, _, _, _, o, _, _, e, ex, _⟩ := I.hok p _ hk
          exact ⟨o, e, ex⟩
      obtain ⟨o, e, ex⟩ := z
      refine ⟨⟨o, e, ex.1⟩, fun a e2 => ?_⟩
      cases e2
      exact ⟨o, e, ex.2.1⟩
    · obtain ⟨o, _, _, _, e, ex, _⟩ := I.hok p _ hk
      refine ⟨⟨o, e, ex.1⟩, fun a e2 => ?_⟩
      cases e2
      exact ⟨o, e, ex.2.1⟩
  | _ => exact False.elim ty
def tBM0 (K : PySem.W.Frag) (T : String) (r : V → List V → Hp → VK → Prop) (to : TE) : TE := fun σ H Q => to σ H fun x H1 => tyV K T x H1 ∧ r x [] H1 Q
def tBM (K : PySem.W.Frag) (T : String) (r : V → List V → Hp → VK → Prop) (to : TE) (t : TA) : TE := fun σ H Q => to σ H fun x H1 => tyV K T x H1 ∧ t σ H1 fun xs H2 => r x xs H2 Q
variable {o e : Expr} {es : List Expr} {to : TE} {t : TA} {name : Str} {apos cpos : Pos} {T id : String} {r : V → List V → Hp → VK → Prop}
theorem pe_bm0 (pa : PlainAttrs T) (slot : Slot T name id) (hty : typeOf (.builtin id) = pure (.type "method_descriptor")) (hm : MtR X id r) (ho : PE X o to)
    (hbase : attributeBase o name X.env (eval o X.env) = eval o X.env := by rfl) (hline : (apos.endLine == cpos.line) = true := by rfl) : PE X (.Call (.Attribute o name apos) [] [] cpos) (tBM0 X.K T r to) := by
  intro pins s σ H Q I h
  refine wpAny_Call_method0_late hbase hline (thn (ho pins s σ H _ I h) fun v s1 ⟨x, H1, I1, r1, ty, q1⟩ => ?_)
  obtain ⟨h1, h2⟩ := tyV_is I1 r1 ty
  exact ⟨T, id, pa, slot, hty, h1, h2, Calls.callWith_builtin rfl (PySem.evalArgs_none (hm pins s1 σ H1 x [] v [] Q I1 r1 .nil q1))⟩
/- xs.append(e), list.index on a module's tuple .. are MtR facts of 06m -/
end
end L2

namespace L2
open PySem PySem.Spec PyProof.Rows

def MtM (X : Cx) (id : String) (r : V → List V → Hp → VK → Prop) : Prop :=
  ∀ (pins : List (Addr × Obj)) (s : Shared) (σ : St) (H : Hp) (x : V) (xs : List V) (v : Value) (us : List Value) (Q : VK), Inv X pins σ H s → RelV x v → Vals xs us → r x xs H Q →
    wpAny (model X.prog X.w) X.A (call (.builtin id) (v :: us)) (EP X pins σ Q) X.xe s

theorem Vals.one : ∀ {x : V} {us : List Value}, Vals [x] us → ∃ u, us = [u] ∧ RelV x u
  | _, _, .cons r .nil => ⟨_, rfl, r⟩
theorem Vals.zero : ∀ {us : List Value}, Vals [] us → us = []
  | _, .nil => rfl
theorem Vals.dropLast {xs : List V} {us : List Value} (h : Vals xs us) : Vals xs.dropLast us.dropLast := by
  induction h with
  | nil => exact .nil
  | cons r t ih =>
    cases t with
    | nil => exact .nil
    | cons q t' => exact .cons r ih
theorem Vals.rep {xs : List V} {us : List Value} (h : Vals xs us) : ∀ k : Nat, Vals (List.replicate k xs).flatten (List.replicate k us).flatten
  | 0 => .nil
  | k + 1 => by
    rw [List.replicate_succ, List.replicate_succ, List.flatten_cons, List.flatten_cons]
    exact Vals.append h (Vals.rep h k)
theorem erase_last {α : Type} (l : List α) : l.eraseIdx (l.length - 1) = l.dropLast := by
  induction l with
  | nil => rfl
  | cons a r ih =>
    cases r with
    | nil => rfl
    | cons b r =>
      have e : (a :: b :: r).length - 1 = ((b :: r).length - 1) + 1 := by
        have h1 : (a :: b :: r).length = r.length + 2 := rfl
        have h2 : (b :: r).length = r.length + 1 := rfl
        omega
      rw [e, List.eraseIdx_cons_succ, ih]
      all_goals rfl
theorem foldl_rep (its : List Value) : ∀ (k : Nat) (acc : List Value),
    List.foldl (fun x1 x2 => x1 ++ x2) acc.toArray (List.replicate k its.toArray) = (acc ++ (List.replicate k its).flatten).toArray
  | 0, acc => by simp
  | k + 1, acc => by
    have e : acc.toArray ++ its.toArray = (acc ++ its).toArray := by simp
    have e2 : (acc ++ its) ++ (List.replicate k its).flatten = acc ++ (List.replicate (k + 1) its).flatten := by
      rw [List.replicate_succ, List.flatten_cons, List.append_assoc]
    rw [← e2, ← foldl_rep its k (acc ++ its), ← e, List.replicate_succ, List.foldl_cons]

section
variable {X : Cx} {pins : List (Addr × Obj)} {σ : St} {H : Hp} {s : Shared} {l b : Addr} {xs ys zs : List V}

theorem Inv.lset {its its' : List Value} {n : Nat} {f : Array Value → Array Value} {t' : Nat} (I : Inv X pins σ H s) (hH : H l = some (.lst xs))
    (e : s.heap.get? l = some { cls := .type "list", data := .seq its.toArray n }) (hf : f its.toArray = its'.toArray) (hv : Vals ys its') (hz : ys.length ≤ sizeLine) :
    Inv X pins σ (upd H l (.lst ys)) { s with heap := s.heap.update l (Obj.mapSeq f), toks := t' } := by
  have q := PySem.IsL.update e f
  rw [hf] at q
  refine I.write (x := l) (e := l) (by rw [hH]; exact trivial) (.inl rfl) (fun b' u hb hu => (Heap.get?_update_other s.heap (Obj.mapSeq f) (Ne.symm hb)).trans hu) ⟨_, q⟩ ?_
  exact ⟨hz, its', _, hv, q⟩
theorem Inv.lnew {its : List Value} {t' : Nat} (I : Inv X pins σ H s) (hv : Vals ys its) (hz : ys.length ≤ sizeLine) :
    Inv X pins σ (upd H s.heap.objs.size (.lst ys)) { s with heap := s.heap.push { cls := .type "list", data := .seq its.toArray }, toks := t' } :=
  I.laid (fun _ _ q => Heap.get?_push_of_some _ q) (Nat.le_refl _) ⟨hz, its, 0, hv, Heap.get?_push_size _ rfl⟩
theorem Inv.fresh (I : Inv X pins σ H s) : H s.heap.objs.size = none := I.hok.fresh (Nat.le_refl _)
theorem Inv.lstM (I : Inv X pins σ H s) (hH : H l = some (.lst xs)) : xs.length ≤ sizeLine ∧ ∃ (its : List Value) (n : Nat), Vals xs its ∧ xs.length = its.length ∧ s.heap.get? l = some { cls := .type "list", data := .seq its.toArray n } := by
  obtain ⟨z, its, n, r, e⟩ := I.hok l _ hH
  exact ⟨z, its, n, r, r.length, e⟩

theorem notLongL {n : Nat} (h : n ≤ sizeLine) : Builtin.List.listTooLong n = false := by
  unfold Builtin.List.listTooLong
  exact decide_eq_false (by omega)
end

section
variable {X : Cx}

def rAppend : V → List V → Hp → VK → Prop := fun x vs H Q => ∃ l xs y, x = .ref l ∧ vs = [y] ∧ H l = some (.lst xs) ∧ xs.length < sizeLine ∧ Q .non (upd H l (.lst (xs ++ [y])))
theorem mt_append : MtM X "list.append" rAppend := by
  intro pins s σ H x vs v us Q I rx rv h
  obtain ⟨l, xs, y, rfl, rfl, hH, hz, q⟩ := h
  cases rx
  obtain ⟨u, rfl, ru⟩ := rv.one
  obtain ⟨z, its, n, r, hl, e⟩ := I.lstM hH
  refine call_meets F.slot_list_append ⟨_, e, rfl⟩ F.entry_list_append (F.args_list_append_2 _ _) (PySem.list_append l its.toArray n u (by rw [List.size_toArray]; omega)) ⟨e, ?_⟩
  refine ⟨.non, _, I.lset (its' := its ++ [u]) hH e (by simp) (r.append (.cons ru .nil)) ?_, rfl, q⟩
  rw [List.length_append, List.length_singleton]
  omega

def rExtend : V → List V → Hp → VK → Prop := fun x vs H Q => ∃ l b xs zs, x = .ref l ∧ vs = [.ref b] ∧ H l = some (.lst xs) ∧ H b = some (.lst zs) ∧ xs.length + zs.length ≤ sizeLine ∧ Q .non (upd H l (.lst (xs ++ zs)))
theorem mt_extend : MtM X "list.extend" rExtend := by
  intro pins s σ H x vs v us Q I rx rv h
  obtain ⟨l, b, xs, zs, rfl, rfl, hH, hB, hz, q⟩ := h
  cases rx
  obtain ⟨u, rfl, ru⟩ := rv.one
  cases ru
  obtain ⟨z, its, n, r, hl, e⟩ := I.lstM hH
  obtain ⟨z2, its2, n2, r2, hl2, e2⟩ := I.lstM hB
  have hsz : its.toArray.size + its2.toArray.size ≤ sizeLine := by rw [List.size_toArray, List.size_toArray]; omega
  have hlong : ¬ (!its.toArray.isEmpty && Builtin.List.listTooLong (its.toArray.size + its2.toArray.size)) = true := by
    rw [notLongL hsz, Bool.and_false]
    exact Bool.false_ne_true
  refine call_meets F.slot_list_extend ⟨_, e, rfl⟩ F.entry_list_extend (F.args_list_extend_2 _ _)
    (AutoSeq1.list_extend_list_list_0 l its.toArray n b its2.toArray n2 hlong (by rw [List.size_toArray]; omega) (by omega)) ⟨e, e2, ?_⟩
  refine ⟨.non, _, I.lset (its' := its ++ its2) hH e (by simp) (r.append r2) ?_, rfl, q⟩
  rw [List.length_append]
  omega

def rPop : V → List V → Hp → VK → Prop := fun x vs H Q => ∃ l xs y, x = .ref l ∧ vs = [] ∧ H l = some (.lst xs) ∧ xs[xs.length - 1]? = some y ∧ Q y (upd H l (.lst xs.dropLast))
theorem mt_pop : MtM X "list.pop" rPop := by
  intro pins s σ H x vs v us Q I rx rv h
  obtain ⟨l, xs, y, rfl, rfl, hH, hy, q⟩ := h
  cases rx
  have hus := rv.zero
  subst hus
  obtain ⟨z, its, n, r, hl, e⟩ := I.lstM hH
  obtain ⟨u, hu, ru⟩ := r.get hy
  have hy' : its.toArray[its.toArray.size - 1]? = some u := by
    show its.toArray[its.length - 1]? = some u
    rw [← Array.getElem?_toList, ← hl]
    exact hu
  refine call_meets F.slot_list_pop ⟨_, e, rfl⟩ F.entry_list_pop (F.args_list_pop_1 _) (MeetsSeq.list_pop_last l its.toArray n u hy' (by rw [List.size_toArray]; omega)) ⟨e, ?_⟩
  refine ⟨y, _, I.lset (its' := its.dropLast) hH e ?_ r.dropLast ?_, ru, q⟩
  · show its.toArray.eraseIdxIfInBounds (its.toArray.size - 1) = its.dropLast.toArray
    rw [List.size_toArray, List.eraseIdxIfInBounds_toArray, erase_last]
  · rw [List.length_dropLast]
    omega

def rPopAt : V → List V → Hp → VK → Prop := fun x vs H Q => ∃ l xs i k y, x = .ref l ∧ vs = [.int i] ∧ H l = some (.lst xs) ∧ -(2 ^ 63) ≤ i ∧ i < 2 ^ 63 ∧ seqIndex? i xs.length = some k ∧ xs[k]? = some y ∧ Q y (upd H l (.lst (xs.eraseIdx k)))

def rReverse : V → List V → Hp → VK → Prop := fun x vs H Q => ∃ l xs, x = .ref l ∧ vs = [] ∧ H l = some (.lst xs) ∧ Q .non (upd H l (.lst xs.reverse))

def rClear : V → List V → Hp → VK → Prop := fun x vs H Q => ∃ l xs, x = .ref l ∧ vs = [] ∧ H l = some (.lst xs) ∧ Q .non (upd H l (.lst []))

def rCat : R2 := fun x y H Q => ∃ l b xs zs, x = .ref l ∧ y = .ref b ∧ H l = some (.lst xs) ∧ H b = some (.lst zs) ∧ xs.length + zs.length ≤ sizeLine ∧ ∀ p, H p = none → Q (.ref p) (upd H p (.lst (xs ++ zs)))
theorem op_cat : OpR X (binaryOp .Add) rCat := by
  intro pins s σ H x y v u Q I rx ry h
  obtain ⟨l, b, xs, zs, rfl, rfl, hH, hB, hz, q⟩ := h
  cases rx
  cases ry
  obtain ⟨z, its, n, r, hl, e⟩ := I.lstM hH
  obtain ⟨z2, its2, n2, r2, hl2, e2⟩ := I.lstM hB
  refine PySem.P.add_list e e2 ?_ (by rw [List.size_toArray, List.size_toArray]; omega)
  have ea : its.toArray ++ its2.toArray = (its ++ its2).toArray := by simp
  rw [ea]
  exact ⟨.ref _, _, I.lnew (t' := s.toks) (r.append r2) (by rw [List.length_append]; omega), rfl, q _ I.fresh⟩
def rRep : R2 := fun x y H Q => ∃ l k xs, x = .ref l ∧ y = .int k ∧ H l = some (.lst xs) ∧ -(2 ^ 63) ≤ k ∧ k < 2 ^ 63 ∧ xs.length * k.toNat ≤ sizeLine ∧
  ∀ p, H p = none → Q (.ref p) (upd H p (.lst (List.replicate k.toNat xs).flatten))
theorem len_rep {α : Type} (xs : List α) (k : Nat) : (List.replicate k xs).flatten.length = k * xs.length := by
  induction k with
  | zero => simp
  | succ k ih => rw [List.replicate_succ, List.flatten_cons, List.length_append, ih, Nat.succ_mul, Nat.add_comm]
theorem op_rep : OpR X (binaryOp .Mult) rRep := by
  intro pins s σ H x y v u Q I rx ry h
  obtain ⟨l, k, xs, rfl, rfl, hH, h1, h2, hz, q⟩ := h
  cases rx
  obtain ⟨t, rfl⟩ := ry
  obtain ⟨z, its, n, r, hl, e⟩ := I.lstM hH
  have hlen : its.toArray.size * k.toNat ≤ sizeLine := by rw [List.size_toArray, ← hl]; exact hz
  have hcap : ¬ its.toArray.size * k.toNat > (2 ^ 63 - 1) / 8 := by
    have : (sizeLine : Nat) ≤ (2 ^ 63 - 1) / 8 := by decide
    omega
  have hfit : ¬ (!Builtin.List.listFitsIndex k) = true := by
    rw [fitsIndex_both h1 h2]
    exact Bool.false_ne_true
  have hlong : ¬ Builtin.List.listTooLong (its.toArray.size * k.toNat) = true := by
    rw [notLongL hlen]
    exact Bool.false_ne_true
  have hnew : List.foldl (fun x1 x2 => x1 ++ x2) #[] (List.replicate (if its.toArray.isEmpty = true then 0 else k.toNat) its.toArray) = (List.replicate k.toNat its).flatten.toArray := by
    have f0 : ∀ m : Nat, List.foldl (fun x1 x2 => x1 ++ x2) #[] (List.replicate m its.toArray) = (List.replicate m its).flatten.toArray := fun m => by
      have := foldl_rep its m []
      rw [List.nil_append] at this
      exact this
    rw [f0]
    cases its with
    | nil => simp
    | cons a r' => rw [if_neg (by simp)]
  refine wpAny_binaryOp_repeat_ref (T := "list") (U := "int") (by decide) ⟨_, e, rfl⟩ (fun s' => typeIs_int s' k t) noFill_list_mul F.fills_int_mul F.slot_int_rmul repeat_list F.slot_int_index.lookup
    (call_meets F.slot_int_rmul (typeIs_int s k t) F.entry_int_rmul (F.args_int_rmul_2 _ _) (int___rmul___int_list k t l its.toArray n)
      ⟨e, rfl, ⟨_, e, rfl⟩, call_meets F.slot_list_mul ⟨_, e, rfl⟩ F.entry_list_mul (F.args_list_mul_2 _ _) (AutoListH.list___mul___list_int_3 l its.toArray n k t hfit hcap hlong) ⟨e, ?_⟩⟩)
  rw [hnew]
  exact ⟨.ref _, _, I.lnew (t' := s.toks) (r.rep k.toNat) (by rw [len_rep, Nat.mul_comm]; exact hz), rfl, q _ I.fresh⟩

end

section
variable {prog : Program} {w : World} {A : Around} {E : Value → Shared → Prop} {s : Shared}
set_option maxRecDepth 100000 in
end

section
variable {X : Cx}
end
end L2

namespace L2
open PySem PySem.Spec PyProof.Rows

theorem Vals.ints : ∀ {ns : List Int} {us : List Value}, Vals (ns.map V.int) us → IntsAre us ns
  | [], us, h => by
    rw [List.map_nil] at h
    cases h
    exact IntsAre.nil
  | n :: ns, us, h => by
    rw [List.map_cons] at h
    cases h with
    | cons r t =>
      obtain ⟨k, rfl⟩ := r
      exact IntsAre.cons n k (Vals.ints t)
theorem vals_of_ints : ∀ {us : List Value} {ns : List Int}, IntsAre us ns → Vals (ns.map V.int) us
  | _, _, .nil => by rw [List.map_nil]; exact Paired.nil
  | _, _, .cons n t h => by rw [List.map_cons]; exact Paired.cons (show RelV (V.int n) (Value.int n t) from ⟨t, rfl⟩) (vals_of_ints h)
theorem Vals.bls : ∀ {bs : List Bool} {us : List Value}, Vals (bs.map V.bl) us → us = bs.map Value.bool
  | [], us, h => by
    rw [List.map_nil] at h
    cases h
    rfl
  | b :: bs, us, h => by
    rw [List.map_cons] at h
    cases h with
    | cons r t =>
      cases r
      rw [Vals.bls t, List.map_cons]
theorem Vals.ref1 {a : Addr} {us : List Value} (r : Vals [V.ref a] us) : us = [Value.ref a] := by
  cases r with
  | cons r t =>
    cases t
    cases r
    rfl

section
variable {prog : Program} {w : World} {A : Around} {E : Value → Shared → Prop} {s : Shared} {l : Addr} {its : List Value} {ns : List Int} {Q : Value → Shared → Prop}
end

section
variable {X : Cx}
def rSum (K : PySem.W.Frag) : List V → Hp → VK → Prop := fun vs H Q => ∃ (a : Addr) (ns : List Int), vs = [V.ref a] ∧ SqL K H a (ns.map V.int) ∧ Q (.int ns.sum) H
def rMax (K : PySem.W.Frag) : List V → Hp → VK → Prop := fun vs H Q => ∃ (a : Addr) (ns : List Int), vs = [V.ref a] ∧ SqL K H a (ns.map V.int) ∧ 0 < ns.length ∧ ∀ m, m ∈ ns → (∀ y, y ∈ ns → y ≤ m) → Q (.int m) H
def rMin (K : PySem.W.Frag) : List V → Hp → VK → Prop := fun vs H Q => ∃ (a : Addr) (ns : List Int), vs = [V.ref a] ∧ SqL K H a (ns.map V.int) ∧ 0 < ns.length ∧ ∀ m, m ∈ ns → (∀ y, y ∈ ns → m ≤ y) → Q (.int m) H

def rSorted (K : PySem.W.Frag) : List V → Hp → VK → Prop := fun vs H Q => ∃ (a : Addr) (ns : List Int), vs = [V.ref a] ∧ SqL K H a (ns.map V.int) ∧ ns.length < 64 ∧
  ∀ (ns' : List Int) (p : Addr), ns'.Perm ns → ns'.Pairwise (· ≤ ·) → H p = none → Q (.ref p) (upd H p (.lst (ns'.map V.int)))
def rSortedS (K : PySem.W.Frag) : List V → Hp → VK → Prop := fun vs H Q => ∃ (a : Addr) (xs : List Str), vs = [V.ref a] ∧ SqL K H a (xs.map V.str) ∧ xs.length < 64 ∧
  ∀ (ys : List Str) (p : Addr), ys.Perm xs → sortedS ys = true → H p = none → Q (.ref p) (upd H p (.lst (ys.map V.str)))
def rSort : V → List V → Hp → VK → Prop := fun x xs H Q => ∃ (a : Addr) (ns : List Int), x = V.ref a ∧ xs = [] ∧ H a = some (.lst (ns.map V.int)) ∧ ns.length < 64 ∧
  ∀ ns' : List Int, ns'.Perm ns → ns'.Pairwise (· ≤ ·) → Q .non (upd H a (.lst (ns'.map V.int)))
end

section
variable {X : Cx}
def rIndex (K : PySem.W.Frag) : V → List V → Hp → VK → Prop := fun x xs H Q => ∃ (a : Addr) (ys : List V) (y : V) (j : Nat) (z : V), x = V.ref a ∧ xs = [y] ∧ SqL K H a ys ∧ flatV y = true ∧ ys.all flatV = true ∧ ys[j]? = some z ∧ eqV z y = true ∧
  (∀ (m : Nat) (z' : V), m < j → ys[m]? = some z' → eqV z' y = false) ∧ Q (.int (j : Nat)) H
end

section
variable {X : Cx}
end

theorem iter_any {prog : Program} {w : World} {A : Around} {E : Value → Shared → Prop} {s : Shared} {l : Addr} {items : Array Value} {Q : Value → Shared → Prop} (hl : s.heap.IsList l items)
    (h : ∀ s₂ : Shared, s₂ = { s with heap := s.heap.push { cls := .type "list_iterator", data := .fields #[.ref l, .int 0 0] } } →
      (s₂.heap.IsListIter s.heap.objs.size l 0 ∧ s₂.heap.IsList l items) → l ≠ s.heap.objs.size → Q (.ref s.heap.objs.size) s₂) : wpAny (model prog w) A (pyIter (.ref l)) Q E s := by
  have hlt : l < s.heap.objs.size := by obtain ⟨_, e, _⟩ := hl; exact Heap.lt_size e
  exact wpAny_pyIter_list hl (h _ rfl ⟨⟨_, Heap.get?_push_size _ rfl, rfl, rfl⟩, hl.push _⟩ (Nat.ne_of_lt hlt))
theorem truth_bools {prog : Program} {w : World} {A : Around} {bs : List Bool} {its : List Value} (e : its = bs.map Value.bool) :
    TruthOf prog w A (fun i v => its.toArray[i]? = some v) (fun i => bs.getD i false) := fun i v s Q E hv hq => by
  have hv' : its[i]? = some v := by simpa using hv
  rw [e, List.getElem?_map] at hv'
  obtain ⟨b, hb, rfl⟩ := Option.map_eq_some_iff.mp hv'
  have hg : bs.getD i false = b := by rw [List.getD_eq_getElem?_getD, hb] <;> rfl
  have hq' : Q (bs.getD i false) s := hq
  rw [hg] at hq'
  exact wpAny_truthy_bool hq'
theorem any_range : ∀ bs : List Bool, (List.range bs.length).any (fun i => bs.getD i false) = bs.any id
  | [] => rfl
  | b :: bs => by
    rw [List.length_cons, List.range_succ_eq_map, List.any_cons, List.any_map, List.any_cons, ← any_range bs]
    all_goals rfl
theorem all_range : ∀ bs : List Bool, (List.range bs.length).all (fun i => bs.getD i false) = bs.all id
  | [] => rfl
  | b :: bs => by
    rw [List.length_cons, List.range_succ_eq_map, List.all_cons, List.all_map, List.all_cons, ← all_range bs]
    all_goals rfl
section
variable {X : Cx}
def rAny (K : PySem.W.Frag) : List V → Hp → VK → Prop := fun vs H Q => ∃ (a : Addr) (bs : List Bool), vs = [V.ref a] ∧ SqL K H a (bs.map V.bl) ∧ Q (.bl (bs.any id)) H
def rAll (K : PySem.W.Frag) : List V → Hp → VK → Prop := fun vs H Q => ∃ (a : Addr) (bs : List Bool), vs = [V.ref a] ∧ SqL K H a (bs.map V.bl) ∧ Q (.bl (bs.all id)) H
theorem cr_any (hc : X.calm = true) : CallR X (.builtin "any") (rAny X.K) := by
  intro pins s σ H vs us Q I r h
  obtain ⟨a, bs, rfl, hs, q⟩ := h
  obtain ⟨its, rv, hl, _⟩ := I.list hs
  rw [Vals.ref1 r]
  have hb := rv.bls
  refine call_any_walk (iter_any hl.isList fun s₂ e2 st hne => ?_)
  subst e2
  refine ⟨_, _, _, _, _, _, _, rfl, Walks.list (A := X.A.in1) (I.ok.hd hc) _ a hne its.toArray, st, truth_bools hb, fun h' tk hk => ?_⟩
  refine ⟨.bl _, H, I.kept fun b o eo => hk b o (fun hmem => ?_) (Heap.get?_push_of_some _ eo), ?_, q⟩
  · rcases List.mem_cons.mp hmem with e1 | hmem
    · exact absurd (e1 ▸ Heap.lt_size eo) (Nat.lt_irrefl _)
    · cases hmem
  · show Value.bool _ = Value.bool _
    rw [← any_range, hb, List.size_toArray, List.length_map]
theorem cr_all (hc : X.calm = true) : CallR X (.builtin "all") (rAll X.K) := by
  intro pins s σ H vs us Q I r h
  obtain ⟨a, bs, rfl, hs, q⟩ := h
  obtain ⟨its, rv, hl, _⟩ := I.list hs
  rw [Vals.ref1 r]
  have hb := rv.bls
  refine call_all_walk (iter_any hl.isList fun s₂ e2 st hne => ?_)
  subst e2
  refine ⟨_, _, _, _, _, _, _, rfl, Walks.list (A := X.A.in1) (I.ok.hd hc) _ a hne its.toArray, st, truth_bools hb, fun h' tk hk => ?_⟩
  refine ⟨.bl _, H, I.kept fun b o eo => hk b o (fun hmem => ?_) (Heap.get?_push_of_some _ eo), ?_, q⟩
  · rcases List.mem_cons.mp hmem with e1 | hmem
    · exact absurd (e1 ▸ Heap.lt_size eo) (Nat.lt_irrefl _)
    · cases hmem
  · show Value.bool _ = Value.bool _
    rw [← all_range, hb, List.size_toArray, List.length_map]
end

mutual
inductive Dp (K : PySem.W.Frag) (H : Hp) : V → PyData → Prop
  | non : Dp K H .non .none
  | bl (b : Bool) : Dp K H (.bl b) (.bool b)
  | int (i : Int) : Dp K H (.int i) (.int i)
  | str (x : Str) : Dp K H (.str x) (.str x)
  | lst {a : Addr} {xs : List V} {ds : List PyData} : SqL K H a xs → DpAll K H xs ds → Dp K H (.ref a) (.list ds)
  | tup {a : Addr} {xs : List V} {ds : List PyData} : SqT K H a xs → DpAll K H xs ds → Dp K H (.ref a) (.tuple ds)
inductive DpAll (K : PySem.W.Frag) (H : Hp) : List V → List PyData → Prop
  | nil : DpAll K H [] []
  | cons {v : V} {vs : List V} {d : PyData} {ds : List PyData} : Dp K H v d → DpAll K H vs ds → DpAll K H (v :: vs) (d :: ds)
end
section
variable {X : Cx} {pins : List (Addr × Obj)} {σ : St} {H : Hp} {s : Shared}
mutual
theorem Dp.reads (I : Inv X pins σ H s) : ∀ (d : PyData) (v : V) (u : Value), Dp X.K H v d → RelV v u → ∃ as, Reads s.heap u d as
  | .none, _, _, h, r => by
    cases h
    cases r
    exact ⟨_, Reads.none⟩
  | .bool b, _, _, h, r => by
    cases h
    cases r
    exact ⟨_, Reads.bool b⟩
  | .int i, _, _, h, r => by
    cases h
    obtain ⟨t, rfl⟩ := r
    exact ⟨_, Reads.int i t⟩
  | .str x, _, _, h, r => by
    cases h
    obtain ⟨t, rfl⟩ := r
    exact ⟨_, Reads.str x t⟩
  | .list ds, _, _, h, r => by
    cases h with
    | lst hs ha =>
      cases r
      obtain ⟨its, rv, ⟨o, n, ho, hc, _, hd⟩, _⟩ := I.list hs
      obtain ⟨as, hr⟩ := Dp.readsAll I ds _ its ha rv
      exact ⟨_, Reads.list ho hc hd hr⟩
  | .tuple ds, _, _, h, r => by
    cases h with
    | tup hs ha =>
      cases r
      obtain ⟨its, rv, ⟨o, ho, hc, n, hd⟩, _⟩ := I.tuple hs
      obtain ⟨as, hr⟩ := Dp.readsAll I ds _ its ha rv
      exact ⟨_, Reads.tuple ho hc hd hr⟩
  | .dict _, _, _, h, _ => by cases h
theorem Dp.readsAll (I : Inv X pins σ H s) : ∀ (ds : List PyData) (vs : List V) (us : List Value), DpAll X.K H vs ds → Vals vs us → ∃ as, ReadsAll s.heap us ds as
  | [], _, _, h, r => by
    cases h
    cases r
    exact ⟨_, ReadsAll.nil⟩
  | d :: ds, _, _, h, r => by
    cases h with
    | cons h1 h2 =>
      cases r with
      | cons r1 r2 =>
        obtain ⟨as, q1⟩ := Dp.reads I d _ _ h1 r1
        obtain ⟨bs, q2⟩ := Dp.readsAll I ds _ _ h2 r2
        exact ⟨_, ReadsAll.cons q1 q2⟩
end
end
section
variable {X : Cx}
def rEqD (K : PySem.W.Frag) : R2 := fun x y H Q => ∃ d e, Dp K H x d ∧ Dp K H y e ∧ SeqAt.shaped d = true ∧ SeqAt.shaped e = true ∧ Q (.bl (PyData.eqv d e)) H
def rNeD (K : PySem.W.Frag) : R2 := fun x y H Q => ∃ d e, Dp K H x d ∧ Dp K H y e ∧ SeqAt.shaped d = true ∧ SeqAt.shaped e = true ∧ Q (.bl (!PyData.eqv d e)) H
end
end L2

namespace L2
open PySem PySem.Spec PyProof.Rows
abbrev CellAt (h : Heap) (c : Addr) (v : Option Value) : Prop := h.IsCell c v
def relS (scope sc : Scope) : Scope :=
  { scope with names := scope.names.map fun (n, k) => if (k == .free && sc.kind == .function && sc.names.lookup n == some .cell) then (n, .cell) else (n, k) }

def cloFrom (cells : List (Str × Addr)) : List (Str × NameKind) → List (Str × Addr) → List (Str × Addr)
  | [], acc => acc
  | (n, k) :: r, acc => if k == .free then cloFrom cells r ((n, (cells.lookup n).getD 0) :: acc) else cloFrom cells r acc

theorem closure_loop (env : Env) (f : Str × NameKind → List (Str × Addr) → Sem (ForInStep (List (Str × Addr))))
    (hf : ∀ n k c, f (n, k) c = if k == .free then (do let a ← cellOf env n; pure (.yield ((n, a) :: c))) else pure (.yield c)) :
    ∀ (names : List (Str × NameKind)) (acc : List (Str × Addr)), (∀ y ∈ names, y.2 = .free → ∃ c, env.cells.lookup y.1 = some c) → forIn names acc f = pure (cloFrom env.cells names acc)
  | [], acc, _ => by rw [List.forIn_nil]; rfl
  | (n, k) :: r, acc, h => by
    rw [List.forIn_cons, hf]
    have ih := fun acc => closure_loop env f hf r acc fun y hy => h y (List.mem_cons_of_mem _ hy)
    unfold cloFrom
    by_cases hk : (k == NameKind.free) = true
    · rw [if_pos hk, if_pos hk]
      obtain ⟨c, hc⟩ := h (n, k) List.mem_cons_self (by simpa using hk)
      have e : cellOf env n = pure c := by unfold cellOf; rw [hc]
      rw [e]
      have e2 : (env.cells.lookup n).getD 0 = c := by rw [hc]; rfl
      rw [e2]
      exact ih _
    · rw [if_neg hk, if_neg hk]
      exact ih _
theorem closure_ok {scope : Scope} {env : Env} (h : ∀ y ∈ scope.names, y.2 = .free → ∃ c, env.cells.lookup y.1 = some c) : closureFor scope env = pure (cloFrom env.cells scope.names []) := by
  simp only [closureFor]
  rw [closure_loop env _ (fun n k c => rfl) scope.names [] h]
  rfl

theorem mem_lookup {α : Type} : ∀ {l : List (Str × α)} {n : Str} {c : α}, (n, c) ∈ l → ∃ c', l.lookup n = some c'
  | (k, v) :: r, n, c, h => by
    rw [List.lookup_cons]
    cases hb : n == k with
    | true => exact ⟨_, rfl⟩
    | false =>
      rcases List.mem_cons.mp h with e | h
      · cases e; simp at hb
      · exact mem_lookup h

theorem cloFrom_mem {cells : List (Str × Addr)} : ∀ {names : List (Str × NameKind)} {acc : List (Str × Addr)} {n : Str} {c : Addr}, (n, c) ∈ cloFrom cells names acc → (n, c) ∈ acc ∨ ((n, .free) ∈ names ∧ c = (cells.lookup n).getD 0)
  | [], _, _, _, h => .inl h
  | (m, k) :: r, acc, n, c, h => by
    unfold cloFrom at h
    split at h
    · rename_i hk
      have hk : k = .free := by simpa using hk
      rcases cloFrom_mem h with h | ⟨h1, h2⟩
      · rcases List.mem_cons.mp h with e | h
        · cases e; exact .inr ⟨hk ▸ List.mem_cons_self, rfl⟩
        · exact .inl h
      · exact .inr ⟨List.mem_cons_of_mem _ h1, h2⟩
    · rcases cloFrom_mem h with h | ⟨h1, h2⟩
      · exact .inl h
      · exact .inr ⟨List.mem_cons_of_mem _ h1, h2⟩
theorem cloFrom_acc {cells : List (Str × Addr)} : ∀ {names : List (Str × NameKind)} {acc : List (Str × Addr)} {p : Str × Addr}, p ∈ acc → p ∈ cloFrom cells names acc
  | [], _, _, h => h
  | (m, k) :: r, acc, p, h => by
    unfold cloFrom
    split
    · exact cloFrom_acc (List.mem_cons_of_mem _ h)
    · exact cloFrom_acc h
theorem cloFrom_has {cells : List (Str × Addr)} : ∀ {names : List (Str × NameKind)} {acc : List (Str × Addr)} {n : Str}, (n, .free) ∈ names → (n, (cells.lookup n).getD 0) ∈ cloFrom cells names acc
  | (m, k) :: r, acc, n, h => by
    unfold cloFrom
    rcases List.mem_cons.mp h with e | h
    · cases e
      exact cloFrom_acc List.mem_cons_self
    · split
      · exact cloFrom_has h
      · exact cloFrom_has h

theorem cells_mem : ∀ {names : List (Str × NameKind)} {h : Heap} {acc : List (Str × Addr)} {x : Str} {c : Addr}, (x, c) ∈ cellsFrom h.objs.size names acc →
    (x, c) ∈ acc ∨ ((x, .cell) ∈ names ∧ h.objs.size ≤ c ∧ CellAt (pushCells h names) c none)
  | [], _, _, _, _, h => .inl h
  | (n, k) :: r, h, acc, x, c, hm => by
    unfold cellsFrom at hm
    unfold pushCells
    split at hm
    · rename_i hk
      rw [if_pos hk]
      have hk : k = .cell := by simpa using hk
      rw [← Heap.size_push h { cls := .type "cell", data := .cell none }] at hm
      rcases cells_mem hm with hm | ⟨h1, h2, h3⟩
      · rcases List.mem_cons.mp hm with e | hm
        · cases e
          exact .inr ⟨hk ▸ List.mem_cons_self, Nat.le_refl _, _, pushCells_keeps r _ _ _ (Heap.get?_push_size _ rfl), rfl⟩
        · exact .inl hm
      · rw [Heap.size_push] at h2
        exact .inr ⟨List.mem_cons_of_mem _ h1, Nat.le_of_succ_le h2, h3⟩
    · rename_i hk
      rw [if_neg hk]
      rcases cells_mem hm with hm | ⟨h1, h2, h3⟩
      · exact .inl hm
      · exact .inr ⟨List.mem_cons_of_mem _ h1, h2, h3⟩
theorem cells_acc : ∀ {names : List (Str × NameKind)} {n : Nat} {acc : List (Str × Addr)} {p : Str × Addr}, p ∈ acc → p ∈ cellsFrom n names acc
  | [], _, _, _, h => h
  | (m, k) :: r, n, acc, p, h => by
    unfold cellsFrom
    split
    · exact cells_acc (List.mem_cons_of_mem _ h)
    · exact cells_acc h
theorem cells_has : ∀ {names : List (Str × NameKind)} {n : Nat} {acc : List (Str × Addr)} {x : Str}, (x, .cell) ∈ names → ∃ c, (x, c) ∈ cellsFrom n names acc
  | (m, k) :: r, n, acc, x, h => by
    unfold cellsFrom
    rcases List.mem_cons.mp h with e | h
    · cases e
      exact ⟨n, cells_acc List.mem_cons_self⟩
    · split
      · exact cells_has h
      · exact cells_has h
theorem cells_inj : ∀ {names : List (Str × NameKind)} {h : Heap} {acc : List (Str × Addr)} {x y : Str} {c : Addr}, (∀ p ∈ acc, p.2 < h.objs.size) → (∀ x y c, (x, c) ∈ acc → (y, c) ∈ acc → x = y) →
    (x, c) ∈ cellsFrom h.objs.size names acc → (y, c) ∈ cellsFrom h.objs.size names acc → x = y
  | [], _, _, _, _, _, _, hi, h1, h2 => hi _ _ _ h1 h2
  | (n, k) :: r, h, acc, x, y, c, hl, hi, h1, h2 => by
    unfold cellsFrom at h1 h2
    split at h1
    · rename_i hk
      rw [if_pos hk] at h2
      rw [← Heap.size_push h { cls := .type "cell", data := .cell none }] at h1 h2
      refine cells_inj (h := h.push _) (fun p hp => ?_) (fun x y c a b => ?_) h1 h2
      · rw [Heap.size_push]
        rcases List.mem_cons.mp hp with rfl | hp
        · exact Nat.lt_succ_self _
        · exact Nat.lt_succ_of_lt (hl p hp)
      · rcases List.mem_cons.mp a with e | a <;> rcases List.mem_cons.mp b with e' | b
        · cases e; cases e'; rfl
        · cases e; exact absurd (hl _ b) (Nat.lt_irrefl _)
        · cases e'; exact absurd (hl _ a) (Nat.lt_irrefl _)
        · exact hi _ _ _ a b
    · rename_i hk
      rw [if_neg hk] at h2
      exact cells_inj hl hi h1 h2

theorem newEnv_comp {M : Model} {A : Around} {E : Value → Shared → Prop} {s : Shared} {scope : Scope} {globals : Addr} {closure : List (Str × Addr)} {qual : Str} {func : Option Addr} {code : Value} {around : Env} {builtins : Addr} {Q : Env → Shared → Prop}
    (h : Q (newEnv scope s.heap.objs.size globals (cellsFrom (s.heap.objs.size + 1) scope.names closure) qual func code (some around) builtins)
      { s with heap := pushCells (s.heap.push { cls := .type "dict", data := .dict #[] }) scope.names }) :
    wpAny M A (newFunctionEnv scope globals closure [] qual func code (some around) builtins) Q E s := by
  simp only [newFunctionEnv, Option.isSome_some, if_true]
  refine wpAny_bind (wpAny_alloc ?_)
  refine wpAny_bind (wpAny_layCells _ (fun n k c => rfl) scope.names closure _ _ ?_)
  rw [show ({ s with heap := s.heap.push { cls := .type "dict", data := .dict #[] } } : Shared).heap.objs.size = s.heap.objs.size + 1 from Heap.size_push ..]
  rw [List.forIn_nil]
  exact wpAny_bind (wpAny_pure (wpAny_pure h))

theorem lookup_relS {sc : Scope} : ∀ {names : List (Str × NameKind)} {x : Str} {k : NameKind},
    (names.map fun (n, k) => if (k == NameKind.free && sc.kind == .function && sc.names.lookup n == some .cell) then (n, NameKind.cell) else (n, k)).lookup x = some k →
    ∃ k', names.lookup x = some k' ∧ (k = k' ∨ (k' = .free ∧ k = .cell))
  | [], _, _, h => by simp at h
  | (n, k₀) :: r, x, k, h => by
    have ih := @lookup_relS sc r x k
    have h' : List.lookup x ((if (k₀ == NameKind.free && sc.kind == .function && sc.names.lookup n == some .cell) = true then (n, NameKind.cell) else (n, k₀)) :: (r.map _)) = some k := h
    cases hx : x == n with
    | true =>
      simp only [List.lookup_cons, hx]
      by_cases hc : (k₀ == NameKind.free && sc.kind == .function && sc.names.lookup n == some .cell) = true
      · rw [if_pos hc] at h'
        simp only [List.lookup_cons, hx] at h'
        cases h'
        simp only [Bool.and_eq_true, beq_iff_eq] at hc
        exact ⟨k₀, rfl, .inr ⟨hc.1.1, rfl⟩⟩
      · rw [if_neg hc] at h'
        simp only [List.lookup_cons, hx] at h'
        cases h'
        exact ⟨_, rfl, .inl rfl⟩
    | false =>
      simp only [List.lookup_cons, hx]
      by_cases hc : (k₀ == NameKind.free && sc.kind == .function && sc.names.lookup n == some .cell) = true
      · rw [if_pos hc] at h'
        simp only [List.lookup_cons, hx] at h'
        exact ih h'
      · rw [if_neg hc] at h'
        simp only [List.lookup_cons, hx] at h'
        exact ih h'



structure BlkOk (N : List Str) (sc scope : Scope) (own : List (Str × Nat)) : Prop where
  kind : scope.kind = .function
  uniq : ∀ y ∈ scope.names, scope.names.lookup y.1 = some y.2
  ix : ∀ p ∈ own, N[p.2]? = some p.1
  free : ∀ y ∈ scope.names, y.2 = .free → sc.names.lookup y.1 = some .cell ∨ sc.names.lookup y.1 = some .free
  own : ∀ y ∈ scope.names, y.2 = .local ∨ y.2 = .cell → y.1 ∈ own.map (·.1) ∨ y.1 ∉ N
def wipe (σ : St) : List Nat → St
  | [] => σ
  | v :: vs => (wipe σ vs).set v none
theorem wipe_length (σ : St) : ∀ vs : List Nat, (wipe σ vs).length = σ.length
  | [] => rfl
  | v :: vs => by unfold wipe; rw [List.length_set, wipe_length σ vs]
theorem wipe_some {σ : St} {i : Nat} {x : V} : ∀ {vs : List Nat}, (wipe σ vs)[i]? = some (some x) → σ[i]? = some (some x) ∧ i ∉ vs
  | [], h => ⟨h, by simp⟩
  | v :: vs, h => by
    unfold wipe at h
    by_cases hi : v = i
    · subst hi
      by_cases hv : v < (wipe σ vs).length
      · rw [List.getElem?_set_self hv] at h; cases h
      · rw [List.getElem?_eq_none (by simpa using hv)] at h; cases h
    · rw [List.getElem?_set_ne hi] at h
      obtain ⟨h1, h2⟩ := wipe_some h
      exact ⟨h1, by simp only [List.mem_cons, not_or]; exact ⟨fun e => hi e.symm, h2⟩⟩

abbrev Cx.blk (X : Cx) (s : Shared) (H : Hp) (scope : Scope) (cenv : Env) (fp : List Addr) : Cx := { X with s_0 := s, H_0 := H, env := cenv, outer := X.stack, ex := fp, fn := fun x => scope.names.lookup x == some .cell, pn := [], xe := fun _ _ => False }
section
variable {X : Cx} {pins : List (Addr × Obj)} {σ : St} {H : Hp} {s : Shared}
theorem block_start {scope : Scope} {own : List (Str × Nat)} {fp : List Addr} (I : Inv X pins σ H s) (ok : BlkOk X.N X.env.scope scope own) (hN : X.N.Nodup) (hfp : ∀ b ∈ fp, FpOk X pins H b ∧ b < s.heap.objs.size) :
    Inv (X.blk s H scope (compEnvC scope (cellsFrom (s.heap.objs.size + 1) scope.names (cloFrom X.env.cells scope.names [])) s.heap.objs.size X.env) fp) [] (wipe σ (own.map (·.2))) H { s with heap := pushCells (s.heap.push { cls := .type "dict", data := .dict #[] }) scope.names } := by
  have hfree : ∀ y ∈ scope.names, y.2 = .free → ∃ c, X.env.cells.lookup y.1 = some c := fun y hy e => by
    rcases ok.free y hy e with k | k
    · exact I.ok.has _ (.inl k)
    · exact I.ok.has _ (.inr k)
  generalize hcenv : compEnvC scope (cellsFrom (s.heap.objs.size + 1) scope.names (cloFrom X.env.cells scope.names [])) s.heap.objs.size X.env = cenv
  have kp : ∀ b o, s.heap.get? b = some o → (pushCells (s.heap.push { cls := .type "dict", data := .dict #[] }) scope.names).get? b = some o := fun b o e => pushCells_keeps _ _ _ _ (Heap.get?_push_of_some _ e)
  have hL : cenv.locals = s.heap.objs.size := by rw [← hcenv]; rfl
  have hcl : cenv.cells = cellsFrom (s.heap.objs.size + 1) scope.names (cloFrom X.env.cells scope.names []) := by rw [← hcenv]; rfl
  have hsc : cenv.scope = relS scope X.env.scope := by rw [← hcenv]; rfl
  rw [← Heap.size_push s.heap { cls := .type "dict", data := .dict #[] }] at hcl
  have cm : ∀ {y c}, (y, c) ∈ cloFrom X.env.cells scope.names [] → X.env.cells.lookup y = some c ∧ c < s.heap.objs.size := fun {y c} hm => by
    rcases cloFrom_mem hm with hm | ⟨h1, rfl⟩
    · cases hm
    · obtain ⟨c, hc⟩ := hfree _ h1 rfl
      rw [hc]
      obtain ⟨w, z⟩ := I.cell _ _ hc
      exact ⟨rfl, z.lt⟩
  have mem : ∀ {y c}, cenv.cells.lookup y = some c → (X.env.cells.lookup y = some c ∧ c < s.heap.objs.size) ∨ (s.heap.objs.size + 1 ≤ c ∧ CellAt (pushCells (s.heap.push { cls := .type "dict", data := .dict #[] }) scope.names) c none) := fun {y c} e => by
    rw [hcl] at e
    rcases cells_mem (PySem.mem_of_lookup e) with hm | ⟨_, h2, h3⟩
    · exact .inl (cm hm)
    · rw [Heap.size_push] at h2; exact .inr ⟨h2, h3⟩
  have look : ∀ {y}, scope.names.lookup y = some .free → ∃ c, cenv.cells.lookup y = some c ∧ X.env.cells.lookup y = some c := fun {y} hl => by
    have hy : (y, NameKind.free) ∈ scope.names := PySem.mem_of_lookup hl
    obtain ⟨c', e'⟩ := mem_lookup (cells_acc (names := scope.names) (n := (s.heap.push { cls := .type "dict", data := .dict #[] }).objs.size) (cloFrom_has (cells := X.env.cells) (acc := []) hy))
    rw [← hcl] at e'
    refine ⟨c', e', ?_⟩
    rw [hcl] at e'
    rcases cells_mem (PySem.mem_of_lookup e') with hm | ⟨h1, _, _⟩
    · exact (cm hm).1
    · have := ok.uniq _ h1
      rw [hl] at this; cases this
  have okB : (X.blk s H scope cenv fp).Ok := by
    refine ⟨I.ok.mod, by show cenv.scope.kind = _; rw [hsc]; exact ok.kind, by show cenv.globals = _; rw [← hcenv]; exact I.ok.glob, by show cenv.builtins = _; rw [← hcenv]; exact I.ok.blt, by show s.heap.objs.size ≤ cenv.locals; rw [hL]; exact Nat.le_refl _,
      fun y z c e1 e2 => ?_, fun y hy => ?_, fun y c z e => ?_, I.ok.hd, I.ok.frames, .inl rfl, fun b hb => ⟨?_, fun y c e z => ?_⟩, I.bs, Nat.le_trans I.ok.bsz I.sz, fun b o e hb => ?_, fun b hb z => ?_, I.stack, I.stkFree⟩
    · have e1 : cenv.cells.lookup y = some c := e1
      have e2 : cenv.cells.lookup z = some c := e2
      rw [hcl] at e1 e2
      refine cells_inj (fun p hp => ?_) (fun y z c a b => I.ok.inj y z c (cm a).1 (cm b).1) (PySem.mem_of_lookup e1) (PySem.mem_of_lookup e2)
      rw [Heap.size_push]
      exact Nat.lt_succ_of_lt (cm (y := p.1) (c := p.2) hp).2
    · show ∃ c, cenv.cells.lookup y = some c
      have key : ∀ k, cenv.kindOf y = some k → (k = .cell ∨ k = .free) → ∃ c, cenv.cells.lookup y = some c := fun k hk hk' => by
        unfold Env.kindOf at hk
        rw [hsc] at hk
        obtain ⟨k', e, r⟩ := lookup_relS hk
        have : k' = .cell ∨ k' = .free := by
          rcases r with rfl | ⟨rfl, _⟩
          · exact hk'
          · exact .inr rfl
        rcases this with rfl | rfl
        · obtain ⟨c, hm⟩ := cells_has (n := (s.heap.push { cls := .type "dict", data := .dict #[] }).objs.size) (acc := cloFrom X.env.cells scope.names []) (PySem.mem_of_lookup e)
          obtain ⟨c', e'⟩ := mem_lookup hm
          exact ⟨c', by rw [hcl]; exact e'⟩
        · obtain ⟨c, h1, _⟩ := look e
          exact ⟨c, h1⟩
      rcases hy with hy | hy
      · exact key _ hy (.inl rfl)
      · exact key _ hy (.inr rfl)
    · have z : (scope.names.lookup y == some NameKind.cell) = true := z
      have z : scope.names.lookup y = some .cell := by simpa using z
      have e : cenv.cells.lookup y = some c := e
      rw [hcl] at e
      rcases cells_mem (PySem.mem_of_lookup e) with hm | ⟨_, h2, _⟩
      · rcases cloFrom_mem hm with hm | ⟨h1, _⟩
        · cases hm
        · have q := ok.uniq _ h1
          rw [z] at q; cases q
      · rw [Heap.size_push] at h2
        exact Nat.le_of_succ_le h2
    · show b ≠ cenv.locals
      rw [hL]; exact Nat.ne_of_lt (hfp b hb).2
    · have e : cenv.cells.lookup y = some c := e
      rcases mem e with ⟨h1, _⟩ | ⟨h1, _⟩
      · exact (hfp b hb).1.2.2.2.2.1 y c h1 z
      · have h2 : s.heap.objs.size + 1 ≤ b := by rw [← z]; exact h1
        exact absurd (Nat.lt_of_lt_of_le (hfp b hb).2 (Nat.le_of_succ_le h2)) (Nat.lt_irrefl _)
    · rcases (hfp b hb).1.2.2.2.1 with z | z
      · exact I.ok.noex b o e z
      · exact absurd (Nat.lt_of_lt_of_le (Heap.lt_size e) (Nat.le_trans I.ok.bsz z)) (Nat.lt_irrefl _)
    · rcases List.mem_cons.mp (I.stkSub b z) with z | z
      · exact (hfp b hb).1.2.1 z
      · exact (hfp b hb).1.2.2.1 z
  refine ⟨okB, rfl, I.bare, Un.kept kp, ⟨fun _ => none, ?_, fun i y av e1 e2 e3 => ?_⟩, fun y c e => ?_, ?_, fun y c e => ?_, fun p hp => ?_, I.hok.kept kp, by rw [wipe_length]; exact I.len⟩
  · show Heap.Ns _ cenv.locals _
    rw [hL]
    exact Heap.Ns.keeps (Heap.Ns.new ..) fun b o e => pushCells_keeps _ _ _ _ e
  · obtain ⟨e2, hne⟩ := wipe_some e2
    have hfr : scope.names.lookup y = some .free ∧ (cenv.kindOf y = some .cell ∨ cenv.kindOf y = some .free) := by
      have key : ∀ k, cenv.scope.names.lookup y = some k → k = .local ∨ k = .cell ∨ k = .free → scope.names.lookup y = some .free ∧ (cenv.kindOf y = some .cell ∨ cenv.kindOf y = some .free) := fun k hk hk' => by
        have hk0 := hk
        rw [hsc] at hk
        obtain ⟨k', e, r⟩ := lookup_relS hk
        have no : ¬ (k' = .local ∨ k' = .cell) := fun hh => by
          rcases ok.own _ (PySem.mem_of_lookup e) hh with e' | e'
          · obtain ⟨p, hp, hpy⟩ := List.mem_map.mp e'
            have e3 := ok.ix p hp
            have : p.1 = y := hpy
            rw [this] at e3
            exact hne (List.mem_map.mpr ⟨p, hp, nodup_ix hN e3 e1⟩)
          · exact e' (List.mem_of_getElem? e1)
        rcases r with rfl | ⟨rfl, rfl⟩
        · rcases hk' with rfl | rfl | rfl
          · exact absurd (.inl rfl) no
          · exact absurd (.inr rfl) no
          · exact ⟨e, .inr hk0⟩
        · exact ⟨e, .inl hk0⟩
      have e3 : Vis cenv.scope y := e3
      rcases e3 with e3 | e3 | e3
      · exact key _ e3 (.inl rfl)
      · exact key _ e3 (.inr (.inl rfl))
      · exact key _ e3 (.inr (.inr rfl))
    obtain ⟨m, hn, hl⟩ := I.loc
    have hvis : Vis X.env.scope y := (ok.free _ (PySem.mem_of_lookup hfr.1) rfl).elim (fun k => .inr (.inl k)) (fun k => .inr (.inr k))
    obtain ⟨w, r, q⟩ := hl i y av e1 e2 hvis
    refine ⟨w, r, .inr ⟨hfr.2, ?_⟩⟩
    obtain ⟨c, h1, h2⟩ := look hfr.1
    rcases q with ⟨k, _⟩ | ⟨_, c', e', z⟩
    · have k : X.env.scope.names.lookup y = some .local := k
      rcases ok.free _ (PySem.mem_of_lookup hfr.1) rfl with k' | k' <;> rw [show X.env.scope.names.lookup y = _ from k'] at k <;> cases k
    · rw [h2] at e'; cases e'
      exact ⟨c, h1, z.keeps kp⟩
  · have e : cenv.cells.lookup y = some c := e
    rcases mem e with ⟨h1, _⟩ | ⟨_, z⟩
    · obtain ⟨w, z⟩ := I.cell y c h1
      exact ⟨w, z.keeps kp⟩
    · exact ⟨_, z⟩
  · show H cenv.locals = none
    rw [hL]; exact I.hok.fresh (Nat.le_refl _)
  · have e : cenv.cells.lookup y = some c := e
    rcases mem e with ⟨h1, _⟩ | ⟨h1, _⟩
    · exact I.freeC y c h1
    · exact I.hok.fresh (Nat.le_of_succ_le h1)
  · exact absurd (show p ∈ ([] : List (Addr × Obj)) ++ [] from hp) (by simp)

theorem app_ok {E : Value → Shared → Prop} {D : Addr} {xs : List V} {y : V} {v : Value} {Q : Value → Shared → Prop} (I : Inv X pins σ H s) (hD : H D = some (.lst xs)) (hz : xs.length < sizeLine) (r : RelV y v)
    (h : ∀ s', Inv X pins σ (upd H D (.lst (xs ++ [y]))) s' → Q .none s') : wpAny (model X.prog X.w) X.A (call (.builtin "list.append") [.ref D, v]) Q E s := by
  obtain ⟨hz', its, n, ri, e⟩ := I.hok D _ hD
  have hl := ri.length
  refine append_at (hsz := by rw [List.size_toArray]; omega) e fun h' sb ho' => ?_
  refine h { s with heap := h' } (I.write (t' := s.toks) (by rw [hD]; trivial) (.inl rfl) (fun b u hb q => (sb.2 b hb).trans q) ⟨_, ho'⟩ ⟨by rw [List.length_append]; exact hz, its ++ [v], n + 1, ri.append (.cons r .nil), ?_⟩)
  rw [ho']
  simp

def PTs (X : Cx) (ifs : List Expr) (t : TT) : Prop :=
  ∀ (pins : List (Addr × Obj)) (s : Shared) (σ : St) (H : Hp) (Q : Bool → Hp → Prop), Inv X pins σ H s → t σ H Q →
    wpAny (model X.prog X.w) X.A (forIn ifs true fun c r => if r = true then do let ok ← isTrue c X.env (eval c X.env); pure (ForInStep.yield ok) else pure (ForInStep.yield r)) (TP X pins σ Q) X.xe s
def tYes : TT := fun _ H Q => Q true H
theorem pts_nil : PTs X [] tYes := fun _ _ _ H _ I h => wpAny_tests_nil ⟨H, I, h⟩
theorem pts_one {c : Expr} {t : TT} (h : PT X c t) : PTs X [c] t := fun pins s σ H Q I hw => wpAny_tests_one (h pins s σ H Q I hw)
end

theorem thnF {α : Type} {t : Sem α} {Q Q' : α → Shared → Prop} {M : Model} {A : Around} {E : Value → Shared → Prop} {s : Shared} (h : wpAny M A t Q (fun _ _ => False) s) (hQ : ∀ a s, Q a s → Q' a s) : wpAny M A t Q' E s := wpAny_mono h hQ fun _ _ z => False.elim z

theorem compLoop_any {prog : Program} {w : World} {A : Around} {R : Result → Shared → Prop} {s : Shared} {elt target iter : Expr} {ifs : List Expr} {scope : Scope} {pos : Pos} {it acc : Value} {env : Env} (I : Nat → Shared → Prop)
    (turn : ∀ n s, I n s → wpAny (model prog w) A (pyNext it) (fun r s₁ => match r with
      | none => R (.ok .next) s₁
      | some v => wpAny (model prog w) A (letOwnedTupleGo target it v) (fun _ s₁' => wpAny (model prog w) A (assign target env v) (fun _ s₂ =>
          wpAny (model prog w) A (forIn ifs true fun c r => if r = true then do let ok ← isTrue c env (eval c env); pure (ForInStep.yield ok) else pure (ForInStep.yield r)) (fun ok s₃ =>
            if ok = true then wpAny (model prog w) A (eval elt env) (fun x s₄ =>
              wpAny (model prog w) A (call (.builtin "list.append") [acc, x]) (fun _ s₅ => ∃ m, m < n ∧ I m s₅) (notedBy (model prog w) A env fun e s' => R (.error e) s') s₄) (notedBy (model prog w) A env fun e s' => R (.error e) s') s₃
            else ∃ m, m < n ∧ I m s₃) (notedBy (model prog w) A env fun e s' => R (.error e) s') s₂) (notedBy (model prog w) A env fun e s' => R (.error e) s') s₁') (notedBy (model prog w) A env fun e s' => R (.error e) s') s₁) (notedBy (model prog w) A env fun e s' => R (.error e) s') s)
    (n : Nat) (h : I n s) :
    codeAny (model prog w) A (.compLoop (.ListComp elt [⟨target, iter, ifs, 0⟩] scope pos) 0 it acc env) R s := by
  refine codeAny_loop rfl I (fun n s hI => ?_) n h
  show wpAny _ A ((compTurn (.ListComp elt [⟨target, iter, ifs, 0⟩] scope pos) 0 it acc env).onRaise (fun x => do noteFrame x env; theTreesLotGoes x)) _ _ s
  refine wpAny_noted ?_
  rw [compTurn_list]
  refine wpAny_bind (wpAny_standAt (wpAny_bind (wpAny_mono (turn n s hI) (fun r s₁ h₁ => ?_) fun _ _ h' => h')))
  cases r with
  | none => exact wpAny_pure h₁
  | some v =>
    refine wpAny_bind (wpAny_mono h₁ (fun _ s₁' h₁' => ?_) fun _ _ h' => h')
    refine wpAny_bind (wpAny_mono h₁' (fun _ s₂ h₂ => wpAny_bind (wpAny_mono h₂ (fun ok s₃ h₃ => ?_) fun _ _ h' => h')) fun _ _ h' => h')
    cases ok with
    | false => exact wpAny_pure ⟨rfl, h₃⟩
    | true =>
      exact wpAny_bind (wpAny_bind (wpAny_mono h₃ (fun x s₄ h₄ => wpAny_bind (wpAny_mono h₄ (fun _ s₅ h₅ => wpAny_pure (wpAny_pure ⟨rfl, h₅⟩)) fun _ _ h' => h')) fun _ _ h' => h'))

section
variable {X : Cx}
def tLc (wi : TI) (g : TG) (tt : TT) (te : TE) (vs : List Nat) : TE := fun σ H Q => wi σ H fun J H1 => ∀ D, H1 D = none → ∃ W : Nat → Nat → Hp → Prop, (∃ m, W 0 m (upd H1 D (.lst []))) ∧ ∀ i m H, W i m H →
  (J.stop i H ∧ Q (.ref D) H) ∨ (J.go i H ∧ ∃ Nx : Hp → Prop, (∀ H', Nx H' → ∃ m', m' < m ∧ W (i + 1) m' H') ∧ ∀ x H', J.yld i H x H' → g x (wipe σ vs) H' fun σ2 H2 => wipe σ2 vs = wipe σ vs ∧ tt σ2 H2 fun b H3 =>
    if b = true then te σ2 H3 fun y H4 => ∃ acc, H4 D = some (.lst acc) ∧ acc.length < sizeLine ∧ Nx (upd H4 D (.lst (acc ++ [y]))) else Nx H3)
theorem lc_core {pins : List (Addr × Obj)} {s : Shared} {σ : St} {H : Hp} {Q : VK} {elt tg iter : Expr} {ifs : List Expr} {scope : Scope} {own : List (Str × Nat)} {pos pos' : Pos} {wi : TI} {g : TG} {tt : TT} {te : TE} {use : Option (Value → Sem Unit)} {Qf : Value → Shared → Prop}
    (hc : X.calm = true) (hN : X.N.Nodup) (I : Inv X pins σ H s) (hi : PI X tg iter wi) (ok : BlkOk X.N X.env.scope scope own)
    (hg : ∀ (s : Shared) (H : Hp) (C : Addr) (cl : List (Str × Addr)) (fp : List Addr), PG (X.blk s H scope (compEnvC scope cl C X.env) fp) tg g) (ht : ∀ (s : Shared) (H : Hp) (C : Addr) (cl : List (Str × Addr)) (fp : List Addr), PTs (X.blk s H scope (compEnvC scope cl C X.env) fp) ifs tt)
    (he : ∀ (s : Shared) (H : Hp) (C : Addr) (cl : List (Str × Addr)) (fp : List Addr), PE (X.blk s H scope (compEnvC scope cl C X.env) fp) elt te) (hs : ∀ x, foldedSetIterable iter X.env x = pure x)
    (h : tLc wi g tt te (own.map (·.2)) σ H Q)
    (hRR : ∀ D C s' m H', Inv X pins σ H' s' → Q (.ref D) H' → s'.heap.Ns C m → FpOk X pins H' C → compPost (model X.prog X.w) X.A X.xe use Qf (.ref D) C (.ok .next) s') :
    wpAny (model X.prog X.w) X.A (comprehension (.ListComp elt [⟨tg, iter, ifs, 0⟩] scope pos) scope X.env pos' (newList []) false (eval iter X.env) use) Qf X.xe s := by
  have hfree : ∀ y ∈ scope.names, y.2 = .free → ∃ c, X.env.cells.lookup y.1 = some c := fun y hy e => by
    rcases ok.free y hy e with k | k
    · exact I.ok.has _ (.inl k)
    · exact I.ok.has _ (.inr k)
  refine wpAny_comprehension_free (use := use) rfl hs (closure_ok hfree) ok.kind (fun y hy e => by rw [ok.uniq y hy, e])
    (thn (hi pins s σ H _ I h) fun xv s1 hx => thn hx fun itv s2 h2 => ?_)
  obtain ⟨it, fp, tn, J, H2, e, I2, T, st2, f2, q⟩ := h2
  subst e
  refine wpAny_newObj_type (newEnv_comp ?_) (by show 0 ≤ sizeLine; decide)
  generalize hD : s2.heap.objs.size = D
  have hDn : H2 D = none := I2.hok.fresh (Nat.le_of_eq hD)
  obtain ⟨W, ⟨m0, w0⟩, turn⟩ := q D hDn
  generalize hs3 : ({ s2 with heap := s2.heap.push { cls := .type "list", data := .seq ([] : List Value).toArray } } : Shared) = s3
  have I3 : Inv X pins σ (upd H2 D (.lst [])) s3 := by
    rw [← hs3]
    refine I2.laid (t' := s2.toks) (fun b o e => Heap.get?_push_of_some _ e) (Nat.le_of_eq hD) ⟨Nat.zero_le _, [], 0, .nil, ?_⟩
    rw [← hD]
    exact Heap.get?_push_size _ rfl
  have h3 : s3.heap = s2.heap.push { cls := .type "list", data := .seq ([] : List Value).toArray } := by rw [← hs3]
  have sz : ∀ b ∈ fp, b < s2.heap.objs.size := fun b hb => by
    obtain ⟨o, e, _⟩ := T.obj _ _ st2 b hb
    exact Heap.lt_size e
  have f3 : ∀ b ∈ fp, FpOk X pins (upd H2 D (.lst [])) b ∧ b < s3.heap.objs.size := fun b hb => by
    have hlt := sz b hb
    refine ⟨⟨?_, (f2 b hb).2⟩, by rw [h3, Heap.size_push]; exact Nat.lt_succ_of_lt hlt⟩
    rw [upd_ne (by rw [← hD]; exact Nat.ne_of_lt hlt)]
    exact (f2 b hb).1
  have st3 : tn 0 s3.heap := T.keep _ _ _ st2 fun b _ o e => by rw [h3]; exact Heap.get?_push_of_some _ e
  have I4 := block_start I3 ok hN f3
  have pg := hg s3 (upd H2 D (.lst [])) s3.heap.objs.size (cellsFrom (s3.heap.objs.size + 1) scope.names (cloFrom X.env.cells scope.names [])) fp
  have pt := ht s3 (upd H2 D (.lst [])) s3.heap.objs.size (cellsFrom (s3.heap.objs.size + 1) scope.names (cloFrom X.env.cells scope.names [])) fp
  have pe := he s3 (upd H2 D (.lst [])) s3.heap.objs.size (cellsFrom (s3.heap.objs.size + 1) scope.names (cloFrom X.env.cells scope.names [])) fp
  show codeAny _ _ (.compStart (.ListComp elt [⟨tg, iter, ifs, 0⟩] scope pos) 0 (.ref it) (.ref D) (compEnvC scope (cellsFrom (s3.heap.objs.size + 1) scope.names (cloFrom X.env.cells scope.names [])) s3.heap.objs.size X.env)) (compPost (model X.prog X.w) X.A X.xe use Qf (.ref D) s3.heap.objs.size) { s3 with heap := pushCells (s3.heap.push { cls := .type "dict", data := .dict #[] }) scope.names }
  have nfp : ∀ b ∈ fp, (upd H2 D (.lst [])) b = none := fun b hb => (f3 b hb).1.1
  generalize hce : compEnvC scope (cellsFrom (s3.heap.objs.size + 1) scope.names (cloFrom X.env.cells scope.names [])) s3.heap.objs.size X.env = ce at I4 pg pt pe ⊢
  have cL : ce.locals = s3.heap.objs.size := by subst hce; rfl
  generalize hH3 : upd H2 D (.lst []) = H3 at I3 I4 pg pt pe w0 nfp f3
  generalize hs4 : ({ s3 with heap := pushCells (s3.heap.push { cls := .type "dict", data := .dict #[] }) scope.names } : Shared) = s4 at I4 ⊢
  have st4 : tn 0 s4.heap := T.keep _ _ _ st3 fun b _ o e => by rw [← hs4]; exact pushCells_keeps _ _ _ _ (Heap.get?_push_of_some _ e)
  have stat : ∀ {σ' : St} {H' : Hp} {s' : Shared}, Inv (X.blk s3 H3 scope ce fp) [] σ' H' s' → (∀ b ∈ fp, H' b = none) → ∀ b ∈ fp, FpOk (X.blk s3 H3 scope ce fp) [] H' b := fun {σ' H' s'} I' hn b hb =>
    ⟨hn b hb, (I'.ok.exf b hb).1, I'.ok.exfs b hb, .inl hb, fun x c e => (I'.ok.exf b hb).2 x c e, fun p hp => absurd (show p ∈ ([] : List (Addr × Obj)) ++ [] from hp) (by simp)⟩
  have loop : codeAny (model X.prog X.w) X.A (.compLoop (.ListComp elt [⟨tg, iter, ifs, 0⟩] scope pos) 0 (.ref it) (.ref D) ce) (compPost (model X.prog X.w) X.A X.xe use Qf (.ref D) s3.heap.objs.size) s4 := by
    refine compLoop_any (fun n s' => ∃ i H', Inv (X.blk s3 H3 scope ce fp) [] (wipe σ (own.map (·.2))) H' s' ∧ tn i s'.heap ∧ (∀ b ∈ fp, H' b = none) ∧ W i n H') ?_ m0 ⟨0, H3, I4, st4, nfp, w0⟩
    rintro n s5 ⟨i, H5, I5, st5, n5, w5⟩
    rcases turn i n H5 w5 with ⟨stop, qq⟩ | ⟨go, Nx, hNx, step⟩
    · have td := T.done (X.blk s3 H3 scope ce fp) rfl rfl rfl hc i [] s5 _ H5 (fun _ _ => False) I5 (stat I5 n5) st5 stop
      refine thnF td fun r s6 ⟨hr, I6⟩ => ?_
      subst hr
      have I7 : Inv X pins σ H5 s6 := I3.call' (ch := fp) I6.os I6.base I6.hok I6.bare fun b hb => ⟨(f3 b hb).1.2.2.2.1, (f3 b hb).1.2.1, (f3 b hb).1.2.2.2.2.1, (f3 b hb).1.2.2.2.2.2⟩
      have nC : H5 s3.heap.objs.size = none := by
        have z : H5 ce.locals = none := I6.free
        rw [cL] at z
        exact z
      obtain ⟨m, hn, _⟩ := I6.loc
      have hn : s6.heap.Ns ce.locals m := hn
      rw [cL] at hn
      exact hRR D s3.heap.objs.size s6 m H5 I7 qq hn (I3.fpOk (Nat.le_refl _) nC)
    · have ti := T.item (X.blk s3 H3 scope ce fp) rfl rfl rfl hc i [] s5 _ H5 (fun _ _ => False) I5 (stat I5 n5) st5 go
      refine thnF ti fun r s6 ⟨u, hr, h6⟩ => ?_
      subst hr
      refine thnF h6 fun _ s7 ⟨x, H7, I7, r7, y7, st7, n7⟩ => ?_
      have I7' := I7.pinned (stat I7 n7) (T.obj _ _ st7)
      refine thnF (pg _ s7 _ H7 x u _ I7' r7 (step x H7 y7)) fun _ s8 ⟨σ8, H8, I8, hw8, q8⟩ => ?_
      refine thnF (pt _ s8 σ8 H8 _ I8 q8) fun b s9 ⟨H9, I9, q9⟩ => ?_
      have fin : ∀ {s' : Shared} {H' : Hp}, Inv (X.blk s3 H3 scope ce fp) ([] ++ pinsAt fp s7.heap) σ8 H' s' → Nx H' → ∃ m, m < n ∧ ∃ i H', Inv (X.blk s3 H3 scope ce fp) [] (wipe σ (own.map (·.2))) H' s' ∧ tn i s'.heap ∧ (∀ b ∈ fp, H' b = none) ∧ W i m H' := fun {s' H'} I' nx => by
        obtain ⟨m', hm, w'⟩ := hNx H' nx
        have pin' : ∀ b ∈ fp, ∀ o, s7.heap.get? b = some o → s'.heap.get? b = some o ∧ H' b = none := fun b hb o e =>
          let z := I'.pin (b, o) (List.mem_append_right _ (List.mem_append_right _ (mem_pinsAt hb e)))
          ⟨z.1, z.2.1⟩
        have hl : (wipe σ (own.map (·.2))).length = σ8.length := by rw [← hw8, wipe_length]
        refine ⟨m', hm, i + 1, H', (I'.unpinned (pins := [])).weak hl (fun j v e => ?_), T.keep _ _ _ st7 fun b hb o e => (pin' b hb o e).1, fun b hb => ?_, w'⟩
        · rw [← hw8] at e
          exact (wipe_some e).1
        · obtain ⟨o, e, _⟩ := T.obj _ _ st7 b hb
          exact (pin' b hb o e).2
      cases b with
      | false =>
        simp only [Bool.false_eq_true, if_false] at q9 ⊢
        exact fin I9 q9
      | true =>
        simp only [if_true] at q9 ⊢
        refine thnF (pe _ s9 σ8 H9 _ I9 q9) fun z s10 ⟨yv, H10, I10, r10, acc, hD10, hz10, nx⟩ => ?_
        exact app_ok (X := X.blk s3 H3 scope ce fp) I10 hD10 hz10 r10 fun s11 I11 => fin I11 nx
  exact codeAny_compStart_list loop (T.self X.A 0 _ _ _ st4 loop)
theorem pe_lc {elt tg iter : Expr} {ifs : List Expr} {scope : Scope} {own : List (Str × Nat)} {pos : Pos} {wi : TI} {g : TG} {tt : TT} {te : TE} (hc : X.calm = true) (hN : X.N.Nodup) (hi : PI X tg iter wi) (ok : BlkOk X.N X.env.scope scope own)
    (hg : ∀ (s : Shared) (H : Hp) (C : Addr) (cl : List (Str × Addr)) (fp : List Addr), PG (X.blk s H scope (compEnvC scope cl C X.env) fp) tg g) (ht : ∀ (s : Shared) (H : Hp) (C : Addr) (cl : List (Str × Addr)) (fp : List Addr), PTs (X.blk s H scope (compEnvC scope cl C X.env) fp) ifs tt)
    (he : ∀ (s : Shared) (H : Hp) (C : Addr) (cl : List (Str × Addr)) (fp : List Addr), PE (X.blk s H scope (compEnvC scope cl C X.env) fp) elt te) (hs : ∀ x, foldedSetIterable iter X.env x = pure x := by intro _; rfl) :
    PE X (.ListComp elt [⟨tg, iter, ifs, 0⟩] scope pos) (tLc wi g tt te (own.map (·.2))) := by
  intro pins s σ H Q I h
  rw [eval_ListComp]
  refine lc_core hc hN I hi ok hg ht he hs h fun D C s' m H' I' q hn f => ⟨m, hn, fun h'' sb => ?_⟩
  obtain ⟨f0, f1, f2, f3, f4, f5⟩ := f
  exact ⟨.ref D, H', I'.turned (t' := s'.toks) (fun b o hb e => (sb.2 b hb).trans e) f0 f1 f3 f4 f5, rfl, q⟩
theorem ps_setLc {i : Nat} {y : Str} {py : Pos} {elt tg iter : Expr} {ifs : List Expr} {scope : Scope} {own : List (Str × Nat)} {pos spos : Pos} {wi : TI} {g : TG} {tt : TT} {te : TE} (hc : X.calm = true) (hN : X.N.Nodup) (hy : X.N[i]? = some y) (hyl : X.env.scope.names.lookup y = some .local)
    (hsw : swapsWith (.ListComp elt [⟨tg, iter, ifs, 0⟩] scope pos) (some (.Name y py)) spos.line X.env = pure true) (hi : PI X tg iter wi) (ok : BlkOk X.N X.env.scope scope own)
    (hg : ∀ (s : Shared) (H : Hp) (C : Addr) (cl : List (Str × Addr)) (fp : List Addr), PG (X.blk s H scope (compEnvC scope cl C X.env) fp) tg g) (ht : ∀ (s : Shared) (H : Hp) (C : Addr) (cl : List (Str × Addr)) (fp : List Addr), PTs (X.blk s H scope (compEnvC scope cl C X.env) fp) ifs tt)
    (he : ∀ (s : Shared) (H : Hp) (C : Addr) (cl : List (Str × Addr)) (fp : List Addr), PE (X.blk s H scope (compEnvC scope cl C X.env) fp) elt te) (hs : ∀ x, foldedSetIterable iter X.env x = pure x := by intro _; rfl) :
    PS X (.Assign [.Name y py] (.ListComp elt [⟨tg, iter, ifs, 0⟩] scope pos) spos) (tAsg (tLc wi g tt te (own.map (·.2))) (gName i)) := by
  intro pins s σ H D I h
  rw [exec_Assign_Name_used _ _ _ _ hsw]
  refine wpAny_bind (wpAny_standAt (wpAny_bind ?_))
  show wpAny _ X.A (do let _ ← comprehension (.ListComp elt [⟨tg, iter, ifs, 0⟩] scope pos) scope X.env (firstIterPos [⟨tg, iter, ifs, 0⟩] pos) (newList []) false (eval iter X.env) (some (assign (.Name y py) X.env))) _ _ s
  have h : tLc wi g tt te (own.map (·.2)) σ H (fun x H1 => gName i x σ H1 D.nx) := h
  refine wpAny_bind (thn (lc_core (Qf := fun _ s' => SP X pins D .next s') hc hN I hi ok hg ht he hs h fun L C s' m H' I' q hn f => ?_) fun _ s' hq => wpAny_pure (wpAny_pure hq))
  show wpAny _ _ (assign (.Name y py) X.env (.ref L)) _ _ _
  refine wpAny_assign_Name (store_ok2 (v := V.ref L) I' hN hy (.inl hyl) rfl (fun s2 I2 ⟨a, sb, ha⟩ => ?_) (.inr hyl))
  obtain ⟨f0, f1, f2, f3, f4, f5⟩ := f
  have haC : C ≠ a := by
    rcases ha with z | z
    · rw [z]; exact f1
    · exact fun e => f4 y a z e.symm
  refine ⟨m, hn.sameBut sb haC, fun h3 sb3 => ?_⟩
  exact ⟨_, H', I2.turned (t' := s2.toks) (fun b o hb e => (sb3.2 b hb).trans e) f0 f1 f3 f4 f5, q⟩
end

theorem lc_range {lo : Int} {n : Nat} {g : TG} {tt : TT} {te : TE} {vs : List Nat} {σ : St} {H1 : Hp} {D : Addr} {Qd : Hp → Prop} (Pv : Nat → Hp → Prop) (h0 : Pv 0 (upd H1 D (.lst [])))
    (hs : ∀ i H, i < n → Pv i H → g (.int (lo + i)) (wipe σ vs) H fun σ2 H2 => wipe σ2 vs = wipe σ vs ∧ tt σ2 H2 fun b H3 =>
      if b = true then te σ2 H3 fun y H4 => ∃ acc, H4 D = some (.lst acc) ∧ acc.length < sizeLine ∧ Pv (i + 1) (upd H4 D (.lst (acc ++ [y]))) else Pv (i + 1) H3) (hd : ∀ H, Pv n H → Qd H) :
    ∃ W : Nat → Nat → Hp → Prop, (∃ m, W 0 m (upd H1 D (.lst []))) ∧ ∀ i m H, W i m H →
      ((Itr lo n).stop i H ∧ Qd H) ∨ ((Itr lo n).go i H ∧ ∃ Nx : Hp → Prop, (∀ H', Nx H' → ∃ m', m' < m ∧ W (i + 1) m' H') ∧ ∀ x H', (Itr lo n).yld i H x H' → g x (wipe σ vs) H' fun σ2 H2 => wipe σ2 vs = wipe σ vs ∧ tt σ2 H2 fun b H3 =>
        if b = true then te σ2 H3 fun y H4 => ∃ acc, H4 D = some (.lst acc) ∧ acc.length < sizeLine ∧ Nx (upd H4 D (.lst (acc ++ [y]))) else Nx H3) := by
  refine ⟨fun i m H => m = n - i ∧ i ≤ n ∧ Pv i H, ⟨n, by simp, Nat.zero_le _, h0⟩, ?_⟩
  rintro i m H ⟨rfl, hi, p⟩
  by_cases hlt : i < n
  · refine .inr ⟨hlt, Pv (i + 1), fun H' p' => ⟨n - (i + 1), by omega, rfl, hlt, p'⟩, fun x H' y => ?_⟩
    obtain ⟨e, y⟩ := y
    subst e y
    exact hs i _ hlt p
  · have e : i = n := by omega
    subst e
    exact .inl ⟨Nat.le_refl _, hd H p⟩
theorem lc_list {K : PySem.W.Frag} {a : Addr} {xs : List V} {g : TG} {tt : TT} {te : TE} {vs : List Nat} {σ : St} {H1 : Hp} {D : Addr} {Qd : Hp → Prop} (Pv : Nat → Hp → Prop) (h0 : Pv 0 (upd H1 D (.lst []))) (hl : ∀ i H, i ≤ xs.length → Pv i H → SqL K H a xs)
    (hs : ∀ i x H, xs[i]? = some x → Pv i H → g x (wipe σ vs) H fun σ2 H2 => wipe σ2 vs = wipe σ vs ∧ tt σ2 H2 fun b H3 =>
      if b = true then te σ2 H3 fun y H4 => ∃ acc, H4 D = some (.lst acc) ∧ acc.length < sizeLine ∧ Pv (i + 1) (upd H4 D (.lst (acc ++ [y]))) else Pv (i + 1) H3) (hd : ∀ H, Pv xs.length H → Qd H) :
    ∃ W : Nat → Nat → Hp → Prop, (∃ m, W 0 m (upd H1 D (.lst []))) ∧ ∀ i m H, W i m H →
      ((Itl K a).stop i H ∧ Qd H) ∨ ((Itl K a).go i H ∧ ∃ Nx : Hp → Prop, (∀ H', Nx H' → ∃ m', m' < m ∧ W (i + 1) m' H') ∧ ∀ x H', (Itl K a).yld i H x H' → g x (wipe σ vs) H' fun σ2 H2 => wipe σ2 vs = wipe σ vs ∧ tt σ2 H2 fun b H3 =>
        if b = true then te σ2 H3 fun y H4 => ∃ acc, H4 D = some (.lst acc) ∧ acc.length < sizeLine ∧ Nx (upd H4 D (.lst (acc ++ [y]))) else Nx H3) := by
  refine ⟨fun i m H => m = xs.length - i ∧ i ≤ xs.length ∧ Pv i H, ⟨xs.length, by simp, Nat.zero_le _, h0⟩, ?_⟩
  rintro i m H ⟨rfl, hi, p⟩
  have q := hl i H hi p
  by_cases hlt : i < xs.length
  · refine .inr ⟨⟨xs, xs[i], q, by simp [hlt]⟩, Pv (i + 1), fun H' p' => ⟨xs.length - (i + 1), by omega, rfl, hlt, p'⟩, fun x H' y => ?_⟩
    obtain ⟨e, y⟩ := y
    subst e
    exact hs i x _ (y xs q) p
  · have e : i = xs.length := by omega
    subst e
    exact .inl ⟨⟨xs, q, Nat.le_refl _⟩, hd H p⟩
def blkC (N : List Str) (sc scope : Scope) (own : List (Str × Nat)) : Bool :=
  (match scope.kind with | .function => true | _ => false) && (scope.names.all fun y => decide (scope.names.lookup y.1 = some y.2)) && (own.all fun p => decide (N[p.2]? = some p.1)) &&
    (scope.names.all fun y => match y.2 with
      | .free => (match sc.names.lookup y.1 with | some .cell => true | some .free => true | _ => false)
      | .local => decide (y.1 ∈ own.map (·.1)) || decide (y.1 ∉ N)
      | .cell => decide (y.1 ∈ own.map (·.1)) || decide (y.1 ∉ N)
      | _ => true)
end L2

namespace L2
open PySem PySem.Spec PyProof.Rows


section
variable {prog : Program} {w : World} {A : Around} {R : Result → Shared → Prop} {s : Shared} {elt t0 i0 t1 i1 : Expr} {ifs0 ifs1 : List Expr} {scope : Scope} {pos : Pos} {it acc : Value} {env : Env}
end

section
variable {X : Cx}
def tLc2 (wi : TI) (g : TG) (tt : TT) (wi1 : TI) (g1 : TG) (tt1 : TT) (te : TE) (vs vs1 : List Nat) : TE := fun σ H Q => wi σ H fun J H1 => ∀ D, H1 D = none → ∃ W : Nat → Nat → Hp → Prop, (∃ m, W 0 m (upd H1 D (.lst []))) ∧ ∀ i m H, W i m H →
  (J.stop i H ∧ Q (.ref D) H) ∨ (J.go i H ∧ ∃ Nx : Hp → Prop, (∀ H', Nx H' → ∃ m', m' < m ∧ W (i + 1) m' H') ∧ ∀ x H', J.yld i H x H' → g x (wipe σ vs) H' fun σ2 H2 => wipe σ2 vs = wipe σ vs ∧ tt σ2 H2 fun b H3 =>
    if b = true then wi1 σ2 H3 fun J1 H4 => ∃ W1 : Nat → Nat → Hp → Prop, (∃ m, W1 0 m H4) ∧ ∀ j k H, W1 j k H →
      (J1.stop j H ∧ Nx H) ∨ (J1.go j H ∧ ∃ Nx1 : Hp → Prop, (∀ H', Nx1 H' → ∃ k', k' < k ∧ W1 (j + 1) k' H') ∧ ∀ x H', J1.yld j H x H' → g1 x (wipe σ2 vs1) H' fun σ3 H5 => wipe σ3 vs1 = wipe σ2 vs1 ∧ tt1 σ3 H5 fun b H6 =>
        if b = true then te σ3 H6 fun y H7 => ∃ acc, H7 D = some (.lst acc) ∧ acc.length < sizeLine ∧ Nx1 (upd H7 D (.lst (acc ++ [y]))) else Nx1 H6)
    else Nx H3)
end
end L2

namespace L2
open PySem PySem.Spec PyProof.Rows

section
variable {κ : Type} [DecidableEq κ]
def valV (kvs : List (κ × V)) (k : κ) : Option V := (kvs.find? fun kv => decide (kv.1 = k)).map (·.2)
def putK (kvs : List (κ × V)) (k : κ) (v : V) : List (κ × V) :=
  if (kvs.any fun kv => decide (kv.1 = k)) = true then kvs.map (fun kv => if kv.1 = k then (kv.1, v) else kv) else kvs ++ [(k, v)]
def dropK (kvs : List (κ × V)) (k : κ) : List (κ × V) := kvs.filter fun kv => decide (kv.1 ≠ k)



end



abbrev KT (H : Hp) : List (List Key × V) → List (List Key × Addr × Value) → Prop := Paired fun p q => p.1 = q.1 ∧ H q.2.1 = some (.tup (p.1.map kV)) ∧ RelV p.2 q.2.2

section
variable {P : Program} {w : World} {H : Hp} {h : Heap} {a : Addr}
end

def DGet (H : Hp) (a : Addr) (y : V) (r : Option V) : Prop :=
  (∃ kvs k, Rd H a (.dK kvs) ∧ y = kV k ∧ r = valV kvs k) ∨ ∃ kvs k b, Rd H a (.dT kvs) ∧ y = .ref b ∧ H b = some (.tup (k.map kV)) ∧ r = valV kvs k
def DPut (H : Hp) (a : Addr) (y v : V) (H' : Hp) : Prop :=
  (∃ kvs k, H a = some (.dK kvs) ∧ y = kV k ∧ kvs.length < sizeLine ∧ H' = upd H a (.dK (putK kvs k v))) ∨
  ∃ kvs k b, H a = some (.dT kvs) ∧ y = .ref b ∧ H b = some (.tup (k.map kV)) ∧ kvs.length < sizeLine ∧ H' = upd H a (.dT (putK kvs k v))


section
variable {X : Cx} {pins : List (Addr × Obj)} {σ : St} {H : Hp} {s : Shared} {a : Addr} {y v : V} {u r : Value} {o : Option V} {A : Around} {E : Value → Shared → Prop}


end

section
variable {X : Cx} {pins : List (Addr × Obj)} {σ : St} {H : Hp} {s : Shared} {a : Addr} {kvs : List (Key × V)} {k : Key} {u : Value} {A : Around} {E : Value → Shared → Prop}
end


def NoSl (i : Expr) : Prop := ∀ ov iv, subscripted i false ov iv = operate [ov, iv] (getItem ov iv)


def tDGet (td ty : TE) : TE := fun σ H Q => td σ H fun x H1 => ty σ H1 fun y H2 => ∃ a v, x = .ref a ∧ DGet H2 a y (some v) ∧ Q v H2
def tDIn (ty td : TE) : TE := fun σ H Q => ty σ H fun y H1 => td σ H1 fun x H2 => ∃ a o, x = .ref a ∧ DGet H2 a y o ∧ Q (.bl o.isSome) H2
def tDNotIn (ty td : TE) : TE := fun σ H Q => ty σ H fun y H1 => td σ H1 fun x H2 => ∃ a o, x = .ref a ∧ DGet H2 a y o ∧ Q (.bl (!o.isSome)) H2
def sDPut (td ty tv : TE) : TS := fun D σ H => tv σ H fun v H1 => td σ H1 fun x H2 => ty σ H2 fun y H3 => ∃ a H4, x = .ref a ∧ DPut H3 a y v H4 ∧ D.nx σ H4
def sDAug (td ty tv : TE) (rd : V → V → Hp → VK → Prop) : TS := fun D σ H => td σ H fun x H1 => ty σ H1 fun y H2 => ∃ a v, x = .ref a ∧ DGet H2 a y (some v) ∧
  tv σ H2 fun y2 H3 => rd v y2 H3 fun z H4 => ∃ H5, DPut H4 a y z H5 ∧ D.nx σ H5
def sDDel (td ty : TE) : TS := fun D σ H => td σ H fun x H1 => ty σ H1 fun y H2 => ∃ a kvs k, x = .ref a ∧ H2 a = some (.dK kvs) ∧ y = kV k ∧ (valV kvs k).isSome = true ∧ D.nx σ (upd H2 a (.dK (dropK kvs k)))

section
variable {X : Cx} {o i e value : Expr} {pos pos' tpos : Pos} {td ty tv : TE}
end


def tDNewK : TE := fun _ H Q => ∀ p, H p = none → Q (.ref p) (upd H p (.dK []))
def tDNewT : TE := fun _ H Q => ∀ p, H p = none → Q (.ref p) (upd H p (.dT []))
section
variable {X : Cx} {pos : Pos}
end

def tPairs : List (TE × TE) → St → Hp → (List (V × V) → Hp → Prop) → Prop
  | [], _, H, Q => Q [] H
  | (tk, tv) :: r, σ, H, Q => tk σ H fun x H1 => tv σ H1 fun y H2 => tPairs r σ H2 fun ps H3 => Q ((x, y) :: ps) H3
abbrev VV : List (V × V) → List (Value × Value) → Prop := Paired fun p q => RelV p.1 q.1 ∧ RelV p.2 q.2
def PPs (X : Cx) (pos : Pos) (keys : List (Option Expr)) (values : List Expr) (trs : List (TE × TE)) : Prop :=
  ∀ (pins : List (Addr × Obj)) (s : Shared) (σ : St) (H : Hp) (Q : List (V × V) → Hp → Prop), Inv X pins σ H s → tPairs trs σ H Q →
    wpAny (model X.prog X.w) X.A (evalPairs (pairTrees keys values X.env pos)) (fun vs s' => ∃ ps H', Inv X pins σ H' s' ∧ VV ps vs ∧ Q ps H') X.xe s

def mergeK (kvs more : List (Key × V)) : List (Key × V) := more.foldl (fun acc kv => putK acc kv.1 kv.2) kvs
def tDisp (trs : List (TE × TE)) : TE := fun σ H Q => ∀ p, H p = none → tPairs trs σ (upd H p (.dK [])) fun ps H2 => H2 p = some (.dK []) ∧ ∃ kvs : List (Key × V), ps = kvs.map (fun kv => (kV kv.1, kv.2)) ∧ kvs.length ≤ 15 ∧ Q (.ref p) (upd H2 p (.dK (mergeK [] kvs)))


structure M1 (X : Cx) (o : Expr) (m : Str) (apos : Pos) (e : Expr) (cpos : Pos) : Prop where
  base : attributeBase o m X.env (eval o X.env) = eval o X.env
  few : ((backTo cpos (starEach [e] X.env)).all (fun x => !x.1) && (backToKw cpos (keywordEach [] X.env)).all (fun x => x.1.isSome)
    && decide (([e] : List Expr).length + ([] : List Keyword).length + (if ([] : List Keyword).isEmpty then 0 else 1) < 30)) = true
  line : (apos.endLine == cpos.line) = true
  trees : backTo cpos (starEach [e] X.env) = [(false, eval e X.env)]
structure M2 (X : Cx) (o : Expr) (m : Str) (apos : Pos) (e f : Expr) (cpos : Pos) : Prop where
  base : attributeBase o m X.env (eval o X.env) = eval o X.env
  few : ((backTo cpos (starEach [e, f] X.env)).all (fun x => !x.1) && (backToKw cpos (keywordEach [] X.env)).all (fun x => x.1.isSome)
    && decide (([e, f] : List Expr).length + ([] : List Keyword).length + (if ([] : List Keyword).isEmpty then 0 else 1) < 30)) = true
  line : (apos.endLine == cpos.line) = true
  trees : backTo cpos (starEach [e, f] X.env) = [(false, eval e X.env), (false, eval f X.env)]

def IsD (H : Hp) (a : Addr) : Prop := (∃ kvs, Rd H a (.dK kvs)) ∨ ∃ kvs, Rd H a (.dT kvs)

section
variable {X : Cx} {pins : List (Addr × Obj)} {σ : St} {H : Hp} {s : Shared} {a : Addr} {y d : V} {u r : Value} {o : Option V} {A : Around} {E : Value → Shared → Prop}
end

def tDGet1 (td ty : TE) : TE := fun σ H Q => td σ H fun x H1 => ∃ a, x = .ref a ∧ IsD H1 a ∧ ty σ H1 fun y H2 => ∃ o, DGet H2 a y o ∧ Q (o.getD .non) H2
def tDGet2 (td ty tx : TE) : TE := fun σ H Q => td σ H fun x H1 => ∃ a, x = .ref a ∧ IsD H1 a ∧ ty σ H1 fun y H2 => tx σ H2 fun z H3 => ∃ o, DGet H3 a y o ∧ Q (o.getD z) H3
def tDPop1 (td ty : TE) : TE := fun σ H Q => td σ H fun x H1 => ∃ a, x = .ref a ∧ IsD H1 a ∧ ty σ H1 fun y H2 => ∃ kvs k v, H2 a = some (.dK kvs) ∧ y = kV k ∧ valV kvs k = some v ∧ Q v (upd H2 a (.dK (dropK kvs k)))
def tDPop2 (td ty tx : TE) : TE := fun σ H Q => td σ H fun x H1 => ∃ a, x = .ref a ∧ IsD H1 a ∧ ty σ H1 fun y H2 => tx σ H2 fun z H3 => ∃ kvs k, H3 a = some (.dK kvs) ∧ y = kV k ∧
  (∀ v, valV kvs k = some v → Q v (upd H3 a (.dK (dropK kvs k)))) ∧ (valV kvs k = none → Q z H3)
section
variable {X : Cx} {o e f : Expr} {apos cpos : Pos} {td ty tx : TE}
end

section
variable {X : Cx} {pins : List (Addr × Obj)} {σ : St} {H : Hp} {s : Shared} {a : Addr} {kvs : List (Key × V)} {A : Around} {E : Value → Shared → Prop}
end


section
variable {X : Cx} {pins : List (Addr × Obj)} {σ : St} {H : Hp} {s : Shared} {a : Addr} {y : V} {u : Value} {A : Around} {E : Value → Shared → Prop}
end
end L2

namespace L2
open PySem PySem.Spec PyProof.Rows


section
variable {prog : Program} {w : World} {A : Around} {E : Value → Shared → Prop}


end

section
variable {X : Cx}
end
end L2

namespace L2
open PySem PySem.Spec PyProof.Rows

theorem boot_reversed5 : bootBuiltins "reversed" = some (.type "reversed") := by decide +kernel

section
variable {X : Cx} {pins : List (Addr × Obj)} {σ : St} {H : Hp} {s : Shared} {h' : Heap}
theorem Inv.turnedL {t' : Nat} {ch : List Addr} (I : Inv X pins σ H s) (k : ∀ b o, b ∉ ch → s.heap.get? b = some o → h'.get? b = some o) (hf : ∀ b ∈ ch, FpOk X pins H b) : Inv X pins σ H { s with heap := h', toks := t' } := by
  have nit : ∀ b u, H b = some u → b ∉ ch := fun b u e z => by
    have q := (hf b z).1
    rw [q] at e; cases e
  refine I.step (g' := s.gens) (d' := s.drawn) (ch := ch) (fun b hb => ⟨(hf b hb).2.2.2.1, (hf b hb).2.1, (hf b hb).2.2.2.2.1, (hf b hb).2.2.2.2.2⟩) (fun b o _ _ hc e _ => k b o hc e) (fun b o _ _ hc e _ => ⟨o.slots, k b o hc e⟩)
    (fun _ _ _ _ n => n) (fun b o hc e => ⟨o, k b o hc e⟩) (fun _ _ e => e) (fun _ _ _ e => e) (fun b ps e => ⟨#[], by rw [e]; simp⟩) (fun m hm => ?_) (fun b u e => ?_) I.bare
  · obtain ⟨o, es, ep, ho, r⟩ := hm
    exact ⟨o, es, ep, k _ o (fun z => (hf _ z).2.1 rfl) ho, r⟩
  · refine (I.hok b u e).stay (fun c v hc q => k c v ?_ q) (fun _ q => q) fun _ _ q => q
    rcases hc with z | z
    · rw [z]; exact nit b u e
    · exact nit c _ z
theorem Inv.turnedNew {t' : Nat} {ch : List Addr} {T : Addr} {ob : HO} (I : Inv X pins σ H s) (k : ∀ b o, b ∉ ch → s.heap.get? b = some o → h'.get? b = some o) (hf : ∀ b ∈ ch, FpOk X pins H b) (hT : s.heap.objs.size ≤ T)
    (new : ObjOk X.prog X.w (upd H T ob) h' T ob) : Inv X pins σ (upd H T ob) { s with heap := h', toks := t' } := by
  have hn : H T = none := I.hok.fresh hT
  have nit : ∀ b u, H b = some u → b ∉ ch := fun b u e z => by
    have q := (hf b z).1
    rw [q] at e; cases e
  refine I.step (g' := s.gens) (d' := s.drawn) (ch := ch) (fun b hb => ⟨(hf b hb).2.2.2.1, (hf b hb).2.1, (hf b hb).2.2.2.2.1, (hf b hb).2.2.2.2.2⟩) (fun b o _ _ hc e _ => k b o hc e) (fun b o _ _ hc e _ => ⟨o.slots, k b o hc e⟩)
    (fun b o _ e n => ?_) (fun b o hc e => ⟨o, k b o hc e⟩) (fun b xs e => ?_) (fun b o u e => ?_) (fun b ps e => ⟨#[], ?_⟩) (fun m hm => ?_) (fun b u e => ?_) I.bare
  · rw [upd_ne (Nat.ne_of_lt (Nat.lt_of_lt_of_le (Heap.lt_size e) hT))]; exact n
  · rw [upd_ne (ne_of_none e hn)]; exact e
  · rw [upd_ne (ne_of_none e hn)]; exact e
  · rw [upd_ne (ne_of_none e hn), e]; simp
  · obtain ⟨o, es, ep, ho, r⟩ := hm
    exact ⟨o, es, ep, k _ o (fun z => (hf _ z).2.1 rfl) ho, r⟩
  · by_cases hb : b = T
    · subst hb
      rw [upd_same] at e
      cases e
      exact new
    · rw [upd_ne hb] at e
      refine (I.hok b u e).stay (fun c v hc q => k c v ?_ q) (fun c q => by rw [upd_ne (ne_of_none q hn)]; exact q) fun c xs q => by rw [upd_ne (ne_of_none q hn)]; exact q
      rcases hc with z | z
      · rw [z]; exact nit b u e
      · exact nit c _ z

end
def tLock (t : TS) : TS := fun D σ H => ∃ d u, H d = some u ∧ Mut (some u) ∧ ∀ od, t ⟨fun σ' H' => H' d = some (.frz od u) ∧ D.nx σ' (upd H' d u), fun v H' => H' d = some (.frz od u) ∧ D.rt v (upd H' d u), fun σ' H' => H' d = some (.frz od u) ∧ D.bk σ' (upd H' d u), fun σ' H' => H' d = some (.frz od u) ∧ D.ct σ' (upd H' d u)⟩ σ (upd H d (.frz od u))
def tLockE (t : TE) : TE := fun σ H Q => ∃ d u, H d = some u ∧ Mut (some u) ∧ ∀ od, t σ (upd H d (.frz od u)) fun v H' => H' d = some (.frz od u) ∧ Q v (upd H' d u)
section
variable {X : Cx}

theorem pi_one {tg : Expr} {pins : List (Addr × Obj)} {σ : St} {H : Hp} {s : Shared} {R : It → Hp → Prop} {J : It} {tn : Nat → Heap → Prop} {tk : Nat} (I : Inv X pins σ H s) (o : Obj)
    (T : Turn X.prog X.w X.K tg J [s.heap.objs.size] s.heap.objs.size tn) (st : tn 0 (s.heap.push o)) (q : R J H) : PIE X pins σ tg R (.ref s.heap.objs.size) { s with heap := s.heap.push o, toks := tk } := by
  refine ⟨s.heap.objs.size, [s.heap.objs.size], tn, J, H, rfl, I.kept fun b ob e => Heap.get?_push_of_some _ e, T, st, fun b hb => ?_, q⟩
  have e : b = s.heap.objs.size := by simpa using hb
  subst e
  exact I.fpOk (Nat.le_refl _) (I.hok.fresh (Nat.le_refl _))
end

def Itc (lo c : Int) (n : Nat) : It := ⟨fun i _ => i < n, fun i H x H' => H' = H ∧ x = .int (lo + (i : Nat) * c), fun i _ => n ≤ i⟩
theorem turn_rangeC {P : Program} {w : World} {K : PySem.W.Frag} {tg : Expr} (it : Addr) (lo c : Int) (n : Nat) : Turn P w K tg (Itc lo c n) [it] it (fun i h => IsRangeIter h it (lo + (i : Nat) * c) ((n : Int) - (i : Nat)) c) where
  mem := by simp
  obj := fun i h st b hb => by
    have e : b = it := by simpa using hb
    subst e
    exact ⟨_, st, fun v z => nomatch z⟩
  keep := fun i h h' st k => k it (by simp) _ st
  item := by
    intro X hP hw hK hc i pins s σ H E I hf st hg
    subst hP hw hK
    obtain ⟨f0, f1, f2, f3, f4, f5⟩ := hf it (by simp)
    have W := Walks.range (prog := X.prog) (w := X.w) (I.ok.hd hc) it lo c n
    refine W.item i s _ _ hg st fun v h' tk hv st' kk => ?_
    obtain ⟨t, rfl⟩ := hv
    have I1 : Inv X pins σ H { s with heap := h', toks := tk } := I.turned (fun b o hb e => kk b o (by simpa using hb) e) f0 f1 f3 f4 f5
    exact ⟨_, rfl, go_of (s := { s with heap := h', toks := tk }) (n := "range_iterator") st' rfl rfl (by decide) ⟨.int (lo + (i : Nat) * c), H, I1, ⟨t, rfl⟩, ⟨rfl, rfl⟩, st', fun b hb => (hf b hb).1⟩⟩
  done := by
    intro X hP hw hK hc i pins s σ H E I hf st hg
    subst hP hw hK
    obtain ⟨f0, f1, f2, f3, f4, f5⟩ := hf it (by simp)
    exact wpAny_pyNext_range_end (I.ok.hd hc) st (by have : n ≤ i := hg; omega) fun h' eb => ⟨rfl, I.turned (t' := s.toks) (fun b o hb e => eb b o hb e) f0 f1 f3 f4 f5⟩
  self := fun A i s Q E st h => wpAny_pyIter_rangeiter st h
def RgC (i j c : Int) (n : Nat) : Prop := c ≠ 0 ∧ c.natAbs < 1073741824 ∧ Builtin.Range.small i j c = true ∧ Builtin.Range.rangeSize i j c = n
theorem RgC.neg {i j : Int} (ha : -(2 ^ 62) ≤ i) (ha' : i < 2 ^ 62) (hb : -(2 ^ 62) ≤ j) (hb' : j < 2 ^ 62) : RgC i j (-1) (i - j).toNat :=
  ⟨by decide, by decide, PySem.W.small_down ha ha' hb hb', PySem.W.rangeSize_downNat i j⟩
def iRng3 (ta : TA) : TI := fun σ H R => ta σ H fun vs H1 => ∃ (i j c : Int) (n : Nat), vs = [.int i, .int j, .int c] ∧ RgC i j c n ∧ R (Itc i c n) H1
section
variable {X : Cx} {tg : Expr}
theorem pi_range3 {a b c : Expr} {ta : TA} {p pos : Pos} (hg : Gl X "range") (hm : X.mg "range" = none) (ha : PA X [a, b, c] ta)
    (hs : starEach [a, b, c] X.env = (false, eval a X.env) :: starEach [b, c] X.env := by rfl) (hpl : (backTo pos (starEach [b, c] X.env)).any (·.1) = false := by rfl) :
    PI X tg (.Call (.Name "range" p) [a, b, c] [] pos) (iRng3 ta) := by
  intro pins s σ H R I h
  refine Call_ (ld_blt I hg hm boot_range (PyProof.Rows.callWith_type1 (thn (ha pos pins s σ H _ I h) fun us s1 ⟨vs, H1, I1, r1, q1⟩ => ?_) hs hpl))
  obtain ⟨i, j, k, n, e, ⟨c0, c1, c2, c3⟩, q⟩ := q1
  subst e
  cases r1 with
  | cons r rr =>
    cases rr with
    | cons r' rr =>
      cases rr with
      | cons r'' rr =>
        cases rr
        obtain ⟨t, rfl⟩ := r
        obtain ⟨t', rfl⟩ := r'
        obtain ⟨t'', rfl⟩ := r''
        refine call_range_3 c0 ?_ (.inl (PyProof.noPylong_small c1))
        refine wpAny_pyIter_range (IsRange.new ..) c2 ?_
        have I2 : Inv X pins σ H1 { s1 with heap := s1.heap.push { cls := .type "range", data := .fields #[.int i t, .int j t', .int k t''] } } := I1.kept (t' := s1.toks) fun b o e => Heap.get?_push_of_some _ e
        refine pi_one (tk := s1.toks) I2 _ (turn_rangeC _ i k n) ?_ q
        have e1 : i + ((0 : Nat) : Int) * k = i := by simp
        have e2 : (n : Int) - ((0 : Nat) : Int) = Builtin.Range.rangeSize i j k := by rw [c3]; simp
        show IsRangeIter _ _ (i + ((0 : Nat) : Int) * k) ((n : Int) - ((0 : Nat) : Int)) k
        rw [e1, e2]
        exact Heap.get?_push_size _ rfl
end
theorem for_rangeC {lo c : Int} {n : Nat} {g : TG} {tb : TS} {D : Ends} {σ : St} {H : Hp} (Pv : Nat → St → Hp → Prop) (h0 : Pv 0 σ H)
    (hs : ∀ i σ H, i < n → Pv i σ H → g (.int (lo + (i : Nat) * c)) σ H fun σ2 H2 => tb { D with nx := Pv (i + 1), ct := Pv (i + 1), bk := D.nx } σ2 H2) (hd : ∀ σ H, Pv n σ H → D.nx σ H) :
    ∃ W : Nat → Nat → St → Hp → Prop, (∃ m, W 0 m σ H) ∧ ∀ i m σ H, W i m σ H →
      ((Itc lo c n).stop i H ∧ D.nx σ H) ∨ ((Itc lo c n).go i H ∧ ∃ N : St → Hp → Prop, (∀ σ' H', N σ' H' → ∃ m', m' < m ∧ W (i + 1) m' σ' H') ∧ ∀ x H', (Itc lo c n).yld i H x H' → g x σ H' fun σ2 H2 => tb { D with nx := N, ct := N, bk := D.nx } σ2 H2) := by
  refine ⟨fun i m σ H => m = n - i ∧ i ≤ n ∧ Pv i σ H, ⟨n, by simp, Nat.zero_le _, h0⟩, ?_⟩
  rintro i m σ H ⟨rfl, hi, p⟩
  by_cases hlt : i < n
  · refine .inr ⟨hlt, Pv (i + 1), fun σ' H' p' => ⟨n - (i + 1), by omega, rfl, hlt, p'⟩, fun x H' y => ?_⟩
    obtain ⟨e, y⟩ := y
    subst e y
    exact hs i σ _ hlt p
  · have e : i = n := by omega
    subst e
    exact .inl ⟨Nat.le_refl _, hd σ H p⟩

def Itv (K : PySem.W.Frag) (a : Addr) (n : Nat) : It :=
  ⟨fun i H => i < n ∧ ∃ (xs : List V) (x : V), SqL K H a xs ∧ xs[n - 1 - i]? = some x, fun i H x H' => H' = H ∧ ∀ xs, SqL K H a xs → xs[n - 1 - i]? = some x, fun i _ => n ≤ i⟩
theorem turn_rev {P : Program} {w : World} {K : PySem.W.Frag} {tg : Expr} (a it : Addr) (n : Nat) : Turn P w K tg (Itv K a n) [it] it (fun i h => i ≤ n ∧ h.IsRevIter it a ((n : Int) - 1 - (i : Nat))) where
  mem := by simp
  obj := fun i h st b hb => by
    have e : b = it := by simpa using hb
    subst e
    obtain ⟨_, o, e, c, d⟩ := st
    exact ⟨o, e, fun v z => by rw [d] at z; cases z⟩
  keep := fun i h h' st k => ⟨st.1, st.2.at fun o e => k it (by simp) o e⟩
  item := by
    intro X hP hw hK hc i pins s σ H E I hf st hg
    subst hP hw hK
    obtain ⟨hin, xs, x, hq, hx⟩ := hg
    obtain ⟨its, rv, p, hz⟩ := I.list hq
    obtain ⟨u, hu, ru⟩ := rv.get hx
    obtain ⟨f0, f1, f2, f3, f4, f5⟩ := hf it (by simp)
    obtain ⟨_, hit⟩ := st
    have e1 : (n : Int) - 1 - ((i : Nat) : Int) = ((n - 1 - i : Nat) : Int) := by omega
    rw [e1] at hit
    refine wpAny_pyNext_rev_item hit p.isList (x := u) (by simpa using hu) fun h' st' sb => ?_
    have e2 : ((n - 1 - i : Nat) : Int) - 1 = (n : Int) - 1 - ((i + 1 : Nat) : Int) := by omega
    rw [e2] at st'
    have I1 : Inv X pins σ H { s with heap := h' } := I.turned (t' := s.toks) (fun b o hb e => (sb.2 b hb).trans e) f0 f1 f3 f4 f5
    obtain ⟨o, e, c, d⟩ := id st'
    exact ⟨u, rfl, go_of (s := { s with heap := h' }) e c d (by decide) ⟨x, H, I1, ru, ⟨rfl, fun ys hy => by rw [I.list_inj hy hq]; exact hx⟩, ⟨hin, st'⟩, fun b hb => (hf b hb).1⟩⟩
  done := by
    intro X hP hw hK hc i pins s σ H E I hf st hg
    subst hP hw hK
    obtain ⟨f0, f1, f2, f3, f4, f5⟩ := hf it (by simp)
    obtain ⟨hin, hit⟩ := st
    have hge : n ≤ i := hg
    have e1 : (n : Int) - 1 - ((i : Nat) : Int) = -1 := by omega
    rw [e1] at hit
    exact wpAny_pyNext_rev_end (I.ok.hd hc) hit fun h' eb => ⟨rfl, I.turned (t' := s.toks) (fun b o hb e => eb b o hb e) f0 f1 f3 f4 f5⟩
  self := fun A i s Q E st h => wpAny_pyIter_revIter st.2 h
def iRev (K : PySem.W.Frag) (ta : TA) : TI := fun σ H R => ta σ H fun vs H1 => ∃ (a : Addr) (xs : List V), vs = [.ref a] ∧ SqL K H1 a xs ∧ R (Itv K a xs.length) H1
section
variable {X : Cx} {tg : Expr}
theorem pi_reversed {e : Expr} {ta : TA} {p pos : Pos} (hg : Gl X "reversed") (hm : X.mg "reversed" = none) (ha : PA X [e] ta) (hs : starEach [e] X.env = [(false, eval e X.env)] := by rfl) : PI X tg (.Call (.Name "reversed" p) [e] [] pos) (iRev X.K ta) := by
  intro pins s σ H R I h
  refine Call_ (ld_blt I hg hm boot_reversed5 (PyProof.Rows.callWith_type1 (thn (ha pos pins s σ H _ I h) fun us s1 ⟨vs, H1, I1, r1, q1⟩ => ?_) hs rfl))
  obtain ⟨a, xs, e, hq, q⟩ := q1
  subst e
  cases r1 with
  | cons r rr =>
    cases rr
    cases r
    obtain ⟨its, rv, p', hz⟩ := I1.list hq
    have hl := rv.length
    have e1 : ((its.toArray.size : Nat) : Int) - 1 = (xs.length : Int) - 1 - ((0 : Nat) : Int) := by simp only [List.size_toArray]; omega
    refine call_reversed_list p'.isList (wpAny_pyIter_revIter (l := a) (i := ((its.toArray.size : Nat) : Int) - 1) ⟨_, Heap.get?_push_size _ rfl, rfl, rfl⟩ ?_)
    refine pi_one (tk := s1.toks) I1 _ (turn_rev a _ xs.length) ⟨Nat.zero_le _, ?_⟩ q
    rw [← e1]
    exact ⟨_, Heap.get?_push_size _ rfl, rfl, rfl⟩
end

def Its (x : Str) : It := ⟨fun i _ => i < x.cps.size, fun i H v H' => H' = H ∧ ∃ c, x.cps[i]? = some c ∧ v = .str ⟨#[c]⟩, fun i _ => x.cps.size ≤ i⟩
def iStr (te : TE) : TI := fun σ H R => te σ H fun v H1 => ∃ x, v = .str x ∧ R (Its x) H1

section
variable {prog : Program} {w : World} {A : Around} {E : Value → Shared → Prop} {s : Shared}
end

section
variable {X : Cx} {pins : List (Addr × Obj)} {σ : St} {H : Hp} {s : Shared} {d : Addr} {o : Obj}
end

def Itk (d : Addr) (o : Obj) (kvs : List (Key × V)) : It :=
  ⟨fun i H => H d = some (.frz o (.dK kvs)) ∧ i < kvs.length, fun i H x H' => H' = H ∧ ∃ k v, kvs[i]? = some (k, v) ∧ x = kV k, fun i H => H d = some (.frz o (.dK kvs)) ∧ kvs.length ≤ i⟩
def Itkt (d : Addr) (o : Obj) (kvs : List (List Key × V)) : It :=
  ⟨fun i H => H d = some (.frz o (.dT kvs)) ∧ i < kvs.length, fun i H x H' => H' = H ∧ ∃ (k : List Key) (v : V) (q : Addr), kvs[i]? = some (k, v) ∧ x = .ref q ∧ H q = some (.tup (k.map kV)), fun i H => H d = some (.frz o (.dT kvs)) ∧ kvs.length ≤ i⟩
def Itd (d : Addr) (o : Obj) (kvs : List (Key × V)) : It :=
  ⟨fun i H => H d = some (.frz o (.dK kvs)) ∧ i < kvs.length, fun i H x H' => H' = H ∧ ∃ k, kvs[i]? = some (k, x), fun i H => H d = some (.frz o (.dK kvs)) ∧ kvs.length ≤ i⟩
def Iti (d : Addr) (o : Obj) (kvs : List (Key × V)) : It :=
  ⟨fun i H => H d = some (.frz o (.dK kvs)) ∧ i < kvs.length, fun i H x H' => ∃ T k v, kvs[i]? = some (k, v) ∧ x = .ref T ∧ H T = none ∧ H' = upd H T (.tup [kV k, v]), fun i H => H d = some (.frz o (.dK kvs)) ∧ kvs.length ≤ i⟩
section
variable {P : Program} {w : World} {K : PySem.W.Frag} {tg : Expr} {d : Addr} {o : Obj} {es : Array DictEntry} {ep : Nat}
end

def iKeys (td : TE) : TI := fun σ H R => td σ H fun x H1 => ∃ d o, x = .ref d ∧ ((∃ kvs, H1 d = some (.frz o (.dK kvs)) ∧ R (Itk d o kvs) H1) ∨ ∃ kvs, H1 d = some (.frz o (.dT kvs)) ∧ R (Itkt d o kvs) H1)
def iVals (td : TE) : TI := fun σ H R => td σ H fun x H1 => ∃ d o kvs, x = .ref d ∧ H1 d = some (.frz o (.dK kvs)) ∧ R (Itd d o kvs) H1
def iItems (td : TE) : TI := fun σ H R => td σ H fun x H1 => ∃ d o kvs, x = .ref d ∧ H1 d = some (.frz o (.dK kvs)) ∧ R (Iti d o kvs) H1
def iKeysM (td : TE) : TI := fun σ H R => td σ H fun x H1 => ∃ d o kvs, x = .ref d ∧ H1 d = some (.frz o (.dK kvs)) ∧ R (Itk d o kvs) H1
section
variable {X : Cx} {tg e : Expr} {td : TE} {apos cpos : Pos}
end

def Ite (K : PySem.W.Frag) (a : Addr) : It :=
  ⟨fun i H => ∃ (xs : List V) (x : V), SqL K H a xs ∧ xs[i]? = some x, fun i H v H' => ∃ T x, v = .ref T ∧ H T = none ∧ H' = upd H T (.tup [.int (i : Nat), x]) ∧ ∀ xs, SqL K H a xs → xs[i]? = some x, fun i H => ∃ xs : List V, SqL K H a xs ∧ xs.length ≤ i⟩
def iEnum (K : PySem.W.Frag) (ta : TA) : TI := fun σ H R => ta σ H fun vs H1 => ∃ a xs, vs = [.ref a] ∧ SqL K H1 a xs ∧ R (Ite K a) H1
theorem boot_zip5 : bootBuiltins "zip" = some (.type "zip") := by decide +kernel
def Itz (K : PySem.W.Frag) (a b : Addr) : It :=
  ⟨fun i H => ∃ (xs ys : List V) (x y : V), SqL K H a xs ∧ SqL K H b ys ∧ xs[i]? = some x ∧ ys[i]? = some y,
    fun i H v H' => ∃ T x y, v = .ref T ∧ H T = none ∧ H' = upd H T (.tup [x, y]) ∧ (∀ xs, SqL K H a xs → xs[i]? = some x) ∧ ∀ ys, SqL K H b ys → ys[i]? = some y,
    fun i H => ∃ xs ys : List V, SqL K H a xs ∧ SqL K H b ys ∧ (xs.length ≤ i ∨ ys.length ≤ i)⟩
theorem turn_zip {P : Program} {w : World} {K : PySem.W.Frag} {elts : List Expr} {kk : Nat} {tpos : Pos} {a b z TI TO i1 i2 : Addr} (D : ZipApart z TI TO i1 i2 a b) :
    Turn P w K (.Tuple elts kk tpos) (Itz K a b) [z, TI, TO, i1, i2] z (fun i h => IsZip h z TI TO .none ∧ IsPair h TI (.ref i1) (.ref i2) ∧ (∃ x y, IsPair h TO x y) ∧ h.IsListIter i1 a i ∧ h.IsListIter i2 b i) where
  mem := by simp
  obj := fun i h st c hc => by
    obtain ⟨hz, hTI, ⟨x, y, hTO⟩, ⟨o1, e1, _, d1⟩, ⟨o2, e2, _, d2⟩⟩ := st
    have e' : c = z ∨ c = TI ∨ c = TO ∨ c = i1 ∨ c = i2 := by simpa using hc
    rcases e' with q | q | q | q | q
    · rw [q]; exact ⟨_, hz, fun v q => nomatch q⟩
    · rw [q]; exact ⟨_, hTI, fun v q => nomatch q⟩
    · rw [q]; exact ⟨_, hTO, fun v q => nomatch q⟩
    · rw [q]; exact ⟨o1, e1, fun v q => by rw [d1] at q; cases q⟩
    · rw [q]; exact ⟨o2, e2, fun v q => by rw [d2] at q; cases q⟩
  keep := fun i h h' st k => by
    obtain ⟨hz, hTI, ⟨x, y, hTO⟩, h1, h2⟩ := st
    exact ⟨k z (by simp) _ hz, k TI (by simp) _ hTI, ⟨x, y, k TO (by simp) _ hTO⟩, h1.at fun o q => k i1 (by simp) o q, h2.at fun o q => k i2 (by simp) o q⟩
  item := by
    intro X hP hw hK hc i pins s σ H E I hf st hg
    subst hP hw hK
    obtain ⟨hz, hTI, ⟨x0, y0, hTO⟩, h1, h2⟩ := st
    obtain ⟨xs, ys, x, y, hqx, hqy, hx, hy⟩ := hg
    obtain ⟨its, rv, p, _⟩ := I.list hqx
    obtain ⟨its2, rv2, p2, _⟩ := I.list hqy
    obtain ⟨u, hu, ru⟩ := rv.get hx
    obtain ⟨u2, hu2, ru2⟩ := rv2.get hy
    have hzl : z < s.heap.objs.size := Heap.lt_size hz
    refine wpAny_pyNext_zip_item D hz hTI hTO h1 h2 p.isList p2.isList (x := u) (y := u2) (by simpa using hu) (by simpa using hu2) fun h' z' TO' h1' h2' hT hsz hk => ?_
    refine ⟨_, rfl, wpAny_letOwnedTupleGo_zip (s := { s with heap := h' }) z' fun h'' z'' sb => ?_⟩
    have hT2 : h''.get? s.heap.objs.size = some { cls := .type "tuple", data := .seq #[u, u2] } := (sb.2 _ (Nat.ne_of_gt hzl)).trans hT
    have new : ObjOk X.prog X.w (upd H s.heap.objs.size (.tup [x, y])) h'' s.heap.objs.size (.tup [x, y]) :=
      ⟨by show 2 ≤ sizeLine; decide, [u, u2], .cons ru (.cons ru2 .nil), ⟨_, hT2, rfl, _, rfl⟩⟩
    have I1 : Inv X pins σ (upd H s.heap.objs.size (.tup [x, y])) { s with heap := h'' } :=
      I.turnedNew (t' := s.toks) (ch := [z, TI, TO, i1, i2]) (fun c o hb q => (sb.2 c (fun q' => hb (by simp [q']))).trans (hk c o (fun q' => hb (by simp [q'])) (fun q' => hb (by simp [q'])) (fun q' => hb (by simp [q'])) (fun q' => hb (by simp [q'])) q)) hf (Nat.le_refl _) new
    refine ⟨.ref s.heap.objs.size, _, I1, rfl, ⟨_, x, y, rfl, I.hok.fresh (Nat.le_refl _), rfl, fun l hl => by rw [I.list_inj hl hqx]; exact hx, fun l hl => by rw [I.list_inj hl hqy]; exact hy⟩, ⟨z'', ?_, ⟨u, u2, ?_⟩, ?_, ?_⟩, fun c hcm => ?_⟩
    · exact (sb.2 _ D.TIz).trans (hk _ _ D.TIz D.TITO D.TIi1 D.TIi2 hTI)
    · exact (sb.2 _ D.TOz).trans TO'
    · exact h1'.at fun o q => (sb.2 _ D.i1z).trans q
    · exact h2'.at fun o q => (sb.2 _ D.i2z).trans q
    · have hlt : c < s.heap.objs.size := by
        have e' : c = z ∨ c = TI ∨ c = TO ∨ c = i1 ∨ c = i2 := by simpa using hcm
        rcases e' with q | q | q | q | q
        · rw [q]; exact hzl
        · rw [q]; exact Heap.lt_size hTI
        · rw [q]; exact Heap.lt_size hTO
        · rw [q]; obtain ⟨_, e1, _⟩ := h1; exact Heap.lt_size e1
        · rw [q]; obtain ⟨_, e2, _⟩ := h2; exact Heap.lt_size e2
      rw [upd_ne (Nat.ne_of_lt hlt)]
      exact (hf c hcm).1
  done := by
    intro X hP hw hK hc i pins s σ H E I hf st hg
    subst hP hw hK
    obtain ⟨hz, hTI, ⟨x0, y0, hTO⟩, h1, h2⟩ := st
    obtain ⟨xs, ys, hqx, hqy, hend⟩ := hg
    obtain ⟨its, rv, p, _⟩ := I.list hqx
    obtain ⟨its2, rv2, p2, _⟩ := I.list hqy
    have l1 := rv.length
    have l2 := rv2.length
    have he : its.toArray[i]? = none ∨ its2.toArray[i]? = none := by
      rcases hend with q | q
      · exact .inl (by simp; omega)
      · exact .inr (by simp; omega)
    exact wpAny_pyNext_zip_end (I.ok.hd hc) D hz hTI hTO h1 h2 p.isList p2.isList he fun h' hk => ⟨rfl, I.turnedL (t' := s.toks) (ch := [z, TI, TO, i1, i2]) (fun c o hb q =>
      hk c o (fun q' => hb (by simp [q'])) (fun q' => hb (by simp [q'])) (fun q' => hb (by simp [q'])) (fun q' => hb (by simp [q'])) q) hf⟩
  self := fun A i s Q E st h => wpAny_pyIter_zip st.1 h
def iZip (K : PySem.W.Frag) (ta : TA) : TI := fun σ H R => ta σ H fun vs H1 => ∃ a b xs ys, vs = [.ref a, .ref b] ∧ SqL K H1 a xs ∧ SqL K H1 b ys ∧ R (Itz K a b) H1
theorem pi_zip {X : Cx} {e e2 : Expr} {ta : TA} {p pos tpos : Pos} {elts : List Expr} {kk : Nat} (hg : Gl X "zip") (hm : X.mg "zip" = none) (ha : PA X [e, e2] ta)
    (hs : starEach [e, e2] X.env = (false, eval e X.env) :: starEach [e2] X.env := by rfl) (hpl : (backTo pos (starEach [e2] X.env)).any (·.1) = false := by rfl) :
    PI X (.Tuple elts kk tpos) (.Call (.Name "zip" p) [e, e2] [] pos) (iZip X.K ta) := by
  intro pins s σ H R I h
  refine Call_ (ld_blt I hg hm boot_zip5 (PyProof.Rows.callWith_type1 (thn (ha pos pins s σ H _ I h) fun us s1 ⟨vs, H1, I1, r1, q1⟩ => ?_) hs hpl))
  obtain ⟨a, b, xs, ys, ex, hqx, hqy, q⟩ := q1
  subst ex
  cases r1 with
  | cons r rr =>
    cases rr with
    | cons r' rr =>
      cases rr
      cases r
      cases r'
      obtain ⟨its, rv, p1, _⟩ := I1.list hqx
      obtain ⟨its2, rv2, p2, _⟩ := I1.list hqy
      have la : a < s1.heap.objs.size := p1.lt
      have lb : b < s1.heap.objs.size := p2.lt
      refine call_zip_2 p1.isList p2.isList fun h' hz hTI hTO h1 h2 hsz hk => wpAny_pyIter_zip hz ?_
      have I2 : Inv X pins σ H1 { s1 with heap := h' } := I1.kept (t' := s1.toks) hk
      refine ⟨s1.heap.objs.size + 4, [s1.heap.objs.size + 4, s1.heap.objs.size + 2, s1.heap.objs.size + 3, s1.heap.objs.size, s1.heap.objs.size + 1], _, _, H1, rfl, I2, turn_zip (PySem.W.ktu_apart s1.heap.objs.size a b la lb), ⟨hz, hTI, ⟨_, _, hTO⟩, h1, h2⟩, fun c hcm => ?_, q⟩
      have e' : c = s1.heap.objs.size + 4 ∨ c = s1.heap.objs.size + 2 ∨ c = s1.heap.objs.size + 3 ∨ c = s1.heap.objs.size ∨ c = s1.heap.objs.size + 1 := by simpa using hcm
      have hle : s1.heap.objs.size ≤ c := by
        rcases e' with z | z | z | z | z
        · rw [z]; exact Nat.le_add_right _ _
        · rw [z]; exact Nat.le_add_right _ _
        · rw [z]; exact Nat.le_add_right _ _
        · rw [z]; exact Nat.le_refl _
        · rw [z]; exact Nat.le_add_right _ _
      exact I1.fpOk hle (I1.hok.fresh hle)
end L2

section 
namespace Bits
open PySem PyProof.Rows








end Bits
end 

section 
namespace TL
open PySem PySem.Builtin PySem.Builtin.Str PySem.StrLaws

abbrev tl (x : Str) : List Nat := x.cps.toList

def pre (S l : List Nat) : Bool := l.take S.length == S
def spl (S : List Nat) : Nat → List Nat → List Nat → List (List Nat)
  | _, acc, [] => [acc]
  | 0, acc, c :: r => if pre S (c :: r) = true then acc :: spl S (S.length - 1) [] r else spl S 0 (acc ++ [c]) r
  | k + 1, acc, _ :: r => spl S k acc r
def par (S : List Nat) : List Nat → List Nat → Option (List Nat × List Nat)
  | _, [] => none
  | acc, c :: r => if pre S (c :: r) = true then some (acc, (c :: r).drop S.length) else par S (acc ++ [c]) r









def joinL (S : List Nat) : List (List Nat) → List Nat
  | [] => []
  | [p] => p
  | p :: q :: r => p ++ (S ++ joinL S (q :: r))

def numL (n : Nat) : List Nat := (Nat.toDigits 10 n).map Char.toNat

def wstep (st : List (List Nat) × List Nat) (c : Nat) : List (List Nat) × List Nat :=
  if Unicode.isSpace c = true then (if st.2 = [] then st else (st.1 ++ [st.2], [])) else (st.1, st.2 ++ [c])
def wfin (st : List (List Nat) × List Nat) : List (List Nat) := if st.2 = [] then st.1 else st.1 ++ [st.2]
end TL
end 

namespace L2
open PySem PySem.Spec PyProof.Rows



def rNewStrs (ys : List Str) : Hp → VK → Prop := fun H Q => ∀ p, H p = none → Q (.ref p) (upd H p (.lst (ys.map V.str)))

section
variable {X : Cx} {pins : List (Addr × Obj)} {σ : St} {H : Hp} {s : Shared} {Q : VK}
end

section
variable {X : Cx}







end

section
variable {X : Cx} {o e : Expr} {to te : TE}
def tM0 (r : V → List V → Hp → VK → Prop) (to : TE) : TE := fun σ H Q => to σ H fun x H1 => (∃ a, x = .str a) ∧ r x [] H1 Q
def tM1 (r : V → List V → Hp → VK → Prop) (to te : TE) : TE := fun σ H Q => to σ H fun x H1 => (∃ a, x = .str a) ∧ te σ H1 fun y H2 => r x [y] H2 Q

end
end L2

namespace L2
open PySem PySem.Spec PyProof.Rows

section
variable {X : Cx}
end


def clipS (n d : Nat) : Option Int → Int
  | none => (d : Int)
  | some i => max 0 (min (if i < 0 then i + (n : Int) else i) (n : Int))

def cutS (z : Str) (lo hi : Option Int) : Str :=
  ⟨((z.cps.toList.drop (HT.sIx z.length 0 lo)).take (HT.sIx z.length z.length hi - HT.sIx z.length 0 lo)).toArray⟩
def rSlS : V → Option Int → Option Int → Hp → VK → Prop := fun x lo hi H Q => ∃ z, x = .str z ∧ z.length ≤ sizeLine ∧ Q (.str (cutS z lo hi)) H
end L2

namespace Att
open PySem PySem.W PySem.Calls PyProof.Rows







section
variable {prog : Program} {w : World} {A : Around} {E : Value → Shared → Prop} {s : Shared} {K : Frag}





def noObjs (h : Heap) : Heap := { h with objs := #[] }
def ledger (h : Heap) (L d : Addr) : List (Addr × Obj) := (List.range h.objs.size).filterMap fun a => if a = L ∨ a = d then none else (h.get? a).map fun o => (a, o)

end
end Att

namespace L2
open PySem PySem.Spec PyProof.Rows

theorem vals_ints : ∀ {vs : List Value} {ns : List Int}, IntsAre vs ns → Vals (ns.map V.int) vs
  | _, _, .nil => .nil
  | _, _, .cons n t h => .cons ⟨t, rfl⟩ (vals_ints h)

def Only (H : Hp) : Prop := ∀ b, H b = none ∨ ∃ o xs, H b = some (.frz o (.lst xs))

theorem law_call {P : Program} {w : World} {K : PySem.W.Frag} {mg mb : Str → Option Value} {CX : CXT} {k : Nat} {fa a : Addr} {fd : FuncData} {x : Str} {sp : Sp} {s₁ : Shared} {vs : List Value} {ns : List Int}
    (KX : K.In s₁.heap) (hns : s₁.heap.Ns mainGlobals mg) (hb : s₁.heap.Ns builtinsNs mb) (hbb : ∀ x : Str, x ≠ "__name__" → mb x = bootBuiltins x) (hlim : s₁.heap.NoLimit) (hg : s₁.gens = #[])
    (ha : s₁.heap.get? a = some { cls := .type "list", data := .seq vs.toArray }) (hi : IntsAre vs ns) (hl : ns.length ≤ sizeLine) (hr : Room k callerA)
    (F : ∀ base : Heap, K.In base → base.Ns mainGlobals mg → FnOk P w K mg base CX k fa fd [x] sp) (hbind : ∀ (s : Shared) (u : Value), BindsTo s fd ⟨[u], []⟩ [(x, u)])
    (hsp : ∀ H : Hp, Only H → SqL K H a (ns.map V.int) → sp [.ref a] H (fun v _ => v = .bl true) fun _ _ _ => False)
    (hCX : ∀ H e s', CX [] H s₁ (fun _ _ _ => False) e s' → False) :
    codeAny (model P w) callerA (.call (.ref fa) ⟨[.ref a], []⟩) (fun r s' => r = .ok (.ret (.bool true)) ∧ OldK s₁.heap s'.heap ∧ s'.os = s₁.os ∧ AllBare s'.gens) s₁ := by
  have rv := vals_ints hi
  have lenV := hi.length
  have core : ∀ H : Hp, Only H → SqL K H a (ns.map V.int) → HOk P w H s₁.heap → (∀ b, H b ≠ none → b = a) → (H a ≠ none → K.lookup a = none) →
      codeAny (model P w) callerA (.call (.ref fa) ⟨[.ref a], []⟩) (fun r s' => r = .ok (.ret (.bool true)) ∧ OldK s₁.heap s'.heap ∧ s'.os = s₁.os ∧ AllBare s'.gens) s₁ := by
    intro H hO hS hok hA hK
    have base_of : ∀ {b : Addr} {o : Obj}, s₁.heap.get? b = some o → H b = none → (hidT s₁.heap H).get? b = some o := fun e n => hidT_get e n
    have noA : ∀ {b : Addr} {o : Obj} {es : Array DictEntry} {ep : Nat}, s₁.heap.get? b = some o → o.data = .dict es ep → H b = none := fun {b o es ep} e d => by
      cases q : H b with
      | none => rfl
      | some u =>
        have e' : b = a := hA b (by rw [q]; simp)
        subst e'
        rw [ha] at e; cases e
        have d' : Data.seq vs.toArray _ = Data.dict es ep := d
        cases d'
    have nsK : ∀ {b : Addr} {m : Str → Option Value}, s₁.heap.Ns b m → (hidT s₁.heap H).Ns b m := fun {b m} ⟨o, es, ep, e, d, r⟩ => ⟨o, es, ep, base_of e (noA e d), d, r⟩
    have hKb : K.In (hidT s₁.heap H) := fun b o e => base_of (KX b o e) (by
      cases q : H b with
      | none => rfl
      | some u =>
        have e' : b = a := hA b (by rw [q]; simp)
        subst e'
        rw [hK (by rw [q]; simp)] at e; cases e)
    have hM : Mod K mg (hidT s₁.heap H) := ⟨hKb, nsK hns, ⟨mb, nsK hb, hbb⟩, let ⟨mc, h1, h2⟩ := hlim; ⟨mc, nsK h1, h2⟩⟩
    have e0 : Env0 P w K mg (hidT s₁.heap H) callerA [] s₁ H := ⟨rfl, hM, fun b o e => of_hidT e, Nat.le_of_eq (hidT_size _ _), trivial, fun b hb => absurd (show b ∈ ([] : List Addr) from hb) (by simp), hok, .of_eq hg⟩
    refine codeAny_mono ((F _ hKb (nsK hns)).run callerA [] s₁ H ⟨[.ref a], []⟩ [.ref a] [.ref a] _ _ hr e0 (hbind s₁ (.ref a)) (.cons rfl .nil) (hsp H hO hS)) fun r s' h => ?_
    cases r with
    | error e => exact (hCX H e s' h).elim
    | ok fl =>
      cases fl with
      | next => exact False.elim h
      | brk => exact False.elim h
      | cont => exact False.elim h
      | ret u =>
        obtain ⟨v, H', os, bare, un, hok', r', q⟩ := h
        have q' : v = .bl true := q
        subst q'
        obtain rfl : u = Value.bool true := r'
        refine ⟨rfl, OldK.of_keep fun b o e => ?_, os, bare⟩
        cases q : H b with
        | none => exact un.keep b o e q (by intro z; exact absurd (show b ∈ ([] : List Addr) from z) (by simp)) (by simp)
        | some u =>
          rcases hO b with z | ⟨ob, xs, z⟩
          · rw [q] at z; cases z
          · have z2 := un.frzs b ob _ z
            obtain ⟨e1, _⟩ := hok b _ z
            obtain ⟨e2, _⟩ := hok' b _ z2
            rw [e] at e1; cases e1
            exact e2
  cases hk : K.lookup a with
  | some o =>
    have e := KX a o hk
    rw [ha] at e
    cases e
    refine core (fun _ => none) (fun _ => .inl rfl) (.inr ⟨_, vs.toArray, _, hk, rfl, rfl, rfl, by rw [List.size_toArray, lenV]; exact hl, by simpa using rv⟩) (fun b u z => by have z' : (none : Option HO) = some u := z; cases z') (fun b z => absurd rfl z) fun z => absurd rfl z
  | none =>
    refine core (fun b => if b = a then some (.frz { cls := .type "list", data := .seq vs.toArray } (.lst (ns.map V.int))) else none) (fun b => ?_) (.inl (.inr ⟨{ cls := .type "list", data := .seq vs.toArray }, if_pos rfl⟩)) (fun b u z => ?_) (fun b z => ?_) fun _ => hk
    · by_cases hb : b = a
      · exact .inr ⟨_, _, if_pos hb⟩
      · exact .inl (if_neg hb)
    · by_cases hb : b = a
      · have z' := (if_pos hb).symm.trans z
        cases z'
        subst hb
        exact ⟨ha, by rw [List.length_map]; exact hl, vs, _, rv, ha⟩
      · have z' := (if_neg hb).symm.trans z
        cases z'
    · by_cases hb : b = a
      · exact hb
      · exact absurd (if_neg hb) z
end L2

namespace L2
open PySem PySem.Spec PyProof.Rows

abbrev KOf {K : PySem.W.Frag} {h : Heap} (_ : K.In h) : PySem.W.Frag := K

end L2

/- THE LAST THEOREM (shape; LID, My.* are yours):
   My.Adr: a structure of the addresses that your layer names (classes, functions); My.Txt K t: a structure (Prop) of the equations over K;
   My.txt_mk : {K} {implicit addresses ..} (e1 : nsIn K mainGlobals "law" = some (some (.ref f))) (e2 : K.lookup f = some ⟨oc, od, .func (fnOf "law" "law" params body scope dV kV doc pm an cdv ct), sl⟩) (e3 : codeIn K cdv "law" = true) .. : ∃ t, My.Txt K t

set_option maxRecDepth 100000 in
set_option maxHeartbeats 0 in
theorem PySem.Challenge.cw_LID_holds : PySem.Challenge.rw_LID.Holds := by
  w_on; o_law; k_head; (case hw => w_witness2)
  k_fill
  refine L2.walk_of (l := PySem.Challenge.rw_LID) (n := 63) (k := 40) (x := "script") (CX := fun w => ..) (sp := fun _ => My.sp_law) rfl (by decide) rfl ⟨rfl, by decide, by decide⟩ (fun w h Y => PySem.W.kIn_of Y) ?F ?S ?C
  case F =>
    intro w mg fa h KX G hmg
    have T : ∃ t, My.Txt (L2.KOf KX) t := by
      dsimp only [L2.KOf]                          -- K must stand as «<heap const> w.params» for k_is
      refine' My.txt_mk ?e1 ?e2 ?e3 ..
      (case e1 => PySem.W.k_is)                    -- in the order: a name -> its address -> its object -> its parts
      (case e2 => PySem.W.k_is)
      ..
    obtain ⟨t, T⟩ := T
    have e0 := hmg.symm.trans (PySem.W.mg_of KX G T.law)
    cases e0                                       -- fa is the law's own address
    exact ⟨_, fun s u => .of_eq rfl, fun base kb nb => My.law_fn T kb nb⟩     -- if «.of_eq rfl» comes too early: refine' ⟨_, ?b, fun base kb nb => My.law_fn T kb nb⟩; exact fun s u => .of_eq rfl
  case S => exact fun w H a ns hl hO hS => ..
  case C => exact ..
(the tactic k_is has no namespace: write k_is) -/

namespace L2
open PySem PySem.Spec PyProof.Rows

def inClass (s : Stmt) (j : Nat) : Stmt := match s with
  | .ClassDef _ _ _ body _ _ _ _ _ _ _ => body.getD j (.Pass ⟨0, 0, 0, 0⟩)
  | _ => .Pass ⟨0, 0, 0, 0⟩
def defArgs (s : Stmt) : Arguments := match s with
  | .FunctionDef _ a _ _ _ _ _ _ _ _ => a
  | _ => { posonlyargs := [], args := [], vararg := none, kwonlyargs := [], kw_defaults := [], kwarg := none, defaults := [] }
def defBody (s : Stmt) : List Stmt := match s with
  | .FunctionDef _ _ b _ _ _ _ _ _ _ => b
  | _ => []
def defScope (s : Stmt) : Scope := match s with
  | .FunctionDef _ _ _ _ _ _ sc _ _ _ => sc
  | _ => { kind := .function, names := [], isGenerator := false, isCoroutine := false }

abbrev CX0 : CXT := fun _ _ _ _ _ _ => False
abbrev E0 : XK := fun _ _ _ => False
theorem pass0 {X : Cx} : Passes CX0 X E0 := fun _ _ _ _ _ _ _ h => h.elim

structure Fun (K : PySem.W.Frag) (x qual : Str) (st : Stmt) (f : Addr) (fd : FuncData) : Prop where
  ex : ∃ (oc : Value) (od : Option Addr) (kV doc pm : Value) (an : Option Addr) (cdv ct : Value) (osl : Array (Option Value)),
    fd = PySem.W.fnOf x qual (defArgs st) (defBody st) (defScope st) .none kV doc pm an cdv ct ∧ K.lookup f = some ⟨oc, od, .func fd, osl⟩ ∧ PySem.W.codeIn K cdv qual = true
  kp : PySem.W.keepIn K (.ref f) = true
section
variable {P : Program} {w : World} {K : PySem.W.Frag} {mg : Str → Option Value} {base : Heap}
theorem Fun.ok {x qual : Str} {st : Stmt} {f : Addr} {fd : FuncData} {N ps : List Str} {k : Nat} {sp : Sp} (F : Fun K x qual st f fd) (S : FnScope N ps (defScope st)) (len : ∀ vs H Q E, sp vs H Q E → vs.length = ps.length)
    (hbody : ∀ (cdv : Value) (A : Around) (outer : List Env) (s : Shared) (H : Hp) (vs : List V) (Q : VK) (E : XK), Room k (A.deeper (envOfC qual (defScope st) s.heap.objs.size f cdv)) → sp vs H Q E →
      ∃ t, PSs (cxOf CX0 P w K mg base N qual (defScope st) f cdv A outer s H E).nox (defBody st) t ∧ t { nx := fun _ H' => Q .non H', rt := Q } (start N vs) H) : FnOk P w K mg base CX0 (k + 1) f fd ps sp := by
  obtain ⟨oc, od, kV, doc, pm, an, cdv, ct, osl, rfl, lk, hcd⟩ := F.ex
  refine fn_of lk hcd S len fun A outer s H vs Q E hr hsp => ?_
  obtain ⟨t, h, q⟩ := hbody cdv A outer s H vs Q E hr hsp
  exact ⟨t, h.nox, q⟩
theorem Fun.binds {x qual : Str} {st : Stmt} {f : Addr} {fd : FuncData} {ps : List Str} (F : Fun K x qual st f fd)
    (h : ∀ (kV doc pm : Value) (an : Option Addr) (cdv ct : Value) (us : List Value), us.length = ps.length → bindArgs (PySem.W.fnOf x qual (defArgs st) (defBody st) (defScope st) .none kV doc pm an cdv ct) ⟨us, []⟩ = pure (ps.zip us)) : Binds K fd ps [] := by
  obtain ⟨oc, od, kV, doc, pm, an, cdv, ct, osl, rfl, lk, hcd⟩ := F.ex
  exact .all (h kV doc pm an cdv ct)
theorem fun_mk {x qual : Str} {st : Stmt} {f : Addr} {oc : Value} {od an : Option Addr} {osl : Array (Option Value)} {kV doc pm cdv ct : Value} (l : K.lookup f = some ⟨oc, od, .func (PySem.W.fnOf x qual (defArgs st) (defBody st) (defScope st) .none kV doc pm an cdv ct), osl⟩)
    (c : PySem.W.codeIn K cdv qual = true) (k : PySem.W.keepIn K (.ref f) = true) : Fun K x qual st f (PySem.W.fnOf x qual (defArgs st) (defBody st) (defScope st) .none kV doc pm an cdv ct) := ⟨⟨oc, od, kV, doc, pm, an, cdv, ct, osl, rfl, l, c⟩, k⟩
end
theorem small1000 {n : Nat} (h : n ≤ 1000) : n < sizeLine := Nat.lt_of_le_of_lt h (by decide)

section
variable {X : Cx}
theorem pv (i : Nat) {x : Str} {pos : Pos} (hN : X.N[i]? = some x := by rfl) (hv : Vis X.env.scope x := by first | exact Or.inl rfl | exact Or.inr (Or.inl rfl) | exact Or.inr (Or.inr rfl)) (hd : (x == ("__debug__" : Str)) = false := by decide)
    (hcd : (x == ("__classdict__" : Str)) = false := by decide) : PE X (.Name x pos) (tVar i) := pe_var hN hv hd hcd
end

theorem ite2 {c A B : Prop} [Decidable c] (h1 : c → A) (h2 : ¬ c → B) : if c then A else B := by
  by_cases h : c
  · rw [if_pos h]
    exact h1 h
  · rw [if_neg h]
    exact h2 h

def Same (H H' : Hp) : Prop := ∀ b o, H b = some o → H' b = some o
theorem Same.refl (H : Hp) : Same H H := fun _ _ h => h
theorem Same.trans {H H1 H2 : Hp} (a : Same H H1) (b : Same H1 H2) : Same H H2 := fun c o h => b c o (a c o h)
theorem Same.free {H H' : Hp} (e : Same H H') {l : Addr} (h : H' l = Option.none) : H l = Option.none := by
  cases q : H l with
  | none => rfl
  | some o =>
    rw [e l o q] at h
    cases h
theorem Same.seq {K : PySem.W.Frag} {H H' : Hp} {a : Addr} {xs : List V} (e : Same H H') (h : SqL K H a xs) : SqL K H' a xs := by
  rcases h with (h | ⟨o, h⟩) | h
  · exact .inl (.inl (e _ _ h))
  · exact .inl (.inr ⟨o, e _ _ h⟩)
  · exact .inr h

section
variable {κ : Type} [DecidableEq κ]
end
end L2


section
set_option Elab.async false
set_option linter.all false
set_option maxRecDepth 100000
set_option maxHeartbeats 2000000
namespace L2
open PySem PySem.Spec PyProof.Rows
open PySem.W (WData Codec OpenSpec Well WellAll ReadsW ReadsAllW)
mutual
inductive Dw (K : PySem.W.Frag) (H : Hp) : V → WData → Prop
  | non : Dw K H .non .none
  | bl (b : Bool) : Dw K H (.bl b) (.bool b)
  | int (i : Int) : Dw K H (.int i) (.int i)
  | str (x : Str) : Dw K H (.str x) (.str x)
  | byt (b : Array UInt8) : Dw K H (.byt b) (.bytes b.toList)
  | lst {a : Addr} {xs : List V} {ds : List WData} : SqL K H a xs → DwAll K H xs ds → Dw K H (.ref a) (.list ds)
  | tup {a : Addr} {xs : List V} {ds : List WData} : SqT K H a xs → DwAll K H xs ds → Dw K H (.ref a) (.tuple ds)
inductive DwAll (K : PySem.W.Frag) (H : Hp) : List V → List WData → Prop
  | nil : DwAll K H [] []
  | cons {v : V} {vs : List V} {d : WData} {ds : List WData} : Dw K H v d → DwAll K H vs ds → DwAll K H (v :: vs) (d :: ds)
end
theorem dw_ints {K : PySem.W.Frag} {H : Hp} : ∀ ns : List Int, DwAll K H (ns.map V.int) (ns.map WData.int)
  | [] => .nil
  | n :: r => .cons (.int n) (dw_ints r)
theorem ints_dw {K : PySem.W.Frag} {H : Hp} : ∀ (ns : List Int) (xs : List V), DwAll K H xs (ns.map WData.int) → xs = ns.map V.int
  | [], xs, h => by
    cases h
    rfl
  | n :: r, xs, h => by
    cases h with
    | cons h1 h2 =>
      cases h1
      rw [ints_dw r _ h2] <;> rfl
section
variable {P : Program} {w : World} {K : PySem.W.Frag} {H : Hp} {h : Heap} {R : PySem.W.WRecords} {cl : Str → Option Addr}
theorem sqL_at {a : Addr} {xs : List V} (hok : HOk P w H h) (KX : K.In h) (q : SqL K H a xs) : ∃ (its : List Value) (o : Obj) (n : Nat), Vals xs its ∧ h.get? a = some o ∧ o.cls = .type "list" ∧ o.data = .seq its.toArray n := by
  rcases q with q | ⟨o, its, n, e, hc, _, hd, _, hv⟩
  · obtain ⟨_, its, n, hv, e⟩ := (show ObjOk P w H h a (.lst xs) from q.ok hok)
    exact ⟨its, _, n, hv, e, rfl, rfl⟩
  · exact ⟨its.toList, o, n, hv, KX _ _ e, hc, by simp [hd]⟩
theorem sqT_at {a : Addr} {xs : List V} (hok : HOk P w H h) (KX : K.In h) (q : SqT K H a xs) : ∃ (its : List Value) (o : Obj) (n : Nat), Vals xs its ∧ h.get? a = some o ∧ o.cls = .type "tuple" ∧ o.data = .seq its.toArray n := by
  rcases q with q | ⟨o, its, n, e, hc, hd, _, hv⟩
  · obtain ⟨_, its, hv, o, e, hc, n, hd⟩ := (show ObjOk P w H h a (.tup xs) from q.ok hok)
    exact ⟨its, o, n, hv, e, hc, hd⟩
  · exact ⟨its.toList, o, n, hv, KX _ _ e, hc, by simp [hd]⟩
mutual
theorem Dw.reads (hok : HOk P w H h) (KX : K.In h) : ∀ (d : WData) (v : V) (u : Value), Dw K H v d → RelV v u → ∃ as, ReadsW R cl h u d as
  | .none, _, _, x, r => by
    cases x
    cases r
    exact ⟨_, ReadsW.none⟩
  | .bool b, _, _, x, r => by
    cases x
    cases r
    exact ⟨_, ReadsW.bool b⟩
  | .int i, _, _, x, r => by
    cases x
    obtain ⟨t, rfl⟩ := r
    exact ⟨_, ReadsW.int i t⟩
  | .str s, _, _, x, r => by
    cases x
    obtain ⟨t, rfl⟩ := r
    exact ⟨_, ReadsW.str s t⟩
  | .bytes b, _, _, x, r => by
    cases x
    obtain ⟨t, rfl⟩ := r
    exact ⟨_, ReadsW.bytes _ t⟩
  | .list ds, _, _, x, r => by
    cases x with
    | lst hs ha =>
      cases r
      obtain ⟨its, o, n, rv, ho, hc, hd⟩ := sqL_at hok KX hs
      obtain ⟨as, hr⟩ := Dw.readsAll hok KX ds _ its ha rv
      exact ⟨_, ReadsW.list ho hc hd hr⟩
  | .tuple ds, _, _, x, r => by
    cases x with
    | tup hs ha =>
      cases r
      obtain ⟨its, o, n, rv, ho, hc, hd⟩ := sqT_at hok KX hs
      obtain ⟨as, hr⟩ := Dw.readsAll hok KX ds _ its ha rv
      exact ⟨_, ReadsW.tuple ho hc hd hr⟩
  | .float _, _, _, x, _ => by cases x
  | .dict _, _, _, x, _ => by cases x
  | .bytearray _, _, _, x, _ => by cases x
  | .set _, _, _, x, _ => by cases x
  | .frozenset _, _, _, x, _ => by cases x
  | .obj _ _, _, _, x, _ => by cases x
theorem Dw.readsAll (hok : HOk P w H h) (KX : K.In h) : ∀ (ds : List WData) (vs : List V) (us : List Value), DwAll K H vs ds → Vals vs us → ∃ as, ReadsAllW R cl h us ds as
  | [], _, _, x, r => by
    cases x
    cases r
    exact ⟨_, ReadsAllW.nil⟩
  | d :: ds, _, _, x, r => by
    cases x with
    | cons h1 h2 =>
      cases r with
      | cons r1 r2 =>
        obtain ⟨as, q1⟩ := Dw.reads hok KX d _ _ h1 r1
        obtain ⟨bs, q2⟩ := Dw.readsAll hok KX ds _ _ h2 r2
        exact ⟨_, ReadsAllW.cons q1 q2⟩
end
end
mutual
def plW : WData → Bool
  | .none => true
  | .bool _ => true
  | .int _ => true
  | .str _ => true
  | .bytes _ => true
  | .list xs => plWs xs
  | .tuple xs => plWs xs
  | _ => false
def plWs : List WData → Bool
  | [] => true
  | x :: r => plW x && plWs r
end
theorem plWs_map {α : Type} {f : α → WData} (h : ∀ a, plW (f a) = true) : ∀ l : List α, plWs (l.map f) = true
  | [] => rfl
  | x :: r => by
    show (plW (f x) && plWs (r.map f)) = true
    rw [h x, plWs_map h r] <;> rfl
theorem pl_enc : ∀ (c : Codec) (a : c.denote), plW (c.enc a) = true
  | .unit, _ => rfl
  | .bool, _ => rfl
  | .int _ _, _ => rfl
  | .nat _ _, _ => rfl
  | .u8, _ => rfl
  | .bytes _ _, _ => rfl
  | .text _ _ _ _, _ => rfl
  | .list _ _ c, a => plWs_map (fun x => pl_enc c x) a
  | .pair c d, a => by
    show (plW (c.enc a.1) && (plW (d.enc a.2) && true)) = true
    rw [pl_enc c a.1, pl_enc d a.2] <;> rfl
  | .triple c d e, a => by
    show (plW (c.enc a.1) && (plW (d.enc a.2.1) && (plW (e.enc a.2.2) && true))) = true
    rw [pl_enc c a.1, pl_enc d a.2.1, pl_enc e a.2.2] <;> rfl
  | .option c, none => rfl
  | .option c, some x => pl_enc c x
theorem pl_encAll : ∀ (cs : List Codec) (a : Codec.denoteAll cs), plWs (Codec.encAll cs a) = true
  | [], _ => rfl
  | c :: cs, a => by
    show (plW (c.enc a.1) && plWs (Codec.encAll cs a.2)) = true
    rw [pl_enc c a.1, pl_encAll cs a.2] <;> rfl
theorem weight_mem : ∀ {xs : List WData} {d : WData}, d ∈ xs → d.weight ≤ WData.weightAll xs
  | [], d, h => absurd h (by simp)
  | x :: r, d, h => by
    show d.weight ≤ x.weight + 1 + WData.weightAll r
    rcases List.mem_cons.mp h with e | m
    · rw [e]
      omega
    · have z := weight_mem m
      omega
def toV : Value → V
  | .none => .non
  | .bool b => .bl b
  | .int i _ => .int i
  | .str x _ => .str x
  | .bytes b _ => .byt b
  | .ref a => .ref a
  | _ => .non
def OkU (A : List Addr) : Value → Prop
  | .none => True
  | .bool _ => True
  | .int _ _ => True
  | .str _ _ => True
  | .bytes _ _ => True
  | .ref a => a ∈ A
  | _ => False
theorem OkU.mono {A B : List Addr} (h : ∀ a ∈ A, a ∈ B) : ∀ {u : Value}, OkU A u → OkU B u := fun {u} x => by
  cases u with
  | ref a => exact h a x
  | none => trivial
  | bool b => trivial
  | int i t => trivial
  | str s t => trivial
  | bytes b t => trivial
  | _ => exact False.elim x
theorem relV_toV {A : List Addr} {u : Value} (x : OkU A u) : RelV (toV u) u := by
  cases u with
  | ref a => rfl
  | none => rfl
  | bool b => rfl
  | int i t => exact ⟨t, rfl⟩
  | str s t => exact ⟨t, rfl⟩
  | bytes b t => exact ⟨t, rfl⟩
  | _ => exact False.elim x
theorem vals_toV {A : List Addr} : ∀ {vs : List Value}, (∀ u ∈ vs, OkU A u) → Vals (vs.map toV) vs
  | [], _ => .nil
  | u :: r, h => .cons (relV_toV (h u (List.mem_cons_self ..))) (vals_toV fun x hx => h x (List.mem_cons_of_mem _ hx))
def ArgOb (h : Heap) (A : List Addr) (a : Addr) : Prop := ∃ vs : List Value, vs.length ≤ sizeLine ∧ (∀ u ∈ vs, OkU A u) ∧
  (h.get? a = some { cls := .type "list", data := .seq vs.toArray } ∨ h.get? a = some { cls := .type "tuple", data := .seq vs.toArray })
theorem ArgOb.mono {h : Heap} {A B : List Addr} {a : Addr} (k : ∀ a ∈ A, a ∈ B) (x : ArgOb h A a) : ArgOb h B a := by
  obtain ⟨vs, h1, h2, h3⟩ := x
  exact ⟨vs, h1, fun u hu => (h2 u hu).mono k, h3⟩
theorem wellAll_len {P : Params} {h : Heap} : ∀ {vs : List Value} {ds : List WData}, WellAll P h vs ds → vs.length = ds.length
  | _, _, .nil => rfl
  | _, _, .cons _ b => by
    show _ + 1 = _ + 1
    rw [wellAll_len b]
theorem well_list {P : Params} {h : Heap} {v : Value} {ds : List WData} (x : Well P h v (.list ds)) : ∃ (a : Addr) (vs : List Value), v = .ref a ∧ h.get? a = some { cls := .type "list", data := .seq vs.toArray } ∧ WellAll P h vs ds := by
  cases x with
  | list ho hall => exact ⟨_, _, rfl, ho, hall⟩
theorem well_tuple {P : Params} {h : Heap} {v : Value} {ds : List WData} (x : Well P h v (.tuple ds)) : ∃ (a : Addr) (vs : List Value), v = .ref a ∧ h.get? a = some { cls := .type "tuple", data := .seq vs.toArray } ∧ WellAll P h vs ds := by
  cases x with
  | tuple ho hall => exact ⟨_, _, rfl, ho, hall⟩
theorem well_cons {P : Params} {h : Heap} {us : List Value} {d : WData} {ds : List WData} (x : WellAll P h us (d :: ds)) : ∃ (v : Value) (vs : List Value), us = v :: vs ∧ Well P h v d ∧ WellAll P h vs ds := by
  cases x with
  | cons a b => exact ⟨_, _, rfl, a, b⟩
theorem line_of {n : Nat} (h : n ≤ 1048576) : n ≤ sizeLine := Nat.le_trans h (by decide)
section
variable {P : Params} {h : Heap}
mutual
theorem area_one : ∀ (d : WData) (v : Value), Well P h v d → plW d = true → d.weight ≤ 1048576 → ∃ A : List Addr, OkU A v ∧ ∀ a ∈ A, ArgOb h A a
  | .none, _, x, _, _ => by
    cases x
    exact ⟨[], trivial, fun a m => absurd m (by simp)⟩
  | .bool b, _, x, _, _ => by
    cases x
    exact ⟨[], trivial, fun a m => absurd m (by simp)⟩
  | .int i, _, x, _, _ => by
    cases x
    exact ⟨[], trivial, fun a m => absurd m (by simp)⟩
  | .str s, _, x, _, _ => by
    cases x
    exact ⟨[], trivial, fun a m => absurd m (by simp)⟩
  | .bytes b, _, x, _, _ => by
    cases x
    exact ⟨[], trivial, fun a m => absurd m (by simp)⟩
  | .list ds, _, x, p, z => by
    obtain ⟨a, vs, rfl, ho, hall⟩ := well_list x
    have z2 : WData.weightAll ds ≤ 1048576 := z
    obtain ⟨A, h1, h2⟩ := area_all ds _ hall p fun d hd => Nat.le_trans (weight_mem hd) z2
    have k : ∀ b ∈ A, b ∈ a :: A := fun b hb => List.mem_cons_of_mem _ hb
    refine ⟨a :: A, List.mem_cons_self .., fun b hb => ?_⟩
    rcases List.mem_cons.mp hb with e | m
    · rw [e]
      exact ⟨vs, line_of (by rw [wellAll_len hall]; exact Nat.le_trans (PySem.W.length_le_weightAllW ds) z2), fun u hu => (h1 u hu).mono k, .inl ho⟩
    · exact (h2 b m).mono k
  | .tuple ds, _, x, p, z => by
    obtain ⟨a, vs, rfl, ho, hall⟩ := well_tuple x
    have z2 : WData.weightAll ds ≤ 1048576 := z
    obtain ⟨A, h1, h2⟩ := area_all ds _ hall p fun d hd => Nat.le_trans (weight_mem hd) z2
    have k : ∀ b ∈ A, b ∈ a :: A := fun b hb => List.mem_cons_of_mem _ hb
    refine ⟨a :: A, List.mem_cons_self .., fun b hb => ?_⟩
    rcases List.mem_cons.mp hb with e | m
    · rw [e]
      exact ⟨vs, line_of (by rw [wellAll_len hall]; exact Nat.le_trans (PySem.W.length_le_weightAllW ds) z2), fun u hu => (h1 u hu).mono k, .inr ho⟩
    · exact (h2 b m).mono k
  | .float _, _, _, p, _ => Bool.noConfusion (show false = true from p)
  | .dict _, _, _, p, _ => Bool.noConfusion (show false = true from p)
  | .bytearray _, _, _, p, _ => Bool.noConfusion (show false = true from p)
  | .set _, _, _, p, _ => Bool.noConfusion (show false = true from p)
  | .frozenset _, _, _, p, _ => Bool.noConfusion (show false = true from p)
  | .obj _ _, _, _, p, _ => Bool.noConfusion (show false = true from p)
theorem area_all : ∀ (ds : List WData) (vs : List Value), WellAll P h vs ds → plWs ds = true → (∀ d ∈ ds, d.weight ≤ 1048576) → ∃ A : List Addr, (∀ u ∈ vs, OkU A u) ∧ ∀ a ∈ A, ArgOb h A a
  | [], _, x, _, _ => by
    cases x
    exact ⟨[], fun u m => absurd m (by simp), fun a m => absurd m (by simp)⟩
  | d :: ds, _, x, p, z => by
    obtain ⟨v, vs, rfl, x1, x2⟩ := well_cons x
    have q : plW d = true ∧ plWs ds = true := Bool.and_eq_true_iff.mp p
    obtain ⟨A, a1, a2⟩ := area_one d v x1 q.1 (z d (List.mem_cons_self ..))
    obtain ⟨B, b1, b2⟩ := area_all ds vs x2 q.2 fun e he => z e (List.mem_cons_of_mem _ he)
    have kA : ∀ b ∈ A, b ∈ A ++ B := fun b hb => List.mem_append.mpr (.inl hb)
    have kB : ∀ b ∈ B, b ∈ A ++ B := fun b hb => List.mem_append.mpr (.inr hb)
    refine ⟨A ++ B, fun u hu => ?_, fun b hb => ?_⟩
    · rcases List.mem_cons.mp hu with e | m
      · rw [e]
        exact a1.mono kA
      · exact (b1 u m).mono kB
    · rcases List.mem_append.mp hb with m | m
      · exact (a2 b m).mono kA
      · exact (b2 b m).mono kB
end
end
def hoOf (o : Obj) : Option HO := match o.data with
  | .seq vs _ => if (o.cls == Value.type "list") = true then some (.frz o (.lst (vs.toList.map toV))) else some (.frz o (.tup (vs.toList.map toV)))
  | _ => none
def argH (K : PySem.W.Frag) (h : Heap) (A : List Addr) : Hp := fun b => if b ∈ A then (if (K.lookup b).isNone = true then (h.get? b).bind hoOf else none) else none
def OnlyF (H : Hp) : Prop := ∀ b, H b = none ∨ ∃ o u, H b = some (.frz o u)
theorem hoOf_lst (vs : List Value) : hoOf { cls := .type "list", data := .seq vs.toArray } = some (.frz { cls := .type "list", data := .seq vs.toArray } (.lst (vs.map toV))) := by
  show (if (Value.type "list" == Value.type "list") = true then some (HO.frz { cls := .type "list", data := .seq vs.toArray } (.lst (vs.toArray.toList.map toV))) else some (HO.frz { cls := .type "list", data := .seq vs.toArray } (.tup (vs.toArray.toList.map toV)))) = _
  rw [if_pos (beq_self_eq_true _)]
theorem hoOf_tup (vs : List Value) : hoOf { cls := .type "tuple", data := .seq vs.toArray } = some (.frz { cls := .type "tuple", data := .seq vs.toArray } (.tup (vs.map toV))) := by
  show (if (Value.type "tuple" == Value.type "list") = true then some (HO.frz { cls := .type "tuple", data := .seq vs.toArray } (.lst (vs.toArray.toList.map toV))) else some (HO.frz { cls := .type "tuple", data := .seq vs.toArray } (.tup (vs.toArray.toList.map toV)))) = _
  rw [if_neg (by decide)]
section
variable {P : Program} {w : World} {K : PySem.W.Frag} {h : Heap} {A : List Addr}
theorem argH_at {b : Addr} {o : Obj} (hb : b ∈ A) (hk : K.lookup b = none) (e : h.get? b = some o) : argH K h A b = hoOf o := by
  unfold argH
  rw [if_pos hb, hk, if_pos (show (none : Option Obj).isNone = true from rfl), e] <;> rfl
theorem of_argH {b : Addr} {u : HO} (q : argH K h A b = some u) : b ∈ A ∧ K.lookup b = none := by
  unfold argH at q
  by_cases hb : b ∈ A
  · rw [if_pos hb] at q
    cases hk : K.lookup b with
    | none => exact ⟨hb, rfl⟩
    | some o =>
      rw [hk, if_neg (by simp)] at q
      cases q
  · rw [if_neg hb] at q
    cases q
theorem argH_is (ar : ∀ a ∈ A, ArgOb h A a) {b : Addr} {u : HO} (q : argH K h A b = some u) : K.lookup b = none ∧ ∃ vs : List Value, vs.length ≤ sizeLine ∧ (∀ u ∈ vs, OkU A u) ∧
    ((h.get? b = some { cls := .type "list", data := .seq vs.toArray } ∧ u = .frz { cls := .type "list", data := .seq vs.toArray } (.lst (vs.map toV))) ∨
     (h.get? b = some { cls := .type "tuple", data := .seq vs.toArray } ∧ u = .frz { cls := .type "tuple", data := .seq vs.toArray } (.tup (vs.map toV)))) := by
  obtain ⟨hb, hk⟩ := of_argH q
  obtain ⟨vs, h1, h2, h3⟩ := ar b hb
  refine ⟨hk, vs, h1, h2, ?_⟩
  rcases h3 with e | e
  · rw [argH_at hb hk e, hoOf_lst] at q
    exact .inl ⟨e, (Option.some.inj q).symm⟩
  · rw [argH_at hb hk e, hoOf_tup] at q
    exact .inr ⟨e, (Option.some.inj q).symm⟩
theorem argH_only (ar : ∀ a ∈ A, ArgOb h A a) : OnlyF (argH K h A) := fun b => by
  cases q : argH K h A b with
  | none => exact .inl rfl
  | some u =>
    obtain ⟨_, vs, _, _, ⟨_, e⟩ | ⟨_, e⟩⟩ := argH_is ar q
    · exact .inr ⟨_, _, by rw [e]⟩
    · exact .inr ⟨_, _, by rw [e]⟩
theorem argH_ok (ar : ∀ a ∈ A, ArgOb h A a) : HOk P w (argH K h A) h := fun b u q => by
  obtain ⟨_, vs, h1, h2, ⟨e, rfl⟩ | ⟨e, rfl⟩⟩ := argH_is ar q
  · exact ⟨e, by rw [List.length_map]; exact h1, vs, _, vals_toV h2, e⟩
  · exact ⟨e, by rw [List.length_map]; exact h1, vs, vals_toV h2, _, e, rfl, _, rfl⟩
theorem seq_inj {c c' : Value} {vs us : List Value} (e : (some { cls := c, data := .seq vs.toArray } : Option Obj) = some { cls := c', data := .seq us.toArray }) : c = c' ∧ vs = us := by
  have e1 := Option.some.inj e
  have e2 : c = c' := congrArg Obj.cls e1
  have e3 : Data.seq vs.toArray = Data.seq us.toArray := congrArg Obj.data e1
  injection e3 with e4
  refine ⟨e2, ?_⟩
  have e5 := congrArg Array.toList e4
  simpa using e5
theorem argL (KX : K.In h) (ar : ∀ a ∈ A, ArgOb h A a) {a : Addr} {vs : List Value} (ha : a ∈ A) (e : h.get? a = some { cls := .type "list", data := .seq vs.toArray }) : (∀ u ∈ vs, OkU A u) ∧ SqL K (argH K h A) a (vs.map toV) := by
  obtain ⟨us, h1, h2, h3⟩ := ar a ha
  have hu : us = vs := by
    rcases h3 with q | q
    · rw [e] at q
      exact (seq_inj q).2.symm
    · rw [e] at q
      exact absurd (Value.type.inj (seq_inj q).1) (by decide)
  subst hu
  refine ⟨h2, ?_⟩
  cases hk : K.lookup a with
  | none => exact .inl (.inr ⟨_, by rw [argH_at ha hk e, hoOf_lst]⟩)
  | some o =>
    have e2 := KX a o hk
    rw [e] at e2
    obtain rfl := Option.some.inj e2
    exact .inr ⟨_, us.toArray, _, hk, rfl, rfl, rfl, by rw [List.size_toArray]; exact h1, by simpa using vals_toV h2⟩
theorem argT (KX : K.In h) (ar : ∀ a ∈ A, ArgOb h A a) {a : Addr} {vs : List Value} (ha : a ∈ A) (e : h.get? a = some { cls := .type "tuple", data := .seq vs.toArray }) : (∀ u ∈ vs, OkU A u) ∧ SqT K (argH K h A) a (vs.map toV) := by
  obtain ⟨us, h1, h2, h3⟩ := ar a ha
  have hu : us = vs := by
    rcases h3 with q | q
    · rw [e] at q
      exact absurd (Value.type.inj (seq_inj q).1) (by decide)
    · rw [e] at q
      exact (seq_inj q).2.symm
  subst hu
  refine ⟨h2, ?_⟩
  cases hk : K.lookup a with
  | none => exact .inl (.inr ⟨_, by rw [argH_at ha hk e, hoOf_tup]⟩)
  | some o =>
    have e2 := KX a o hk
    rw [e] at e2
    obtain rfl := Option.some.inj e2
    exact .inr ⟨_, us.toArray, _, hk, rfl, rfl, by rw [List.size_toArray]; exact h1, by simpa using vals_toV h2⟩
mutual
theorem dw_one {Pm : Params} (KX : K.In h) (ar : ∀ a ∈ A, ArgOb h A a) : ∀ (d : WData) (v : Value), Well Pm h v d → plW d = true → OkU A v → Dw K (argH K h A) (toV v) d
  | .none, _, x, _, _ => by
    cases x
    exact .non
  | .bool b, _, x, _, _ => by
    cases x
    exact .bl b
  | .int i, _, x, _, _ => by
    cases x
    exact .int i
  | .str s, _, x, _, _ => by
    cases x
    exact .str s
  | .bytes b, _, x, _, _ => by
    cases x
    have z := Dw.byt (K := K) (H := argH K h A) b.toArray
    exact z
  | .list ds, _, x, p, hu => by
    obtain ⟨a, vs, rfl, ho, hall⟩ := well_list x
    obtain ⟨h2, hs⟩ := argL KX ar hu ho
    exact .lst hs (dw_all KX ar ds _ hall p h2)
  | .tuple ds, _, x, p, hu => by
    obtain ⟨a, vs, rfl, ho, hall⟩ := well_tuple x
    obtain ⟨h2, hs⟩ := argT KX ar hu ho
    exact .tup hs (dw_all KX ar ds _ hall p h2)
  | .float _, _, _, p, _ => Bool.noConfusion (show false = true from p)
  | .dict _, _, _, p, _ => Bool.noConfusion (show false = true from p)
  | .bytearray _, _, _, p, _ => Bool.noConfusion (show false = true from p)
  | .set _, _, _, p, _ => Bool.noConfusion (show false = true from p)
  | .frozenset _, _, _, p, _ => Bool.noConfusion (show false = true from p)
  | .obj _ _, _, _, p, _ => Bool.noConfusion (show false = true from p)
theorem dw_all {Pm : Params} (KX : K.In h) (ar : ∀ a ∈ A, ArgOb h A a) : ∀ (ds : List WData) (vs : List Value), WellAll Pm h vs ds → plWs ds = true → (∀ u ∈ vs, OkU A u) → DwAll K (argH K h A) (vs.map toV) ds
  | [], _, x, _, _ => by
    cases x
    exact .nil
  | d :: ds, _, x, p, hu => by
    obtain ⟨v, vs, rfl, x1, x2⟩ := well_cons x
    have q : plW d = true ∧ plWs ds = true := Bool.and_eq_true_iff.mp p
    exact .cons (dw_one KX ar d v x1 q.1 (hu _ (List.mem_cons_self ..))) (dw_all KX ar ds vs x2 q.2 fun u m => hu u (List.mem_cons_of_mem _ m))
end
end
theorem spec_call {P : Program} {w : World} {K : PySem.W.Frag} {mg mb : Str → Option Value} {CX : CXT} {k : Nat} {fa : Addr} {fd : FuncData} {ps : List Str} {sp : Sp} {s₁ : Shared} {vals : List Value} {ds : List WData} {R : PySem.W.WRecords} {cl : Str → Option Addr} {d0 : WData}
    (KX : K.In s₁.heap) (hns : s₁.heap.Ns mainGlobals mg) (hb : s₁.heap.Ns builtinsNs mb) (hbb : ∀ x : Str, x ≠ "__name__" → mb x = bootBuiltins x) (hlim : s₁.heap.NoLimit) (hg : s₁.gens = #[])
    (hwl : WellAll w.params s₁.heap vals ds) (hpl : plWs ds = true) (hwt : ∀ d ∈ ds, d.weight ≤ 1048576) (hr : Room k callerA)
    (F : ∀ base : Heap, K.In base → base.Ns mainGlobals mg → FnOk P w K mg base CX k fa fd ps sp) (hbind : ∀ (s : Shared) (us : List Value), us.length = ps.length → BindsTo s fd ⟨us, []⟩ (ps.zip us)) (hlen : ds.length = ps.length)
    (hsp : ∀ (H : Hp) (xs : List V), OnlyF H → DwAll K H xs ds → sp xs H (fun v H' => Dw K H' v d0) fun _ _ _ => False)
    (hCX : ∀ H e s', CX [] H s₁ (fun _ _ _ => False) e s' → False) :
    codeAny (model P w) callerA (.call (.ref fa) ⟨vals, []⟩) (fun r s' => ∃ u as, r = .ok (.ret u) ∧ ReadsW R cl s'.heap u d0 as ∧ OldK s₁.heap s'.heap ∧ s'.os = s₁.os ∧ AllBare s'.gens) s₁ := by
  obtain ⟨A, ho, ar⟩ := area_all ds vals hwl hpl hwt
  have hO : OnlyF (argH K s₁.heap A) := argH_only ar
  have hok : HOk P w (argH K s₁.heap A) s₁.heap := argH_ok ar
  have hS := dw_all KX ar ds vals hwl hpl ho
  have hV := vals_toV ho
  have hK : ∀ b u, argH K s₁.heap A b = some u → K.lookup b = none := fun b u q => (argH_is ar q).1
  have noA : ∀ {b : Addr} {o : Obj} {es : Array DictEntry} {ep : Nat}, s₁.heap.get? b = some o → o.data = .dict es ep → argH K s₁.heap A b = none := fun {b o es ep} e d => by
    cases q : argH K s₁.heap A b with
    | none => rfl
    | some u =>
      obtain ⟨_, vs, _, _, ⟨e2, _⟩ | ⟨e2, _⟩⟩ := argH_is ar q
      · rw [e2] at e
        cases e
        have d' : Data.seq vs.toArray _ = Data.dict es ep := d
        cases d'
      · rw [e2] at e
        cases e
        have d' : Data.seq vs.toArray _ = Data.dict es ep := d
        cases d'
  generalize argH K s₁.heap A = H at hO hok hS hK noA
  have base_of : ∀ {b : Addr} {o : Obj}, s₁.heap.get? b = some o → H b = none → (hidT s₁.heap H).get? b = some o := fun e n => hidT_get e n
  have nsK : ∀ {b : Addr} {m : Str → Option Value}, s₁.heap.Ns b m → (hidT s₁.heap H).Ns b m := fun {b m} ⟨o, es, ep, e, d, r⟩ => ⟨o, es, ep, base_of e (noA e d), d, r⟩
  have nK : ∀ b o, K.lookup b = some o → H b = none := fun b o e => by
    cases q : H b with
    | none => rfl
    | some u =>
      rw [hK b u q] at e
      cases e
  have hKb : K.In (hidT s₁.heap H) := fun b o e => base_of (KX b o e) (nK b o e)
  have hM : Mod K mg (hidT s₁.heap H) := ⟨hKb, nsK hns, ⟨mb, nsK hb, hbb⟩, let ⟨mc, h1, h2⟩ := hlim; ⟨mc, nsK h1, h2⟩⟩
  have e0 : Env0 P w K mg (hidT s₁.heap H) callerA [] s₁ H := ⟨rfl, hM, fun b o e => of_hidT e, Nat.le_of_eq (hidT_size _ _), trivial, fun b hb => absurd (show b ∈ ([] : List Addr) from hb) (by simp), hok, .of_eq hg⟩
  have hl : vals.length = ps.length := by rw [wellAll_len hwl]; exact hlen
  refine codeAny_mono ((F _ hKb (nsK hns)).run callerA [] s₁ H ⟨vals, []⟩ vals (vals.map toV) _ _ hr e0 (hbind s₁ vals hl) hV (hsp H _ hO hS)) fun r s' x => ?_
  cases r with
  | error e => exact (hCX H e s' x).elim
  | ok fl =>
    cases fl with
    | next => exact False.elim x
    | brk => exact False.elim x
    | cont => exact False.elim x
    | ret u =>
      obtain ⟨v, H', os, bare, un, hok', r', q⟩ := x
      have kept : ∀ b o, s₁.heap.get? b = some o → s'.heap.get? b = some o := fun b o e => by
        cases q2 : H b with
        | none => exact un.keep b o e q2 (by intro z; exact absurd (show b ∈ ([] : List Addr) from z) (by simp)) (by simp)
        | some u2 =>
          rcases hO b with z | ⟨ob, u3, z⟩
          · rw [q2] at z
            cases z
          · have z2 := un.frzs b ob _ z
            obtain ⟨e1, _⟩ := hok b _ z
            obtain ⟨e2, _⟩ := hok' b _ z2
            rw [e] at e1
            cases e1
            exact e2
      have KX' : K.In s'.heap := fun b o e => kept b o (KX b o e)
      obtain ⟨as, hrd⟩ := Dw.reads (R := R) (cl := cl) hok' KX' d0 v u q r'
      exact ⟨u, as, rfl, hrd, OldK.of_keep kept, os, bare⟩
theorem layable_weight {ds : List WData} (h : WData.layableAll ds = true) : ∀ d ∈ ds, d.weight ≤ 1048576 := fun d hd =>
  (PySem.W.layableW_iff.mp (List.all_eq_true.mp h d hd)).2.2
theorem encAll_len : ∀ (cs : List Codec) (a : Codec.denoteAll cs), (Codec.encAll cs a).length = cs.length
  | [], _ => rfl
  | c :: cs, a => by
    show (Codec.encAll cs a.2).length + 1 = cs.length + 1
    rw [encAll_len cs a.2]
theorem walk_spec {r : OpenSpec} {k : Nat} {q : Program} {loose : List Str} {XP : (Str → Option Value) → Heap → Prop} {YP : World → Heap → Prop} {d : DefRec} {K : Params → PySem.W.Frag} {CX : World → CXT} {ps : List Str} {sp : World → Sp}
    (hwell : r.wellSaid = true) (hdf : d.params.defaults = []) (hlen : r.args.length = ps.length) (hr : Room k callerA)
    (hY : ∀ (w : World) (h : Heap), YP w h → (K w.params).In h)
    (F : ∀ (w : World) (mg : Str → Option Value) (fa : Addr) (h : Heap), YP w h → (K w.params).In h → h.Ns mainGlobals mg → mg d.name = some (.ref fa) →
      ∃ fd : FuncData, (∀ (s : Shared) (us : List Value), us.length = ps.length → BindsTo s fd ⟨us, []⟩ (ps.zip us)) ∧
        ∀ base : Heap, (K w.params).In base → base.Ns mainGlobals mg → FnOk r.prog w (K w.params) mg base (CX w) k fa fd ps (sp w))
    (hsp : ∀ (w : World) (H : Hp) (xs : List V) (a : Codec.denoteAll r.args), OnlyF H → Codec.withinAll r.args a = true → Codec.app r.args r.asked a = true → DwAll (K w.params) H xs (Codec.encAll r.args a) →
      sp w xs H (fun v H' => Dw (K w.params) H' v (r.ret.enc (Codec.app r.args r.f a))) fun _ _ _ => False)
    (hCX : ∀ (w : World) (H : Hp) (s : Shared) (e : Value) (s' : Shared), CX w [] H s (fun _ _ _ => False) e s' → False) :
    PySem.W.WalkOS q loose XP YP r d [] (fun f vs => PySem.call f vs) := by
  intro w s_0 s₁ mg mb G Y fa o pm cd doc dV kV ho hd hcd hD hmg hg args vals as hpre hlay hrd hwl hlo
  obtain ⟨a, e1, e2⟩ := PySem.W.os_pre_some hpre
  obtain ⟨e3, hwi⟩ := Codec.encAll_of_decAll r.args args a e1
  subst e3
  have KX := hY w _ Y
  obtain ⟨fd, hb, hF⟩ := F w mg fa _ Y KX G.T.g hmg
  refine PySem.W.enter_call (codeAny_mono (spec_call (R := []) (cl := classAt s_0.heap) (d0 := r.ret.enc (Codec.app r.args r.f a)) KX G.T.g G.T.b G.T.builtins G.T.nolimit hg hwl (pl_encAll _ _) (layable_weight hlay) hr hF hb (by rw [encAll_len]; exact hlen)
    (fun H xs hO hS => hsp w H xs a hO hwi e2 hS) fun H e s' => hCX w H s₁ e s') fun r' s' hq => ?_)
  obtain ⟨u, as', rfl, h1, h2, h3, h4⟩ := hq
  exact ⟨.inl ⟨u, _, as', rfl, fun _ => rfl, h1, (OpenSpec.post_iff hwell hwi _ _).mpr rfl, fun z => Bool.noConfusion (show false = true from z)⟩, h2, h3, h4⟩
theorem walk_specK {r : OpenSpec} {k : Nat} {q : Program} {loose : List Str} {XP : (Str → Option Value) → Heap → Prop} {YP : World → Heap → Prop} {d : DefRec} {K : Params → PySem.W.Frag} {CX : CXT} {ps : List Str} {sp : PySem.W.Frag → Sp}
    (hwell : r.wellSaid = true) (hdf : d.params.defaults = []) (hlen : r.args.length = ps.length) (hr : Room k callerA)
    (hY : ∀ (w : World) (h : Heap), YP w h → (K w.params).In h)
    (F : ∀ (w : World) (mg : Str → Option Value) (fa : Addr) (h : Heap), YP w h → (K w.params).In h → h.Ns mainGlobals mg → mg d.name = some (.ref fa) →
      ∃ fd : FuncData, (∀ (s : Shared) (us : List Value), us.length = ps.length → BindsTo s fd ⟨us, []⟩ (ps.zip us)) ∧
        ∀ base : Heap, (K w.params).In base → base.Ns mainGlobals mg → FnOk r.prog w (K w.params) mg base CX k fa fd ps (sp (K w.params)))
    (hsp : ∀ (K : PySem.W.Frag) (H : Hp) (xs : List V) (a : Codec.denoteAll r.args), OnlyF H → Codec.withinAll r.args a = true → Codec.app r.args r.asked a = true → DwAll K H xs (Codec.encAll r.args a) →
      sp K xs H (fun v H' => Dw K H' v (r.ret.enc (Codec.app r.args r.f a))) fun _ _ _ => False)
    (hCX : ∀ (H : Hp) (s : Shared) (e : Value) (s' : Shared), CX [] H s (fun _ _ _ => False) e s' → False) :
    PySem.W.WalkOS q loose XP YP r d [] (fun f vs => PySem.call f vs) :=
  walk_spec (K := K) (CX := fun _ => CX) (sp := fun w => sp (K w.params)) hwell hdf hlen hr hY F (fun w H xs a h1 h2 h3 h4 => hsp (K w.params) H xs a h1 h2 h3 h4) fun _ H s e s' => hCX H s e s'
end L2
end

end
section
set_option linter.all false
namespace Rr
open Root
def gcdRow (l : List Int) : Nat := l.foldl (fun (g : Nat) (z : Int) => Nat.gcd g z.natAbs) 0
theorem dvd_foldl_gcd {k : Nat} : ∀ (l : List Int) (g : Nat), k ∣ l.foldl (fun (g : Nat) (z : Int) => Nat.gcd g z.natAbs) g ↔ k ∣ g ∧ ∀ z ∈ l, k ∣ z.natAbs
  | [], g => by simp
  | a :: l, g => by
    rw [List.foldl_cons, dvd_foldl_gcd l, Nat.dvd_gcd_iff]
    simp only [List.mem_cons, forall_eq_or_imp]
    exact ⟨fun ⟨⟨h1, h2⟩, h3⟩ => ⟨h1, h2, h3⟩, fun ⟨h1, h2, h3⟩ => ⟨⟨h1, h2⟩, h3⟩⟩
theorem dvd_gcdRow {k : Nat} (l : List Int) : k ∣ gcdRow l ↔ ∀ z ∈ l, k ∣ z.natAbs := by
  unfold gcdRow
  rw [dvd_foldl_gcd]
  exact ⟨fun h => h.2, fun h => ⟨Nat.dvd_zero k, h⟩⟩
theorem gcdRow_dvd {l : List Int} {z : Int} (h : z ∈ l) : gcdRow l ∣ z.natAbs := (dvd_gcdRow l).mp (Nat.dvd_refl _) z h
theorem foldl_gcd_mul (L : Nat) : ∀ (l : List Int) (g : Nat), l.foldl (fun (g : Nat) (z : Int) => Nat.gcd g (L * z.natAbs)) (L * g) = L * l.foldl (fun (g : Nat) (z : Int) => Nat.gcd g z.natAbs) g
  | [], g => rfl
  | a :: l, g => by
    rw [List.foldl_cons, List.foldl_cons, Nat.gcd_mul_left, foldl_gcd_mul L l]
theorem dvd_foldl_gcdL {k L : Nat} : ∀ (l : List Int) (g : Nat), k ∣ g → (∀ z ∈ l, k ∣ L * z.natAbs) → k ∣ l.foldl (fun (g : Nat) (z : Int) => Nat.gcd g (L * z.natAbs)) g
  | [], g, h, _ => h
  | a :: l, g, h, h2 => dvd_foldl_gcdL l _ (Nat.dvd_gcd h (h2 a (by simp))) fun z hz => h2 z (by simp [hz])
theorem dvd_mul_gcdRow {k L : Nat} (l : List Int) (h : ∀ z ∈ l, k ∣ L * z.natAbs) : k ∣ L * gcdRow l := by
  unfold gcdRow
  rw [← foldl_gcd_mul L l 0]
  exact dvd_foldl_gcdL l _ (by simp) h
theorem dvd_foldl_lcm : ∀ (l : List Nat) (a x : Nat), (x = a ∨ x ∈ l) → x ∣ l.foldl Nat.lcm a
  | [], a, x, h => by
    rcases h with h | h
    · rw [h]; exact Nat.dvd_refl _
    · simp at h
  | b :: l, a, x, h => by
    rw [List.foldl_cons]
    rcases h with h | h
    · rw [h]
      exact Nat.dvd_trans (Nat.dvd_lcm_left a b) (dvd_foldl_lcm l _ _ (.inl rfl))
    · rcases List.mem_cons.mp h with h | h
      · rw [h]
        exact Nat.dvd_trans (Nat.dvd_lcm_right a b) (dvd_foldl_lcm l _ _ (.inl rfl))
      · exact dvd_foldl_lcm l _ _ (.inr h)
theorem foldl_lcm_dvd {m : Nat} : ∀ (l : List Nat) (a : Nat), a ∣ m → (∀ x ∈ l, x ∣ m) → l.foldl Nat.lcm a ∣ m
  | [], a, h, _ => h
  | b :: l, a, h, h2 => foldl_lcm_dvd l _ (Nat.lcm_dvd h (h2 b (by simp))) fun x hx => h2 x (by simp [hx])
theorem den_row (z : Int) {D : Nat} (hD : 0 < D) : ((z : Rat) / ((D : Int) : Rat)).den = D / Nat.gcd D z.natAbs := by
  rw [Rat.intCast_natCast, ← Rat.mkRat_eq_div, Rat.den_mkRat, if_neg (by omega)]
theorem lcm_row (ns : List Int) {D : Nat} (hD : 0 < D) : lcmOf (ns.map fun (z : Int) => (z : Rat) / ((D : Int) : Rat)) = D / gcdRow (ns ++ [(D : Int)]) := by
  have hg : gcdRow (ns ++ [(D : Int)]) ∣ D := by
    have := gcdRow_dvd (l := ns ++ [(D : Int)]) (z := (D : Int)) (by simp)
    simpa using this
  have hz : ∀ z ∈ ns, gcdRow (ns ++ [(D : Int)]) ∣ z.natAbs := fun z h => gcdRow_dvd (by simp [h])
  unfold lcmOf
  rw [List.map_map]
  refine Nat.dvd_antisymm ?_ ?_
  · refine foldl_lcm_dvd _ _ (Nat.one_dvd _) fun x hx => ?_
    obtain ⟨z, hzm, rfl⟩ := List.mem_map.mp hx
    show ((z : Rat) / ((D : Int) : Rat)).den ∣ _
    rw [den_row z hD]
    have hgg : gcdRow (ns ++ [(D : Int)]) ∣ Nat.gcd D z.natAbs := Nat.dvd_gcd hg (hz z hzm)
    obtain ⟨t, ht⟩ := hgg
    obtain ⟨e, he⟩ := Nat.gcd_dvd_left D z.natAbs
    generalize gcdRow (ns ++ [(D : Int)]) = g at *
    generalize Nat.gcd D z.natAbs = G at *
    have gp : 0 < g := Nat.pos_of_dvd_of_pos hg hD
    have Gp : 0 < G := by
      rcases Nat.eq_zero_or_pos G with h | h
      · rw [h, Nat.zero_mul] at he; omega
      · exact h
    refine ⟨t, ?_⟩
    have e1 : D / G = e := by rw [he]; exact Nat.mul_div_cancel_left _ Gp
    have e2 : D / g = t * e := by rw [he, ht, Nat.mul_assoc]; exact Nat.mul_div_cancel_left _ gp
    rw [e1, e2, Nat.mul_comm]
  · have key : D ∣ ((ns.map (Rat.den ∘ fun (z : Int) => (z : Rat) / ((D : Int) : Rat))).foldl Nat.lcm 1) * gcdRow (ns ++ [(D : Int)]) := by
      refine dvd_mul_gcdRow _ fun z hzm => ?_
      rcases List.mem_append.mp hzm with h | h
      · have h1 := dvd_foldl_lcm (ns.map (Rat.den ∘ fun (z : Int) => (z : Rat) / ((D : Int) : Rat))) 1 _ (.inr (List.mem_map.mpr ⟨z, h, rfl⟩))
        have h2 : (Rat.den ∘ fun (z : Int) => (z : Rat) / ((D : Int) : Rat)) z = D / Nat.gcd D z.natAbs := den_row z hD
        rw [h2] at h1
        have h3 : D = D / Nat.gcd D z.natAbs * Nat.gcd D z.natAbs := (Nat.div_mul_cancel (Nat.gcd_dvd_left _ _)).symm
        have h4 := Nat.mul_dvd_mul h1 (Nat.gcd_dvd_right D z.natAbs)
        rw [← h3] at h4
        exact h4
      · have : z = (D : Int) := by simpa using h
        subst this
        exact Nat.dvd_mul_left _ _
    have gp : 0 < gcdRow (ns ++ [(D : Int)]) := Nat.pos_of_dvd_of_pos hg hD
    have key2 : D / gcdRow (ns ++ [(D : Int)]) * gcdRow (ns ++ [(D : Int)]) ∣ ((ns.map (Rat.den ∘ fun (z : Int) => (z : Rat) / ((D : Int) : Rat))).foldl Nat.lcm 1) * gcdRow (ns ++ [(D : Int)]) := by
      rw [Nat.div_mul_cancel hg]
      exact key
    exact Nat.dvd_of_mul_dvd_mul_right gp key2
def lessRow (l : List Int) : List Int := l.map fun (z : Int) => z / (gcdRow l : Int)
theorem oneForm_row (ns : List Int) {d : Int} (hd : 0 < d) : oneForm (ns.map fun (z : Int) => (z : Rat) / (d : Rat)) = lessRow (ns ++ [d]) := by
  obtain ⟨D, rfl⟩ : ∃ D : Nat, d = (D : Int) := ⟨d.toNat, by omega⟩
  have hD : 0 < D := by omega
  have hg : gcdRow (ns ++ [(D : Int)]) ∣ D := by
    have := gcdRow_dvd (l := ns ++ [(D : Int)]) (z := (D : Int)) (by simp)
    simpa using this
  have gp : 0 < gcdRow (ns ++ [(D : Int)]) := Nat.pos_of_dvd_of_pos hg hD
  have hz : ∀ z ∈ ns, gcdRow (ns ++ [(D : Int)]) ∣ z.natAbs := fun z h => gcdRow_dvd (by simp [h])
  unfold oneForm lessRow
  dsimp only
  rw [lcm_row ns hD]
  generalize gcdRow (ns ++ [(D : Int)]) = g at *
  obtain ⟨t, ht⟩ := hg
  have e2 : D / g = t := by rw [ht]; exact Nat.mul_div_cancel_left _ gp
  rw [e2, List.map_append, List.map_map]
  refine congr (congrArg _ ?_) ?_
  · refine List.map_congr_left fun z hm => ?_
    obtain ⟨u, hu⟩ : (g : Int) ∣ z := Int.ofNat_dvd_left.mpr (hz z hm)
    show ((z : Rat) / ((D : Int) : Rat) * (t : Rat)).num = z / (g : Int)
    have e3 : z / (g : Int) = u := by rw [hu]; exact Int.mul_ediv_cancel_left _ (by omega)
    rw [e3]
    have e4 : (z : Rat) / ((D : Int) : Rat) * (t : Rat) = (u : Rat) := by
      have tp : t ≠ 0 := by
        intro h
        rw [h, Nat.mul_zero] at ht; omega
      have h1 : (z : Rat) = (g : Rat) * (u : Rat) := by
        rw [hu, Rat.intCast_mul]; rfl
      have h2 : ((D : Int) : Rat) = (g : Rat) * (t : Rat) := by
        rw [Rat.intCast_natCast, ht, Rat.natCast_mul]
      have h3 : (g : Rat) ≠ 0 := by
        intro h; exact absurd (Rat.natCast_eq_zero_iff.mp h) (by omega)
      have h4 : (t : Rat) ≠ 0 := by
        intro h; exact absurd (Rat.natCast_eq_zero_iff.mp h) (by omega)
      rw [h1, h2]
      have h5 : (g : Rat) * (t : Rat) ≠ 0 := fun h => by
        rcases Rat.mul_eq_zero.mp h with h | h
        · exact h3 h
        · exact h4 h
      have h6 : (g : Rat) * (u : Rat) / ((g : Rat) * (t : Rat)) * ((g : Rat) * (t : Rat)) = (g : Rat) * (u : Rat) := Rat.div_mul_cancel h5
      generalize (g : Rat) * (u : Rat) / ((g : Rat) * (t : Rat)) = q at *
      have h7 : (g : Rat)⁻¹ * (g : Rat) = 1 := Rat.inv_mul_cancel _ h3
      grind
    rw [e4]
    rfl
  · simp only [List.map_cons, List.map_nil]
    congr 1
    rw [ht]
    rw [show (((g * t : Nat)) : Int) = (g : Int) * (t : Int) by simp]
    exact (Int.mul_ediv_cancel_left _ (by omega)).symm
end Rr

end
section
set_option linter.all false
namespace Rr
open Root
def divAbove (n : Int) : List Int := ((List.range n.natAbs).map fun (i : Nat) => (1 : Int) + (i : Int)).filter fun (k : Int) => decide (n % k = 0)
def divisorsOf (n : Int) : List Int := divAbove n ++ (divAbove n).map fun (k : Int) => -k
theorem mem_divAbove {n z : Int} : z ∈ divAbove n ↔ 0 < z ∧ z ≤ (n.natAbs : Int) ∧ n % z = 0 := by
  unfold divAbove
  rw [List.mem_filter, List.mem_map]
  constructor
  · rintro ⟨⟨i, hi, rfl⟩, h⟩
    have := List.mem_range.mp hi
    exact ⟨by omega, by omega, of_decide_eq_true h⟩
  · rintro ⟨h1, h2, h3⟩
    exact ⟨⟨(z - 1).toNat, List.mem_range.mpr (by omega), by omega⟩, decide_eq_true h3⟩
theorem mem_divisors {n z : Int} : z ∈ divisorsOf n ↔ z ≠ 0 ∧ -(n.natAbs : Int) ≤ z ∧ z ≤ (n.natAbs : Int) ∧ n % z = 0 := by
  unfold divisorsOf
  rw [List.mem_append, List.mem_map, mem_divAbove]
  constructor
  · rintro (⟨h1, h2, h3⟩ | ⟨k, hk, rfl⟩)
    · exact ⟨by omega, by omega, h2, h3⟩
    · obtain ⟨h1, h2, h3⟩ := mem_divAbove.mp hk
      exact ⟨by omega, by omega, by omega, by rw [Int.emod_neg]; exact h3⟩
  · rintro ⟨h1, h2, h3, h4⟩
    rcases Int.lt_trichotomy z 0 with h | h | h
    · exact .inr ⟨-z, mem_divAbove.mpr ⟨by omega, by omega, by rw [Int.emod_neg]; exact h4⟩, by omega⟩
    · exact absurd h h1
    · exact .inl ⟨h, h3, h4⟩
theorem divisor_small {n z : Int} (hn : n ≠ 0) (h : n % z = 0) : z ≠ 0 ∧ -(n.natAbs : Int) ≤ z ∧ z ≤ (n.natAbs : Int) := by
  have h1 : z ∣ n := Int.dvd_of_emod_eq_zero h
  have h2 : z.natAbs ≤ n.natAbs := Nat.le_of_dvd (by omega) (Int.natAbs_dvd_natAbs.mpr h1)
  refine ⟨?_, by omega, by omega⟩
  rintro rfl
  obtain ⟨k, hk⟩ := h1
  rw [Int.zero_mul] at hk
  exact hn hk
theorem mem_divisors' {n z : Int} (hn : n ≠ 0) : z ∈ divisorsOf n ↔ n % z = 0 := by
  rw [mem_divisors]
  exact ⟨fun h => h.2.2.2, fun h => let ⟨a, b, c⟩ := divisor_small hn h; ⟨a, b, c, h⟩⟩
theorem mem_around {n : Nat} {z : Int} : z ∈ around n ↔ -(n : Int) ≤ z ∧ z ≤ (n : Int) := by
  unfold around
  rw [List.mem_map]
  constructor
  · rintro ⟨i, hi, rfl⟩
    have := List.mem_range.mp hi
    omega
  · rintro ⟨h1, h2⟩
    exact ⟨(z + n).toNat, List.mem_range.mpr (by omega), by omega⟩
theorem divides_of {z n : Int} (hz : z ≠ 0) : divides z n = decide (n % z = 0) := by
  unfold divides
  rw [if_neg hz]
  exact Bool.eq_iff_iff.mpr (by simp)
def horner (f : List Int) (z : Int) : Int := f.reverse.foldl (fun (s t : Int) => s * z + t) 0
theorem horner_valueAt (c : List Int) (z : Int) : horner (c ++ [1]) z = valueAt c z := by
  unfold horner valueAt
  rw [List.reverse_append]
  show (1 :: c.reverse).foldl _ 0 = _
  rw [List.foldl_cons, Int.zero_mul, Int.zero_add]
theorem hasRoot_is {c : List Int} (h0 : c.headD 0 ≠ 0) : hasRoot c = (divisorsOf (c.headD 0)).any fun (z : Int) => horner (c ++ [1]) z == 0 := by
  have e0 : (c.headD 0 == 0) = false := by simpa using h0
  unfold hasRoot
  rw [e0, Bool.false_or, Bool.eq_iff_iff, List.any_eq_true, List.any_eq_true]
  constructor
  · rintro ⟨z, hz, h⟩
    rw [Bool.and_eq_true, Bool.and_eq_true] at h
    obtain ⟨h1, h2, h3⟩ := h
    have h1' : z ≠ 0 := by simpa using h1
    rw [divides_of h1'] at h2
    exact ⟨z, (mem_divisors' h0).mpr (of_decide_eq_true h2), by rw [horner_valueAt]; exact h3⟩
  · rintro ⟨z, hz, h⟩
    obtain ⟨h1, h2, h3, h4⟩ := mem_divisors.mp hz
    refine ⟨z, mem_around.mpr ⟨h2, h3⟩, ?_⟩
    rw [Bool.and_eq_true, Bool.and_eq_true, divides_of h1]
    refine ⟨by simpa using h1, decide_eq_true h4, ?_⟩
    rw [← horner_valueAt]; exact h
theorem foldl_root {n : Nat} : ∀ (k r : Nat), r * r ≤ n → n < (r + 2 ^ k) * (r + 2 ^ k) →
    ∃ q, (List.range k).reverse.foldl (fun (r i : Nat) => if (r + 2 ^ i) * (r + 2 ^ i) ≤ n then r + 2 ^ i else r) r = q ∧ q * q ≤ n ∧ n < (q + 1) * (q + 1)
  | 0, r, h1, h2 => ⟨r, rfl, h1, by simpa using h2⟩
  | k + 1, r, h1, h2 => by
    rw [List.range_succ, List.reverse_append]
    show ∃ q, (k :: (List.range k).reverse).foldl _ r = q ∧ _
    rw [List.foldl_cons]
    by_cases h : (r + 2 ^ k) * (r + 2 ^ k) ≤ n
    · rw [if_pos h]
      refine foldl_root k _ h ?_
      have : r + 2 ^ k + 2 ^ k = r + 2 ^ (k + 1) := by rw [Nat.pow_succ]; omega
      rw [this]; exact h2
    · rw [if_neg h]
      exact foldl_root k r h1 (by omega)
theorem rootBelow_is (n : Nat) : rootBelow n * rootBelow n ≤ n ∧ n < (rootBelow n + 1) * (rootBelow n + 1) := by
  unfold rootBelow
  obtain ⟨q, e, h1, h2⟩ := foldl_root (n := n) (n.log2 / 2 + 2) 0 (by omega) (by
    have h3 : n < 2 ^ (n.log2 + 1) := Nat.lt_log2_self
    have h4 : 2 ^ (n.log2 + 1) ≤ 2 ^ ((n.log2 / 2 + 2) + (n.log2 / 2 + 2)) := Nat.pow_le_pow_right (by omega) (by omega)
    rw [Nat.zero_add, ← Nat.pow_add]
    omega)
  rw [e]
  exact ⟨h1, h2⟩
theorem root_unique {n q r : Nat} (h1 : q * q ≤ n) (h2 : n < (q + 1) * (q + 1)) (h3 : r * r = n) : q = r := by
  rcases Nat.lt_trichotomy q r with h | h | h
  · have : (q + 1) * (q + 1) ≤ r * r := Nat.mul_le_mul h h
    omega
  · exact h
  · have : (r + 1) * (r + 1) ≤ q * q := Nat.mul_le_mul h h
    have e : (r + 1) * (r + 1) = r * r + 2 * r + 1 := by grind
    omega
def Hit (c : List Int) (q : Int) : Prop := ∃ g : Int, 0 ≤ g ∧ g * g = c.getD 3 0 * c.getD 3 0 - 4 * (c.getD 2 0 - q - c.getD 0 0 / q) ∧
  ((c.getD 3 0 + g) / 2) * (c.getD 0 0 / q) + q * (c.getD 3 0 - (c.getD 3 0 + g) / 2) = c.getD 1 0
theorem parity {s g p : Int} (h : g * g = s * s - 4 * p) : (s + g) % 2 = 0 := by
  have h1 : (s * s - g * g) % 2 = 0 := by omega
  have h2 : s * s - g * g = (s + g) * (s + g) - 2 * (g * s + g * g) := by grind
  rw [h2] at h1
  have e01 : (s + g) % 2 = 0 ∨ (s + g) % 2 = 1 := by omega
  rcases e01 with e | e
  · exact e
  · have h3 : ((s + g) * (s + g)) % 2 = 1 := by rw [Int.mul_emod, e]; rfl
    omega
theorem splits_of {s p g : Int} (h0 : 0 ≤ g) (h : g * g = s * s - 4 * p) : splits s p = some ((s + g) / 2) := by
  have hr : rootBelow (s * s - 4 * p).toNat = g.toNat := by
    obtain ⟨h1, h2⟩ := rootBelow_is (s * s - 4 * p).toNat
    refine root_unique h1 h2 ?_
    rw [← h]
    obtain ⟨G, rfl⟩ : ∃ G : Nat, g = (G : Int) := ⟨g.toNat, by omega⟩
    rw [← Int.natCast_mul, Int.toNat_natCast, Int.toNat_natCast]
  have hg : ((g.toNat : Nat) : Int) = g := by omega
  unfold splits
  dsimp only
  rw [hr, hg, if_neg]
  rintro (h1 | h1 | h1)
  · have : 0 ≤ g * g := Int.mul_nonneg h0 h0
    omega
  · apply h1
    rw [← h]
    obtain ⟨G, rfl⟩ : ∃ G : Nat, g = (G : Int) := ⟨g.toNat, by omega⟩
    rw [← Int.natCast_mul, Int.toNat_natCast, Int.toNat_natCast]
  · exact h1 (parity h)
theorem splits_some {s p a : Int} (h : splits s p = some a) : ∃ g : Int, 0 ≤ g ∧ g * g = s * s - 4 * p ∧ a = (s + g) / 2 := by
  unfold splits at h
  dsimp only at h
  split at h
  · cases h
  · rename_i hn
    refine ⟨(rootBelow (s * s - 4 * p).toNat : Int), by omega, ?_, (Option.some.inj h).symm⟩
    have h1 : ¬ s * s - 4 * p < 0 := fun z => hn (.inl z)
    have h2 : rootBelow (s * s - 4 * p).toNat * rootBelow (s * s - 4 * p).toNat = (s * s - 4 * p).toNat := by
      false_or_by_contra
      rename_i z
      exact hn (.inr (.inl z))
    rw [← Int.natCast_mul, h2]
    omega
theorem ediv_div {n q : Int} (hn : n ≠ 0) (h : n % q = 0) : n % (n / q) = 0 ∧ n / (n / q) = q := by
  obtain ⟨k, hk⟩ := Int.dvd_of_emod_eq_zero h
  have hq : q ≠ 0 := by
    rintro rfl
    rw [Int.zero_mul] at hk; exact hn hk
  have hk0 : k ≠ 0 := by
    rintro rfl
    rw [Int.mul_zero] at hk; exact hn hk
  have e : n / q = k := by rw [hk]; exact Int.mul_ediv_cancel_left _ hq
  rw [e, hk]
  exact ⟨Int.mul_emod_left _ _, Int.mul_ediv_cancel _ hk0⟩
theorem twoTwos_of_hit {c : List Int} (h0 : c.getD 0 0 ≠ 0) {q : Int} (hq : q ∈ divisorsOf (c.getD 0 0)) (h : Hit c q) : twoTwos c = true := by
  obtain ⟨g, g0, gg, hp⟩ := h
  obtain ⟨h1, h2, h3, h4⟩ := mem_divisors.mp hq
  unfold twoTwos
  dsimp only
  rw [List.any_eq_true]
  refine ⟨q, mem_around.mpr ⟨h2, h3⟩, ?_⟩
  rw [Bool.and_eq_true, Bool.and_eq_true, divides_of h1]
  refine ⟨by simpa using h1, decide_eq_true h4, ?_⟩
  rw [splits_of g0 gg]
  dsimp only
  rw [Bool.or_eq_true]
  left
  rw [beq_iff_eq, ← hp]
  grind
theorem hit_of_twoTwos {c : List Int} (h0 : c.getD 0 0 ≠ 0) (h : twoTwos c = true) : ∃ q ∈ divisorsOf (c.getD 0 0), Hit c q := by
  unfold twoTwos at h
  dsimp only at h
  rw [List.any_eq_true] at h
  obtain ⟨b, hb, h⟩ := h
  rw [Bool.and_eq_true, Bool.and_eq_true] at h
  obtain ⟨h1, h2, h3⟩ := h
  have h1' : b ≠ 0 := by simpa using h1
  rw [divides_of h1'] at h2
  have h2' := of_decide_eq_true h2
  cases e : splits (c.getD 3 0) (c.getD 2 0 - b - c.getD 0 0 / b) with
  | none => rw [e] at h3; cases h3
  | some a =>
    rw [e] at h3
    dsimp only at h3
    obtain ⟨g, g0, gg, ha⟩ := splits_some e
    rw [Bool.or_eq_true, beq_iff_eq, beq_iff_eq] at h3
    rcases h3 with h3 | h3
    · refine ⟨b, (mem_divisors' h0).mpr h2', g, g0, gg, ?_⟩
      rw [← ha, ← h3]; grind
    · obtain ⟨k1, k2⟩ := ediv_div h0 h2'
      refine ⟨c.getD 0 0 / b, (mem_divisors' h0).mpr k1, g, g0, ?_, ?_⟩
      · rw [k2, gg]; grind
      · rw [k2, ← ha, ← h3]; grind
def badField (c : List Int) : Bool := decide (c.length < 1) || (decide (4 < c.length) || c.any fun (z : Int) => decide (z < -1000) || decide (1000 < z))
def refusal (c : List Int) : Int := if badField c = true then -1 else if isField c = true then 0 else -2
theorem ofField_is (c : List Int) (g : Unit → Ans) : ofField c g = if refusal c = 0 then g () else says (refusal c) := by
  have hb : badField c = true ↔ (c.length < 1 ∨ DEGREE < c.length ∨ c.any (fun (z : Int) => decide (z < -FAR) || decide (FAR < z)) = true) := by
    unfold badField
    rw [Bool.or_eq_true, Bool.or_eq_true, decide_eq_true_eq, decide_eq_true_eq]
    exact Iff.rfl
  unfold ofField refusal
  by_cases h : badField c = true
  · rw [if_pos (hb.mp h)]
    simp only [if_pos h]
    rw [if_neg (by decide)]
  · rw [if_neg (fun q => h (hb.mpr q))]
    simp only [if_neg h]
    by_cases h2 : isField c = true
    · simp only [if_pos h2]
      rfl
    · simp only [if_neg h2]
      rw [if_neg (by decide)]
end Rr

end
section
set_option linter.all false
namespace Rr
open Root
theorem newton_ge {n x s : Int} (hx : 0 < x) (hs : s * s ≤ n) : s ≤ (x + n / x) / 2 := by
  have h1 : 2 * s - x ≤ n / x := by
    rw [Int.le_ediv_iff_mul_le hx]
    have h2 : (2 * s - x) * x = s * s - (s - x) * (s - x) := by grind
    have h3 : 0 ≤ (s - x) * (s - x) := by
      rcases Int.le_total 0 (s - x) with h | h
      · exact Int.mul_nonneg h h
      · exact Int.mul_nonneg_of_nonpos_of_nonpos h h
    omega
  omega
structure Newt (n root nearer : Int) : Prop where
  n0 : 0 ≤ n
  r0 : 0 ≤ root
  rn : root ≤ n
  up : ∀ s : Int, 0 ≤ s → s * s ≤ n → s ≤ root
  st : (n = 0 ∧ root = 0 ∧ nearer = 0) ∨ (0 < root ∧ nearer = (root + n / root) / 2)
theorem newt_start {n : Int} (h : 0 ≤ n) : Newt n n ((n + 1) / 2) := by
  refine ⟨h, h, Int.le_refl _, fun s h0 hs => ?_, ?_⟩
  · rcases Int.lt_or_le s 1 with h1 | h1
    · omega
    · have : s * 1 ≤ s * s := Int.mul_le_mul_of_nonneg_left h1 h0
      omega
  · rcases Int.lt_or_le 0 n with h1 | h1
    · right
      rw [Int.ediv_self (by omega)]
      exact ⟨h1, rfl⟩
    · left
      omega
theorem newt_step {n root nearer : Int} (h : Newt n root nearer) (hl : nearer < root) : 0 < nearer ∧ Newt n nearer ((nearer + n / nearer) / 2) := by
  rcases h.st with ⟨h1, h2, h3⟩ | ⟨h1, h2⟩
  · omega
  · have hn : 1 * 1 ≤ n := by
      have := h.rn
      omega
    have hp : 1 ≤ nearer := by
      rw [h2]
      exact newton_ge h1 hn
    have := h.rn
    refine ⟨by omega, h.n0, by omega, by omega, fun s h0 hs => ?_, .inr ⟨by omega, rfl⟩⟩
    rw [h2]
    exact newton_ge h1 hs
theorem newt_end {n root nearer : Int} (h : Newt n root nearer) (hl : ¬ nearer < root) : root * root ≤ n ∧ n < (root + 1) * (root + 1) := by
  constructor
  · rcases h.st with ⟨h1, h2, h3⟩ | ⟨h1, h2⟩
    · rw [h2, h1]
      decide
    · have h3 : root ≤ n / root := by omega
      rw [Int.le_ediv_iff_mul_le h1] at h3
      exact h3
  · rcases Int.lt_or_le n ((root + 1) * (root + 1)) with h1 | h1
    · exact h1
    · have := h.up (root + 1) (by have := h.r0; omega) h1
      omega
theorem isField_one {c : List Int} (h : c.length = 1) : isField c = true := by
  unfold isField
  rw [h]
  rfl
theorem isField_zero {c : List Int} (h : c.length ≠ 1) (h0 : c.headD 0 = 0) : isField c = false := by
  unfold isField hasRoot
  rw [h0]
  simp [h]
theorem isField_root {c : List Int} (h : c.length ≠ 1) (h0 : hasRoot c = true) : isField c = false := by
  unfold isField
  rw [h0]
  simp [h]
theorem isField_rest {c : List Int} (h : c.length ≠ 1) (h0 : hasRoot c = false) (h4 : c.length ≠ 4) : isField c = true := by
  unfold isField
  rw [h0]
  simp [h4]
theorem isField_four {c : List Int} (h0 : hasRoot c = false) (h4 : c.length = 4) : isField c = !twoTwos c := by
  unfold isField
  rw [h0, h4]
  simp
end Rr

end
section
set_option linter.all false
namespace Rr
open Root
def isRow (a : List Int) (d : Nat) : Bool := decide (a.length = d + 1) && decide (0 < a.getLastD 0)
def rowsRefusal (c : List Int) (rs : List (List Int)) : Int := if refusal c = 0 then (if rs.all (fun (r : List Int) => isRow r c.length) = true then 0 else -9) else refusal c
theorem row_split {a : List Int} {d : Nat} (h : isRow a d = true) : ∃ (ns : List Int) (n : Int), a = ns ++ [n] ∧ ns.length = d ∧ 0 < n := by
  unfold isRow at h
  rw [Bool.and_eq_true, decide_eq_true_eq, decide_eq_true_eq] at h
  obtain ⟨h1, h2⟩ := h
  have hne : a ≠ [] := by
    intro e
    rw [e] at h1
    cases h1
  refine ⟨a.dropLast, a.getLast hne, (List.dropLast_concat_getLast hne).symm, by rw [List.length_dropLast]; omega, ?_⟩
  rw [List.getLastD_eq_getLast?, List.getLast?_eq_some_getLast hne] at h2
  exact h2
theorem numOf_row {c ns : List Int} {n : Int} (hl : ns.length = c.length) (hn : 0 < n) : numOf c (ns ++ [n]) = some (ns.map fun (z : Int) => (z : Rat) / (n : Rat)) := by
  have e1 : (ns ++ [n]).getLastD 0 = n := by simp
  have e2 : (ns ++ [n]).getLastD 1 = n := by simp
  unfold numOf
  rw [e1, e2, if_neg]
  · rw [← hl, List.take_left]
  · rintro (h | h)
    · exact h (by rw [List.length_append, hl]; rfl)
    · omega
theorem numOf_none {c a : List Int} (h : isRow a c.length = false) : numOf c a = none := by
  unfold isRow at h
  unfold numOf
  rw [if_pos]
  rw [Bool.and_eq_false_iff, decide_eq_false_iff_not, decide_eq_false_iff_not] at h
  rcases h with h | h
  · exact .inl h
  · exact .inr (by omega)
def told_ (x : Ans) : List Int := x.code :: x.nums
theorem refusal_one {c a : List Int} (g : Num → Ans) : told_ (ofRow c a g) = if rowsRefusal c [a] = 0 then (match numOf c a with | none => [] | some x => told_ (g x)) else [rowsRefusal c [a]] := by
  unfold ofRow
  rw [ofField_is]
  unfold rowsRefusal
  by_cases h : refusal c = 0
  · rw [if_pos h]
    simp only [if_pos h]
    cases hr : isRow a c.length with
    | true =>
      obtain ⟨ns, n, rfl, hl, hn⟩ := row_split hr
      rw [numOf_row hl hn]
      simp [hr]
    | false =>
      rw [numOf_none hr]
      simp [hr]
      rfl
  · rw [if_neg h]
    simp only [if_neg h]
    rfl
end Rr

end
section
set_option linter.all false
namespace Rr
open Root
def addRow (ms : List Int) (p : Int) (ns : List Int) (q : Int) : List Int := List.zipWith (fun (m n : Int) => m * q + n * p) ms ns ++ [p * q]
end Rr

end
section
set_option linter.all false
namespace Rr
open Root
theorem polyAt_nil (x : Rat) : polyAt [] x = 0 := rfl
theorem polyAt_cons (a : Rat) (p : List Rat) (x : Rat) : polyAt (a :: p) x = polyAt p x * x + a := rfl
theorem bnum (a : Rat) : ∃ A : Rat, 0 ≤ A ∧ -A ≤ a ∧ a ≤ A := by
  rcases Rat.le_total (a := a) (b := 0) with h | h
  · exact ⟨-a, by grind, by grind, by grind⟩
  · exact ⟨a, h, by grind, by grind⟩
def Bd (M : Rat) (f : Rat → Rat) (K : Rat) : Prop := ∀ x, -M ≤ x → x ≤ M → -K ≤ f x ∧ f x ≤ K
def Lip (M : Rat) (f : Rat → Rat) (L : Rat) : Prop := ∀ x y, -M ≤ x → x ≤ y → y ≤ M → -(L * (y - x)) ≤ f y - f x ∧ f y - f x ≤ L * (y - x)
def diffAt : List Rat → Rat → Rat
  | [], _ => 0
  | _ :: p, x => diffAt p x * x + polyAt p x
end Rr

end
section
set_option linter.all false
namespace Rr
open Root
def tn (l : List Int) : Nat := changes (l.filter fun (z : Int) => z != 0)
theorem sign_pos {x : Rat} (h : 0 < x) : signOf x = 1 := by
  unfold signOf
  rw [if_neg (by grind), if_neg (by grind)]
theorem sign_neg {x : Rat} (h : x < 0) : signOf x = -1 := by
  unfold signOf
  rw [if_pos h]
def Like (a b : Rat) : Prop := (0 < a ∧ 0 < b) ∨ (a < 0 ∧ b < 0)
def Unlike (a b : Rat) : Prop := (0 < a ∧ b < 0) ∨ (a < 0 ∧ 0 < b)
theorem ne_lt {a b : Rat} (h : a ≠ b) : a < b ∨ b < a := by grind
inductive Ch : List (List Rat) → Prop
  | one {p : List Rat} {c : Rat} : c ≠ 0 → (∀ x, polyAt p x = c) → Ch [p]
  | two {p q : List Rat} : Ch [q] → Ch [p, q]
  | more {p q r : List Rat} {l : List (List Rat)} (Q : List Rat) : (∀ x, polyAt p x = polyAt Q x * polyAt q x - polyAt r x) → Ch (q :: r :: l) → Ch (p :: q :: r :: l)
end Rr

end
section
set_option linter.all false
namespace Rr
open Root
theorem far_pos : ∀ (p : List Rat), 0 < p.getLastD 0 → ∃ e N : Rat, 0 < e ∧ 0 ≤ N ∧ ∀ x, N ≤ x → e ≤ polyAt p x
  | [], h => by
    have : (0 : Rat) < 0 := h
    grind
  | [a], h => by
    have h' : 0 < a := h
    refine ⟨a, 0, h', by decide, fun x _ => ?_⟩
    rw [polyAt_cons, polyAt_nil]
    grind
  | a :: b :: p, h => by
    have h' : 0 < (b :: p).getLastD 0 := by
      have e : (a :: b :: p).getLastD 0 = (b :: p).getLastD 0 := rfl
      rw [← e]; exact h
    obtain ⟨e, N, he, hN, k⟩ := far_pos (b :: p) h'
    obtain ⟨A, hA, ha1, ha2⟩ := bnum a
    have hd : 0 ≤ A / e := by
      rw [Rat.div_def]
      exact Rat.mul_nonneg hA (Rat.le_of_lt (Rat.inv_pos.mpr he))
    have hc : A / e * e = A := Rat.div_mul_cancel (by grind)
    refine ⟨e, N + 1 + A / e, he, by grind, fun x hx => ?_⟩
    generalize A / e = w at *
    have k1 := k x (by grind)
    have m1 : 0 ≤ (polyAt (b :: p) x - e) * x := Rat.mul_nonneg (by grind) (by grind)
    have m2 : 0 ≤ e * (x - (1 + w)) := Rat.mul_nonneg (by grind) (by grind)
    rw [polyAt_cons]
    grind
theorem polyAt_neg (p : List Rat) (x : Rat) : polyAt (p.map fun (z : Rat) => -z) x = -polyAt p x := by
  induction p with
  | nil => rw [List.map_nil, polyAt_nil]; grind
  | cons a p ih =>
    rw [List.map_cons, polyAt_cons, polyAt_cons, ih]
    grind
theorem getLastD_map {α β : Type} (f : α → β) (a : α) (b : β) (h : f a = b) : ∀ l : List α, (l.map f).getLastD b = f (l.getLastD a)
  | [] => h.symm
  | x :: l => by
    rw [List.getLastD_eq_getLast?, List.getLastD_eq_getLast?, List.getLast?_map]
    cases (x :: l).getLast? with
    | none => exact h.symm
    | some y => rfl
theorem far_sign (p : List Rat) (h : p.getLastD 0 ≠ 0) : ∃ N : Rat, 0 ≤ N ∧ ∀ x, N ≤ x → signOf (polyAt p x) = signOf (p.getLastD 0) := by
  rcases ne_lt h with k | k
  · have k2 : 0 < (p.map fun (z : Rat) => -z).getLastD 0 := by
      rw [getLastD_map (fun (z : Rat) => -z) 0 0 (by decide)]
      grind
    obtain ⟨e, N, he, hN, hx⟩ := far_pos _ k2
    refine ⟨N, hN, fun x h1 => ?_⟩
    have := hx x h1
    rw [polyAt_neg] at this
    rw [sign_neg k, sign_neg (by grind)]
  · obtain ⟨e, N, he, hN, hx⟩ := far_pos _ k
    refine ⟨N, hN, fun x h1 => ?_⟩
    have := hx x h1
    rw [sign_pos k, sign_pos (by grind)]
def flip : List Rat → List Rat
  | [] => []
  | a :: p => a :: (flip p).map fun (z : Rat) => -z
def sumAbs (l : List Rat) : Rat := l.foldr (fun (a b : Rat) => (if a < 0 then -a else a) + b) 0
end Rr

end
section
set_option linter.all false
namespace Rr
open Root
def Tr (p : List Rat) : Prop := p = [] ∨ p.getLastD 0 ≠ 0
theorem polyAt_append (u w : List Rat) (x : Rat) : polyAt (u ++ w) x = polyAt u x + x ^ u.length * polyAt w x := by
  induction u with
  | nil => rw [List.nil_append, polyAt_nil, List.length_nil, Rat.pow_zero]; grind
  | cons a u ih =>
    rw [List.cons_append, polyAt_cons, polyAt_cons, ih, List.length_cons, Rat.pow_succ]
    grind
theorem polyAt_dropWhile (x : Rat) : ∀ r : List Rat, polyAt (r.dropWhile fun (x : Rat) => x == 0).reverse x = polyAt r.reverse x
  | [] => rfl
  | a :: r => by
    rw [List.dropWhile_cons]
    by_cases h : a = 0
    · rw [if_pos (by simpa using h), polyAt_dropWhile x r, List.reverse_cons, polyAt_append, h, polyAt_cons, polyAt_nil]
      grind
    · rw [if_neg (by simpa using h)]
theorem polyAt_trimmed (p : List Rat) (x : Rat) : polyAt (trimmed p) x = polyAt p x := by
  unfold trimmed
  rw [polyAt_dropWhile, List.reverse_reverse]
theorem tr_trimmed (p : List Rat) : Tr (trimmed p) := by
  unfold trimmed Tr
  generalize p.reverse = r
  induction r with
  | nil => exact .inl rfl
  | cons a r ih =>
    rw [List.dropWhile_cons]
    by_cases h : a = 0
    · rw [if_pos (by simpa using h)]; exact ih
    · rw [if_neg (by simpa using h)]
      right
      rw [List.reverse_cons]
      simpa using h
theorem trimmed_snoc_zero (l : List Rat) : trimmed (l ++ [0]) = trimmed l := by
  unfold trimmed
  rw [List.reverse_append]
  rfl
theorem trimmed_length (p : List Rat) : (trimmed p).length ≤ p.length := by
  unfold trimmed
  rw [List.length_reverse]
  have := (List.dropWhile_sublist (l := p.reverse) (p := fun (x : Rat) => x == 0)).length_le
  rw [List.length_reverse] at this
  exact this
def stepP (p q : List Rat) (k : Nat) (t : Rat) : List Rat := (p.zipIdx).map fun (x : Rat × Nat) => if x.2 < k then x.1 else x.1 - t * q.getD (x.2 - k) 0
theorem leftOf_succ (f : Nat) (p q : List Rat) : leftOf (f + 1) p q = if p.length < q.length ∨ q.isEmpty = true then p else leftOf f (trimmed (stepP p q (p.length - q.length) (p.getLastD 0 / q.getLastD 1))) q := rfl
theorem step_low {q : List Rat} {k : Nat} {t : Rat} : ∀ (u : List Rat) (j : Nat), j + u.length ≤ k → (u.zipIdx j).map (fun (x : Rat × Nat) => if x.2 < k then x.1 else x.1 - t * q.getD (x.2 - k) 0) = u
  | [], _, _ => rfl
  | a :: u, j, h => by
    rw [List.length_cons] at h
    rw [List.zipIdx_cons, List.map_cons, step_low u (j + 1) (by omega), if_pos (by show j < k; omega)]
theorem step_high {q : List Rat} {k : Nat} {t : Rat} : ∀ (v : List Rat) (j : Nat), j + v.length = q.length → (v.zipIdx (k + j)).map (fun (x : Rat × Nat) => if x.2 < k then x.1 else x.1 - t * q.getD (x.2 - k) 0) = List.zipWith (fun (a b : Rat) => a - t * b) v (q.drop j)
  | [], _, _ => by simp
  | a :: v, j, h => by
    rw [List.length_cons] at h
    have hj : j < q.length := by omega
    rw [List.zipIdx_cons, List.map_cons, show k + j + 1 = k + (j + 1) by omega, step_high v (j + 1) (by omega), if_neg (by show ¬ k + j < k; omega), List.drop_eq_getElem_cons hj, List.zipWith_cons_cons]
    congr 1
    show a - t * q.getD (k + j - k) 0 = _
    rw [show k + j - k = j by omega, List.getD_eq_getElem?_getD, List.getElem?_eq_getElem hj]
    rfl
theorem stepP_eq {p q u v : List Rat} {k : Nat} {t : Rat} (hp : p = u ++ v) (hu : u.length = k) (hv : v.length = q.length) : stepP p q k t = u ++ List.zipWith (fun (a b : Rat) => a - t * b) v q := by
  unfold stepP
  rw [hp, List.zipIdx_append, List.map_append, step_low u 0 (by omega), hu]
  have := step_high (q := q) (k := k) (t := t) v 0 (by omega)
  rw [List.drop_zero, Nat.add_zero] at this
  rw [Nat.zero_add, this]
theorem polyAt_zipWith (t x : Rat) : ∀ (v q : List Rat), v.length = q.length → polyAt (List.zipWith (fun (a b : Rat) => a - t * b) v q) x = polyAt v x - t * polyAt q x
  | [], [], _ => by rw [List.zipWith_nil_left, polyAt_nil]; grind
  | a :: v, b :: q, h => by
    rw [List.zipWith_cons_cons, polyAt_cons, polyAt_cons, polyAt_cons, polyAt_zipWith t x v q (by simpa using h)]
    grind
theorem snoc_of {α : Type} {l : List α} (h : l ≠ []) : ∃ (m : List α) (z : α), l = m ++ [z] := ⟨l.dropLast, l.getLast h, (List.dropLast_concat_getLast h).symm⟩
theorem step_div {p q : List Rat} (hq : q ≠ []) (hq0 : q.getLastD 0 ≠ 0) (hl : q.length ≤ p.length) :
    (∀ x, polyAt (trimmed (stepP p q (p.length - q.length) (p.getLastD 0 / q.getLastD 1))) x = polyAt p x - p.getLastD 0 / q.getLastD 1 * (x ^ (p.length - q.length) * polyAt q x)) ∧
    (trimmed (stepP p q (p.length - q.length) (p.getLastD 0 / q.getLastD 1))).length < p.length := by
  obtain ⟨m, b, rfl⟩ := snoc_of hq
  have hp : p ≠ [] := by
    intro z
    rw [z] at hl
    simp at hl
  obtain ⟨n, a, rfl⟩ := snoc_of hp
  have eb : (m ++ [b]).getLastD 1 = b := by simp
  have eb0 : (m ++ [b]).getLastD 0 = b := by simp
  have ea : (n ++ [a]).getLastD 0 = a := by simp
  rw [eb0] at hq0
  rw [eb, ea]
  have hln : m.length ≤ n.length := by
    rw [List.length_append, List.length_append] at hl
    simpa using hl
  have hk : (n ++ [a]).length - (m ++ [b]).length = n.length - m.length := by
    rw [List.length_append, List.length_append]
    show n.length + 1 - (m.length + 1) = _
    omega
  rw [hk]
  have hv : (n.drop (n.length - m.length)).length = m.length := by rw [List.length_drop]; omega
  have hu : (n.take (n.length - m.length)).length = n.length - m.length := by rw [List.length_take]; omega
  have hs : n ++ [a] = n.take (n.length - m.length) ++ (n.drop (n.length - m.length) ++ [a]) := by
    rw [← List.append_assoc, List.take_append_drop]
  have hvl : (n.drop (n.length - m.length) ++ [a]).length = (m ++ [b]).length := by
    rw [List.length_append, List.length_append, hv]
    rfl
  have e := stepP_eq (t := a / b) hs hu hvl
  have e2 : List.zipWith (fun (a_1 b_1 : Rat) => a_1 - a / b * b_1) (n.drop (n.length - m.length) ++ [a]) (m ++ [b]) = List.zipWith (fun (a_1 b_1 : Rat) => a_1 - a / b * b_1) (n.drop (n.length - m.length)) m ++ [0] := by
    rw [List.zipWith_append hv, List.zipWith_cons_cons, List.zipWith_nil_left]
    congr 2
    have := Rat.div_mul_cancel (a := a) hq0
    grind
  constructor
  · intro x
    rw [polyAt_trimmed, e, polyAt_append, polyAt_zipWith _ _ _ _ hvl, hu]
    have e3 : polyAt (n ++ [a]) x = polyAt (n.take (n.length - m.length)) x + x ^ (n.length - m.length) * polyAt (n.drop (n.length - m.length) ++ [a]) x := by
      have := polyAt_append (n.take (n.length - m.length)) (n.drop (n.length - m.length) ++ [a]) x
      rw [hu, ← List.append_assoc, List.take_append_drop] at this
      exact this
    rw [e3]
    grind
  · rw [e, e2, ← List.append_assoc, trimmed_snoc_zero]
    refine Nat.lt_of_le_of_lt (trimmed_length _) ?_
    rw [List.length_append, hu, List.length_zipWith, hv, List.length_append]
    show n.length - m.length + min m.length m.length < n.length + 1
    omega
theorem polyAt_zeros (n : Nat) (x : Rat) : polyAt (List.replicate n 0) x = 0 := by
  induction n with
  | zero => rfl
  | succ n ih => rw [List.replicate_succ, polyAt_cons, ih]; grind
theorem leftOf_div {q : List Rat} (hq : q ≠ []) (hq0 : q.getLastD 0 ≠ 0) : ∀ (n : Nat) (p : List Rat), p.length < n + q.length → Tr p →
    ∃ Q : List Rat, (Q = [] ∨ Q.length + q.length ≤ p.length + 1) ∧ (∀ x, polyAt p x = polyAt Q x * polyAt q x + polyAt (leftOf n p q) x) ∧ (leftOf n p q).length < q.length ∧ Tr (leftOf n p q)
  | 0, p, h, ht => ⟨[], .inl rfl, fun x => by rw [polyAt_nil]; show polyAt p x = 0 * _ + polyAt p x; grind, by show p.length < q.length; omega, ht⟩
  | n + 1, p, h, ht => by
    rw [leftOf_succ]
    by_cases hc : p.length < q.length
    · rw [if_pos (.inl hc)]
      exact ⟨[], .inl rfl, fun x => by rw [polyAt_nil]; grind, hc, ht⟩
    · have he : q.isEmpty = false := by
        cases q with
        | nil => exact absurd rfl hq
        | cons _ _ => rfl
      rw [if_neg (by rw [he]; simp; omega)]
      obtain ⟨e1, e2⟩ := step_div hq hq0 (p := p) (by omega)
      obtain ⟨Q, hQ, h1, h2, h3⟩ := leftOf_div hq hq0 n _ (by omega) (tr_trimmed (stepP p q (p.length - q.length) (p.getLastD 0 / q.getLastD 1)))
      have hQl : Q.length ≤ p.length - q.length := by
        rcases hQ with rfl | hQ
        · exact Nat.zero_le _
        · omega
      refine ⟨Q ++ (List.replicate (p.length - q.length - Q.length) 0 ++ [p.getLastD 0 / q.getLastD 1]), .inr ?_, fun x => ?_, h2, h3⟩
      · rw [List.length_append, List.length_append, List.length_replicate]
        show Q.length + (p.length - q.length - Q.length + 1) + q.length ≤ p.length + 1
        omega
      · have h1x := h1 x
        rw [e1 x] at h1x
        rw [polyAt_append, polyAt_append, polyAt_zeros, List.length_replicate, polyAt_cons, polyAt_nil]
        have hpw : x ^ (p.length - q.length) = x ^ Q.length * x ^ (p.length - q.length - Q.length) := by
          have e3 : p.length - q.length = Q.length + (p.length - q.length - Q.length) := by omega
          generalize p.length - q.length - Q.length = j at *
          rw [e3]
          clear e3 h1x
          induction j with
          | zero => rw [Nat.add_zero, Rat.pow_zero]; grind
          | succ j ih => rw [Nat.add_succ, Rat.pow_succ, Rat.pow_succ, ih]; grind
        rw [hpw] at h1x
        grind
end Rr

end
section
set_option linter.all false
namespace Rr
open Root
theorem homog (n d : Int) (r : Rat) (hr : r * (d : Rat) = (n : Rat)) : ∀ c : List Int, ∃ k : Int, polyAt (polyOf c) r * (d : Rat) ^ c.length = ((n ^ c.length + d * k : Int) : Rat)
  | [] => ⟨0, by
    show polyAt [1] r * (d : Rat) ^ 0 = ((n ^ 0 + d * 0 : Int) : Rat)
    rw [polyAt_cons, polyAt_nil, Rat.pow_zero, Int.pow_zero, Int.mul_zero, Int.add_zero]
    show (0 * r + 1) * 1 = (1 : Rat)
    grind⟩
  | a :: c => by
    obtain ⟨k, hk⟩ := homog n d r hr c
    refine ⟨k * n + a * d ^ c.length, ?_⟩
    have e1 : polyAt (polyOf (a :: c)) r = polyAt (polyOf c) r * r + (a : Rat) := rfl
    rw [e1, List.length_cons, Rat.pow_succ, Int.pow_succ]
    have e2 : (polyAt (polyOf c) r * r + (a : Rat)) * ((d : Rat) ^ c.length * (d : Rat)) = (polyAt (polyOf c) r * (d : Rat) ^ c.length) * (r * (d : Rat)) + (a : Rat) * ((d : Rat) ^ c.length * (d : Rat)) := by grind
    rw [e2, hk, hr, ← Rat.intCast_pow, ← Rat.intCast_mul, ← Rat.intCast_mul, ← Rat.intCast_mul, ← Rat.intCast_add]
    congr 1
    grind
theorem root_den {c : List Int} (hc : c ≠ []) {r : Rat} (h : polyAt (polyOf c) r = 0) : ∃ z : Int, r = (z : Rat) := by
  have hd : ((r.den : Int) : Rat) ≠ 0 := by
    intro z
    have := Rat.intCast_eq_zero_iff.mp z
    have := r.den_nz
    omega
  have hr : r * ((r.den : Int) : Rat) = (r.num : Rat) := by
    have := Rat.num_divInt_den r
    rw [Rat.divInt_eq_div] at this
    have e := Rat.div_mul_cancel (a := (r.num : Rat)) hd
    rw [this] at e
    exact e
  obtain ⟨k, hk⟩ := homog r.num r.den r hr c
  rw [h, Rat.zero_mul] at hk
  have h0 : r.num ^ c.length + (r.den : Int) * k = 0 := Rat.intCast_eq_zero_iff.mp hk.symm
  have hdvd : (r.den : Int) ∣ r.num ^ c.length := ⟨-k, by rw [Int.mul_neg]; omega⟩
  have hd2 : r.den ∣ r.num.natAbs ^ c.length := by
    have := Int.natAbs_dvd_natAbs.mpr hdvd
    rw [Int.natAbs_pow] at this
    exact this
  have hco : Nat.Coprime (r.num.natAbs ^ c.length) r.den := Nat.Coprime.pow_left _ r.reduced
  have h1 : r.den = 1 := Nat.Coprime.eq_one_of_dvd (Nat.Coprime.symm hco) hd2
  refine ⟨r.num, ?_⟩
  rw [h1] at hr
  have : ((1 : Nat) : Int) = 1 := rfl
  rw [this, Rat.intCast_one, Rat.mul_one] at hr
  exact hr
theorem polyAt_whole (z : Int) : ∀ c : List Int, polyAt (polyOf c) (z : Rat) = ((c.foldr (fun (t s : Int) => s * z + t) 1 : Int) : Rat)
  | [] => by
    show polyAt [1] (z : Rat) = ((1 : Int) : Rat)
    rw [polyAt_cons, polyAt_nil, Rat.intCast_one]
    grind
  | a :: c => by
    have e1 : polyAt (polyOf (a :: c)) (z : Rat) = polyAt (polyOf c) (z : Rat) * (z : Rat) + (a : Rat) := rfl
    rw [e1, polyAt_whole z c, List.foldr_cons, ← Rat.intCast_mul, ← Rat.intCast_add]
theorem hasRoot_of {c : List Int} (hc : c ≠ []) {r : Rat} (h : polyAt (polyOf c) r = 0) : hasRoot c = true := by
  obtain ⟨z, rfl⟩ := root_den hc h
  rw [polyAt_whole] at h
  have h0 := Rat.intCast_eq_zero_iff.mp h
  by_cases hh : c.headD 0 = 0
  · unfold hasRoot
    rw [hh]
    rfl
  · rw [hasRoot_is hh, List.any_eq_true]
    refine ⟨z, (mem_divisors' hh).mpr ?_, ?_⟩
    · cases c with
      | nil => exact absurd rfl hc
      | cons a c =>
        rw [List.foldr_cons] at h0
        show a % z = 0
        refine Int.emod_eq_zero_of_dvd ⟨-(c.foldr (fun (t s : Int) => s * z + t) 1), ?_⟩
        rw [Int.mul_neg, Int.mul_comm]
        omega
    · rw [horner_valueAt]
      unfold valueAt
      rw [List.foldl_reverse, h0]
      rfl
theorem no_root {c : List Int} (h1 : c.length ≠ 1) (hc : c ≠ []) (hf : isField c = true) (r : Rat) : polyAt (polyOf c) r ≠ 0 := fun h => by
  rw [isField_root h1 (hasRoot_of hc h)] at hf
  cases hf
theorem zero4 {a0 a1 a2 a3 a4 : Rat} (h : ∀ x : Rat, a4 * (x * x * x * x) + a3 * (x * x * x) + a2 * (x * x) + a1 * x + a0 = 0) : a0 = 0 ∧ a1 = 0 ∧ a2 = 0 ∧ a3 = 0 ∧ a4 = 0 := by
  have h0 := h 0
  have h1 := h 1
  have h2 := h (-1)
  have h3 := h 2
  have h4 := h (-2)
  clear h
  refine ⟨?_, ?_, ?_, ?_, ?_⟩ <;> grind
theorem linear_root {g : List Rat} (h : g.length = 2) (h0 : g.getLastD 0 ≠ 0) : ∃ r : Rat, polyAt g r = 0 := by
  match g, h with
  | [b, a], _ =>
    have ha : a ≠ 0 := h0
    refine ⟨-b / a, ?_⟩
    rw [polyAt_cons, polyAt_cons, polyAt_nil]
    have := Rat.div_mul_cancel (a := -b) ha
    grind
theorem quad_of {g : List Rat} (h : g.length = 3) (h0 : g.getLastD 0 ≠ 0) : ∃ a b e : Rat, a ≠ 0 ∧ ∀ x, polyAt g x = a * (x * x) + b * x + e := by
  match g, h with
  | [e, b, a], _ =>
    exact ⟨a, b, e, h0, fun x => by rw [polyAt_cons, polyAt_cons, polyAt_cons, polyAt_nil]; grind⟩
end Rr

end
section
set_option linter.all false
namespace Rr
open Root
def tims (j : Nat) (g : List Rat) : List Rat := (g.zipIdx j).map fun (x : Rat × Nat) => (x.2 : Rat) * x.1
theorem polyOf_length (c : List Int) : (polyOf c).length = c.length + 1 := by
  unfold polyOf
  rw [List.length_append, List.length_map]
  rfl
theorem polyOf_last (c : List Int) : (polyOf c).getLastD 0 = 1 := by
  unfold polyOf
  simp
def negs (p : List Rat) : List Rat := p.map fun (x : Rat) => -x
theorem negs_at (p : List Rat) (x : Rat) : polyAt (negs p) x = -polyAt p x := polyAt_neg p x
theorem negs_length (p : List Rat) : (negs p).length = p.length := by unfold negs; rw [List.length_map]
inductive Go : List Rat → List Rat → Prop
  | last {p q : List Rat} : q.length = 1 → q.getLastD 0 ≠ 0 → p.length ≤ 8 → Tr p → Go p q
  | step {p q : List Rat} : 2 ≤ q.length → q.getLastD 0 ≠ 0 → p.length ≤ 8 → Tr p → leftOf 8 p q ≠ [] → Go q (negs (leftOf 8 p q)) → Go p q
theorem ne_of_len {α : Type} {q : List α} (h : 1 ≤ q.length) : q ≠ [] := by
  rintro rfl
  simp at h
theorem poly4 (c0 c1 c2 c3 : Int) (x : Rat) : polyAt (polyOf [c0, c1, c2, c3]) x = x * x * x * x + c3 * (x * x * x) + c2 * (x * x) + c1 * x + c0 := by
  show polyAt [(c0 : Rat), (c1 : Rat), (c2 : Rat), (c3 : Rat), 1] x = _
  rw [polyAt_cons, polyAt_cons, polyAt_cons, polyAt_cons, polyAt_cons, polyAt_nil]
  grind
theorem list4 {α : Type} {l : List α} (h : l.length = 4) : ∃ a b c d, l = [a, b, c, d] := match l, h with | [a, b, c, d], _ => ⟨a, b, c, d, rfl⟩
theorem ok_field {c : List Int} (h : refusal c = 0) : 1 ≤ c.length ∧ c.length ≤ 4 ∧ ∀ z ∈ c, z.natAbs ≤ 1000 := by
  have hb : badField c = false := by
    cases z : badField c with
    | false => rfl
    | true => unfold refusal at h; rw [if_pos z] at h; cases h
  unfold badField at hb
  rw [Bool.or_eq_false_iff, Bool.or_eq_false_iff, decide_eq_false_iff_not, decide_eq_false_iff_not, List.any_eq_false] at hb
  obtain ⟨h1, h2, h3⟩ := hb
  refine ⟨by omega, by omega, fun z hz => ?_⟩
  have := h3 z hz
  rw [Bool.or_eq_true, decide_eq_true_eq, decide_eq_true_eq] at this
  omega
theorem all_zero_of_dropWhile : ∀ r : List Rat, (r.dropWhile fun (x : Rat) => x == 0) = [] → ∀ z ∈ r, z = 0
  | [], _, z, hz => absurd hz (by simp)
  | a :: r, h, z, hz => by
    rw [List.dropWhile_cons] at h
    by_cases ha : a = 0
    · rw [if_pos (by simpa using ha)] at h
      rcases List.mem_cons.mp hz with rfl | hz
      · exact ha
      · exact all_zero_of_dropWhile r h z hz
    · rw [if_neg (by simpa using ha)] at h
      cases h
theorem poly_zero {p : List Rat} (h : ∀ x, polyAt p x = 0) : ∀ z ∈ p, z = 0 := by
  have ht : trimmed p = [] := by
    rcases tr_trimmed p with k | k
    · exact k
    · obtain ⟨N, _, hN⟩ := far_sign _ k
      have h1 := hN N Rat.le_refl
      rw [polyAt_trimmed, h] at h1
      rcases ne_lt k with z | z
      · rw [sign_neg z] at h1
        cases h1
      · rw [sign_pos z] at h1
        cases h1
  intro z hz
  unfold trimmed at ht
  exact all_zero_of_dropWhile _ (List.reverse_eq_nil_iff.mp ht) z (List.mem_reverse.mpr hz)
theorem zipWith_zero : ∀ {p q : List Rat}, p.length = q.length → (∀ z ∈ List.zipWith (fun (a b : Rat) => a - 1 * b) p q, z = 0) → p = q
  | [], [], _, _ => rfl
  | a :: p, b :: q, hl, h => by
    rw [List.zipWith_cons_cons] at h
    have h1 := h (a - 1 * b) (by simp)
    have h2 := zipWith_zero (p := p) (q := q) (by simpa using hl) fun z hz => h z (List.mem_cons_of_mem _ hz)
    rw [h2, show a = b by grind]
theorem poly_ext {p q : List Rat} (hl : p.length = q.length) (h : ∀ x, polyAt p x = polyAt q x) : p = q := by
  refine zipWith_zero hl (poly_zero fun x => ?_)
  rw [polyAt_zipWith _ _ _ _ hl, h]
  grind
def addP : List Rat → List Rat → List Rat
  | [], q => q
  | a :: p, [] => a :: p
  | a :: p, b :: q => (a + b) :: addP p q
theorem addP_at (x : Rat) : ∀ p q : List Rat, polyAt (addP p q) x = polyAt p x + polyAt q x
  | [], q => by rw [polyAt_nil]; show polyAt q x = _; grind
  | a :: p, [] => by rw [polyAt_nil]; show polyAt (a :: p) x = _; grind
  | a :: p, b :: q => by
    show polyAt ((a + b) :: addP p q) x = _
    rw [polyAt_cons, polyAt_cons, polyAt_cons, addP_at x p q]
    grind
theorem addP_length : ∀ p q : List Rat, p.length ≤ q.length → (addP p q).length = q.length
  | [], q, _ => rfl
  | a :: p, [], h => by simp at h
  | a :: p, b :: q, h => by
    show ((a + b) :: addP p q).length = _
    rw [List.length_cons, List.length_cons, addP_length p q (by simpa using h)]
theorem last_cons {a : Rat} {l : List Rat} (h : l ≠ []) : (a :: l).getLastD 0 = l.getLastD 0 := by
  cases l with
  | nil => exact absurd rfl h
  | cons b l => rfl
theorem addP_last : ∀ p q : List Rat, p.length < q.length → (addP p q).getLastD 0 = q.getLastD 0
  | [], q, _ => rfl
  | a :: p, [], h => by simp at h
  | a :: p, b :: q, h => by
    have hl : p.length < q.length := by simpa using h
    have h1 : q ≠ [] := by rintro rfl; simp at hl
    have h2 : addP p q ≠ [] := by
      intro z
      have := addP_length p q (by omega)
      rw [z] at this
      simp at this
      omega
    show ((a + b) :: addP p q).getLastD 0 = _
    rw [last_cons h2, last_cons h1, addP_last p q hl]
def mulC (t : Rat) (p : List Rat) : List Rat := p.map fun (z : Rat) => t * z
theorem mulC_at (t x : Rat) : ∀ p : List Rat, polyAt (mulC t p) x = t * polyAt p x
  | [] => by show (0 : Rat) = t * 0; grind
  | a :: p => by
    show polyAt (t * a :: mulC t p) x = _
    rw [polyAt_cons, polyAt_cons, mulC_at t x p]
    grind
theorem mulC_length (t : Rat) (p : List Rat) : (mulC t p).length = p.length := by unfold mulC; rw [List.length_map]
theorem mulC_last (t : Rat) (p : List Rat) : (mulC t p).getLastD 0 = t * p.getLastD 0 := getLastD_map (fun (z : Rat) => t * z) 0 0 (Rat.mul_zero t) p
def upP : List Rat → List Rat
  | [] => []
  | a :: p => 0 :: a :: p
theorem upP_at (x : Rat) (p : List Rat) : polyAt (upP p) x = x * polyAt p x := by
  cases p with
  | nil => show (0 : Rat) = x * 0; grind
  | cons a p =>
    show polyAt (0 :: a :: p) x = _
    rw [polyAt_cons]
    grind
def mulP : List Rat → List Rat → List Rat
  | [], _ => []
  | a :: p, q => addP (mulC a q) (upP (mulP p q))
theorem mulP_at (x : Rat) : ∀ p q : List Rat, polyAt (mulP p q) x = polyAt p x * polyAt q x
  | [], q => by rw [polyAt_nil]; show (0 : Rat) = 0 * _; grind
  | a :: p, q => by
    show polyAt (addP (mulC a q) (upP (mulP p q))) x = _
    rw [addP_at, mulC_at, upP_at, mulP_at x p q, polyAt_cons]
    grind
theorem addP_nil : ∀ p : List Rat, addP p [] = p
  | [] => rfl
  | _ :: _ => rfl
theorem mulP_last {q : List Rat} (hq : q ≠ []) : ∀ p : List Rat, p ≠ [] → (mulP p q).length + 1 = p.length + q.length ∧ (mulP p q).getLastD 0 = p.getLastD 0 * q.getLastD 0
  | [], h => absurd rfl h
  | [a], _ => by
    show (addP (mulC a q) []).length + 1 = 1 + q.length ∧ (addP (mulC a q) []).getLastD 0 = a * q.getLastD 0
    rw [addP_nil, mulC_length, mulC_last]
    exact ⟨by omega, rfl⟩
  | a :: b :: p, _ => by
    obtain ⟨h1, h2⟩ := mulP_last hq (b :: p) (by simp)
    have hql : 1 ≤ q.length := by
      cases q with
      | nil => exact absurd rfl hq
      | cons _ _ => simp
    rw [List.length_cons] at h1
    have hm : mulP (b :: p) q ≠ [] := by
      intro z
      rw [z] at h1
      simp at h1
      omega
    have hu : upP (mulP (b :: p) q) = 0 :: mulP (b :: p) q := by
      cases hh : mulP (b :: p) q with
      | nil => exact absurd hh hm
      | cons _ _ => rfl
    have e : mulP (a :: b :: p) q = addP (mulC a q) (0 :: mulP (b :: p) q) := by
      show addP (mulC a q) (upP (mulP (b :: p) q)) = _
      rw [hu]
    have hlt : (mulC a q).length < (0 :: mulP (b :: p) q).length := by
      rw [mulC_length, List.length_cons]
      omega
    rw [e, addP_length _ _ (by omega), addP_last _ _ hlt, last_cons hm, h2]
    refine ⟨?_, rfl⟩
    rw [List.length_cons, List.length_cons, List.length_cons]
    omega
theorem mult_short {q Q r : List Rat} (hq : q ≠ []) (hq0 : q.getLastD 0 ≠ 0) (hr : r.length < q.length) (h : ∀ x, polyAt Q x * polyAt q x = polyAt r x) : ∀ x, polyAt Q x = 0 := by
  rcases tr_trimmed Q with k | k
  · intro x
    rw [← polyAt_trimmed, k]
    rfl
  · exfalso
    have hne : trimmed Q ≠ [] := by
      intro z
      rw [z] at k
      exact k rfl
    obtain ⟨m1, m2⟩ := mulP_last hq (trimmed Q) hne
    have hl : (negs r).length < (mulP (trimmed Q) q).length := by
      rw [negs_length]
      have : 1 ≤ (trimmed Q).length := by
        cases hh : trimmed Q with
        | nil => exact absurd hh hne
        | cons _ _ => simp
      omega
    have hz : ∀ x, polyAt (addP (negs r) (mulP (trimmed Q) q)) x = 0 := fun x => by
      rw [addP_at, mulP_at, negs_at, polyAt_trimmed, h]
      grind
    have hall := poly_zero hz
    have hlast := addP_last _ _ hl
    rw [m2] at hlast
    have hadd : addP (negs r) (mulP (trimmed Q) q) ≠ [] := by
      intro z
      have := addP_length _ _ (Nat.le_of_lt hl)
      rw [z] at this
      simp at this
      omega
    obtain ⟨m, z, hm⟩ := snoc_of hadd
    have hz0 := hall z (by rw [hm]; simp)
    rw [hm] at hlast
    have : (m ++ [z]).getLastD 0 = z := by simp
    rw [this, hz0] at hlast
    rcases Rat.mul_eq_zero.mp hlast.symm with w | w
    · exact k w
    · exact hq0 w
theorem same_len {p q : List Rat} (hp : p.getLastD 0 ≠ 0) (hq : q.getLastD 0 ≠ 0) (h : ∀ x, polyAt p x = polyAt q x) : p.length = q.length := by
  have one : ∀ x : Rat, polyAt [1] x = 1 := fun x => by rw [polyAt_cons, polyAt_nil]; grind
  have ne : ∀ {l : List Rat}, l.getLastD 0 ≠ 0 → l ≠ [] := fun {l} k z => by rw [z] at k; exact k rfl
  rcases Nat.lt_trichotomy p.length q.length with k | k | k
  · have := mult_short (Q := [1]) (ne hq) hq k (fun x => by rw [one, h]; grind) 0
    rw [one] at this
    exact absurd this (by decide)
  · exact k
  · have := mult_short (Q := [1]) (ne hp) hp k (fun x => by rw [one, h]; grind) 0
    rw [one] at this
    exact absurd this (by decide)
theorem intc (a b : Int) (h : (a : Rat) = (b : Rat)) : a = b := Rat.intCast_inj.mp h
theorem gauss {c0 c1 c2 c3 : Int} (h0 : c0 ≠ 0) {A B u v : Rat} (e3 : (c3 : Rat) = A + u) (e2 : (c2 : Rat) = B + v + A * u) (e1 : (c1 : Rat) = A * v + B * u) (e0 : (c0 : Rat) = B * v) : twoTwos [c0, c1, c2, c3] = true := by
  obtain ⟨s, hs⟩ := root_den (c := [4 * c0 * c2 - c1 * c1 - c0 * c3 * c3, c1 * c3 - 4 * c0, -c2]) (by simp) (r := B + v) (by
    show polyAt [((4 * c0 * c2 - c1 * c1 - c0 * c3 * c3 : Int) : Rat), ((c1 * c3 - 4 * c0 : Int) : Rat), ((-c2 : Int) : Rat), 1] (B + v) = 0
    simp only [polyAt_cons, polyAt_nil, Rat.intCast_sub, Rat.intCast_mul, Rat.intCast_neg, e0, e1, e2, e3]
    have : ((4 : Int) : Rat) = 4 := rfl
    rw [this]
    grind)
  obtain ⟨b, rfl⟩ := root_den (c := [c0, -s]) (by simp) (r := B) (by
    show polyAt [(c0 : Rat), ((-s : Int) : Rat), 1] B = 0
    simp only [polyAt_cons, polyAt_nil, Rat.intCast_neg, e0, ← hs]
    grind)
  obtain ⟨a, rfl⟩ := root_den (c := [c2 - s, -c3]) (by simp) (r := A) (by
    show polyAt [((c2 - s : Int) : Rat), ((-c3 : Int) : Rat), 1] A = 0
    simp only [polyAt_cons, polyAt_nil, Rat.intCast_neg, Rat.intCast_sub, e2, e3, ← hs]
    grind)
  obtain ⟨w, rfl⟩ : ∃ w : Int, v = (w : Rat) := ⟨s - b, by rw [Rat.intCast_sub, ← hs]; grind⟩
  obtain ⟨t, rfl⟩ : ∃ t : Int, u = (t : Rat) := ⟨c3 - a, by rw [Rat.intCast_sub, e3]; grind⟩
  rw [← Rat.intCast_add] at e3
  rw [← Rat.intCast_mul, ← Rat.intCast_add, ← Rat.intCast_add] at e2
  rw [← Rat.intCast_mul, ← Rat.intCast_mul, ← Rat.intCast_add] at e1
  rw [← Rat.intCast_mul] at e0
  have f3 := intc _ _ e3
  have f2 := intc _ _ e2
  have f1 := intc _ _ e1
  have f0 := intc _ _ e0
  clear e0 e1 e2 e3 hs
  have hb : b ≠ 0 := by rintro rfl; rw [Int.zero_mul] at f0; exact h0 f0
  have hw : w ≠ 0 := by rintro rfl; rw [Int.mul_zero] at f0; exact h0 f0
  have d1 : c0 / b = w := by rw [f0]; exact Int.mul_ediv_cancel_left _ hb
  have d2 : c0 / w = b := by rw [f0]; exact Int.mul_ediv_cancel _ hw
  by_cases hle : t ≤ a
  · refine twoTwos_of_hit (c := [c0, c1, c2, c3]) h0 (q := b) ((mem_divisors' h0).mpr ?_) ⟨a - t, by omega, ?_, ?_⟩
    · show c0 % b = 0
      rw [f0]; exact Int.mul_emod_right _ _
    · show (a - t) * (a - t) = c3 * c3 - 4 * (c2 - b - c0 / b)
      rw [d1, f3, f2]; grind
    · show (c3 + (a - t)) / 2 * (c0 / b) + b * (c3 - (c3 + (a - t)) / 2) = c1
      rw [d1, show (c3 + (a - t)) / 2 = a by omega, f1, f3]; grind
  · refine twoTwos_of_hit (c := [c0, c1, c2, c3]) h0 (q := w) ((mem_divisors' h0).mpr ?_) ⟨t - a, by omega, ?_, ?_⟩
    · show c0 % w = 0
      rw [f0]; exact Int.mul_emod_left _ _
    · show (t - a) * (t - a) = c3 * c3 - 4 * (c2 - w - c0 / w)
      rw [d2, f3, f2]; grind
    · show (c3 + (t - a)) / 2 * (c0 / w) + w * (c3 - (c3 + (t - a)) / 2) = c1
      rw [d2, show (c3 + (t - a)) / 2 = t by omega, f1, f3]; grind
theorem is_field {c : List Int} (h : refusal c = 0) : isField c = true := by
  unfold refusal at h
  split at h
  · cases h
  · split at h
    · assumption
    · cases h
theorem irr {c : List Int} (h : refusal c = 0) {g Q : List Rat} (hg : 2 ≤ g.length) (hgl : g.length ≤ c.length) (hg0 : g.getLastD 0 ≠ 0) (e : ∀ x, polyAt (polyOf c) x = polyAt Q x * polyAt g x) : False := by
  obtain ⟨l1, l4, _⟩ := ok_field h
  have hf := is_field h
  have hc := ne_of_len l1
  have hz := no_root (by omega) hc hf
  have e' : ∀ x, polyAt (polyOf c) x = polyAt (trimmed Q) x * polyAt g x := fun x => by rw [polyAt_trimmed]; exact e x
  have hQ : (trimmed Q).getLastD 0 ≠ 0 := by
    rcases tr_trimmed Q with k | k
    · exfalso
      refine hz 0 ?_
      rw [e' 0, k, polyAt_nil]
      grind
    · exact k
  generalize trimmed Q = R at *
  have hR : R ≠ [] := by rintro rfl; exact hQ rfl
  have hgne : g ≠ [] := ne_of_len (by omega)
  obtain ⟨m1, m2⟩ := mulP_last hgne R hR
  have hlen := same_len (p := mulP R g) (q := polyOf c) (by
    rw [m2]
    intro z
    rcases Rat.mul_eq_zero.mp z with w | w
    · exact hQ w
    · exact hg0 w) (by rw [polyOf_last]; decide) (fun x => by rw [mulP_at, e' x])
  rw [polyOf_length] at hlen
  have hsum : R.length + g.length = c.length + 2 := by omega
  by_cases h2 : g.length = 2
  · obtain ⟨r, hr⟩ := linear_root h2 hg0
    exact hz r (by rw [e' r, hr]; grind)
  by_cases h3 : R.length = 2
  · obtain ⟨r, hr⟩ := linear_root h3 hQ
    exact hz r (by rw [e' r, hr]; grind)
  obtain ⟨c0, c1, c2, c3, rfl⟩ := list4 (show c.length = 4 by omega)
  · rw [show ([c0, c1, c2, c3] : List Int).length = 4 from rfl] at hsum hgl
    obtain ⟨a, b, k, ha, eg⟩ := quad_of (show g.length = 3 by omega) hg0
    obtain ⟨p, q, r, hp, eR⟩ := quad_of (show R.length = 3 by omega) hQ
    have hc0 : c0 ≠ 0 := by
      rintro rfl
      refine hz 0 ?_
      rw [poly4]
      have : ((0 : Int) : Rat) = 0 := rfl
      rw [this]
      grind
    obtain ⟨z0, z1, z2, z3, z4⟩ := zero4 (a4 := 1 - p * a) (a3 := c3 - (p * b + q * a)) (a2 := c2 - (p * k + q * b + r * a)) (a1 := c1 - (q * k + r * b)) (a0 := c0 - r * k) (fun x => by
      have := e' x
      rw [poly4, eg, eR] at this
      grind)
    have ht : twoTwos [c0, c1, c2, c3] = true := by
      clear e e' eg eR hz m1 m2 hlen hsum hgl hg hg0 hQ hR hgne h2 h3 l1 l4 hf hc h
      refine gauss (c0 := c0) (c1 := c1) (c2 := c2) (c3 := c3) hc0 (A := p * b) (B := p * k) (u := a * q) (v := a * r) ?_ ?_ ?_ ?_ <;> grind
    have hr : hasRoot [c0, c1, c2, c3] = false := by
      cases hR : hasRoot [c0, c1, c2, c3] with
      | false => rfl
      | true => rw [isField_root (by simp) hR] at hf; cases hf
    rw [isField_four hr rfl, ht] at hf
    cases hf
end Rr

end
section
set_option linter.all false
namespace Rr
open Root
def sc (a : Rat) (P : List Int) : List Rat := P.map fun (z : Int) => a * (z : Rat)
def trimI (P : List Int) : List Int := (P.reverse.dropWhile fun (z : Int) => z == 0).reverse
def TrI (P : List Int) : Prop := P = [] ∨ P.getLastD 0 ≠ 0
def facI (F G : List Int) : Int := if 0 < G.getLastD 0 then F.getLastD 0 else -F.getLastD 0
def iStep (F G : List Int) : List Int := (F.take (F.length - G.length)).map (fun (z : Int) => z * ((G.getLastD 0).natAbs : Int)) ++ List.zipWith (fun (a b : Int) => a * ((G.getLastD 0).natAbs : Int) - facI F G * b) (F.drop (F.length - G.length)) G
def derI (P : List Int) : List Int := (List.range (P.length - 1)).map fun (i : Nat) => ((1 : Int) + (i : Int)) * P.getD (1 + i) 0
inductive RelAll : List (List Rat) → List (List Int) → Prop
  | nil : RelAll [] []
  | cons {a : Rat} {P : List Int} {s : List (List Rat)} {l : List (List Int)} : 0 < a → RelAll s l → RelAll (sc a P :: s) (P :: l)
def chg (l : List Int) : Nat := (((List.range (l.length - 1)).map fun (i : Nat) => (1 : Int) + (i : Int)).filter fun (k : Int) => (decide (0 < l.getD (k.toNat - 1) 0)) != (decide (0 < l.getD k.toNat 0))).length
def chR : List Int → Nat
  | a :: b :: l => (if (decide (0 < a)) != (decide (0 < b)) then 1 else 0) + chR (b :: l)
  | _ => 0
def sgI (z : Int) : Int := if z < 0 then -1 else if z = 0 then 0 else 1
def above (P : List Int) : Int := P.getLastD 0
def below (P : List Int) : Int := if P.length % 2 = 1 then P.getLastD 0 else -P.getLastD 0
end Rr

end
section
set_option linter.all false
namespace Rr
open Root
def negI (P : List Int) : List Int := P.map fun (z : Int) => -z
def ba : Nat → Nat
  | 0 => 10
  | 1 => 12
  | 2 => 114
  | 3 => 932
  | _ => 7578
structure MInv (c : List Int) (pre : List (List Int)) (P Q : List Int) : Prop where
  row : ∃ (S : List (List Rat)) (α β : Rat) (n : Nat), 0 < α ∧ 0 < β ∧ rowOf c = S ++ sturm n (sc α P) (sc β Q) ∧ RelAll S pre ∧ Go (sc α P) (sc β Q) ∧ Q.length < n
  len : Q.length + pre.length ≤ 4
  bp : ∀ z ∈ P, z.natAbs < 2 ^ ba pre.length
  bq : ∀ z ∈ Q, z.natAbs < 2 ^ ba (pre.length + 1)
end Rr

end
section
set_option linter.all false
namespace Rr
open Root
def Cg (c : List Int) (u v : Rat → Rat) : Prop := ∃ Q : List Rat, ∀ x, u x - v x = polyAt Q x * polyAt (polyOf c) x
theorem Cg.refl {c : List Int} (u : Rat → Rat) : Cg c u u := ⟨[], fun x => by rw [polyAt_nil]; grind⟩
theorem Cg.symm {c : List Int} {u v : Rat → Rat} (h : Cg c u v) : Cg c v u := by
  obtain ⟨Q, h⟩ := h
  exact ⟨negs Q, fun x => by rw [negs_at]; have := h x; grind⟩
theorem Cg.trans {c : List Int} {u v w : Rat → Rat} (h : Cg c u v) (k : Cg c v w) : Cg c u w := by
  obtain ⟨Q, h⟩ := h
  obtain ⟨R, k⟩ := k
  exact ⟨addP Q R, fun x => by rw [addP_at]; have := h x; have := k x; grind⟩
theorem Cg.add {c : List Int} {u v u' v' : Rat → Rat} (h : Cg c u v) (k : Cg c u' v') : Cg c (fun x => u x + u' x) (fun x => v x + v' x) := by
  obtain ⟨Q, h⟩ := h
  obtain ⟨R, k⟩ := k
  exact ⟨addP Q R, fun x => by rw [addP_at]; have := h x; have := k x; grind⟩
theorem Cg.mul {c : List Int} {u v : Rat → Rat} (h : Cg c u v) (p : List Rat) : Cg c (fun x => u x * polyAt p x) (fun x => v x * polyAt p x) := by
  obtain ⟨Q, h⟩ := h
  exact ⟨mulP Q p, fun x => by rw [mulP_at]; have := h x; grind⟩
theorem Cg.of_eq {c : List Int} {u v : Rat → Rat} (h : ∀ x, u x = v x) : Cg c u v := ⟨[], fun x => by rw [polyAt_nil, h]; grind⟩
theorem polyOf_ne (c : List Int) : polyOf c ≠ [] := by
  intro z
  have := polyOf_length c
  rw [z] at this
  simp at this
theorem Cg.unique {c : List Int} {a b : List Rat} (ha : a.length = c.length) (hb : b.length = c.length) (h : Cg c (polyAt a) (polyAt b)) : a = b := by
  obtain ⟨Q, h⟩ := h
  have hz := mult_short (q := polyOf c) (Q := Q) (r := List.zipWith (fun (u v : Rat) => u - 1 * v) a b) (polyOf_ne c) (by rw [polyOf_last]; decide) (by rw [List.length_zipWith, polyOf_length]; omega) (fun x => by
    rw [← h x, polyAt_zipWith _ _ _ _ (by omega)]
    grind)
  refine poly_ext (by omega) fun x => ?_
  have := h x
  rw [hz x] at this
  grind
theorem plus_length {a b : Num} : (Root.plus a b).length = min a.length b.length := by unfold Root.plus; rw [List.length_map, List.length_zip]
theorem minus_length {a b : Num} : (Root.minus a b).length = min a.length b.length := by unfold Root.minus; rw [List.length_map, List.length_zip]
theorem scaled_length (r : Rat) (a : Num) : (scaled r a).length = a.length := by unfold scaled; rw [List.length_map]
theorem plus_cons (a b : Rat) (p q : Num) : Root.plus (a :: p) (b :: q) = (a + b) :: Root.plus p q := rfl
theorem plus_at (x : Rat) : ∀ a b : Num, a.length = b.length → polyAt (Root.plus a b) x = polyAt a x + polyAt b x
  | [], [], _ => by show (0 : Rat) = 0 + 0; grind
  | a :: p, b :: q, h => by
    rw [plus_cons, polyAt_cons, polyAt_cons, polyAt_cons, plus_at x p q (by simpa using h)]
    grind
theorem minus_cons (a b : Rat) (p q : Num) : Root.minus (a :: p) (b :: q) = (a - b) :: Root.minus p q := rfl
theorem scaled_at (r x : Rat) (a : Num) : polyAt (scaled r a) x = r * polyAt a x := mulC_at r x a
theorem zeroIn_at (d : Nat) (x : Rat) : polyAt (zeroIn d) x = 0 := polyAt_zeros d x
theorem zeroIn_length (d : Nat) : (zeroIn d).length = d := List.length_replicate
theorem oneIn_succ (d : Nat) : oneIn (d + 1) = 1 :: List.replicate d 0 := by
  unfold oneIn
  rw [List.range_succ_eq_map, List.map_cons, List.map_map]
  congr 1
  refine List.ext_getElem (by simp) fun i h1 h2 => ?_
  simp
theorem oneIn_length (d : Nat) : (oneIn d).length = d := by unfold oneIn; rw [List.length_map, List.length_range]
theorem oneIn_at {d : Nat} (h : 1 ≤ d) (x : Rat) : polyAt (oneIn d) x = 1 := by
  obtain ⟨e, rfl⟩ : ∃ e, d = e + 1 := ⟨d - 1, by omega⟩
  rw [oneIn_succ, polyAt_cons, polyAt_zeros]
  grind
theorem timesX_length (c : List Int) (a : Num) : (timesX c a).length = c.length := by
  unfold timesX
  rw [List.length_map, List.length_range]
theorem timesX_eq {c : List Int} {n : Num} {h : Rat} (hl : n.length + 1 = c.length) : timesX c (n ++ [h]) = List.zipWith (fun (u v : Rat) => u - h * v) (0 :: n) (c.map fun (z : Int) => (z : Rat)) := by
  refine List.ext_getElem (by rw [timesX_length, List.length_zipWith, List.length_map, List.length_cons]; omega) fun i h1 h2 => ?_
  rw [timesX_length] at h1
  unfold timesX
  have e : (n ++ [h]).getLastD 0 = h := by simp
  simp only [List.getElem_map, List.getElem_range, List.getElem_zipWith, e]
  have e2 : c.getD i 0 = c[i] := by rw [List.getD_eq_getElem?_getD, List.getElem?_eq_getElem h1]; rfl
  rw [e2]
  cases i with
  | zero => rfl
  | succ i =>
    have hi : i < n.length := by omega
    rw [if_neg (by omega)]
    show at_ (n ++ [h]) (i + 1 - 1) - _ = n[i] - _
    have : at_ (n ++ [h]) (i + 1 - 1) = n[i] := by
      unfold at_
      rw [List.getD_eq_getElem?_getD, Nat.add_sub_cancel, List.getElem?_append_left hi, List.getElem?_eq_getElem hi]
      rfl
    rw [this]
theorem timesX_at {c : List Int} {a : Num} (hc : 1 ≤ c.length) (hl : a.length = c.length) (x : Rat) : polyAt (timesX c a) x = x * polyAt a x - a.getLastD 0 * polyAt (polyOf c) x := by
  obtain ⟨n, h, rfl⟩ := snoc_of (show a ≠ [] from ne_of_len (by omega))
  have hn : n.length + 1 = c.length := by rw [← hl, List.length_append]; rfl
  have e : (n ++ [h]).getLastD 0 = h := by simp
  rw [timesX_eq hn, polyAt_zipWith _ _ _ _ (by rw [List.length_cons, List.length_map]; omega), e, polyAt_append, polyAt_cons]
  unfold polyOf
  rw [polyAt_append, List.length_map, ← hn, Rat.pow_succ]
  simp only [polyAt_cons, polyAt_nil]
  generalize polyAt (c.map fun (z : Int) => (z : Rat)) x = C
  generalize polyAt n x = N
  generalize x ^ n.length = X
  clear e hl hn
  grind
theorem fold_times {c : List Int} (hc : 1 ≤ c.length) : ∀ (b : List Rat) (a s : Num), a.length = c.length → s.length = c.length →
    (((shifts c a b.length).zip b).foldl (fun (s : Num) (x : Num × Rat) => Root.plus s (scaled x.2 x.1)) s).length = c.length ∧
    Cg c (polyAt (((shifts c a b.length).zip b).foldl (fun (s : Num) (x : Num × Rat) => Root.plus s (scaled x.2 x.1)) s)) (fun x => polyAt s x + polyAt a x * polyAt b x)
  | [], a, s, ha, hs => by
    refine ⟨hs, Cg.of_eq fun x => ?_⟩
    show polyAt s x = polyAt s x + polyAt a x * 0
    grind
  | t :: b, a, s, ha, hs => by
    have e : ((shifts c a (t :: b).length).zip (t :: b)).foldl (fun (s : Num) (x : Num × Rat) => Root.plus s (scaled x.2 x.1)) s = ((shifts c (timesX c a) b.length).zip b).foldl (fun (s : Num) (x : Num × Rat) => Root.plus s (scaled x.2 x.1)) (Root.plus s (scaled t a)) := rfl
    rw [e]
    have hsl : s.length = (scaled t a).length := by rw [scaled_length]; omega
    obtain ⟨h1, h2⟩ := fold_times hc b (timesX c a) (Root.plus s (scaled t a)) (timesX_length c a) (by rw [plus_length, scaled_length]; omega)
    refine ⟨h1, h2.trans ⟨mulC (-a.getLastD 0) b, fun x => ?_⟩⟩
    show polyAt (Root.plus s (scaled t a)) x + polyAt (timesX c a) x * polyAt b x - (polyAt s x + polyAt a x * polyAt (t :: b) x) = _
    rw [plus_at x _ _ hsl, scaled_at, timesX_at hc ha, mulC_at, polyAt_cons]
    generalize a.getLastD 0 = h0
    clear h1 h2 e hsl hs ha
    grind
theorem times_length {c : List Int} (hc : 1 ≤ c.length) {a b : Num} (ha : a.length = c.length) (hb : b.length = c.length) : (Root.times c a b).length = c.length := by
  unfold Root.times
  rw [← hb]
  have := (fold_times hc b a (zeroIn b.length) ha (by rw [zeroIn_length, hb])).1
  rw [hb] at *
  exact this
theorem times_cg {c : List Int} (hc : 1 ≤ c.length) {a b : Num} (ha : a.length = c.length) (hb : b.length = c.length) : Cg c (polyAt (Root.times c a b)) (fun x => polyAt a x * polyAt b x) := by
  unfold Root.times
  have := (fold_times hc b a (zeroIn b.length) ha (by rw [zeroIn_length, hb])).2
  rw [hb] at this
  refine this.trans (Cg.of_eq fun x => ?_)
  rw [zeroIn_at]
  grind
theorem times_unique {c : List Int} (hc : 1 ≤ c.length) {a b r : Num} (ha : a.length = c.length) (hb : b.length = c.length) (hr : r.length = c.length) (h : Cg c (fun x => polyAt a x * polyAt b x) (polyAt r)) : Root.times c a b = r :=
  Cg.unique (times_length hc ha hb) hr ((times_cg hc ha hb).trans h)
end Rr

end
section
set_option linter.all false
namespace Rr
open Root
theorem inv_poly {c : List Int} (h : refusal c = 0) : ∀ (n : Nat) (a : List Rat), a.length ≤ n → a.length ≤ c.length → a.getLastD 0 ≠ 0 → ∃ U : List Rat, Cg c (fun x => polyAt U x * polyAt a x) (fun _ => 1)
  | 0, a, hn, _, h0 => by
    have : a = [] := List.length_eq_zero_iff.mp (by omega)
    rw [this] at h0
    exact absurd rfl h0
  | n + 1, a, hn, hc, h0 => by
    obtain ⟨l1, l4, _⟩ := ok_field h
    have hne : a ≠ [] := by rintro rfl; exact h0 rfl
    by_cases h1 : a.length = 1
    · match a, h1 with
      | [t], _ =>
        have ht : t ≠ 0 := h0
        refine ⟨[1 / t], Cg.of_eq fun x => ?_⟩
        rw [polyAt_cons, polyAt_nil, polyAt_cons, polyAt_nil]
        have := Rat.div_mul_cancel (a := 1) ht
        grind
    · have hl : 2 ≤ a.length := by
        have : a.length ≠ 0 := fun z => hne (List.length_eq_zero_iff.mp z)
        omega
      obtain ⟨Q, _, e, hs, ht⟩ := leftOf_div hne h0 8 (polyOf c) (by rw [polyOf_length]; omega) (.inr (by rw [polyOf_last]; decide))
      rcases ht with z | z
      · exfalso
        refine irr h hl hc h0 (Q := Q) fun x => ?_
        rw [e x, z, polyAt_nil]
        grind
      · obtain ⟨U, R, hU⟩ := inv_poly h n (leftOf 8 (polyOf c) a) (by omega) (by omega) z
        refine ⟨negs (mulP U Q), addP R (negs U), fun x => ?_⟩
        have h1 : polyAt U x * polyAt (leftOf 8 (polyOf c) a) x - 1 = polyAt R x * polyAt (polyOf c) x := hU x
        have h2 := e x
        show polyAt (negs (mulP U Q)) x * polyAt a x - 1 = polyAt (addP R (negs U)) x * polyAt (polyOf c) x
        rw [negs_at, mulP_at, addP_at, negs_at]
        clear hU e
        grind
theorem row_of {c : List Int} (p : List Rat) : ∃ r : List Rat, r.length = c.length ∧ Cg c (polyAt p) (polyAt r) := by
  obtain ⟨Q, _, e, hs, ht⟩ := leftOf_div (polyOf_ne c) (by rw [polyOf_last]; decide) p.length (trimmed p) (by have := trimmed_length p; rw [polyOf_length]; omega) (tr_trimmed p)
  generalize leftOf p.length (trimmed p) (polyOf c) = r at *
  rw [polyOf_length] at hs
  refine ⟨r ++ List.replicate (c.length - r.length) 0, ?_, Q, fun x => ?_⟩
  · rw [List.length_append, List.length_replicate]
    omega
  · rw [polyAt_append, polyAt_zeros, ← polyAt_trimmed, e x]
    grind
theorem isZero_of {a : Num} : isZero a = true ↔ ∀ x, polyAt a x = 0 := by
  unfold isZero
  rw [List.all_eq_true]
  constructor
  · intro h x
    induction a with
    | nil => rfl
    | cons t a ih =>
      have h1 : t = 0 := by simpa using h t (by simp)
      rw [polyAt_cons, ih fun z hz => h z (by simp [hz]), h1]
      grind
  · intro h z hz
    simpa using poly_zero h z hz
theorem inv_row {c : List Int} (h : refusal c = 0) {a : Num} (ha : a.length = c.length) (h0 : isZero a = false) : ∃ w : Num, w.length = c.length ∧ Cg c (fun x => polyAt w x * polyAt a x) (fun _ => 1) := by
  have hz : (trimmed a).getLastD 0 ≠ 0 := by
    rcases tr_trimmed a with k | k
    · exfalso
      have : isZero a = true := isZero_of.mpr fun x => by rw [← polyAt_trimmed, k]; rfl
      rw [this] at h0
      cases h0
    · exact k
  obtain ⟨U, hU⟩ := inv_poly h _ (trimmed a) (Nat.le_refl _) (by have := trimmed_length a; omega) hz
  obtain ⟨w, hw, e⟩ := row_of (c := c) U
  refine ⟨w, hw, ?_⟩
  have h1 := (e.mul a).symm
  refine h1.trans ((Cg.of_eq fun x => ?_).trans hU)
  rw [polyAt_trimmed]
theorem cancel {c : List Int} (h : refusal c = 0) {a u v : Num} (ha : a.length = c.length) (h0 : isZero a = false) (hu : u.length = c.length) (hv : v.length = c.length) (e : Cg c (fun x => polyAt a x * polyAt u x) (fun x => polyAt a x * polyAt v x)) : u = v := by
  obtain ⟨w, hw, k⟩ := inv_row h ha h0
  refine Cg.unique hu hv ?_
  have k1 := (k.mul u).symm
  have k2 := k.mul v
  have k3 := e.mul w
  refine Cg.trans (Cg.of_eq fun x => ?_) (k1.trans (Cg.trans (Cg.of_eq fun x => ?_) (k3.trans (Cg.trans (Cg.of_eq fun x => ?_) (k2.trans (Cg.of_eq fun x => ?_))))))
  all_goals grind
end Rr

end
section
set_option linter.all false
namespace Rr
open Root
theorem at_nil (i : Nat) : at_ [] i = 0 := by
  unfold at_
  rfl
theorem at_succ (t : Rat) (a : Num) (i : Nat) : at_ (t :: a) (i + 1) = at_ a i := rfl
theorem at_out {a : Num} {i : Nat} (h : a.length ≤ i) : at_ a i = 0 := by
  unfold at_
  rw [List.getD_eq_getElem?_getD, List.getElem?_eq_none h]
  rfl
theorem at_minus : ∀ (a b : Num), a.length = b.length → ∀ i, at_ (Root.minus a b) i = at_ a i - at_ b i
  | [], [], _, i => by rw [at_nil]; show (0 : Rat) = 0 - 0; grind
  | s :: a, t :: b, h, i => by
    rw [minus_cons]
    cases i with
    | zero => rfl
    | succ i => rw [at_succ, at_succ, at_succ, at_minus a b (by simpa using h)]
theorem at_plus : ∀ (a b : Num), a.length = b.length → ∀ i, at_ (Root.plus a b) i = at_ a i + at_ b i
  | [], [], _, i => by rw [at_nil]; show (0 : Rat) = 0 + 0; grind
  | s :: a, t :: b, h, i => by
    rw [plus_cons]
    cases i with
    | zero => rfl
    | succ i => rw [at_succ, at_succ, at_succ, at_plus a b (by simpa using h)]
theorem at_scaled (r : Rat) : ∀ (a : Num) (i : Nat), at_ (scaled r a) i = r * at_ a i
  | [], i => by show at_ [] i = _; rw [at_nil]; grind
  | t :: a, i => by
    cases i with
    | zero => rfl
    | succ i =>
      show at_ (scaled r a) i = _
      rw [at_scaled r a i, at_succ]
theorem at_zeroIn (d i : Nat) : at_ (zeroIn d) i = 0 := by
  unfold at_ zeroIn
  rw [List.getD_eq_getElem?_getD, List.getElem?_replicate]
  split <;> rfl
theorem num_ext {a b : Num} (hl : a.length = b.length) (h : ∀ i, at_ a i = at_ b i) : a = b := by
  refine List.ext_getElem hl fun i h1 h2 => ?_
  have := h i
  unfold at_ at this
  rw [List.getD_eq_getElem?_getD, List.getD_eq_getElem?_getD, List.getElem?_eq_getElem h1, List.getElem?_eq_getElem h2] at this
  exact this
theorem isZero_at {a : Num} : isZero a = true ↔ ∀ i, at_ a i = 0 := by
  unfold isZero
  rw [List.all_eq_true]
  constructor
  · intro h i
    by_cases hi : i < a.length
    · unfold at_
      rw [List.getD_eq_getElem?_getD, List.getElem?_eq_getElem hi]
      simpa using h _ (List.getElem_mem hi)
    · exact at_out (by omega)
  · intro h z hz
    obtain ⟨i, hi, rfl⟩ := List.mem_iff_getElem.mp hz
    have := h i
    unfold at_ at this
    rw [List.getD_eq_getElem?_getD, List.getElem?_eq_getElem hi] at this
    simpa using this
def csum : List Rat → List Num → Nat → Rat
  | t :: w, v :: l, i => t * at_ v i + csum w l i
  | _, _, _ => 0
theorem csum_nil (l : List Num) (i : Nat) : csum [] l i = 0 := by
  cases l <;> rfl
theorem csum_nil' (w : List Rat) (i : Nat) : csum w [] i = 0 := by
  cases w <;> rfl
theorem csum_minus (t : Rat) : ∀ (w u : Num) (l : List Num) (i : Nat), w.length = u.length → csum (Root.minus w (scaled t u)) l i = csum w l i - t * csum u l i
  | [], [], l, i, _ => by
    show csum [] l i = _
    rw [csum_nil]
    grind
  | a :: w, b :: u, [], i, _ => by
    rw [csum_nil', csum_nil', csum_nil']
    grind
  | a :: w, b :: u, v :: l, i, h => by
    show csum ((a - t * b) :: Root.minus w (scaled t u)) (v :: l) i = _
    have := csum_minus t w u l i (by simpa using h)
    show (a - t * b) * at_ v i + csum (Root.minus w (scaled t u)) l i = a * at_ v i + csum w l i - t * (b * at_ v i + csum u l i)
    rw [this]
    grind
theorem csum_scaled (t : Rat) : ∀ (u : Num) (l : List Num) (i : Nat), csum (scaled t u) l i = t * csum u l i
  | [], l, i => by
    show csum [] l i = _
    rw [csum_nil]
    grind
  | b :: u, [], i => by
    rw [csum_nil', csum_nil']
    grind
  | b :: u, v :: l, i => by
    show t * b * at_ v i + csum (scaled t u) l i = t * (b * at_ v i + csum u l i)
    rw [csum_scaled t u l i]
    grind
theorem csum_zeroIn : ∀ (n : Nat) (l : List Num) (i : Nat), csum (zeroIn n) l i = 0
  | 0, l, i => csum_nil l i
  | n + 1, [], i => csum_nil' _ i
  | n + 1, v :: l, i => by
    show 0 * at_ v i + csum (zeroIn n) l i = 0
    rw [csum_zeroIn n l i]
    grind
theorem csum_neg : ∀ (u : Num) (l : List Num) (i : Nat), csum (u.map fun (r : Rat) => -r) l i = -csum u l i
  | [], l, i => by
    show csum [] l i = _
    rw [csum_nil]
    grind
  | b :: u, [], i => by
    rw [csum_nil', csum_nil']
    grind
  | b :: u, v :: l, i => by
    show -b * at_ v i + csum (u.map fun (r : Rat) => -r) l i = -(b * at_ v i + csum u l i)
    rw [csum_neg u l i]
    grind
theorem csum_append : ∀ (w u : List Rat) (l m : List Num) (i : Nat), w.length = l.length → csum (w ++ u) (l ++ m) i = csum w l i + csum u m i
  | [], u, [], m, i, _ => by
    show csum u m i = 0 + csum u m i
    grind
  | a :: w, u, v :: l, m, i, h => by
    show a * at_ v i + csum (w ++ u) (l ++ m) i = a * at_ v i + csum w l i + csum u m i
    rw [csum_append w u l m i (by simpa using h)]
    grind
def unit (n i : Nat) : Num := (List.range n).map fun (j : Nat) => if j = i then 1 else 0
theorem unit_length (n i : Nat) : (unit n i).length = n := by unfold unit; rw [List.length_map, List.length_range]
theorem unit_succ (n i : Nat) : unit (n + 1) (i + 1) = 0 :: unit n i := by
  unfold unit
  rw [List.range_succ_eq_map, List.map_cons, List.map_map, if_neg (by omega)]
  congr 1
  refine List.map_congr_left fun j _ => ?_
  show (if j + 1 = i + 1 then (1 : Rat) else 0) = if j = i then 1 else 0
  by_cases h : j = i
  · rw [if_pos h, if_pos (by omega)]
  · rw [if_neg h, if_neg (by omega)]
theorem unit_zero (n : Nat) : unit (n + 1) 0 = 1 :: zeroIn n := by
  unfold unit zeroIn
  rw [List.range_succ_eq_map, List.map_cons, List.map_map, if_pos rfl]
  congr 1
  refine List.ext_getElem (by simp) fun i h1 h2 => ?_
  simp
theorem csum_unit : ∀ (l : List Num) (i k : Nat), i < l.length → csum (unit l.length i) l k = at_ (l.getD i []) k
  | [], i, k, h => by simp at h
  | v :: l, 0, k, _ => by
    rw [List.length_cons, unit_zero]
    show 1 * at_ v k + csum (zeroIn l.length) l k = at_ v k
    rw [csum_zeroIn]
    grind
  | v :: l, i + 1, k, h => by
    rw [List.length_cons, unit_succ]
    show 0 * at_ v k + csum (unit l.length i) l k = at_ (l.getD i []) k
    rw [csum_unit l i k (by simpa using h)]
    grind
structure Ech (m n : Nat) (l : List Num) (ps : List Piv) : Prop where
  vl : ∀ p ∈ ps, p.vec.length = m
  fl : ∀ p ∈ ps, p.from_.length = n
  eq : ∀ p ∈ ps, ∀ i, at_ p.vec i = csum p.from_ l i
  one : ∀ p ∈ ps, at_ p.vec p.col = 1
  below : ps.Pairwise fun (p q : Piv) => at_ q.vec p.col = 0
theorem Ech.tail {m n : Nat} {l : List Num} {p : Piv} {ps : List Piv} (h : Ech m n l (p :: ps)) : Ech m n l ps :=
  ⟨fun q hq => h.vl q (by simp [hq]), fun q hq => h.fl q (by simp [hq]), fun q hq => h.eq q (by simp [hq]), fun q hq => h.one q (by simp [hq]), (List.pairwise_cons.mp h.below).2⟩
def Span (ps : List Piv) (v : Num) : Prop := ∃ ts : List Rat, ts.length = ps.length ∧ ∀ i, at_ v i = csum ts (ps.map Piv.vec) i
theorem less_cons (p : Piv) (ps : List Piv) (v w : Num) : less (p :: ps) v w = less ps (Root.minus v (scaled (at_ v p.col) p.vec)) (Root.minus w (scaled (at_ v p.col) p.from_)) := rfl
theorem less_spec {m n : Nat} {l : List Num} : ∀ (ps : List Piv) (v w : Num), Ech m n l ps → v.length = m → w.length = n →
    (less ps v w).1.length = m ∧ (less ps v w).2.length = n ∧ (∀ i, at_ (less ps v w).1 i - csum (less ps v w).2 l i = at_ v i - csum w l i) ∧
    (∀ p ∈ ps, at_ (less ps v w).1 p.col = 0) ∧ (∀ k, at_ v k = 0 → (∀ p ∈ ps, at_ p.vec k = 0) → at_ (less ps v w).1 k = 0) ∧
    ∃ ts : List Rat, ts.length = ps.length ∧ ∀ i, at_ v i = at_ (less ps v w).1 i + csum ts (ps.map Piv.vec) i
  | [], v, w, _, hv, hw => ⟨hv, hw, fun _ => rfl, fun p hp => absurd hp (by simp), fun k hk _ => hk, [], rfl, fun i => by rw [csum_nil]; show at_ v i = at_ v i + 0; grind⟩
  | p :: ps, v, w, h, hv, hw => by
    rw [less_cons]
    have hp := h.vl p (by simp)
    have hpf := h.fl p (by simp)
    have e1 : v.length = (scaled (at_ v p.col) p.vec).length := by rw [scaled_length]; omega
    have e2 : w.length = p.from_.length := by omega
    obtain ⟨a1, a2, a3, a4, a5, ts, a6, a7⟩ := less_spec ps (Root.minus v (scaled (at_ v p.col) p.vec)) (Root.minus w (scaled (at_ v p.col) p.from_)) h.tail (by rw [minus_length, scaled_length]; omega) (by rw [minus_length, scaled_length]; omega)
    have hb := (List.pairwise_cons.mp h.below).1
    refine ⟨a1, a2, fun i => ?_, fun q hq => ?_, fun k hk hz => ?_, at_ v p.col :: ts, by rw [List.length_cons, List.length_cons, a6], fun i => ?_⟩
    · rw [a3 i, at_minus _ _ e1, at_scaled, csum_minus _ _ _ _ _ e2, h.eq p (by simp) i]
      grind
    · rcases List.mem_cons.mp hq with rfl | hq
      · refine a5 _ ?_ hb
        rw [at_minus _ _ e1, at_scaled, h.one _ (by simp)]
        grind
      · exact a4 q hq
    · refine a5 k ?_ fun q hq => hz q (by simp [hq])
      rw [at_minus _ _ e1, at_scaled, hk, hz p (by simp)]
      grind
    · have := a7 i
      rw [at_minus _ _ e1, at_scaled] at this
      show at_ v i = _ + (at_ v p.col * at_ p.vec i + csum ts (ps.map Piv.vec) i)
      generalize at_ v p.col * at_ p.vec i = z at *
      grind
theorem steps_zero {m n : Nat} {l : List Num} : ∀ (ps : List Piv) (ts : List Rat), Ech m n l ps → ts.length = ps.length → (∀ p ∈ ps, csum ts (ps.map Piv.vec) p.col = 0) → ∀ i, csum ts (ps.map Piv.vec) i = 0
  | [], ts, _, _, _, i => csum_nil' _ i
  | p :: ps, [], _, hl, _, i => by simp at hl
  | p :: ps, t :: ts, h, hl, hz, i => by
    have hb := (List.pairwise_cons.mp h.below).1
    have later : ∀ (qs : List Piv) (us : List Rat), (∀ q ∈ qs, at_ q.vec p.col = 0) → csum us (qs.map Piv.vec) p.col = 0 := by
      intro qs
      induction qs with
      | nil => intro us _; exact csum_nil' _ _
      | cons q qs ih =>
        intro us hq
        cases us with
        | nil => exact csum_nil _ _
        | cons u us =>
          show u * at_ q.vec p.col + csum us (qs.map Piv.vec) p.col = 0
          rw [hq q (by simp), ih us fun r hr => hq r (by simp [hr])]
          grind
    have h0 := hz p (by simp)
    have h1 : t * at_ p.vec p.col + csum ts (ps.map Piv.vec) p.col = 0 := h0
    rw [h.one p (by simp), later ps ts hb] at h1
    have ht : t = 0 := by grind
    have hs : ∀ k, csum (t :: ts) ((p :: ps).map Piv.vec) k = csum ts (ps.map Piv.vec) k := fun k => by
      show t * at_ p.vec k + csum ts (ps.map Piv.vec) k = _
      rw [ht]
      grind
    rw [hs]
    exact steps_zero ps ts h.tail (by simpa using hl) (fun q hq => by rw [← hs]; exact hz q (by simp [hq])) i
theorem csum_sub : ∀ (ts us : List Rat) (l : List Num) (i : Nat), ts.length = us.length → csum (Root.minus ts us) l i = csum ts l i - csum us l i := fun ts us l i h => by
  have := csum_minus 1 ts us l i h
  have e : scaled 1 us = us := by
    unfold scaled
    have : (fun (x : Rat) => 1 * x) = id := by funext x; show 1 * x = x; grind
    rw [this, List.map_id]
  rw [e] at this
  rw [this]
  grind
theorem span_less {m n : Nat} {l : List Num} {ps : List Piv} {v w : Num} (h : Ech m n l ps) (hv : v.length = m) (hw : w.length = n) (hs : Span ps v) : ∀ i, at_ (less ps v w).1 i = 0 := by
  obtain ⟨a1, a2, a3, a4, a5, ts, a6, a7⟩ := less_spec ps v w h hv hw
  obtain ⟨us, b1, b2⟩ := hs
  have e : ∀ i, at_ (less ps v w).1 i = csum (Root.minus us ts) (ps.map Piv.vec) i := fun i => by
    rw [csum_sub us ts _ _ (by omega), ← b2 i, a7 i]
    grind
  intro i
  rw [e i]
  exact steps_zero ps _ h (by rw [minus_length]; omega) (fun p hp => by rw [← e]; exact a4 p hp) i
theorem less_span {m n : Nat} {l : List Num} {ps : List Piv} {v w : Num} (h : Ech m n l ps) (hv : v.length = m) (hw : w.length = n) (hz : ∀ i, at_ (less ps v w).1 i = 0) : Span ps v := by
  obtain ⟨a1, a2, a3, a4, a5, ts, a6, a7⟩ := less_spec ps v w h hv hw
  exact ⟨ts, a6, fun i => by rw [a7 i, hz i]; grind⟩
theorem Span.more {ps qs : List Piv} {v : Num} (h : Span ps v) : Span (ps ++ qs) v := by
  obtain ⟨ts, h1, h2⟩ := h
  refine ⟨ts ++ List.replicate qs.length 0, by rw [List.length_append, List.length_append, List.length_replicate, h1], fun i => ?_⟩
  rw [h2 i, List.map_append, csum_append _ _ _ _ _ (by rw [List.length_map, h1])]
  have : csum (List.replicate qs.length 0) (qs.map Piv.vec) i = 0 := csum_zeroIn _ _ _
  rw [this]
  grind
theorem join_none {m n : Nat} {l : List Num} {ps : List Piv} {i : Nat} {v : Num} (h : Ech m n l ps) (hv : v.length = m) : join n ps i v = none ↔ Span ps v := by
  have hu := unit_length n i
  have e : join n ps i v = (match (less ps v (unit n i)).1.findIdx? fun (r : Rat) => r != 0 with
    | none => none
    | some c => some (ps ++ [⟨c, scaled (1 / at_ (less ps v (unit n i)).1 c) (less ps v (unit n i)).1, scaled (1 / at_ (less ps v (unit n i)).1 c) (less ps v (unit n i)).2⟩])) := rfl
  rw [e]
  constructor
  · intro hn
    refine less_span h hv hu ?_
    cases hf : (less ps v (unit n i)).1.findIdx? fun (r : Rat) => r != 0 with
    | some c => rw [hf] at hn; cases hn
    | none =>
      rw [List.findIdx?_eq_none_iff] at hf
      refine isZero_at.mp ?_
      unfold isZero
      rw [List.all_eq_true]
      intro z hz
      have := hf z hz
      simpa using this
  · intro hs
    have hz := span_less h hv hu hs
    have : (less ps v (unit n i)).1.findIdx? (fun (r : Rat) => r != 0) = none := by
      rw [List.findIdx?_eq_none_iff]
      intro z hz'
      have := isZero_at.mpr hz
      unfold isZero at this
      rw [List.all_eq_true] at this
      simpa using this z hz'
    rw [this]
theorem join_some {m : Nat} {l : List Num} {ps qs : List Piv} {i : Nat} (h : Ech m l.length l ps) (hi : i < l.length) (hv : (l.getD i []).length = m) (hj : join l.length ps i (l.getD i []) = some qs) : Ech m l.length l qs ∧ ∃ p : Piv, qs = ps ++ [p] ∧ Span qs (l.getD i []) := by
  have hu := unit_length l.length i
  obtain ⟨a1, a2, a3, a4, a5, ts, a6, a7⟩ := less_spec ps (l.getD i []) (unit l.length i) h hv hu
  have e : join l.length ps i (l.getD i []) = (match (less ps (l.getD i []) (unit l.length i)).1.findIdx? fun (r : Rat) => r != 0 with
    | none => none
    | some c => some (ps ++ [⟨c, scaled (1 / at_ (less ps (l.getD i []) (unit l.length i)).1 c) (less ps (l.getD i []) (unit l.length i)).1, scaled (1 / at_ (less ps (l.getD i []) (unit l.length i)).1 c) (less ps (l.getD i []) (unit l.length i)).2⟩])) := rfl
  rw [e] at hj
  generalize less ps (l.getD i []) (unit l.length i) = x at *
  cases hf : x.1.findIdx? fun (r : Rat) => r != 0 with
  | none => rw [hf] at hj; cases hj
  | some c =>
    rw [hf] at hj
    have hq : qs = ps ++ [⟨c, scaled (1 / at_ x.1 c) x.1, scaled (1 / at_ x.1 c) x.2⟩] := (Option.some.inj hj).symm
    have ht : at_ x.1 c ≠ 0 := by
      rw [List.findIdx?_eq_some_iff_getElem] at hf
      obtain ⟨hc, h1, _⟩ := hf
      unfold at_
      rw [List.getD_eq_getElem?_getD, List.getElem?_eq_getElem hc]
      simpa using h1
    have hinv : 1 / at_ x.1 c * at_ x.1 c = 1 := Rat.div_mul_cancel ht
    have hx : ∀ k, at_ x.1 k = csum x.2 l k := fun k => by
      have := a3 k
      rw [csum_unit l i k hi] at this
      grind
    refine ⟨?_, _, hq, ?_⟩
    · rw [hq]
      refine ⟨fun p hp => ?_, fun p hp => ?_, fun p hp k => ?_, fun p hp => ?_, ?_⟩
      · rcases List.mem_append.mp hp with hp | hp
        · exact h.vl p hp
        · have : p = _ := List.mem_singleton.mp hp
          rw [this]
          show (scaled _ x.1).length = m
          rw [scaled_length, a1]
      · rcases List.mem_append.mp hp with hp | hp
        · exact h.fl p hp
        · have : p = _ := List.mem_singleton.mp hp
          rw [this]
          show (scaled _ x.2).length = _
          rw [scaled_length, a2]
      · rcases List.mem_append.mp hp with hp | hp
        · exact h.eq p hp k
        · have : p = _ := List.mem_singleton.mp hp
          rw [this]
          show at_ (scaled _ x.1) k = csum (scaled _ x.2) l k
          rw [at_scaled, csum_scaled, hx k]
      · rcases List.mem_append.mp hp with hp | hp
        · exact h.one p hp
        · have : p = _ := List.mem_singleton.mp hp
          rw [this]
          show at_ (scaled _ x.1) c = 1
          rw [at_scaled]
          exact hinv
      · rw [List.pairwise_append]
        refine ⟨h.below, List.pairwise_singleton _ _, fun p hp q hq' => ?_⟩
        have : q = _ := List.mem_singleton.mp hq'
        rw [this]
        show at_ (scaled _ x.1) p.col = 0
        rw [at_scaled, a4 p hp]
        grind
    · rw [hq]
      refine ⟨ts ++ [at_ x.1 c], by rw [List.length_append, List.length_append, a6]; rfl, fun k => ?_⟩
      rw [List.map_append, csum_append _ _ _ _ _ (by rw [List.length_map, a6]), a7 k]
      show _ = csum ts (ps.map Piv.vec) k + (at_ x.1 c * at_ (scaled (1 / at_ x.1 c) x.1) k + 0)
      rw [at_scaled]
      have : at_ x.1 c * (1 / at_ x.1 c * at_ x.1 k) = at_ x.1 k := by
        generalize at_ x.1 k = z
        generalize at_ x.1 c = y at *
        generalize 1 / y = u at *
        grind
      rw [this]
      grind
end Rr

end
section
set_option linter.all false
namespace Rr
open Root
def InS (l : List Num) (f : Nat → Rat) : Prop := ∃ w : List Rat, w.length = l.length ∧ ∀ i, f i = csum w l i
def Ind (l : List Num) : Prop := ∀ w : List Rat, w.length = l.length → (∀ i, csum w l i = 0) → ∀ z ∈ w, z = 0
theorem csum_add : ∀ (w u : Num) (l : List Num) (i : Nat), w.length = u.length → csum (Root.plus w u) l i = csum w l i + csum u l i
  | [], [], l, i, _ => by
    show csum [] l i = _
    rw [csum_nil]
    grind
  | a :: w, b :: u, [], i, _ => by
    rw [csum_nil', csum_nil', csum_nil']
    grind
  | a :: w, b :: u, v :: l, i, h => by
    show (a + b) * at_ v i + csum (Root.plus w u) l i = a * at_ v i + csum w l i + (b * at_ v i + csum u l i)
    rw [csum_add w u l i (by simpa using h)]
    grind
theorem InS.zero (l : List Num) : InS l fun _ => 0 := ⟨zeroIn l.length, zeroIn_length _, fun i => (csum_zeroIn _ _ _).symm⟩
theorem InS.add {l : List Num} {f g : Nat → Rat} (hf : InS l f) (hg : InS l g) : InS l fun i => f i + g i := by
  obtain ⟨w, h1, h2⟩ := hf
  obtain ⟨u, k1, k2⟩ := hg
  exact ⟨Root.plus w u, by rw [plus_length]; omega, fun i => by rw [csum_add _ _ _ _ (by omega), ← h2 i, ← k2 i]⟩
theorem InS.smul {l : List Num} {f : Nat → Rat} (t : Rat) (hf : InS l f) : InS l fun i => t * f i := by
  obtain ⟨w, h1, h2⟩ := hf
  exact ⟨scaled t w, by rw [scaled_length]; exact h1, fun i => by rw [csum_scaled, ← h2 i]⟩
theorem InS.eq {l : List Num} {f g : Nat → Rat} (hf : InS l f) (h : ∀ i, f i = g i) : InS l g := by
  obtain ⟨w, h1, h2⟩ := hf
  exact ⟨w, h1, fun i => by rw [← h i]; exact h2 i⟩
theorem InS.csum {l : List Num} : ∀ (vs : List Num) (ts : List Rat), (∀ v ∈ vs, InS l (at_ v)) → InS l fun i => Rr.csum ts vs i
  | [], ts, _ => (InS.zero l).eq fun i => (csum_nil' _ _).symm
  | v :: vs, [], _ => (InS.zero l).eq fun i => (csum_nil _ _).symm
  | v :: vs, t :: ts, h => ((InS.smul t (h v (by simp))).add (InS.csum vs ts fun u hu => h u (by simp [hu]))).eq fun _ => rfl
theorem InS.more {l m : List Num} {f : Nat → Rat} (h : InS l f) : InS (l ++ m) f := by
  obtain ⟨w, h1, h2⟩ := h
  refine ⟨w ++ zeroIn m.length, by rw [List.length_append, List.length_append, zeroIn_length, h1], fun i => ?_⟩
  rw [csum_append _ _ _ _ _ h1, csum_zeroIn, h2 i]
  grind
theorem InS.mem {l : List Num} {v : Num} (h : v ∈ l) : InS l (at_ v) := by
  obtain ⟨i, hi, rfl⟩ := List.mem_iff_getElem.mp h
  refine ⟨unit l.length i, unit_length _ _, fun k => ?_⟩
  rw [csum_unit l i k hi, List.getD_eq_getElem?_getD, List.getElem?_eq_getElem hi]
  rfl
theorem span_ins {ps : List Piv} {v : Num} : Span ps v ↔ InS (ps.map Piv.vec) (at_ v) := by
  constructor
  · rintro ⟨ts, h1, h2⟩
    exact ⟨ts, by rw [List.length_map]; exact h1, h2⟩
  · rintro ⟨ts, h1, h2⟩
    exact ⟨ts, by rw [List.length_map] at h1; exact h1, h2⟩
theorem InS.through {l m : List Num} {f : Nat → Rat} (h : InS l f) (hl : ∀ v ∈ l, InS m (at_ v)) : InS m f := by
  obtain ⟨w, h1, h2⟩ := h
  exact (InS.csum l w hl).eq fun i => (h2 i).symm
theorem ind_snoc {l : List Num} {v : Num} : Ind (l ++ [v]) ↔ Ind l ∧ ¬ InS l (at_ v) := by
  constructor
  · intro h
    refine ⟨fun w hw hz z hzm => ?_, fun hs => ?_⟩
    · refine h (w ++ [0]) (by rw [List.length_append, List.length_append, hw]; rfl) (fun i => ?_) z (by simp [hzm])
      rw [csum_append _ _ _ _ _ hw, hz i]
      show 0 + (0 * at_ v i + 0) = 0
      grind
    · obtain ⟨w, hw, e⟩ := hs
      have := h (w ++ [-1]) (by rw [List.length_append, List.length_append, hw]; rfl) (fun i => by
        rw [csum_append _ _ _ _ _ hw, ← e i]
        show at_ v i + (-1 * at_ v i + 0) = 0
        grind) (-1) (by simp)
      exact absurd this (by decide)
  · rintro ⟨h, hn⟩ w hw hz
    have hne : w ≠ [] := by
      rintro rfl
      rw [List.length_append] at hw
      simp at hw
    obtain ⟨u, t, rfl⟩ := snoc_of hne
    have hu : u.length = l.length := by
      rw [List.length_append, List.length_append] at hw
      simpa using hw
    have e : ∀ i, csum u l i + t * at_ v i = 0 := fun i => by
      have := hz i
      rw [csum_append _ _ _ _ _ hu] at this
      have k : csum [t] [v] i = t * at_ v i + 0 := rfl
      rw [k] at this
      grind
    have ht : t = 0 := by
      false_or_by_contra
      rename_i ht
      apply hn
      refine (InS.smul (-1 / t) ⟨u, hu, fun i => rfl⟩).eq fun i => ?_
      have := e i
      have k := Rat.div_mul_cancel (a := -1) ht
      generalize -1 / t = s at *
      show s * csum u l i = at_ v i
      have e2 : csum u l i = -(t * at_ v i) := by grind
      rw [e2]
      have e3 : s * -(t * at_ v i) = -(s * t) * at_ v i := by grind
      rw [e3, k]
      grind
    subst ht
    intro z hz'
    rcases List.mem_append.mp hz' with hz' | hz'
    · refine h u hu (fun i => ?_) z hz'
      have := e i
      grind
    · simpa using hz'
def jn (n : Nat) (ps : List Piv) (x : Num × Nat) : List Piv := match join n ps x.2 x.1 with
  | none => ps
  | some q => q
theorem pivots_fold (l : List Num) : pivots l = l.zipIdx.foldl (jn l.length) [] := rfl
structure Stage (m : Nat) (l pre : List Num) (ps : List Piv) : Prop where
  ech : Ech m l.length l ps
  rows : ∀ v ∈ pre, Span ps v
  made : ∀ p ∈ ps, InS pre (at_ p.vec)
  len : ps.length ≤ pre.length
  ind : ps.length = pre.length ↔ Ind pre
theorem Stage.span_iff {m : Nat} {l pre : List Num} {ps : List Piv} (h : Stage m l pre ps) {v : Num} : Span ps v ↔ InS pre (at_ v) := by
  rw [span_ins]
  constructor
  · intro k
    refine k.through fun u hu => ?_
    obtain ⟨p, hp, rfl⟩ := List.mem_map.mp hu
    exact h.made p hp
  · intro k
    exact k.through fun u hu => span_ins.mp (h.rows u hu)
theorem stage_next {m : Nat} {l pre post : List Num} {v : Num} {ps : List Piv} (hl : l = pre ++ v :: post) (hm : ∀ u ∈ l, u.length = m) (h : Stage m l pre ps) : Stage m l (pre ++ [v]) (jn l.length ps (v, pre.length)) := by
  have hi : pre.length < l.length := by rw [hl, List.length_append, List.length_cons]; omega
  have hv : l.getD pre.length [] = v := by
    rw [hl, List.getD_eq_getElem?_getD, List.getElem?_append_right (Nat.le_refl _), Nat.sub_self]
    rfl
  have hvm : v.length = m := hm v (by rw [hl]; simp)
  have hpl : (pre ++ [v]).length = pre.length + 1 := by rw [List.length_append]; rfl
  have hlen := h.len
  unfold jn
  cases hj : join l.length ps pre.length v with
  | none =>
    have hs := (join_none h.ech hvm).mp hj
    refine ⟨h.ech, fun u hu => ?_, fun p hp => (h.made p hp).more, ?_, ?_⟩
    · rcases List.mem_append.mp hu with hu | hu
      · exact h.rows u hu
      · rw [List.mem_singleton.mp hu]
        exact hs
    · show ps.length ≤ (pre ++ [v]).length
      omega
    · show ps.length = (pre ++ [v]).length ↔ _
      constructor
      · intro z
        omega
      · intro hI
        exact absurd (h.span_iff.mp hs) (ind_snoc.mp hI).2
  | some qs =>
    have hns : ¬ Span ps v := fun z => by
      have := (join_none (i := pre.length) h.ech hvm).mpr z
      rw [this] at hj
      cases hj
    rw [← hv] at hj
    obtain ⟨he, p, hq, hsp⟩ := join_some h.ech hi (by rw [hv]; exact hvm) hj
    rw [hv] at hsp
    have hql : qs.length = ps.length + 1 := by rw [hq, List.length_append]; rfl
    refine ⟨he, fun u hu => ?_, fun q hq' => ?_, ?_, ?_⟩
    · rcases List.mem_append.mp hu with hu | hu
      · rw [hq]
        exact (h.rows u hu).more
      · rw [List.mem_singleton.mp hu]
        exact hsp
    · -- the new one is made of v and of those before
      have hq2 : q ∈ ps ++ [p] := by rw [← hq]; exact hq'
      rcases List.mem_append.mp hq2 with hq2 | hq2
      · exact (h.made q hq2).more
      · have hqp := List.mem_singleton.mp hq2
        subst hqp
        obtain ⟨ts, t1, t2⟩ := hsp
        rw [hq] at t1 t2
        have hne : ts ≠ [] := by
          rintro rfl
          rw [List.length_append] at t1
          simp at t1
        obtain ⟨us, t, rfl⟩ := snoc_of hne
        have hus : us.length = ps.length := by
          rw [List.length_append, List.length_append] at t1
          simpa using t1
        have e : ∀ i, at_ v i = csum us (ps.map Piv.vec) i + t * at_ q.vec i := fun i => by
          rw [t2 i, List.map_append, csum_append _ _ _ _ _ (by rw [List.length_map]; exact hus)]
          have k : csum [t] ([q].map Piv.vec) i = t * at_ q.vec i + 0 := rfl
          rw [k]
          grind
        have ht : t ≠ 0 := by
          rintro rfl
          exact hns ⟨us, hus, fun i => by rw [e i]; grind⟩
        have hin : InS (pre ++ [v]) fun i => csum us (ps.map Piv.vec) i := InS.csum _ _ fun u hu => by
          obtain ⟨p', hp', rfl⟩ := List.mem_map.mp hu
          exact (h.made p' hp').more
        have hvin : InS (pre ++ [v]) (at_ v) := InS.mem (by simp)
        refine ((hvin.add (hin.smul (-1))).smul (1 / t)).eq fun i => ?_
        have k := Rat.div_mul_cancel (a := 1) ht
        generalize 1 / t = s at *
        show s * (at_ v i + -1 * csum us (ps.map Piv.vec) i) = at_ q.vec i
        rw [e i]
        have e3 : s * (csum us (ps.map Piv.vec) i + t * at_ q.vec i + -1 * csum us (ps.map Piv.vec) i) = (s * t) * at_ q.vec i := by grind
        rw [e3, k]
        grind
    · show qs.length ≤ _
      omega
    · show qs.length = _ ↔ _
      rw [ind_snoc, ← h.ind, hql, hpl]
      constructor
      · intro z
        exact ⟨by omega, fun w => hns (h.span_iff.mpr w)⟩
      · rintro ⟨z, _⟩
        omega
theorem stage_all {m : Nat} {l : List Num} (hm : ∀ u ∈ l, u.length = m) : ∀ (post pre : List Num) (ps : List Piv), l = pre ++ post → Stage m l pre ps → Stage m l l ((post.zipIdx pre.length).foldl (jn l.length) ps)
  | [], pre, ps, hl, h => by
    rw [List.append_nil] at hl
    subst hl
    exact h
  | v :: post, pre, ps, hl, h => by
    rw [List.zipIdx_cons, List.foldl_cons]
    have hs := stage_next hl hm h
    have := stage_all hm post (pre ++ [v]) _ (by rw [hl, List.append_assoc]; rfl) hs
    rw [List.length_append] at this
    exact this
theorem pivots_stage {m : Nat} {l : List Num} (hm : ∀ u ∈ l, u.length = m) : Stage m l l (pivots l) := by
  rw [pivots_fold]
  refine stage_all hm l [] [] rfl ⟨⟨?_, ?_, ?_, ?_, List.Pairwise.nil⟩, ?_, ?_, Nat.le_refl _, ?_⟩
  all_goals try (intro p hp; exact absurd hp (by simp))
  constructor
  · intro _ w hw _ z hz
    have : w = [] := List.length_eq_zero_iff.mp hw
    rw [this] at hz
    exact absurd hz (by simp)
  · intro _
    rfl
theorem madeOf_sound {m : Nat} {l : List Num} (hm : ∀ u ∈ l, u.length = m) {a w : Num} (ha : a.length = m) (h : madeOf l a = some w) : w.length = l.length ∧ ∀ i, at_ a i = csum w l i := by
  have hs := pivots_stage hm
  obtain ⟨a1, a2, a3, _⟩ := less_spec (pivots l) a (zeroIn l.length) hs.ech ha (zeroIn_length _)
  have e : madeOf l a = if isZero (less (pivots l) a (zeroIn l.length)).1 = true then some ((less (pivots l) a (zeroIn l.length)).2.map fun (r : Rat) => -r) else none := rfl
  rw [e] at h
  split at h
  · rename_i hz
    have hw := Option.some.inj h
    subst hw
    refine ⟨by rw [List.length_map, a2], fun i => ?_⟩
    rw [csum_neg]
    have k := a3 i
    rw [isZero_at.mp hz i, csum_zeroIn] at k
    grind
  · cases h
theorem madeOf_iff {m : Nat} {l : List Num} (hm : ∀ u ∈ l, u.length = m) {a : Num} (ha : a.length = m) : (∃ w, madeOf l a = some w) ↔ InS l (at_ a) := by
  constructor
  · rintro ⟨w, h⟩
    obtain ⟨h1, h2⟩ := madeOf_sound hm ha h
    exact ⟨w, h1, h2⟩
  · intro h
    have hs := pivots_stage hm
    have hz := span_less (w := zeroIn l.length) hs.ech ha (zeroIn_length _) (hs.span_iff.mpr h)
    refine ⟨(less (pivots l) a (zeroIn l.length)).2.map fun (r : Rat) => -r, ?_⟩
    · show (if isZero (less (pivots l) a (zeroIn l.length)).1 = true then some ((less (pivots l) a (zeroIn l.length)).2.map fun (r : Rat) => -r) else none) = some _
      rw [if_pos (isZero_at.mpr hz)]
theorem shifts_length (c : List Int) : ∀ (n : Nat) (a : Num), (shifts c a n).length = n
  | 0, _ => rfl
  | n + 1, a => by
    show (a :: shifts c (timesX c a) n).length = n + 1
    rw [List.length_cons, shifts_length c n]
theorem shifts_mem {c : List Int} : ∀ (n : Nat) (a : Num), a.length = c.length → ∀ v ∈ shifts c a n, v.length = c.length
  | 0, _, _, v, hv => absurd hv (by show ¬ v ∈ []; simp)
  | n + 1, a, ha, v, hv => by
    have hv' : v ∈ a :: shifts c (timesX c a) n := hv
    rcases List.mem_cons.mp hv' with rfl | hv'
    · exact ha
    · exact shifts_mem n (timesX c a) (timesX_length c a) v hv'
theorem fold_csum {m : Nat} : ∀ (l : List Num) (b : List Rat) (s : Num), (∀ v ∈ l, v.length = m) → s.length = m → ∀ i, at_ ((l.zip b).foldl (fun (s : Num) (x : Num × Rat) => Root.plus s (scaled x.2 x.1)) s) i = at_ s i + csum b l i
  | [], b, s, _, _, i => by
    rw [csum_nil']
    show at_ s i = at_ s i + 0
    grind
  | v :: l, [], s, _, _, i => by
    rw [csum_nil]
    show at_ s i = at_ s i + 0
    grind
  | v :: l, t :: b, s, hl, hs, i => by
    have hv := hl v (by simp)
    show at_ ((l.zip b).foldl (fun (s : Num) (x : Num × Rat) => Root.plus s (scaled x.2 x.1)) (Root.plus s (scaled t v))) i = at_ s i + (t * at_ v i + csum b l i)
    rw [fold_csum l b _ (fun u hu => hl u (by simp [hu])) (by rw [plus_length, scaled_length]; omega) i, at_plus _ _ (by rw [scaled_length]; omega), at_scaled]
    grind
theorem times_csum {c : List Int} {a b : Num} (ha : a.length = c.length) (i : Nat) : at_ (Root.times c a b) i = csum b (shifts c a c.length) i := by
  unfold Root.times
  rw [fold_csum (m := c.length) _ _ _ (shifts_mem _ a ha) (zeroIn_length _), at_zeroIn]
  grind
theorem inverse_ok {c : List Int} (h : refusal c = 0) {a : Num} (ha : a.length = c.length) (h0 : isZero a = false) : (inverse c a).length = c.length ∧ Root.times c a (inverse c a) = oneIn c.length := by
  obtain ⟨l1, _, _⟩ := ok_field h
  obtain ⟨w, hw, e⟩ := inv_row h ha h0
  have ht : Root.times c a w = oneIn c.length := times_unique l1 ha hw (oneIn_length _) ((Cg.of_eq fun x => by grind).trans (e.trans (Cg.of_eq fun x => by rw [oneIn_at l1])))
  have hin : InS (shifts c a c.length) (at_ (oneIn c.length)) := ⟨w, by rw [shifts_length]; exact hw, fun i => by rw [← ht, times_csum ha]⟩
  obtain ⟨u, hu⟩ := (madeOf_iff (shifts_mem _ a ha) (oneIn_length _)).mpr hin
  obtain ⟨u1, u2⟩ := madeOf_sound (shifts_mem _ a ha) (oneIn_length _) hu
  rw [shifts_length] at u1
  have ei : inverse c a = u := by
    unfold inverse
    rw [hu]
    rfl
  rw [ei]
  refine ⟨u1, num_ext (by rw [times_length l1 ha u1, oneIn_length]) fun i => ?_⟩
  rw [times_csum ha, u2 i]
theorem inverse_cg {c : List Int} (h : refusal c = 0) {a : Num} (ha : a.length = c.length) (h0 : isZero a = false) : Cg c (fun x => polyAt a x * polyAt (inverse c a) x) (fun _ => 1) := by
  obtain ⟨l1, _, _⟩ := ok_field h
  obtain ⟨h1, h2⟩ := inverse_ok h ha h0
  have := times_cg l1 ha h1
  rw [h2] at this
  exact this.symm.trans (Cg.of_eq fun x => oneIn_at l1 x)
end Rr

end
section
set_option linter.all false
namespace Rr
open Root
structure Fd (c : List Int) : Prop where
  ok : refusal c = 0
  two : 2 ≤ c.length
abbrev VV (c : List Int) (x : Rat) : Nat := turns (rowOf c) x
abbrev ff (c : List Int) (x : Rat) : Rat := polyAt (polyOf c) x
def Lo (c : List Int) (k : Nat) (x : Rat) : Prop := VV c (-bound c) ≤ VV c x + k
structure Iso (c : List Int) (k : Nat) (x y : Rat) : Prop where
  lo : Lo c k x
  hi : ¬ Lo c k y
  one : VV c x = VV c y + 1
end Rr

end
section
set_option linter.all false
namespace Rr
open Root
def d3 (x1 x2 x3 y1 y2 y3 z1 z2 z3 : Int) : Int := x1 * (y2 * z3 - y3 * z2) - x2 * (y1 * z3 - y3 * z1) + x3 * (y1 * z2 - y2 * z1)
end Rr

end
section
set_option linter.all false
namespace Rr
open Root
def p2 (n : Nat) : Rat := (2 : Rat) ^ n
def Few (s : Nat) (p : List Rat) : Prop := ∀ z ∈ p, -p2 s ≤ z ∧ z ≤ p2 s
def rI (l : List Int) : List Rat := l.map fun (z : Int) => (z : Rat)
theorem rI_length (l : List Int) : (rI l).length = l.length := by unfold rI; rw [List.length_map]
def tXI (c a : List Int) : List Int := List.zipWith (fun (u v : Int) => u - a.getLastD 0 * v) (0 :: a.dropLast) c
end Rr

end
section
set_option linter.all false
namespace Rr
open Root
end Rr

end
section
set_option linter.all false
namespace Rr
open Root
end Rr

end
section
set_option linter.all false
namespace Rr
open Root
def Sg (c : List Int) (k : Nat) (a : Num) (r : Int) : Prop := ∃ lo hi : Rat, Lo c k lo ∧ ¬ Lo c k hi ∧ ∀ z, lo ≤ z → z ≤ hi → signOf (polyAt a z) = r
def Fl (c : List Int) (k : Nat) (a : Num) (t : Int) : Prop := ∃ lo hi : Rat, Lo c k lo ∧ ¬ Lo c k hi ∧ ∀ z, lo ≤ z → z ≤ hi → (t : Rat) ≤ polyAt a z ∧ polyAt a z < (t : Rat) + 1
end Rr

end
section
set_option linter.all false
namespace Rr
open Root
def lgS (x : Rat) : Nat := Nat.log2 (x.num.natAbs + 1) + Nat.log2 x.den + 2
def lgSum (a : Num) : Nat := (a.map lgS).foldr (fun (p q : Nat) => p + q) 0
end Rr

end
section
set_option linter.all false
namespace Rr
open Root
end Rr

end
section
set_option linter.all false
namespace Rr
open Root
def dv (p : Int) (A : List Int) : Num := A.map fun (z : Int) => (z : Rat) / (p : Rat)
def num (a : List Int) : Num := dv (a.getLastD 0) a.dropLast
theorem dv_length (p : Int) (A : List Int) : (dv p A).length = A.length := by unfold dv; rw [List.length_map]
theorem rows1 {c a : List Int} (h : rowsRefusal c [a] = 0) : refusal c = 0 ∧ isRow a c.length = true := by
  unfold rowsRefusal at h
  by_cases h0 : refusal c = 0
  · rw [if_pos h0] at h
    refine ⟨h0, ?_⟩
    cases z1 : isRow a c.length with
    | false => simp [z1] at h
    | true => rfl
  · rw [if_neg h0] at h
    exact absurd h h0
theorem num_row {a : List Int} {d : Nat} (h : isRow a d = true) : ∃ (A : List Int) (p : Int), a = A ++ [p] ∧ A.length = d ∧ 0 < p ∧ num a = dv p A := by
  obtain ⟨ns, n, rfl, h1, h2⟩ := row_split h
  refine ⟨ns, n, rfl, h1, h2, ?_⟩
  unfold num
  rw [List.dropLast_concat, show (ns ++ [n]).getLastD 0 = n by simp]
theorem numOf_num {c a : List Int} (h : isRow a c.length = true) : numOf c a = some (num a) := by
  obtain ⟨A, p, rfl, h1, h2, e⟩ := num_row h
  rw [e, numOf_row h1 h2]
  rfl
theorem ofRow_is {c a : List Int} (g : Num → Ans) : told_ (ofRow c a g) = if rowsRefusal c [a] = 0 then told_ (g (num a)) else [rowsRefusal c [a]] := by
  rw [refusal_one]
  by_cases h : rowsRefusal c [a] = 0
  · rw [if_pos h, if_pos h, numOf_num (rows1 h).2]
  · rw [if_neg h, if_neg h]
theorem rI_dv {p : Int} (hp : 0 < p) (A : List Int) : rI A = scaled (p : Rat) (dv p A) := by
  have hp0 : (p : Rat) ≠ 0 := fun z => by
    have := Rat.intCast_eq_zero_iff.mp z
    omega
  unfold rI scaled dv
  rw [List.map_map]
  refine List.map_congr_left fun z _ => ?_
  show (z : Rat) = (p : Rat) * ((z : Rat) / (p : Rat))
  have := Rat.div_mul_cancel (a := (z : Rat)) hp0
  grind
theorem rI_at {p : Int} (hp : 0 < p) (A : List Int) (x : Rat) : polyAt (rI A) x = (p : Rat) * polyAt (dv p A) x := by
  rw [rI_dv hp, scaled_at]
theorem dv_at {p : Int} (hp : 0 < p) (A : List Int) (x : Rat) : polyAt (dv p A) x = 1 / (p : Rat) * polyAt (rI A) x := by
  have hp0 : (p : Rat) ≠ 0 := fun z => by
    have := Rat.intCast_eq_zero_iff.mp z
    omega
  rw [rI_at hp]
  have := Rat.div_mul_cancel (a := 1) hp0
  generalize 1 / (p : Rat) = u at *
  grind
theorem isZero_dv {p : Int} (hp : 0 < p) {A : List Int} : isZero (dv p A) = true ↔ ∀ z ∈ A, z = 0 := by
  have hp0 : (p : Rat) ≠ 0 := fun z => by
    have := Rat.intCast_eq_zero_iff.mp z
    omega
  unfold isZero dv
  rw [List.all_map, List.all_eq_true]
  constructor
  · intro h z hz
    have h1 : (z : Rat) / (p : Rat) = 0 := by simpa using h z hz
    have := Rat.div_mul_cancel (a := (z : Rat)) hp0
    rw [h1, Rat.zero_mul] at this
    exact Rat.intCast_eq_zero_iff.mp this.symm
  · intro h z hz
    have : z = 0 := h z hz
    subst this
    show ((((0 : Int) : Rat) / (p : Rat)) == 0) = true
    rw [Rat.intCast_zero, Rat.div_def, Rat.zero_mul]
    rfl
theorem times_dv {c : List Int} (hc : 1 ≤ c.length) {A B R : List Int} {p q : Int} (hp : 0 < p) (hq : 0 < q) (hA : A.length = c.length) (hB : B.length = c.length) (hR : R.length = c.length) (h : Cg c (fun x => polyAt (rI A) x * polyAt (rI B) x) (polyAt (rI R))) : Root.times c (dv p A) (dv q B) = dv (p * q) R := by
  refine times_unique hc (by rw [dv_length]; exact hA) (by rw [dv_length]; exact hB) (by rw [dv_length]; exact hR) ?_
  obtain ⟨Q, hQ⟩ := h
  refine ⟨mulC (1 / (p : Rat) * (1 / (q : Rat))) Q, fun x => ?_⟩
  have hpq : 0 < p * q := Int.mul_pos hp hq
  have k : polyAt (rI A) x * polyAt (rI B) x - polyAt (rI R) x = polyAt Q x * polyAt (polyOf c) x := hQ x
  show polyAt (dv p A) x * polyAt (dv q B) x - polyAt (dv (p * q) R) x = _
  rw [dv_at hp, dv_at hq, dv_at hpq, mulC_at]
  have e : 1 / ((p * q : Int) : Rat) = 1 / (p : Rat) * (1 / (q : Rat)) := by
    rw [Rat.intCast_mul, Rat.div_def, Rat.div_def, Rat.div_def, Rat.inv_mul_rev]
    grind
  rw [e]
  generalize 1 / (p : Rat) = u at *
  generalize 1 / (q : Rat) = v at *
  clear hQ e
  grind
theorem power_is (k : Int) (c a : List Int) : PyWqaqaw.power k c a = if rowsRefusal c [a] = 0 then (if 20 < k.natAbs then [-3] else if 0 ≤ k then 0 :: oneForm (Root.power c (num a) k.toNat) else if isZero (num a) = true then [-5] else 0 :: oneForm (Root.power c (inverse c (num a)) k.natAbs)) else [rowsRefusal c [a]] := by
  refine (ofRow_is fun (x : Num) => if MOST < k.natAbs then says (-3) else if 0 ≤ k then toldNum (Root.power c x k.toNat) else if isZero x = true then says (-5) else toldNum (Root.power c (inverse c x) k.natAbs)).trans ?_
  by_cases h : rowsRefusal c [a] = 0
  · rw [if_pos h, if_pos h]
    by_cases h1 : 20 < k.natAbs
    · rw [if_pos h1, if_pos (show MOST < k.natAbs from h1)]; rfl
    · rw [if_neg h1, if_neg (show ¬ MOST < k.natAbs from h1)]
      by_cases h2 : 0 ≤ k
      · rw [if_pos h2, if_pos h2]; rfl
      · rw [if_neg h2, if_neg h2]
        by_cases h3 : isZero (num a) = true
        · rw [if_pos h3, if_pos h3]; rfl
        · rw [if_neg h3, if_neg h3]; rfl
  · rw [if_neg h, if_neg h]
end Rr

end
section
set_option linter.all false
set_option maxHeartbeats 4000000
namespace Rr
open Root
theorem num_snoc (A : List Int) (p : Int) : num (A ++ [p]) = dv p A := by
  unfold num
  rw [List.dropLast_concat]
  simp
theorem ratpow_add (x : Rat) (m : Nat) : ∀ n : Nat, x ^ (m + n) = x ^ m * x ^ n
  | 0 => by rw [Nat.add_zero, Rat.pow_zero]; grind
  | n + 1 => by rw [← Nat.add_assoc, Rat.pow_succ, ratpow_add x m n, Rat.pow_succ]; grind
def pI (A : List Int) (x : Rat) : Rat := polyAt (rI A) x
theorem pI_nil (x : Rat) : pI [] x = 0 := polyAt_nil x
theorem pI_cons (a : Int) (l : List Int) (x : Rat) : pI (a :: l) x = (a : Rat) + x * pI l x := by
  unfold pI rI
  rw [List.map_cons, polyAt_cons]
  grind
theorem pI_append (x : Rat) : ∀ l m : List Int, pI (l ++ m) x = pI l x + x ^ l.length * pI m x
  | [], m => by rw [List.nil_append, pI_nil, List.length_nil]; grind
  | a :: l, m => by
    rw [List.cons_append, pI_cons, pI_cons, pI_append x l m, List.length_cons, Rat.pow_succ]
    grind
theorem pI_set (x : Rat) (v : Int) : ∀ (l : List Int) (i : Nat), i < l.length → pI (l.set i v) x = pI l x + ((v : Rat) - (l.getD i 0 : Rat)) * x ^ i
  | [], i, h => absurd h (by simp)
  | a :: l, 0, _ => by
    rw [List.set_cons_zero, pI_cons, pI_cons, List.getD_cons_zero]
    grind
  | a :: l, i + 1, h => by
    rw [List.set_cons_succ, pI_cons, pI_cons, pI_set x v l i (by simpa using h), List.getD_cons_succ, Rat.pow_succ]
    grind
theorem pI_take (x : Rat) : ∀ (l : List Int) (i : Nat), i < l.length → pI (l.take (i + 1)) x = pI (l.take i) x + (l.getD i 0 : Rat) * x ^ i
  | [], i, h => absurd h (by simp)
  | a :: l, 0, _ => by
    rw [List.take_succ_cons, List.take_zero, List.take_zero, pI_cons, pI_nil, List.getD_cons_zero]
    grind
  | a :: l, i + 1, h => by
    rw [List.take_succ_cons, List.take_succ_cons, pI_cons, pI_cons, pI_take x l i (by simpa using h), List.getD_cons_succ, Rat.pow_succ]
    grind
theorem pI_zeros (x : Rat) : ∀ n : Nat, pI (List.replicate n 0) x = 0
  | 0 => pI_nil x
  | n + 1 => by
    rw [List.replicate_succ, pI_cons, pI_zeros x n]
    grind
theorem polyOf_pI (c : List Int) (x : Rat) : polyAt (polyOf c) x = pI c x + x ^ c.length := by
  have e : polyOf c = rI (c ++ [1]) := by
    unfold polyOf rI
    rw [List.map_append]
    rfl
  rw [e]
  show pI (c ++ [1]) x = _
  rw [pI_append, pI_cons, pI_nil]
  grind
theorem pI_unique {c A B : List Int} (hA : A.length = c.length) (hB : B.length = c.length) (h : Cg c (pI A) (pI B)) : A = B := by
  have := Cg.unique (c := c) (a := rI A) (b := rI B) (by unfold rI; rw [List.length_map]; exact hA) (by unfold rI; rw [List.length_map]; exact hB) h
  unfold rI at this
  have inj : ∀ x y : Int, (x : Rat) = (y : Rat) → x = y := fun x y e => Rat.intCast_inj.mp e
  exact (List.map_inj_right inj).mp this
theorem rem_step {c r R : List Int} {h : Int} (hl : c.length ≤ r.length) (e : ∀ x, pI R x = pI r x - (h : Rat) * x ^ (r.length - c.length) * pI c x) : Cg c (pI (r ++ [h])) (pI R) := by
  refine ⟨rI (List.replicate (r.length - c.length) 0 ++ [h]), fun x => ?_⟩
  show pI (r ++ [h]) x - pI R x = pI (List.replicate (r.length - c.length) 0 ++ [h]) x * _
  rw [polyOf_pI, e, pI_append, pI_append, pI_zeros, pI_cons, pI_nil, List.length_replicate]
  have ep : x ^ r.length = x ^ (r.length - c.length) * x ^ c.length := by rw [← ratpow_add, show r.length - c.length + c.length = r.length by omega]
  rw [ep]
  grind
end Rr

end
section
set_option linter.all false
set_option maxHeartbeats 4000000
namespace Rr
open Root
def xI (c v : List Int) : List Int := List.zipWith (fun (u w : Int) => u - v.getLastD 0 * w) (0 :: v.dropLast) c
theorem xI_snoc (c n : List Int) (h : Int) : xI c (n ++ [h]) = List.zipWith (fun (u w : Int) => u - h * w) (0 :: n) c := by
  unfold xI
  rw [List.dropLast_concat]
  simp
theorem pI_zipSub (h : Int) (x : Rat) : ∀ u w : List Int, u.length = w.length → pI (List.zipWith (fun (u w : Int) => u - h * w) u w) x = pI u x - (h : Rat) * pI w x
  | [], [], _ => by rw [List.zipWith_nil_left, pI_nil]; grind
  | a :: u, b :: w, e => by
    rw [List.zipWith_cons_cons, pI_cons, pI_cons, pI_cons, pI_zipSub h x u w (by simpa using e), Rat.intCast_sub, Rat.intCast_mul]
    grind
  | [], b :: w, e => by simp at e
  | a :: u, [], e => by simp at e
theorem xI_length {c v : List Int} (h : v.length = c.length) (hc : 1 ≤ c.length) : (xI c v).length = c.length := by
  unfold xI
  rw [List.length_zipWith, List.length_cons, List.length_dropLast]
  omega
theorem xI_cg {c v : List Int} (h : v.length = c.length) (hc : 1 ≤ c.length) : Cg c (fun x => x * pI v x) (pI (xI c v)) := by
  have hne : v ≠ [] := by
    rintro rfl
    simp at h
    omega
  obtain ⟨n, t, rfl⟩ := snoc_of hne
  rw [xI_snoc]
  have hl : n.length + 1 = c.length := by simpa using h
  refine ⟨rI [t], fun x => ?_⟩
  show x * pI (n ++ [t]) x - pI _ x = pI [t] x * _
  rw [polyOf_pI, pI_zipSub t x _ _ (by simpa using hl), pI_append, pI_cons, pI_cons, pI_nil, ← hl, Rat.pow_succ]
  grind
theorem pI_add (x : Rat) : ∀ u w : List Int, u.length = w.length → pI (List.zipWith (fun (u w : Int) => u + w) u w) x = pI u x + pI w x
  | [], [], _ => by rw [List.zipWith_nil_left, pI_nil]; grind
  | a :: u, b :: w, e => by
    rw [List.zipWith_cons_cons, pI_cons, pI_cons, pI_cons, pI_add x u w (by simpa using e), Rat.intCast_add]
    grind
  | [], b :: w, e => by simp at e
  | a :: u, [], e => by simp at e
theorem pI_smul (t : Int) (x : Rat) : ∀ u : List Int, pI (u.map fun (z : Int) => t * z) x = (t : Rat) * pI u x
  | [] => by rw [List.map_nil, pI_nil]; grind
  | a :: u => by
    rw [List.map_cons, pI_cons, pI_cons, pI_smul t x u, Rat.intCast_mul]
    grind
def mulI (c : List Int) : List Int → List Int → List Int
  | _, [] => List.replicate c.length 0
  | A, b :: B => List.zipWith (fun (u w : Int) => u + w) (A.map fun (z : Int) => b * z) (mulI c (xI c A) B)
theorem mulI_cons (c A B : List Int) (b : Int) : mulI c A (b :: B) = List.zipWith (fun (u w : Int) => u + w) (A.map fun (z : Int) => b * z) (mulI c (xI c A) B) := rfl
theorem mulI_nil (c A : List Int) : mulI c A [] = List.replicate c.length 0 := rfl
theorem mulI_length {c : List Int} (hc : 1 ≤ c.length) : ∀ (B A : List Int), A.length = c.length → (mulI c A B).length = c.length
  | [], A, h => by unfold mulI; rw [List.length_replicate]
  | b :: B, A, h => by
    unfold mulI
    rw [List.length_zipWith, List.length_map, mulI_length hc B (xI c A) (xI_length h hc), h]
    omega
theorem mulI_cg {c : List Int} (hc : 1 ≤ c.length) : ∀ (B A : List Int), A.length = c.length → Cg c (fun x => pI A x * pI B x) (pI (mulI c A B))
  | [], A, h => Cg.of_eq fun x => by
    unfold mulI
    rw [pI_nil, pI_zeros]
    grind
  | b :: B, A, h => by
    have hx := xI_length h hc
    have e1 := mulI_cg hc B (xI c A) hx
    have e2 := (xI_cg h hc).mul (rI B)
    have e3 : Cg c (fun x => x * pI A x * pI B x) (pI (mulI c (xI c A) B)) := e2.trans e1
    have e4 := (Cg.refl (c := c) (fun x => (b : Rat) * pI A x)).add e3
    refine (Cg.of_eq fun x => ?_).trans (e4.trans (Cg.of_eq fun x => ?_))
    · rw [pI_cons]
      grind
    · rw [mulI_cons, pI_add x _ _ (by rw [List.length_map, mulI_length hc B _ hx, h]), pI_smul]
theorem mulI_is {c A B R : List Int} (hc : 1 ≤ c.length) (hA : A.length = c.length) (hR : R.length = c.length) (h : Cg c (fun x => pI A x * pI B x) (pI R)) : R = mulI c A B :=
  pI_unique hR (mulI_length hc B A hA) (h.symm.trans (mulI_cg hc B A hA))
theorem xI_is {c A R : List Int} (hc : 1 ≤ c.length) (hA : A.length = c.length) (hR : R.length = c.length) (h : Cg c (fun x => x * pI A x) (pI R)) : R = xI c A :=
  pI_unique hR (xI_length hA hc) (h.symm.trans (xI_cg hA hc))
theorem Cg.mulx {c : List Int} {u v : Rat → Rat} (h : Cg c u v) : Cg c (fun x => x * u x) (fun x => x * v x) := by
  obtain ⟨Q, hQ⟩ := h
  refine ⟨upP Q, fun x => ?_⟩
  have := hQ x
  rw [upP_at]
  grind
theorem xI_mulI {c A B : List Int} (hc : 1 ≤ c.length) (hA : A.length = c.length) (hB : B.length = c.length) : xI c (mulI c A B) = mulI c A (xI c B) := by
  have hm := mulI_length hc B A hA
  refine mulI_is hc hA (xI_length hm hc) ?_
  have e1 := xI_cg hm hc
  have e2 := (mulI_cg hc B A hA).mulx
  have e3 := (xI_cg hB hc).mul (rI A)
  refine Cg.trans ?_ (e2.trans e1)
  refine (Cg.of_eq fun x => ?_).trans (e3.symm.trans (Cg.of_eq fun x => ?_))
  · show pI A x * pI (xI c B) x = pI (xI c B) x * pI A x
    grind
  · show x * pI B x * pI A x = x * (pI A x * pI B x)
    grind
def colI (c v : List Int) : Nat → List Int
  | 0 => v
  | j + 1 => xI c (colI c v j)
theorem colI_length {c v : List Int} (hc : 1 ≤ c.length) (h : v.length = c.length) : ∀ j, (colI c v j).length = c.length
  | 0 => h
  | j + 1 => xI_length (colI_length hc h j) hc
def trN (c v : List Int) : Nat → Int
  | 0 => 0
  | n + 1 => trN c v n + (colI c v n).getD n 0
def trI (c v : List Int) : Int := trN c v c.length
def lessI (v : List Int) (s : Int) : List Int := (v.headD 0 - s) :: v.tail
def flI (c A : List Int) : Nat → List Int
  | 0 => 1 :: List.replicate (c.length - 1) 0
  | n + 1 => lessI (mulI c A (flI c A n)) (trI c (mulI c A (flI c A n)) / ((n : Int) + 1))
theorem lessI_length {v : List Int} {s : Int} (h : 1 ≤ v.length) : (lessI v s).length = v.length := by
  unfold lessI
  rw [List.length_cons, List.length_tail]
  omega
theorem flI_length {c A : List Int} (hc : 1 ≤ c.length) (h : A.length = c.length) : ∀ n, (flI c A n).length = c.length
  | 0 => by
    unfold flI
    rw [List.length_cons, List.length_replicate]
    omega
  | n + 1 => by
    unfold flI
    rw [lessI_length (by rw [mulI_length hc _ _ h]; exact hc), mulI_length hc _ _ h]
end Rr

end
section
set_option linter.all false
set_option maxHeartbeats 4000000
namespace Rr
open Root
def eI (c v : List Int) (i j : Nat) : Int := (colI c v j).getD i 0
theorem colI_mulI {c A B : List Int} (hc : 1 ≤ c.length) (hA : A.length = c.length) (hB : B.length = c.length) : ∀ j, colI c (mulI c A B) j = mulI c A (colI c B j)
  | 0 => rfl
  | j + 1 => by
    show xI c (colI c (mulI c A B) j) = mulI c A (xI c (colI c B j))
    rw [colI_mulI hc hA hB j, xI_mulI hc hA (colI_length hc hB j)]
def dotI (f : Nat → Int) : List Int → Nat → Int
  | [], _ => 0
  | b :: B, k => b * f k + dotI f B (k + 1)
theorem getD_zip {f : Int → Int → Int} : ∀ (u w : List Int) (i : Nat), u.length = w.length → i < u.length → (List.zipWith f u w).getD i 0 = f (u.getD i 0) (w.getD i 0)
  | [], _, i, _, h => absurd h (by simp)
  | a :: u, [], i, e, _ => by simp at e
  | a :: u, b :: w, 0, _, _ => rfl
  | a :: u, b :: w, i + 1, e, h => by
    rw [List.zipWith_cons_cons, List.getD_cons_succ, List.getD_cons_succ, List.getD_cons_succ]
    exact getD_zip u w i (by simpa using e) (by simpa using h)
theorem getD_map0 (f : Int → Int) (u : List Int) (i : Nat) (h : i < u.length) : (u.map f).getD i 0 = f (u.getD i 0) := by
  rw [List.getD_eq_getElem?_getD, List.getD_eq_getElem?_getD, List.getElem?_map, List.getElem?_eq_getElem h]
  rfl
theorem mulI_at {c A : List Int} (hc : 1 ≤ c.length) (hA : A.length = c.length) {i : Nat} (hi : i < c.length) : ∀ (B : List Int) (k : Nat), (mulI c (colI c A k) B).getD i 0 = dotI (fun j => eI c A i j) B k
  | [], k => by
    rw [mulI_nil]
    show _ = (0 : Int)
    rw [List.getD_eq_getElem?_getD, List.getElem?_replicate]
    split <;> rfl
  | b :: B, k => by
    have hl := colI_length hc hA k
    have hx : xI c (colI c A k) = colI c A (k + 1) := rfl
    rw [mulI_cons, getD_zip _ _ _ (by rw [List.length_map, mulI_length hc B _ (xI_length hl hc), hl]) (by rw [List.length_map, hl]; exact hi), getD_map0 _ _ _ (by rw [hl]; exact hi), hx, mulI_at hc hA hi B (k + 1)]
    rfl
theorem eI_mul {c A B : List Int} (hc : 1 ≤ c.length) (hA : A.length = c.length) (hB : B.length = c.length) {i : Nat} (hi : i < c.length) (j : Nat) : eI c (mulI c A B) i j = dotI (fun k => eI c A i k) (colI c B j) 0 := by
  unfold eI
  rw [colI_mulI hc hA hB]
  exact mulI_at hc hA hi _ 0
theorem xI_sub {c v : List Int} (hc : 1 ≤ c.length) (h : v.length = c.length) {j : Nat} (hj : j + 1 < c.length) (s : Int) : xI c (v.set j (v.getD j 0 - s)) = (xI c v).set (j + 1) ((xI c v).getD (j + 1) 0 - s) := by
  have hl := xI_length h hc
  have hs : (v.set j (v.getD j 0 - s)).length = c.length := by rw [List.length_set]; exact h
  refine (xI_is hc hs (by rw [List.length_set]; exact hl) ?_).symm
  obtain ⟨Q, hQ⟩ := xI_cg h hc
  refine ⟨Q, fun x => ?_⟩
  have := hQ x
  show x * pI _ x - pI _ x = _
  rw [pI_set x _ _ _ (by omega), pI_set x _ _ _ (by omega), Rat.intCast_sub, Rat.intCast_sub, Rat.pow_succ]
  grind
theorem lessI_set {v : List Int} (h : 1 ≤ v.length) (s : Int) : lessI v s = v.set 0 (v.getD 0 0 - s) := by
  cases v with
  | nil => simp at h
  | cons a l => rfl
theorem colI_less {c v : List Int} (hc : 1 ≤ c.length) (h : v.length = c.length) (s : Int) : ∀ j, j < c.length → colI c (lessI v s) j = (colI c v j).set j ((colI c v j).getD j 0 - s)
  | 0, _ => lessI_set (by omega) s
  | j + 1, hj => by
    show xI c (colI c (lessI v s) j) = _
    rw [colI_less hc h s j (by omega), xI_sub hc (colI_length hc h j) hj]
    rfl
theorem eI_less {c v : List Int} (hc : 1 ≤ c.length) (h : v.length = c.length) (s : Int) {i j : Nat} (hi : i < c.length) (hj : j < c.length) : eI c (lessI v s) i j = eI c v i j - if i = j then s else 0 := by
  unfold eI
  have hl := colI_length hc h j
  rw [colI_less hc h s j hj]
  by_cases e : i = j
  · subst e
    rw [if_pos rfl, List.getD_eq_getElem?_getD, List.getElem?_set_self (by omega)]
    rfl
  · rw [if_neg e, List.getD_eq_getElem?_getD, List.getElem?_set_ne (fun z => e z.symm), ← List.getD_eq_getElem?_getD]
    omega
theorem trN_less {c v : List Int} (hc : 1 ≤ c.length) (h : v.length = c.length) (s : Int) : ∀ n, n ≤ c.length → trN c (lessI v s) n = trN c v n - (n : Int) * s
  | 0, _ => by
    show (0 : Int) = 0 - ((0 : Nat) : Int) * s
    simp
  | n + 1, hn => by
    show trN c (lessI v s) n + eI c (lessI v s) n n = trN c v n + eI c v n n - ((n + 1 : Nat) : Int) * s
    rw [trN_less hc h s n (by omega), eI_less hc h s (by omega) (by omega), if_pos rfl]
    grind
theorem trI_less {c v : List Int} (hc : 1 ≤ c.length) (h : v.length = c.length) (s : Int) : trI c (lessI v s) = trI c v - (c.length : Int) * s := trN_less hc h s _ (Nat.le_refl _)
theorem mulI_one {c A : List Int} (hc : 1 ≤ c.length) (hA : A.length = c.length) : mulI c A (1 :: List.replicate (c.length - 1) 0) = A := by
  refine (mulI_is hc hA hA ?_).symm
  refine Cg.of_eq fun x => ?_
  rw [pI_cons, pI_zeros, Rat.intCast_one]
  grind
theorem four {v : List Int} (h : v.length = 4) : v = [v.getD 0 0, v.getD 1 0, v.getD 2 0, v.getD 3 0] := by
  match v, h with
  | [a, b, c, d], _ => rfl
theorem e4_mul {c A B : List Int} (hc : c.length = 4) (hA : A.length = 4) (hB : B.length = 4) {i : Nat} (hi : i < 4) (j : Nat) : eI c (mulI c A B) i j = eI c B 0 j * eI c A i 0 + eI c B 1 j * eI c A i 1 + eI c B 2 j * eI c A i 2 + eI c B 3 j * eI c A i 3 := by
  rw [eI_mul (by omega) (by omega) (by omega) (by omega)]
  have := four (v := colI c B j) (by rw [colI_length (by omega) (by omega)]; exact hc)
  rw [this]
  show _ * _ + (_ * _ + (_ * _ + (_ * _ + 0))) = _
  unfold eI
  grind
theorem tr4 {c v : List Int} (hc : c.length = 4) : trI c v = eI c v 0 0 + eI c v 1 1 + eI c v 2 2 + eI c v 3 3 := by
  unfold trI
  rw [hc]
  show 0 + _ + _ + _ + _ = _
  unfold eI
  rw [Int.zero_add]
end Rr

end
section
set_option linter.all false
set_option maxHeartbeats 4000000
namespace Rr
open Root
structure FlOk (c A : List Int) : Prop where
  ex : ∀ n, n + 1 < c.length → ((n : Int) + 1) * (trI c (mulI c A (flI c A n)) / ((n : Int) + 1)) = trI c (mulI c A (flI c A n))
  fin : ∃ D : Int, mulI c A (flI c A (c.length - 1)) = D :: List.replicate (c.length - 1) 0
theorem fl_next {c A : List Int} {n : Nat} {s : Int} (h : trI c (mulI c A (flI c A n)) = ((n : Int) + 1) * s) : flI c A (n + 1) = lessI (mulI c A (flI c A n)) s ∧ ((n : Int) + 1) * (trI c (mulI c A (flI c A n)) / ((n : Int) + 1)) = trI c (mulI c A (flI c A n)) := by
  have e : trI c (mulI c A (flI c A n)) / ((n : Int) + 1) = s := by
    rw [h]
    exact Int.mul_ediv_cancel_left _ (by omega)
  refine ⟨?_, by rw [e, h]⟩
  show lessI (mulI c A (flI c A n)) (trI c (mulI c A (flI c A n)) / ((n : Int) + 1)) = _
  rw [e]
theorem fl1 {c A : List Int} (hc : c.length = 1) (hA : A.length = 1) : FlOk c A := by
  have h1 : 1 ≤ c.length := by omega
  have e0 : mulI c A (flI c A 0) = A := mulI_one h1 (by omega)
  refine ⟨fun n hn => by omega, A.getD 0 0, ?_⟩
  rw [hc]
  show mulI c A (flI c A 0) = _
  rw [e0]
  match A, hA with
  | [a], _ => rfl
theorem two {v : List Int} (h : v.length = 2) : v = [v.getD 0 0, v.getD 1 0] := by
  match v, h with
  | [a0, a1], _ => rfl
theorem e2_mul {c A B : List Int} (hc : c.length = 2) (hA : A.length = 2) (hB : B.length = 2) {i : Nat} (hi : i < 2) (j : Nat) : eI c (mulI c A B) i j = eI c B 0 j * eI c A i 0 + eI c B 1 j * eI c A i 1 := by
  rw [eI_mul (by omega) (by omega) (by omega) (by omega)]
  have := two (v := colI c B j) (by rw [colI_length (by omega) (by omega)]; exact hc)
  rw [this]
  show _ * _ + (_ * _ + 0) = _
  unfold eI
  grind
theorem tr2 {c v : List Int} (hc : c.length = 2) : trI c v = eI c v 0 0 + eI c v 1 1 := by
  unfold trI
  rw [hc]
  show 0 + _ + _ = _
  unfold eI
  rw [Int.zero_add]
theorem fl2 {c A : List Int} (hc : c.length = 2) (hA : A.length = 2) : FlOk c A := by
  have h1 : 1 ≤ c.length := by omega
  have hA' : A.length = c.length := by omega
  have e0 : mulI c A (flI c A 0) = A := mulI_one h1 hA'
  obtain ⟨a00, e00⟩ : ∃ t, eI c A 0 0 = t := ⟨_, rfl⟩
  obtain ⟨a01, e01⟩ : ∃ t, eI c A 0 1 = t := ⟨_, rfl⟩
  obtain ⟨a10, e10⟩ : ∃ t, eI c A 1 0 = t := ⟨_, rfl⟩
  obtain ⟨a11, e11⟩ : ∃ t, eI c A 1 1 = t := ⟨_, rfl⟩
  obtain ⟨s1, hs1⟩ : ∃ s, s = a00 + a11 := ⟨_, rfl⟩
  obtain ⟨f1, x1⟩ := fl_next (c := c) (A := A) (n := 0) (s := s1) (by rw [e0, tr2 hc, e00, e11, ← hs1]; simp)
  rw [e0] at f1
  have l1 : (flI c A 1).length = 2 := by rw [flI_length h1 hA']; exact hc
  have m1_00 : eI c (flI c A 1) 0 0 = a00 - s1 := by
    rw [f1, eI_less h1 hA' s1 (by omega) (by omega), e00]
    simp
  have m1_10 : eI c (flI c A 1) 1 0 = a10 := by
    rw [f1, eI_less h1 hA' s1 (by omega) (by omega), e10]
    simp
  have p2_00 : eI c (mulI c A (flI c A 1)) 0 0 = ((a00 - s1) * a00 + (a10) * a01) := by
    rw [e2_mul hc hA l1 (by decide), m1_00, m1_10, e00, e01]
  have p2_10 : eI c (mulI c A (flI c A 1)) 1 0 = ((a00 - s1) * a10 + (a10) * a11) := by
    rw [e2_mul hc hA l1 (by decide), m1_00, m1_10, e10, e11]
  refine ⟨fun n hn => ?_, (mulI c A (flI c A 1)).getD 0 0, ?_⟩
  · have : n = 0 := by omega
    subst this
    exact x1
  · rw [hc]
    have hl : (mulI c A (flI c A 1)).length = 2 := by rw [mulI_length h1 _ _ hA']; exact hc
    have z1 : (mulI c A (flI c A 1)).getD 1 0 = 0 := by
      refine (show _ = eI c (mulI c A (flI c A 1)) 1 0 from rfl).trans (p2_10.trans ?_)
      subst hs1
      grind
    rw [two hl, z1]
    rfl
theorem three {v : List Int} (h : v.length = 3) : v = [v.getD 0 0, v.getD 1 0, v.getD 2 0] := by
  match v, h with
  | [a0, a1, a2], _ => rfl
theorem e3_mul {c A B : List Int} (hc : c.length = 3) (hA : A.length = 3) (hB : B.length = 3) {i : Nat} (hi : i < 3) (j : Nat) : eI c (mulI c A B) i j = eI c B 0 j * eI c A i 0 + eI c B 1 j * eI c A i 1 + eI c B 2 j * eI c A i 2 := by
  rw [eI_mul (by omega) (by omega) (by omega) (by omega)]
  have := three (v := colI c B j) (by rw [colI_length (by omega) (by omega)]; exact hc)
  rw [this]
  show _ * _ + (_ * _ + (_ * _ + 0)) = _
  unfold eI
  grind
theorem tr3 {c v : List Int} (hc : c.length = 3) : trI c v = eI c v 0 0 + eI c v 1 1 + eI c v 2 2 := by
  unfold trI
  rw [hc]
  show 0 + _ + _ + _ = _
  unfold eI
  rw [Int.zero_add]
theorem fl3 {c A : List Int} (hc : c.length = 3) (hA : A.length = 3) : FlOk c A := by
  have h1 : 1 ≤ c.length := by omega
  have hA' : A.length = c.length := by omega
  have e0 : mulI c A (flI c A 0) = A := mulI_one h1 hA'
  obtain ⟨a00, e00⟩ : ∃ t, eI c A 0 0 = t := ⟨_, rfl⟩
  obtain ⟨a01, e01⟩ : ∃ t, eI c A 0 1 = t := ⟨_, rfl⟩
  obtain ⟨a02, e02⟩ : ∃ t, eI c A 0 2 = t := ⟨_, rfl⟩
  obtain ⟨a10, e10⟩ : ∃ t, eI c A 1 0 = t := ⟨_, rfl⟩
  obtain ⟨a11, e11⟩ : ∃ t, eI c A 1 1 = t := ⟨_, rfl⟩
  obtain ⟨a12, e12⟩ : ∃ t, eI c A 1 2 = t := ⟨_, rfl⟩
  obtain ⟨a20, e20⟩ : ∃ t, eI c A 2 0 = t := ⟨_, rfl⟩
  obtain ⟨a21, e21⟩ : ∃ t, eI c A 2 1 = t := ⟨_, rfl⟩
  obtain ⟨a22, e22⟩ : ∃ t, eI c A 2 2 = t := ⟨_, rfl⟩
  obtain ⟨s1, hs1⟩ : ∃ s, s = a00 + a11 + a22 := ⟨_, rfl⟩
  obtain ⟨f1, x1⟩ := fl_next (c := c) (A := A) (n := 0) (s := s1) (by rw [e0, tr3 hc, e00, e11, e22, ← hs1]; simp)
  rw [e0] at f1
  have l1 : (flI c A 1).length = 3 := by rw [flI_length h1 hA']; exact hc
  have m1_00 : eI c (flI c A 1) 0 0 = a00 - s1 := by
    rw [f1, eI_less h1 hA' s1 (by omega) (by omega), e00]
    simp
  have m1_01 : eI c (flI c A 1) 0 1 = a01 := by
    rw [f1, eI_less h1 hA' s1 (by omega) (by omega), e01]
    simp
  have m1_02 : eI c (flI c A 1) 0 2 = a02 := by
    rw [f1, eI_less h1 hA' s1 (by omega) (by omega), e02]
    simp
  have m1_10 : eI c (flI c A 1) 1 0 = a10 := by
    rw [f1, eI_less h1 hA' s1 (by omega) (by omega), e10]
    simp
  have m1_11 : eI c (flI c A 1) 1 1 = a11 - s1 := by
    rw [f1, eI_less h1 hA' s1 (by omega) (by omega), e11]
    simp
  have m1_12 : eI c (flI c A 1) 1 2 = a12 := by
    rw [f1, eI_less h1 hA' s1 (by omega) (by omega), e12]
    simp
  have m1_20 : eI c (flI c A 1) 2 0 = a20 := by
    rw [f1, eI_less h1 hA' s1 (by omega) (by omega), e20]
    simp
  have m1_21 : eI c (flI c A 1) 2 1 = a21 := by
    rw [f1, eI_less h1 hA' s1 (by omega) (by omega), e21]
    simp
  have m1_22 : eI c (flI c A 1) 2 2 = a22 - s1 := by
    rw [f1, eI_less h1 hA' s1 (by omega) (by omega), e22]
    simp
  have p2_00 : eI c (mulI c A (flI c A 1)) 0 0 = ((a00 - s1) * a00 + (a10) * a01 + (a20) * a02) := by
    rw [e3_mul hc hA l1 (by decide), m1_00, m1_10, m1_20, e00, e01, e02]
  have p2_10 : eI c (mulI c A (flI c A 1)) 1 0 = ((a00 - s1) * a10 + (a10) * a11 + (a20) * a12) := by
    rw [e3_mul hc hA l1 (by decide), m1_00, m1_10, m1_20, e10, e11, e12]
  have p2_11 : eI c (mulI c A (flI c A 1)) 1 1 = ((a01) * a10 + (a11 - s1) * a11 + (a21) * a12) := by
    rw [e3_mul hc hA l1 (by decide), m1_01, m1_11, m1_21, e10, e11, e12]
  have p2_20 : eI c (mulI c A (flI c A 1)) 2 0 = ((a00 - s1) * a20 + (a10) * a21 + (a20) * a22) := by
    rw [e3_mul hc hA l1 (by decide), m1_00, m1_10, m1_20, e20, e21, e22]
  have p2_22 : eI c (mulI c A (flI c A 1)) 2 2 = ((a02) * a20 + (a12) * a21 + (a22 - s1) * a22) := by
    rw [e3_mul hc hA l1 (by decide), m1_02, m1_12, m1_22, e20, e21, e22]
  obtain ⟨s2, hs2⟩ : ∃ s, s = -((a00 * a11 - a01 * a10) + (a00 * a22 - a02 * a20) + (a11 * a22 - a12 * a21)) := ⟨_, rfl⟩
  obtain ⟨f2, x2⟩ := fl_next (c := c) (A := A) (n := 1) (s := s2) (by
    rw [tr3 hc, p2_00, p2_11, p2_22, hs2]
    rw [show (((1 : Nat) : Int) + 1) = 2 from rfl]
    subst hs1
    grind)
  have l2 : (flI c A 2).length = 3 := by rw [flI_length h1 hA']; exact hc
  have m2_00 : eI c (flI c A 2) 0 0 = ((a00 - s1) * a00 + (a10) * a01 + (a20) * a02) - s2 := by
    rw [f2, eI_less h1 (by rw [mulI_length h1 _ _ hA']) s2 (by omega) (by omega), p2_00]
    simp
  have m2_10 : eI c (flI c A 2) 1 0 = ((a00 - s1) * a10 + (a10) * a11 + (a20) * a12) := by
    rw [f2, eI_less h1 (by rw [mulI_length h1 _ _ hA']) s2 (by omega) (by omega), p2_10]
    simp
  have m2_20 : eI c (flI c A 2) 2 0 = ((a00 - s1) * a20 + (a10) * a21 + (a20) * a22) := by
    rw [f2, eI_less h1 (by rw [mulI_length h1 _ _ hA']) s2 (by omega) (by omega), p2_20]
    simp
  have p3_00 : eI c (mulI c A (flI c A 2)) 0 0 = (((((a00 - s1) * a00 + (a10) * a01 + (a20) * a02) - s2)) * a00 + ((((a00 - s1) * a10 + (a10) * a11 + (a20) * a12))) * a01 + ((((a00 - s1) * a20 + (a10) * a21 + (a20) * a22))) * a02) := by
    rw [e3_mul hc hA l2 (by decide), m2_00, m2_10, m2_20, e00, e01, e02]
  have p3_10 : eI c (mulI c A (flI c A 2)) 1 0 = (((((a00 - s1) * a00 + (a10) * a01 + (a20) * a02) - s2)) * a10 + ((((a00 - s1) * a10 + (a10) * a11 + (a20) * a12))) * a11 + ((((a00 - s1) * a20 + (a10) * a21 + (a20) * a22))) * a12) := by
    rw [e3_mul hc hA l2 (by decide), m2_00, m2_10, m2_20, e10, e11, e12]
  have p3_20 : eI c (mulI c A (flI c A 2)) 2 0 = (((((a00 - s1) * a00 + (a10) * a01 + (a20) * a02) - s2)) * a20 + ((((a00 - s1) * a10 + (a10) * a11 + (a20) * a12))) * a21 + ((((a00 - s1) * a20 + (a10) * a21 + (a20) * a22))) * a22) := by
    rw [e3_mul hc hA l2 (by decide), m2_00, m2_10, m2_20, e20, e21, e22]
  refine ⟨fun n hn => ?_, (mulI c A (flI c A 2)).getD 0 0, ?_⟩
  · have : n = 0 ∨ n = 1 := by omega
    rcases this with rfl | rfl
    · exact x1
    · exact x2
  · rw [hc]
    have hl : (mulI c A (flI c A 2)).length = 3 := by rw [mulI_length h1 _ _ hA']; exact hc
    have z1 : (mulI c A (flI c A 2)).getD 1 0 = 0 := by
      refine (show _ = eI c (mulI c A (flI c A 2)) 1 0 from rfl).trans (p3_10.trans ?_)
      subst hs1 hs2
      grind
    have z2 : (mulI c A (flI c A 2)).getD 2 0 = 0 := by
      refine (show _ = eI c (mulI c A (flI c A 2)) 2 0 from rfl).trans (p3_20.trans ?_)
      subst hs1 hs2
      grind
    rw [three hl, z1, z2]
    rfl
theorem fl4 {c A : List Int} (hc : c.length = 4) (hA : A.length = 4) : FlOk c A := by
  have h1 : 1 ≤ c.length := by omega
  have hA' : A.length = c.length := by omega
  have e0 : mulI c A (flI c A 0) = A := mulI_one h1 hA'
  obtain ⟨a00, e00⟩ : ∃ t, eI c A 0 0 = t := ⟨_, rfl⟩
  obtain ⟨a01, e01⟩ : ∃ t, eI c A 0 1 = t := ⟨_, rfl⟩
  obtain ⟨a02, e02⟩ : ∃ t, eI c A 0 2 = t := ⟨_, rfl⟩
  obtain ⟨a03, e03⟩ : ∃ t, eI c A 0 3 = t := ⟨_, rfl⟩
  obtain ⟨a10, e10⟩ : ∃ t, eI c A 1 0 = t := ⟨_, rfl⟩
  obtain ⟨a11, e11⟩ : ∃ t, eI c A 1 1 = t := ⟨_, rfl⟩
  obtain ⟨a12, e12⟩ : ∃ t, eI c A 1 2 = t := ⟨_, rfl⟩
  obtain ⟨a13, e13⟩ : ∃ t, eI c A 1 3 = t := ⟨_, rfl⟩
  obtain ⟨a20, e20⟩ : ∃ t, eI c A 2 0 = t := ⟨_, rfl⟩
  obtain ⟨a21, e21⟩ : ∃ t, eI c A 2 1 = t := ⟨_, rfl⟩
  obtain ⟨a22, e22⟩ : ∃ t, eI c A 2 2 = t := ⟨_, rfl⟩
  obtain ⟨a23, e23⟩ : ∃ t, eI c A 2 3 = t := ⟨_, rfl⟩
  obtain ⟨a30, e30⟩ : ∃ t, eI c A 3 0 = t := ⟨_, rfl⟩
  obtain ⟨a31, e31⟩ : ∃ t, eI c A 3 1 = t := ⟨_, rfl⟩
  obtain ⟨a32, e32⟩ : ∃ t, eI c A 3 2 = t := ⟨_, rfl⟩
  obtain ⟨a33, e33⟩ : ∃ t, eI c A 3 3 = t := ⟨_, rfl⟩
  obtain ⟨s1, hs1⟩ : ∃ s, s = a00 + a11 + a22 + a33 := ⟨_, rfl⟩
  obtain ⟨f1, x1⟩ := fl_next (c := c) (A := A) (n := 0) (s := s1) (by rw [e0, tr4 hc, e00, e11, e22, e33, ← hs1]; simp)
  rw [e0] at f1
  have l1 : (flI c A 1).length = 4 := by rw [flI_length h1 hA']; exact hc
  have m1_00 : eI c (flI c A 1) 0 0 = a00 - s1 := by
    rw [f1, eI_less h1 hA' s1 (by omega) (by omega), e00]
    simp
  have m1_01 : eI c (flI c A 1) 0 1 = a01 := by
    rw [f1, eI_less h1 hA' s1 (by omega) (by omega), e01]
    simp
  have m1_02 : eI c (flI c A 1) 0 2 = a02 := by
    rw [f1, eI_less h1 hA' s1 (by omega) (by omega), e02]
    simp
  have m1_03 : eI c (flI c A 1) 0 3 = a03 := by
    rw [f1, eI_less h1 hA' s1 (by omega) (by omega), e03]
    simp
  have m1_10 : eI c (flI c A 1) 1 0 = a10 := by
    rw [f1, eI_less h1 hA' s1 (by omega) (by omega), e10]
    simp
  have m1_11 : eI c (flI c A 1) 1 1 = a11 - s1 := by
    rw [f1, eI_less h1 hA' s1 (by omega) (by omega), e11]
    simp
  have m1_12 : eI c (flI c A 1) 1 2 = a12 := by
    rw [f1, eI_less h1 hA' s1 (by omega) (by omega), e12]
    simp
  have m1_13 : eI c (flI c A 1) 1 3 = a13 := by
    rw [f1, eI_less h1 hA' s1 (by omega) (by omega), e13]
    simp
  have m1_20 : eI c (flI c A 1) 2 0 = a20 := by
    rw [f1, eI_less h1 hA' s1 (by omega) (by omega), e20]
    simp
  have m1_21 : eI c (flI c A 1) 2 1 = a21 := by
    rw [f1, eI_less h1 hA' s1 (by omega) (by omega), e21]
    simp
  have m1_22 : eI c (flI c A 1) 2 2 = a22 - s1 := by
    rw [f1, eI_less h1 hA' s1 (by omega) (by omega), e22]
    simp
  have m1_23 : eI c (flI c A 1) 2 3 = a23 := by
    rw [f1, eI_less h1 hA' s1 (by omega) (by omega), e23]
    simp
  have m1_30 : eI c (flI c A 1) 3 0 = a30 := by
    rw [f1, eI_less h1 hA' s1 (by omega) (by omega), e30]
    simp
  have m1_31 : eI c (flI c A 1) 3 1 = a31 := by
    rw [f1, eI_less h1 hA' s1 (by omega) (by omega), e31]
    simp
  have m1_32 : eI c (flI c A 1) 3 2 = a32 := by
    rw [f1, eI_less h1 hA' s1 (by omega) (by omega), e32]
    simp
  have m1_33 : eI c (flI c A 1) 3 3 = a33 - s1 := by
    rw [f1, eI_less h1 hA' s1 (by omega) (by omega), e33]
    simp
  have p2_00 : eI c (mulI c A (flI c A 1)) 0 0 = ((a00 - s1) * a00 + (a10) * a01 + (a20) * a02 + (a30) * a03) := by
    rw [e4_mul hc hA l1 (by decide), m1_00, m1_10, m1_20, m1_30, e00, e01, e02, e03]
  have p2_01 : eI c (mulI c A (flI c A 1)) 0 1 = ((a01) * a00 + (a11 - s1) * a01 + (a21) * a02 + (a31) * a03) := by
    rw [e4_mul hc hA l1 (by decide), m1_01, m1_11, m1_21, m1_31, e00, e01, e02, e03]
  have p2_02 : eI c (mulI c A (flI c A 1)) 0 2 = ((a02) * a00 + (a12) * a01 + (a22 - s1) * a02 + (a32) * a03) := by
    rw [e4_mul hc hA l1 (by decide), m1_02, m1_12, m1_22, m1_32, e00, e01, e02, e03]
  have p2_03 : eI c (mulI c A (flI c A 1)) 0 3 = ((a03) * a00 + (a13) * a01 + (a23) * a02 + (a33 - s1) * a03) := by
    rw [e4_mul hc hA l1 (by decide), m1_03, m1_13, m1_23, m1_33, e00, e01, e02, e03]
  have p2_10 : eI c (mulI c A (flI c A 1)) 1 0 = ((a00 - s1) * a10 + (a10) * a11 + (a20) * a12 + (a30) * a13) := by
    rw [e4_mul hc hA l1 (by decide), m1_00, m1_10, m1_20, m1_30, e10, e11, e12, e13]
  have p2_11 : eI c (mulI c A (flI c A 1)) 1 1 = ((a01) * a10 + (a11 - s1) * a11 + (a21) * a12 + (a31) * a13) := by
    rw [e4_mul hc hA l1 (by decide), m1_01, m1_11, m1_21, m1_31, e10, e11, e12, e13]
  have p2_12 : eI c (mulI c A (flI c A 1)) 1 2 = ((a02) * a10 + (a12) * a11 + (a22 - s1) * a12 + (a32) * a13) := by
    rw [e4_mul hc hA l1 (by decide), m1_02, m1_12, m1_22, m1_32, e10, e11, e12, e13]
  have p2_13 : eI c (mulI c A (flI c A 1)) 1 3 = ((a03) * a10 + (a13) * a11 + (a23) * a12 + (a33 - s1) * a13) := by
    rw [e4_mul hc hA l1 (by decide), m1_03, m1_13, m1_23, m1_33, e10, e11, e12, e13]
  have p2_20 : eI c (mulI c A (flI c A 1)) 2 0 = ((a00 - s1) * a20 + (a10) * a21 + (a20) * a22 + (a30) * a23) := by
    rw [e4_mul hc hA l1 (by decide), m1_00, m1_10, m1_20, m1_30, e20, e21, e22, e23]
  have p2_21 : eI c (mulI c A (flI c A 1)) 2 1 = ((a01) * a20 + (a11 - s1) * a21 + (a21) * a22 + (a31) * a23) := by
    rw [e4_mul hc hA l1 (by decide), m1_01, m1_11, m1_21, m1_31, e20, e21, e22, e23]
  have p2_22 : eI c (mulI c A (flI c A 1)) 2 2 = ((a02) * a20 + (a12) * a21 + (a22 - s1) * a22 + (a32) * a23) := by
    rw [e4_mul hc hA l1 (by decide), m1_02, m1_12, m1_22, m1_32, e20, e21, e22, e23]
  have p2_23 : eI c (mulI c A (flI c A 1)) 2 3 = ((a03) * a20 + (a13) * a21 + (a23) * a22 + (a33 - s1) * a23) := by
    rw [e4_mul hc hA l1 (by decide), m1_03, m1_13, m1_23, m1_33, e20, e21, e22, e23]
  have p2_30 : eI c (mulI c A (flI c A 1)) 3 0 = ((a00 - s1) * a30 + (a10) * a31 + (a20) * a32 + (a30) * a33) := by
    rw [e4_mul hc hA l1 (by decide), m1_00, m1_10, m1_20, m1_30, e30, e31, e32, e33]
  have p2_31 : eI c (mulI c A (flI c A 1)) 3 1 = ((a01) * a30 + (a11 - s1) * a31 + (a21) * a32 + (a31) * a33) := by
    rw [e4_mul hc hA l1 (by decide), m1_01, m1_11, m1_21, m1_31, e30, e31, e32, e33]
  have p2_32 : eI c (mulI c A (flI c A 1)) 3 2 = ((a02) * a30 + (a12) * a31 + (a22 - s1) * a32 + (a32) * a33) := by
    rw [e4_mul hc hA l1 (by decide), m1_02, m1_12, m1_22, m1_32, e30, e31, e32, e33]
  have p2_33 : eI c (mulI c A (flI c A 1)) 3 3 = ((a03) * a30 + (a13) * a31 + (a23) * a32 + (a33 - s1) * a33) := by
    rw [e4_mul hc hA l1 (by decide), m1_03, m1_13, m1_23, m1_33, e30, e31, e32, e33]
  obtain ⟨s2, hs2⟩ : ∃ s, s = -((a00 * a11 - a01 * a10) + (a00 * a22 - a02 * a20) + (a00 * a33 - a03 * a30) + (a11 * a22 - a12 * a21) + (a11 * a33 - a13 * a31) + (a22 * a33 - a23 * a32)) := ⟨_, rfl⟩
  obtain ⟨f2, x2⟩ := fl_next (c := c) (A := A) (n := 1) (s := s2) (by
    rw [tr4 hc, p2_00, p2_11, p2_22, p2_33, hs2]
    rw [show (((1 : Nat) : Int) + 1) = 2 from rfl]
    subst hs1
    grind)
  have l2 : (flI c A 2).length = 4 := by rw [flI_length h1 hA']; exact hc
  have m2_00 : eI c (flI c A 2) 0 0 = ((a00 - s1) * a00 + (a10) * a01 + (a20) * a02 + (a30) * a03) - s2 := by
    rw [f2, eI_less h1 (by rw [mulI_length h1 _ _ hA']) s2 (by omega) (by omega), p2_00]
    simp
  have m2_01 : eI c (flI c A 2) 0 1 = ((a01) * a00 + (a11 - s1) * a01 + (a21) * a02 + (a31) * a03) := by
    rw [f2, eI_less h1 (by rw [mulI_length h1 _ _ hA']) s2 (by omega) (by omega), p2_01]
    simp
  have m2_02 : eI c (flI c A 2) 0 2 = ((a02) * a00 + (a12) * a01 + (a22 - s1) * a02 + (a32) * a03) := by
    rw [f2, eI_less h1 (by rw [mulI_length h1 _ _ hA']) s2 (by omega) (by omega), p2_02]
    simp
  have m2_03 : eI c (flI c A 2) 0 3 = ((a03) * a00 + (a13) * a01 + (a23) * a02 + (a33 - s1) * a03) := by
    rw [f2, eI_less h1 (by rw [mulI_length h1 _ _ hA']) s2 (by omega) (by omega), p2_03]
    simp
  have m2_10 : eI c (flI c A 2) 1 0 = ((a00 - s1) * a10 + (a10) * a11 + (a20) * a12 + (a30) * a13) := by
    rw [f2, eI_less h1 (by rw [mulI_length h1 _ _ hA']) s2 (by omega) (by omega), p2_10]
    simp
  have m2_11 : eI c (flI c A 2) 1 1 = ((a01) * a10 + (a11 - s1) * a11 + (a21) * a12 + (a31) * a13) - s2 := by
    rw [f2, eI_less h1 (by rw [mulI_length h1 _ _ hA']) s2 (by omega) (by omega), p2_11]
    simp
  have m2_12 : eI c (flI c A 2) 1 2 = ((a02) * a10 + (a12) * a11 + (a22 - s1) * a12 + (a32) * a13) := by
    rw [f2, eI_less h1 (by rw [mulI_length h1 _ _ hA']) s2 (by omega) (by omega), p2_12]
    simp
  have m2_13 : eI c (flI c A 2) 1 3 = ((a03) * a10 + (a13) * a11 + (a23) * a12 + (a33 - s1) * a13) := by
    rw [f2, eI_less h1 (by rw [mulI_length h1 _ _ hA']) s2 (by omega) (by omega), p2_13]
    simp
  have m2_20 : eI c (flI c A 2) 2 0 = ((a00 - s1) * a20 + (a10) * a21 + (a20) * a22 + (a30) * a23) := by
    rw [f2, eI_less h1 (by rw [mulI_length h1 _ _ hA']) s2 (by omega) (by omega), p2_20]
    simp
  have m2_21 : eI c (flI c A 2) 2 1 = ((a01) * a20 + (a11 - s1) * a21 + (a21) * a22 + (a31) * a23) := by
    rw [f2, eI_less h1 (by rw [mulI_length h1 _ _ hA']) s2 (by omega) (by omega), p2_21]
    simp
  have m2_22 : eI c (flI c A 2) 2 2 = ((a02) * a20 + (a12) * a21 + (a22 - s1) * a22 + (a32) * a23) - s2 := by
    rw [f2, eI_less h1 (by rw [mulI_length h1 _ _ hA']) s2 (by omega) (by omega), p2_22]
    simp
  have m2_23 : eI c (flI c A 2) 2 3 = ((a03) * a20 + (a13) * a21 + (a23) * a22 + (a33 - s1) * a23) := by
    rw [f2, eI_less h1 (by rw [mulI_length h1 _ _ hA']) s2 (by omega) (by omega), p2_23]
    simp
  have m2_30 : eI c (flI c A 2) 3 0 = ((a00 - s1) * a30 + (a10) * a31 + (a20) * a32 + (a30) * a33) := by
    rw [f2, eI_less h1 (by rw [mulI_length h1 _ _ hA']) s2 (by omega) (by omega), p2_30]
    simp
  have m2_31 : eI c (flI c A 2) 3 1 = ((a01) * a30 + (a11 - s1) * a31 + (a21) * a32 + (a31) * a33) := by
    rw [f2, eI_less h1 (by rw [mulI_length h1 _ _ hA']) s2 (by omega) (by omega), p2_31]
    simp
  have m2_32 : eI c (flI c A 2) 3 2 = ((a02) * a30 + (a12) * a31 + (a22 - s1) * a32 + (a32) * a33) := by
    rw [f2, eI_less h1 (by rw [mulI_length h1 _ _ hA']) s2 (by omega) (by omega), p2_32]
    simp
  have m2_33 : eI c (flI c A 2) 3 3 = ((a03) * a30 + (a13) * a31 + (a23) * a32 + (a33 - s1) * a33) - s2 := by
    rw [f2, eI_less h1 (by rw [mulI_length h1 _ _ hA']) s2 (by omega) (by omega), p2_33]
    simp
  have p3_00 : eI c (mulI c A (flI c A 2)) 0 0 = (((((a00 - s1) * a00 + (a10) * a01 + (a20) * a02 + (a30) * a03) - s2)) * a00 + ((((a00 - s1) * a10 + (a10) * a11 + (a20) * a12 + (a30) * a13))) * a01 + ((((a00 - s1) * a20 + (a10) * a21 + (a20) * a22 + (a30) * a23))) * a02 + ((((a00 - s1) * a30 + (a10) * a31 + (a20) * a32 + (a30) * a33))) * a03) := by
    rw [e4_mul hc hA l2 (by decide), m2_00, m2_10, m2_20, m2_30, e00, e01, e02, e03]
  have p3_10 : eI c (mulI c A (flI c A 2)) 1 0 = (((((a00 - s1) * a00 + (a10) * a01 + (a20) * a02 + (a30) * a03) - s2)) * a10 + ((((a00 - s1) * a10 + (a10) * a11 + (a20) * a12 + (a30) * a13))) * a11 + ((((a00 - s1) * a20 + (a10) * a21 + (a20) * a22 + (a30) * a23))) * a12 + ((((a00 - s1) * a30 + (a10) * a31 + (a20) * a32 + (a30) * a33))) * a13) := by
    rw [e4_mul hc hA l2 (by decide), m2_00, m2_10, m2_20, m2_30, e10, e11, e12, e13]
  have p3_11 : eI c (mulI c A (flI c A 2)) 1 1 = (((((a01) * a00 + (a11 - s1) * a01 + (a21) * a02 + (a31) * a03))) * a10 + ((((a01) * a10 + (a11 - s1) * a11 + (a21) * a12 + (a31) * a13) - s2)) * a11 + ((((a01) * a20 + (a11 - s1) * a21 + (a21) * a22 + (a31) * a23))) * a12 + ((((a01) * a30 + (a11 - s1) * a31 + (a21) * a32 + (a31) * a33))) * a13) := by
    rw [e4_mul hc hA l2 (by decide), m2_01, m2_11, m2_21, m2_31, e10, e11, e12, e13]
  have p3_20 : eI c (mulI c A (flI c A 2)) 2 0 = (((((a00 - s1) * a00 + (a10) * a01 + (a20) * a02 + (a30) * a03) - s2)) * a20 + ((((a00 - s1) * a10 + (a10) * a11 + (a20) * a12 + (a30) * a13))) * a21 + ((((a00 - s1) * a20 + (a10) * a21 + (a20) * a22 + (a30) * a23))) * a22 + ((((a00 - s1) * a30 + (a10) * a31 + (a20) * a32 + (a30) * a33))) * a23) := by
    rw [e4_mul hc hA l2 (by decide), m2_00, m2_10, m2_20, m2_30, e20, e21, e22, e23]
  have p3_22 : eI c (mulI c A (flI c A 2)) 2 2 = (((((a02) * a00 + (a12) * a01 + (a22 - s1) * a02 + (a32) * a03))) * a20 + ((((a02) * a10 + (a12) * a11 + (a22 - s1) * a12 + (a32) * a13))) * a21 + ((((a02) * a20 + (a12) * a21 + (a22 - s1) * a22 + (a32) * a23) - s2)) * a22 + ((((a02) * a30 + (a12) * a31 + (a22 - s1) * a32 + (a32) * a33))) * a23) := by
    rw [e4_mul hc hA l2 (by decide), m2_02, m2_12, m2_22, m2_32, e20, e21, e22, e23]
  have p3_30 : eI c (mulI c A (flI c A 2)) 3 0 = (((((a00 - s1) * a00 + (a10) * a01 + (a20) * a02 + (a30) * a03) - s2)) * a30 + ((((a00 - s1) * a10 + (a10) * a11 + (a20) * a12 + (a30) * a13))) * a31 + ((((a00 - s1) * a20 + (a10) * a21 + (a20) * a22 + (a30) * a23))) * a32 + ((((a00 - s1) * a30 + (a10) * a31 + (a20) * a32 + (a30) * a33))) * a33) := by
    rw [e4_mul hc hA l2 (by decide), m2_00, m2_10, m2_20, m2_30, e30, e31, e32, e33]
  have p3_33 : eI c (mulI c A (flI c A 2)) 3 3 = (((((a03) * a00 + (a13) * a01 + (a23) * a02 + (a33 - s1) * a03))) * a30 + ((((a03) * a10 + (a13) * a11 + (a23) * a12 + (a33 - s1) * a13))) * a31 + ((((a03) * a20 + (a13) * a21 + (a23) * a22 + (a33 - s1) * a23))) * a32 + ((((a03) * a30 + (a13) * a31 + (a23) * a32 + (a33 - s1) * a33) - s2)) * a33) := by
    rw [e4_mul hc hA l2 (by decide), m2_03, m2_13, m2_23, m2_33, e30, e31, e32, e33]
  obtain ⟨s3, hs3⟩ : ∃ s, s = (a00 * (a11 * a22 - a12 * a21) - a01 * (a10 * a22 - a12 * a20) + a02 * (a10 * a21 - a11 * a20)) + (a00 * (a11 * a33 - a13 * a31) - a01 * (a10 * a33 - a13 * a30) + a03 * (a10 * a31 - a11 * a30)) + (a00 * (a22 * a33 - a23 * a32) - a02 * (a20 * a33 - a23 * a30) + a03 * (a20 * a32 - a22 * a30)) + (a11 * (a22 * a33 - a23 * a32) - a12 * (a21 * a33 - a23 * a31) + a13 * (a21 * a32 - a22 * a31)) := ⟨_, rfl⟩
  obtain ⟨f3, x3⟩ := fl_next (c := c) (A := A) (n := 2) (s := s3) (by
    rw [tr4 hc, p3_00, p3_11, p3_22, p3_33, hs3]
    rw [show (((2 : Nat) : Int) + 1) = 3 from rfl]
    subst hs1 hs2
    grind)
  have l3 : (flI c A 3).length = 4 := by rw [flI_length h1 hA']; exact hc
  have m3_00 : eI c (flI c A 3) 0 0 = (((((a00 - s1) * a00 + (a10) * a01 + (a20) * a02 + (a30) * a03) - s2)) * a00 + ((((a00 - s1) * a10 + (a10) * a11 + (a20) * a12 + (a30) * a13))) * a01 + ((((a00 - s1) * a20 + (a10) * a21 + (a20) * a22 + (a30) * a23))) * a02 + ((((a00 - s1) * a30 + (a10) * a31 + (a20) * a32 + (a30) * a33))) * a03) - s3 := by
    rw [f3, eI_less h1 (by rw [mulI_length h1 _ _ hA']) s3 (by omega) (by omega), p3_00]
    simp
  have m3_10 : eI c (flI c A 3) 1 0 = (((((a00 - s1) * a00 + (a10) * a01 + (a20) * a02 + (a30) * a03) - s2)) * a10 + ((((a00 - s1) * a10 + (a10) * a11 + (a20) * a12 + (a30) * a13))) * a11 + ((((a00 - s1) * a20 + (a10) * a21 + (a20) * a22 + (a30) * a23))) * a12 + ((((a00 - s1) * a30 + (a10) * a31 + (a20) * a32 + (a30) * a33))) * a13) := by
    rw [f3, eI_less h1 (by rw [mulI_length h1 _ _ hA']) s3 (by omega) (by omega), p3_10]
    simp
  have m3_20 : eI c (flI c A 3) 2 0 = (((((a00 - s1) * a00 + (a10) * a01 + (a20) * a02 + (a30) * a03) - s2)) * a20 + ((((a00 - s1) * a10 + (a10) * a11 + (a20) * a12 + (a30) * a13))) * a21 + ((((a00 - s1) * a20 + (a10) * a21 + (a20) * a22 + (a30) * a23))) * a22 + ((((a00 - s1) * a30 + (a10) * a31 + (a20) * a32 + (a30) * a33))) * a23) := by
    rw [f3, eI_less h1 (by rw [mulI_length h1 _ _ hA']) s3 (by omega) (by omega), p3_20]
    simp
  have m3_30 : eI c (flI c A 3) 3 0 = (((((a00 - s1) * a00 + (a10) * a01 + (a20) * a02 + (a30) * a03) - s2)) * a30 + ((((a00 - s1) * a10 + (a10) * a11 + (a20) * a12 + (a30) * a13))) * a31 + ((((a00 - s1) * a20 + (a10) * a21 + (a20) * a22 + (a30) * a23))) * a32 + ((((a00 - s1) * a30 + (a10) * a31 + (a20) * a32 + (a30) * a33))) * a33) := by
    rw [f3, eI_less h1 (by rw [mulI_length h1 _ _ hA']) s3 (by omega) (by omega), p3_30]
    simp
  have p4_00 : eI c (mulI c A (flI c A 3)) 0 0 = ((((((((a00 - s1) * a00 + (a10) * a01 + (a20) * a02 + (a30) * a03) - s2)) * a00 + ((((a00 - s1) * a10 + (a10) * a11 + (a20) * a12 + (a30) * a13))) * a01 + ((((a00 - s1) * a20 + (a10) * a21 + (a20) * a22 + (a30) * a23))) * a02 + ((((a00 - s1) * a30 + (a10) * a31 + (a20) * a32 + (a30) * a33))) * a03) - s3)) * a00 + (((((((a00 - s1) * a00 + (a10) * a01 + (a20) * a02 + (a30) * a03) - s2)) * a10 + ((((a00 - s1) * a10 + (a10) * a11 + (a20) * a12 + (a30) * a13))) * a11 + ((((a00 - s1) * a20 + (a10) * a21 + (a20) * a22 + (a30) * a23))) * a12 + ((((a00 - s1) * a30 + (a10) * a31 + (a20) * a32 + (a30) * a33))) * a13))) * a01 + (((((((a00 - s1) * a00 + (a10) * a01 + (a20) * a02 + (a30) * a03) - s2)) * a20 + ((((a00 - s1) * a10 + (a10) * a11 + (a20) * a12 + (a30) * a13))) * a21 + ((((a00 - s1) * a20 + (a10) * a21 + (a20) * a22 + (a30) * a23))) * a22 + ((((a00 - s1) * a30 + (a10) * a31 + (a20) * a32 + (a30) * a33))) * a23))) * a02 + (((((((a00 - s1) * a00 + (a10) * a01 + (a20) * a02 + (a30) * a03) - s2)) * a30 + ((((a00 - s1) * a10 + (a10) * a11 + (a20) * a12 + (a30) * a13))) * a31 + ((((a00 - s1) * a20 + (a10) * a21 + (a20) * a22 + (a30) * a23))) * a32 + ((((a00 - s1) * a30 + (a10) * a31 + (a20) * a32 + (a30) * a33))) * a33))) * a03) := by
    rw [e4_mul hc hA l3 (by decide), m3_00, m3_10, m3_20, m3_30, e00, e01, e02, e03]
  have p4_10 : eI c (mulI c A (flI c A 3)) 1 0 = ((((((((a00 - s1) * a00 + (a10) * a01 + (a20) * a02 + (a30) * a03) - s2)) * a00 + ((((a00 - s1) * a10 + (a10) * a11 + (a20) * a12 + (a30) * a13))) * a01 + ((((a00 - s1) * a20 + (a10) * a21 + (a20) * a22 + (a30) * a23))) * a02 + ((((a00 - s1) * a30 + (a10) * a31 + (a20) * a32 + (a30) * a33))) * a03) - s3)) * a10 + (((((((a00 - s1) * a00 + (a10) * a01 + (a20) * a02 + (a30) * a03) - s2)) * a10 + ((((a00 - s1) * a10 + (a10) * a11 + (a20) * a12 + (a30) * a13))) * a11 + ((((a00 - s1) * a20 + (a10) * a21 + (a20) * a22 + (a30) * a23))) * a12 + ((((a00 - s1) * a30 + (a10) * a31 + (a20) * a32 + (a30) * a33))) * a13))) * a11 + (((((((a00 - s1) * a00 + (a10) * a01 + (a20) * a02 + (a30) * a03) - s2)) * a20 + ((((a00 - s1) * a10 + (a10) * a11 + (a20) * a12 + (a30) * a13))) * a21 + ((((a00 - s1) * a20 + (a10) * a21 + (a20) * a22 + (a30) * a23))) * a22 + ((((a00 - s1) * a30 + (a10) * a31 + (a20) * a32 + (a30) * a33))) * a23))) * a12 + (((((((a00 - s1) * a00 + (a10) * a01 + (a20) * a02 + (a30) * a03) - s2)) * a30 + ((((a00 - s1) * a10 + (a10) * a11 + (a20) * a12 + (a30) * a13))) * a31 + ((((a00 - s1) * a20 + (a10) * a21 + (a20) * a22 + (a30) * a23))) * a32 + ((((a00 - s1) * a30 + (a10) * a31 + (a20) * a32 + (a30) * a33))) * a33))) * a13) := by
    rw [e4_mul hc hA l3 (by decide), m3_00, m3_10, m3_20, m3_30, e10, e11, e12, e13]
  have p4_20 : eI c (mulI c A (flI c A 3)) 2 0 = ((((((((a00 - s1) * a00 + (a10) * a01 + (a20) * a02 + (a30) * a03) - s2)) * a00 + ((((a00 - s1) * a10 + (a10) * a11 + (a20) * a12 + (a30) * a13))) * a01 + ((((a00 - s1) * a20 + (a10) * a21 + (a20) * a22 + (a30) * a23))) * a02 + ((((a00 - s1) * a30 + (a10) * a31 + (a20) * a32 + (a30) * a33))) * a03) - s3)) * a20 + (((((((a00 - s1) * a00 + (a10) * a01 + (a20) * a02 + (a30) * a03) - s2)) * a10 + ((((a00 - s1) * a10 + (a10) * a11 + (a20) * a12 + (a30) * a13))) * a11 + ((((a00 - s1) * a20 + (a10) * a21 + (a20) * a22 + (a30) * a23))) * a12 + ((((a00 - s1) * a30 + (a10) * a31 + (a20) * a32 + (a30) * a33))) * a13))) * a21 + (((((((a00 - s1) * a00 + (a10) * a01 + (a20) * a02 + (a30) * a03) - s2)) * a20 + ((((a00 - s1) * a10 + (a10) * a11 + (a20) * a12 + (a30) * a13))) * a21 + ((((a00 - s1) * a20 + (a10) * a21 + (a20) * a22 + (a30) * a23))) * a22 + ((((a00 - s1) * a30 + (a10) * a31 + (a20) * a32 + (a30) * a33))) * a23))) * a22 + (((((((a00 - s1) * a00 + (a10) * a01 + (a20) * a02 + (a30) * a03) - s2)) * a30 + ((((a00 - s1) * a10 + (a10) * a11 + (a20) * a12 + (a30) * a13))) * a31 + ((((a00 - s1) * a20 + (a10) * a21 + (a20) * a22 + (a30) * a23))) * a32 + ((((a00 - s1) * a30 + (a10) * a31 + (a20) * a32 + (a30) * a33))) * a33))) * a23) := by
    rw [e4_mul hc hA l3 (by decide), m3_00, m3_10, m3_20, m3_30, e20, e21, e22, e23]
  have p4_30 : eI c (mulI c A (flI c A 3)) 3 0 = ((((((((a00 - s1) * a00 + (a10) * a01 + (a20) * a02 + (a30) * a03) - s2)) * a00 + ((((a00 - s1) * a10 + (a10) * a11 + (a20) * a12 + (a30) * a13))) * a01 + ((((a00 - s1) * a20 + (a10) * a21 + (a20) * a22 + (a30) * a23))) * a02 + ((((a00 - s1) * a30 + (a10) * a31 + (a20) * a32 + (a30) * a33))) * a03) - s3)) * a30 + (((((((a00 - s1) * a00 + (a10) * a01 + (a20) * a02 + (a30) * a03) - s2)) * a10 + ((((a00 - s1) * a10 + (a10) * a11 + (a20) * a12 + (a30) * a13))) * a11 + ((((a00 - s1) * a20 + (a10) * a21 + (a20) * a22 + (a30) * a23))) * a12 + ((((a00 - s1) * a30 + (a10) * a31 + (a20) * a32 + (a30) * a33))) * a13))) * a31 + (((((((a00 - s1) * a00 + (a10) * a01 + (a20) * a02 + (a30) * a03) - s2)) * a20 + ((((a00 - s1) * a10 + (a10) * a11 + (a20) * a12 + (a30) * a13))) * a21 + ((((a00 - s1) * a20 + (a10) * a21 + (a20) * a22 + (a30) * a23))) * a22 + ((((a00 - s1) * a30 + (a10) * a31 + (a20) * a32 + (a30) * a33))) * a23))) * a32 + (((((((a00 - s1) * a00 + (a10) * a01 + (a20) * a02 + (a30) * a03) - s2)) * a30 + ((((a00 - s1) * a10 + (a10) * a11 + (a20) * a12 + (a30) * a13))) * a31 + ((((a00 - s1) * a20 + (a10) * a21 + (a20) * a22 + (a30) * a23))) * a32 + ((((a00 - s1) * a30 + (a10) * a31 + (a20) * a32 + (a30) * a33))) * a33))) * a33) := by
    rw [e4_mul hc hA l3 (by decide), m3_00, m3_10, m3_20, m3_30, e30, e31, e32, e33]
  refine ⟨fun n hn => ?_, (mulI c A (flI c A 3)).getD 0 0, ?_⟩
  · have : n = 0 ∨ n = 1 ∨ n = 2 := by omega
    rcases this with rfl | rfl | rfl
    · exact x1
    · exact x2
    · exact x3
  · rw [hc]
    have hl : (mulI c A (flI c A 3)).length = 4 := by rw [mulI_length h1 _ _ hA']; exact hc
    have z1 : (mulI c A (flI c A 3)).getD 1 0 = 0 := by
      refine (show _ = eI c (mulI c A (flI c A 3)) 1 0 from rfl).trans (p4_10.trans ?_)
      subst hs1 hs2 hs3
      grind
    have z2 : (mulI c A (flI c A 3)).getD 2 0 = 0 := by
      refine (show _ = eI c (mulI c A (flI c A 3)) 2 0 from rfl).trans (p4_20.trans ?_)
      subst hs1 hs2 hs3
      grind
    have z3 : (mulI c A (flI c A 3)).getD 3 0 = 0 := by
      refine (show _ = eI c (mulI c A (flI c A 3)) 3 0 from rfl).trans (p4_30.trans ?_)
      subst hs1 hs2 hs3
      grind
    rw [four hl, z1, z2, z3]
    rfl

end Rr

end
section
set_option linter.all false
set_option maxHeartbeats 4000000
namespace Rr
open Root
theorem fl_ok {c A : List Int} (h1 : 1 ≤ c.length) (h4 : c.length ≤ 4) (hA : A.length = c.length) : FlOk c A := by
  have : c.length = 1 ∨ c.length = 2 ∨ c.length = 3 ∨ c.length = 4 := by omega
  rcases this with e | e | e | e
  · exact fl1 e (by omega)
  · exact fl2 e (by omega)
  · exact fl3 e (by omega)
  · exact fl4 e (by omega)
theorem isZero_rI {A : List Int} (h : ∃ z ∈ A, z ≠ 0) : isZero (rI A) = false := by
  obtain ⟨z, hz, h0⟩ := h
  cases e : isZero (rI A) with
  | false => rfl
  | true =>
    unfold isZero rI at e
    rw [List.all_eq_true] at e
    have := e (z : Rat) (List.mem_map.mpr ⟨z, hz, rfl⟩)
    have h1 : (z : Rat) = 0 := by simpa using this
    exact absurd (Rat.intCast_eq_zero_iff.mp h1) h0
theorem rI_inj {A B : List Int} (h : rI A = rI B) : A = B := by
  unfold rI at h
  have inj : ∀ x y : Int, (x : Rat) = (y : Rat) → x = y := fun x y e => Rat.intCast_inj.mp e
  exact (List.map_inj_right inj).mp h
theorem mulI_zero {c A B : List Int} (h : refusal c = 0) (hc : 1 ≤ c.length) (hA : A.length = c.length) (hB : B.length = c.length) (hnz : ∃ z ∈ A, z ≠ 0) (e : mulI c A B = List.replicate c.length 0) : B = List.replicate c.length 0 := by
  refine rI_inj (cancel h (a := rI A) (by rw [rI_length]; exact hA) (isZero_rI hnz) (by rw [rI_length]; exact hB) (by rw [rI_length, List.length_replicate]) ?_)
  have e1 := mulI_cg hc B A hA
  rw [e] at e1
  refine e1.trans (Cg.of_eq fun x => ?_)
  show pI _ x = pI A x * pI _ x
  rw [pI_zeros]
  grind
theorem xI_zeros {c : List Int} (hc : 1 ≤ c.length) : xI c (List.replicate c.length 0) = List.replicate c.length 0 := by
  refine (xI_is hc (List.length_replicate) (List.length_replicate) (Cg.of_eq fun x => ?_)).symm
  rw [pI_zeros]
  grind
theorem colI_zeros {c : List Int} (hc : 1 ≤ c.length) : ∀ j, colI c (List.replicate c.length 0) j = List.replicate c.length 0
  | 0 => rfl
  | j + 1 => by
    show xI c _ = _
    rw [colI_zeros hc j, xI_zeros hc]
theorem trN_zeros {c : List Int} (hc : 1 ≤ c.length) : ∀ n, trN c (List.replicate c.length 0) n = 0
  | 0 => rfl
  | n + 1 => by
    show trN c _ n + (colI c _ n).getD n 0 = 0
    rw [trN_zeros hc n, colI_zeros hc, List.getD_eq_getElem?_getD, List.getElem?_replicate]
    split <;> rfl
theorem flI_ne {c A : List Int} (h : refusal c = 0) (hc : 1 ≤ c.length) (hA : A.length = c.length) (hnz : ∃ z ∈ A, z ≠ 0) (hfl : FlOk c A) : ∀ n, n < c.length → flI c A n ≠ List.replicate c.length 0
  | 0, hn => fun e => by
    obtain ⟨m, hm⟩ : ∃ m, c.length = m + 1 := ⟨c.length - 1, by omega⟩
    have e' : (1 : Int) :: List.replicate (c.length - 1) 0 = List.replicate c.length 0 := e
    rw [hm, List.replicate_succ] at e'
    have := (List.cons.inj e').1
    omega
  | n + 1, hn => fun e => by
    have hm := mulI_length hc (flI c A n) A hA
    have hex := hfl.ex n (by omega)
    have e2 : flI c A (n + 1) = lessI (mulI c A (flI c A n)) (trI c (mulI c A (flI c A n)) / ((n : Int) + 1)) := rfl
    generalize hs : trI c (mulI c A (flI c A n)) / ((n : Int) + 1) = s at *
    have e3 := trI_less hc hm s
    rw [← e2, e] at e3
    have e4 : trI c (List.replicate c.length 0) = 0 := trN_zeros hc _
    rw [e4, ← hex] at e3
    have e5 : ((n : Int) + 1 - (c.length : Int)) * s = 0 := by grind
    have e6 : s = 0 := by
      rcases Int.mul_eq_zero.mp e5 with z | z
      · omega
      · exact z
    subst e6
    have e7 : lessI (mulI c A (flI c A n)) 0 = mulI c A (flI c A n) := by
      unfold lessI
      cases z : mulI c A (flI c A n) with
      | nil => rw [z] at hm; simp at hm; omega
      | cons a l => show (a - 0) :: l = a :: l; rw [Int.sub_zero]
    rw [e7] at e2
    exact flI_ne h hc hA hnz hfl n (by omega) (mulI_zero h hc hA (flI_length hc hA n) hnz (by rw [← e2, e]))
theorem fl_whole {c A : List Int} (h : refusal c = 0) (hc : 1 ≤ c.length) (h4 : c.length ≤ 4) (hA : A.length = c.length) (hnz : ∃ z ∈ A, z ≠ 0) : ∃ D : Int, D ≠ 0 ∧ mulI c A (flI c A (c.length - 1)) = D :: List.replicate (c.length - 1) 0 ∧ Cg c (fun x => pI A x * pI (flI c A (c.length - 1)) x) (fun _ => (D : Rat)) := by
  have hfl := fl_ok hc h4 hA
  obtain ⟨D, hD⟩ := hfl.fin
  refine ⟨D, fun z => ?_, hD, ?_⟩
  · subst z
    refine flI_ne h hc hA hnz hfl (c.length - 1) (by omega) (mulI_zero h hc hA (flI_length hc hA _) hnz ?_)
    rw [hD, ← List.replicate_succ]
    congr 1
    omega
  · have := mulI_cg hc (flI c A (c.length - 1)) A hA
    rw [hD] at this
    refine this.trans (Cg.of_eq fun x => ?_)
    rw [pI_cons, pI_zeros]
    grind
end Rr

end
section
set_option linter.all false
set_option maxHeartbeats 4000000
namespace Rr
open Root
def cutR (w : Nat) (l : List Int) (n : Nat) : List (List Int) := (List.range n).map fun (i : Nat) => (l.drop (i * w)).take w
def cutAll (w : Nat) (l : List Int) : List (List Int) := cutR w l ((l.length + (w - 1)) / w)
def horn (c : List Int) (y : Num) (l : List Num) : Num := l.foldr (fun (a s : Num) => Root.plus (Root.times c s y) a) (zeroIn c.length)
end Rr

end
section
set_option linter.all false
set_option maxHeartbeats 4000000
namespace Rr
open Root
def svI : List Int → Int → Int → Int
  | [], _, _ => 0
  | a :: l, t, b => svI l t b * t + a * b ^ l.length
end Rr

end
section
set_option linter.all false
set_option maxHeartbeats 4000000
namespace Rr
open Root
def slI : Nat → List Int → Int
  | _, [] => 0
  | j, a :: l => slI (j + 1) l * 1001 + (j : Int) * (a.natAbs : Int)
end Rr

end
section
set_option linter.all false
set_option maxHeartbeats 4000000
namespace Rr
open Root
structure At (c : List Int) (k : Nat) (low B : Int) : Prop where
  b0 : 0 < B
  lo : Lo c k ((low : Rat) / (B : Rat))
  hi : ¬ Lo c k (((low + 1 : Int) : Rat) / (B : Rat))
  far : -1001 * B ≤ low
  near : low + 1 ≤ 1001 * B
end Rr

end
section
set_option linter.all false
set_option maxHeartbeats 4000000
namespace Rr
open Root
end Rr

end
section
set_option linter.all false
set_option maxHeartbeats 4000000
namespace Rr
open Root
end Rr

end
section
set_option linter.all false
set_option maxHeartbeats 4000000
namespace Rr
open Root
end Rr

end
section
set_option linter.all false
set_option maxHeartbeats 4000000
namespace Rr
open Root
def codes (m : Nat) : List Nat := (Nat.toDigits 10 m).map Char.toNat
def wide : Nat → Nat → List Nat
  | 0, m => codes m
  | n + 1, m => wide n (m / 10) ++ [48 + m % 10]
def near (c : List Int) (x : Num) (k : Nat) : Int := if signIn c x k < 0 then -floorOf c (Root.plus (scaled (-1) x) (scaled (1 / 2) (oneIn c.length))) k else floorOf c (Root.plus x (scaled (1 / 2) (oneIn c.length))) k
end Rr

end
section
set_option linter.all false
set_option maxHeartbeats 4000000
namespace Rr
open Root

end Rr

end
section
set_option linter.all false
set_option maxHeartbeats 4000000
namespace Rr
open Root
def nI (c A : List Int) : Int := (if c.length % 2 = 0 then -1 else 1) * (mulI c A (flI c A (c.length - 1))).getD 0 0
end Rr

end
section
set_option linter.all false
set_option maxHeartbeats 4000000
namespace Rr
open Root
def lessOf (τ : Num → Rat) (x : Num) (l : List Num) : List Num := l.map fun (v : Num) => Root.minus v (scaled (τ v) x)
theorem power_length {c : List Int} (h1 : 1 ≤ c.length) {a : Num} (ha : a.length = c.length) : ∀ k, (Root.power c a k).length = c.length
  | 0 => oneIn_length _
  | k + 1 => times_length h1 (power_length h1 ha k) ha
end Rr

end
section
set_option linter.all false
namespace Rr
open Root
def fp : List Int → Nat
  | [] => 0
  | z :: l => if z = 0 then fp l + 1 else 0
def redZ (o r : List Int) : List Int := List.zipWith (fun (m n : Int) => o.getD (fp o) 0 * m - r.getD (fp o) 0 * n) r o
def redS (r o : List Int) : List Int := if r.getD (fp o) 0 ≠ 0 then lessRow (redZ o r) else r
def redI : List (List Int) → List Int → List Int
  | [], r => r
  | o :: ls, r => redI ls (redS r o)
structure Tri (d n : Nat) (ls : List (List Int)) : Prop where
  pw : ls.Pairwise fun (l m : List Int) => m.getD (fp l) 0 = 0
  at0 : ∀ l ∈ ls, l.getD (fp l) 0 ≠ 0
  lt : ∀ l ∈ ls, fp l < d
  len : ∀ l ∈ ls, l.length = n
def tk (d : Nat) (l : List Int) : Num := (l.take d).map fun (z : Int) => (z : Rat)
end Rr

end
section
set_option linter.all false
namespace Rr
open Root
def rq (l : List Int) : List Rat := l.map fun (z : Int) => (z : Rat)
def Lin (d : Nat) (vs : List Num) (l : List Int) : Prop := ∀ i, at_ (tk d l) i = csum (rq (l.drop d)) vs i
structure El (d : Nat) (vs : List Num) (k : Nat) (ls : List (List Int)) : Prop where
  len : ls.length = k
  tri : Tri d (d + vs.length) ls
  lin : ∀ l ∈ ls, Lin d vs l
  zer : ∀ l ∈ ls, ∀ j, k ≤ j → l.getD (d + j) 0 = 0
  ind : Ind (vs.take k)
  ins : ∀ v ∈ vs.take k, InS (ls.map (tk d)) (at_ v)
def mark (A : List Int) (p : Int) (k n : Nat) : List Int := A ++ (List.replicate k 0 ++ [p] ++ List.replicate (n - k - 1) 0)
end Rr

end
section
set_option linter.all false
namespace Rr
open Root
def posR (t : List Int) : List Int := if (lessRow t).getLastD 0 < 0 then (lessRow t).map fun (z : Int) => -z else lessRow t
def Relo (vs : List Num) (R : List Int) : Prop := (R = [] ∧ Ind vs) ∨ ∃ (k : Nat) (v : Num) (A : List Int) (p : Int), vs[k]? = some v ∧ R = A ++ [p] ∧ A.length = k ∧ 0 < p ∧ gcdRow (A ++ [p]) = 1 ∧ Ind (vs.take k) ∧ ∀ i, at_ v i = csum (dv p (A.map fun (z : Int) => -z)) (vs.take k) i
theorem dv_less {A : List Int} {p : Int} (hp : 0 < p) : ∃ (B : List Int) (q : Int), lessRow (A ++ [p]) = B ++ [q] ∧ B.length = A.length ∧ 0 < q ∧ dv q B = dv p A := by
  have hg : gcdRow (A ++ [p]) ≠ 0 := fun z => by
    have := gcdRow_dvd (l := A ++ [p]) (z := p) (by simp)
    rw [z, Nat.zero_dvd] at this
    omega
  generalize hG : gcdRow (A ++ [p]) = G at *
  have hd : ∀ z ∈ A ++ [p], (G : Int) ∣ z := fun z hz => Int.ofNat_dvd_left.mpr (by rw [← hG]; exact gcdRow_dvd hz)
  refine ⟨A.map fun (z : Int) => z / (G : Int), p / (G : Int), ?_, by rw [List.length_map], ?_, ?_⟩
  · unfold lessRow
    rw [hG, List.map_append]
    rfl
  · have := Int.mul_ediv_cancel' (hd p (by simp))
    false_or_by_contra
    have h2 : p / (G : Int) ≤ 0 := by omega
    have h3 := Int.mul_le_mul_of_nonneg_left h2 (show (0 : Int) ≤ (G : Int) by omega)
    omega
  · unfold dv
    rw [List.map_map]
    refine List.map_congr_left fun z hz => ?_
    show ((z / (G : Int) : Int) : Rat) / ((p / (G : Int) : Int) : Rat) = (z : Rat) / (p : Rat)
    have e1 := Int.mul_ediv_cancel' (hd z (List.mem_append_left _ hz))
    have e2 := Int.mul_ediv_cancel' (hd p (by simp))
    generalize z / (G : Int) = u at *
    generalize p / (G : Int) = s at *
    rw [← e1, ← e2, Rat.intCast_mul, Rat.intCast_mul]
    have g' : ((G : Int) : Rat) ≠ 0 := fun z => by have := Rat.intCast_eq_zero_iff.mp z; omega
    have s' : (s : Rat) ≠ 0 := fun z => by
      have := Rat.intCast_eq_zero_iff.mp z
      rw [this, Int.mul_zero] at e2
      omega
    grind
structure Rk (d : Nat) (vs : List Num) (ls : List (List Int)) : Prop where
  tri : Tri d d ls
  ins : ∀ v ∈ vs, InS (ls.map (tk d)) (at_ v)
  sni : ∀ l ∈ ls, InS vs (at_ (tk d l))
end Rr

end
section
set_option linter.all false
namespace Rr
open Root
end Rr

end
section
set_option linter.all false
namespace Rr
open Root
structure Ls (a b x u0 v0 y u1 v1 : Int) : Prop where
  ex : x = u0 * a + v0 * b
  ey : y = u1 * a + v1 * b
  det : u0 * v1 - v0 * u1 = 1 ∨ u0 * v1 - v0 * u1 = -1
theorem det_of {z w : Int} (h : z = 1 ∨ z = -1) (e : w = -z) : w = 1 ∨ w = -1 := by omega
theorem Ls.start (a b : Int) : Ls a b a 1 0 b 0 1 := ⟨by omega, by omega, .inl (by decide)⟩
theorem Ls.flip0 {a b x u0 v0 y u1 v1 : Int} (h : Ls a b x u0 v0 y u1 v1) : Ls a b (-x) (-u0) (-v0) y u1 v1 :=
  ⟨by have := h.ex; grind, h.ey, det_of h.det (by grind)⟩
theorem Ls.flip1 {a b x u0 v0 y u1 v1 : Int} (h : Ls a b x u0 v0 y u1 v1) : Ls a b x u0 v0 (-y) (-u1) (-v1) :=
  ⟨h.ex, by have := h.ey; grind, det_of h.det (by grind)⟩
theorem Ls.swap {a b x u0 v0 y u1 v1 : Int} (h : Ls a b x u0 v0 y u1 v1) : Ls a b y u1 v1 x u0 v0 :=
  ⟨h.ey, h.ex, det_of h.det (by grind)⟩
theorem Ls.div {a b x u0 v0 y u1 v1 : Int} (h : Ls a b x u0 v0 y u1 v1) (q : Int) : Ls a b y u1 v1 (x - q * y) (u0 - q * u1) (v0 - q * v1) :=
  ⟨h.ey, by have e1 := h.ex; have e2 := h.ey; rw [e1, e2]; grind, det_of h.det (by grind)⟩
theorem Ls.comp {a b x u0 v0 y u1 v1 : Int} (h : Ls a b x u0 v0 y u1 v1) {l0 m0 l1 m1 : Int} (hd : l0 * m1 - m0 * l1 = 1 ∨ l0 * m1 - m0 * l1 = -1) :
    Ls a b (l0 * x + m0 * y) (l0 * u0 + m0 * u1) (l0 * v0 + m0 * v1) (l1 * x + m1 * y) (l1 * u0 + m1 * u1) (l1 * v0 + m1 * v1) := by
  obtain ⟨e1, e2, e3⟩ := h
  refine ⟨by rw [e1, e2]; grind, by rw [e1, e2]; grind, ?_⟩
  have e : (l0 * u0 + m0 * u1) * (l1 * v0 + m1 * v1) - (l0 * v0 + m0 * v1) * (l1 * u0 + m1 * u1) = (l0 * m1 - m0 * l1) * (u0 * v1 - v0 * u1) := by grind
  rw [e]
  rcases hd with h1 | h1 <;> rcases e3 with h2 | h2 <;> rw [h1, h2] <;> decide
theorem Ls.back {a b x u0 v0 y u1 v1 : Int} (h : Ls a b x u0 v0 y u1 v1) : ∃ e : Int, (e = 1 ∨ e = -1) ∧ v1 * x - v0 * y = e * a ∧ u0 * y - u1 * x = e * b := by
  obtain ⟨e1, e2, e3⟩ := h
  refine ⟨u0 * v1 - v0 * u1, e3, ?_, ?_⟩
  · rw [e1, e2]; grind
  · rw [e1, e2]; grind
theorem Ls.gcd {a b x u0 v0 y u1 v1 : Int} (h : Ls a b x u0 v0 y u1 v1) : Nat.gcd x.natAbs y.natAbs = Nat.gcd a.natAbs b.natAbs := by
  obtain ⟨e, he, h1, h2⟩ := h.back
  have e1 := h.ex
  have e2 := h.ey
  refine Nat.dvd_antisymm (Nat.dvd_gcd ?_ ?_) (Nat.dvd_gcd ?_ ?_)
  · have d1 : ((Nat.gcd x.natAbs y.natAbs : Nat) : Int) ∣ x := Int.ofNat_dvd_left.mpr (Nat.gcd_dvd_left _ _)
    have d2 : ((Nat.gcd x.natAbs y.natAbs : Nat) : Int) ∣ y := Int.ofNat_dvd_left.mpr (Nat.gcd_dvd_right _ _)
    have d3 : ((Nat.gcd x.natAbs y.natAbs : Nat) : Int) ∣ e * a := h1 ▸ Int.dvd_sub (Int.dvd_mul_of_dvd_right d1) (Int.dvd_mul_of_dvd_right d2)
    have := Int.ofNat_dvd_left.mp d3
    rwa [Int.natAbs_mul, show e.natAbs = 1 by omega, Nat.one_mul] at this
  · have d1 : ((Nat.gcd x.natAbs y.natAbs : Nat) : Int) ∣ x := Int.ofNat_dvd_left.mpr (Nat.gcd_dvd_left _ _)
    have d2 : ((Nat.gcd x.natAbs y.natAbs : Nat) : Int) ∣ y := Int.ofNat_dvd_left.mpr (Nat.gcd_dvd_right _ _)
    have d3 : ((Nat.gcd x.natAbs y.natAbs : Nat) : Int) ∣ e * b := h2 ▸ Int.dvd_sub (Int.dvd_mul_of_dvd_right d2) (Int.dvd_mul_of_dvd_right d1)
    have := Int.ofNat_dvd_left.mp d3
    rwa [Int.natAbs_mul, show e.natAbs = 1 by omega, Nat.one_mul] at this
  · have d1 : ((Nat.gcd a.natAbs b.natAbs : Nat) : Int) ∣ a := Int.ofNat_dvd_left.mpr (Nat.gcd_dvd_left _ _)
    have d2 : ((Nat.gcd a.natAbs b.natAbs : Nat) : Int) ∣ b := Int.ofNat_dvd_left.mpr (Nat.gcd_dvd_right _ _)
    have d3 : ((Nat.gcd a.natAbs b.natAbs : Nat) : Int) ∣ x := e1 ▸ Int.dvd_add (Int.dvd_mul_of_dvd_right d1) (Int.dvd_mul_of_dvd_right d2)
    exact Int.ofNat_dvd_left.mp d3
  · have d1 : ((Nat.gcd a.natAbs b.natAbs : Nat) : Int) ∣ a := Int.ofNat_dvd_left.mpr (Nat.gcd_dvd_left _ _)
    have d2 : ((Nat.gcd a.natAbs b.natAbs : Nat) : Int) ∣ b := Int.ofNat_dvd_left.mpr (Nat.gcd_dvd_right _ _)
    have d3 : ((Nat.gcd a.natAbs b.natAbs : Nat) : Int) ∣ y := e2 ▸ Int.dvd_add (Int.dvd_mul_of_dvd_right d1) (Int.dvd_mul_of_dvd_right d2)
    exact Int.ofNat_dvd_left.mp d3
theorem Ls.fac {a b x u0 v0 y u1 v1 : Int} (h : Ls a b x u0 v0 y u1 v1) (l m : Int) : (l * v0 + m * v1).natAbs * x.natAbs ≤ v0.natAbs * (l * x + m * y).natAbs + m.natAbs * a.natAbs ∧ (l * u0 + m * u1).natAbs * x.natAbs ≤ u0.natAbs * (l * x + m * y).natAbs + m.natAbs * b.natAbs := by
  obtain ⟨e, he, h1, h2⟩ := h.back
  have k1 : (l * v0 + m * v1) * x = v0 * (l * x + m * y) + m * (e * a) := by rw [← h1]; grind
  have k2 : (l * u0 + m * u1) * x = u0 * (l * x + m * y) + (-m) * (e * b) := by rw [← h2]; grind
  have he1 : e.natAbs = 1 := by omega
  constructor
  · rw [← Int.natAbs_mul, k1]
    refine Nat.le_trans (Int.natAbs_add_le _ _) ?_
    rw [Int.natAbs_mul, Int.natAbs_mul, Int.natAbs_mul, he1, Nat.one_mul]
    exact Nat.le_refl _
  · rw [← Int.natAbs_mul, k2]
    refine Nat.le_trans (Int.natAbs_add_le _ _) ?_
    rw [Int.natAbs_mul, Int.natAbs_mul, Int.natAbs_mul, he1, Nat.one_mul, Int.natAbs_neg]
    exact Nat.le_refl _
end Rr

end
section
set_option linter.all false
set_option maxHeartbeats 4000000
namespace Rr
open Root
@[irreducible] def W (e : Nat) : Nat := 2 ^ e
theorem W_is (e : Nat) : W e = 2 ^ e := by
  unfold W
  rfl
theorem W_add (m n : Nat) : W (m + n) = W m * W n := by
  rw [W_is, W_is, W_is]
  exact Nat.pow_add ..
theorem W_le {m n : Nat} (h : m ≤ n) : W m ≤ W n := by
  rw [W_is, W_is]
  exact Nat.pow_le_pow_right (by decide) h
theorem W_pos (m : Nat) : 0 < W m := by
  rw [W_is]
  exact Nat.two_pow_pos m
theorem W_one : W 1 = 2 := by
  rw [W_is]
theorem W_two : W 2 = 4 := by
  rw [W_is]
structure Hv (t n : Nat) (a b x u0 v0 y u1 v1 : Int) : Prop where
  ls : Ls a b x u0 v0 y u1 v1
  y0 : 0 ≤ y
  yx : y ≤ x
  yb : y.natAbs < W (n / 2 + t)
  xb : x.natAbs < W (n + t)
  c0 : u0.natAbs < W (n - n / 2 + t)
  c1 : v0.natAbs < W (n - n / 2 + t)
  c2 : u1.natAbs < W (n - n / 2 + t)
  c3 : v1.natAbs < W (n - n / 2 + t)
theorem p2_up {a m n : Nat} (h : a < W m) (e : m ≤ n) : a < W n := Nat.lt_of_lt_of_le h (W_le e)
theorem p2_mul {a b m n : Nat} (ha : a < W m) (hb : b < W n) : a * b < W (m + n) := by
  rw [W_add]
  exact Nat.mul_lt_mul_of_lt_of_lt ha hb
theorem pw4 {e k m : Nat} (h : e = k + (m + 2)) : W e = W k * (W m * 4) := by
  subst h
  rw [W_add, W_add, W_two]
theorem pw2 {e k m : Nat} (h : e = k + (m + 1)) : W e = W k * (W m * 2) := by
  subst h
  rw [W_add, W_add, W_one]
theorem in4 {S A C D : Nat} (h1 : A ≤ D) (h2 : C ≤ D) : S * (A + 2 * C) ≤ S * (D * 4) := Nat.mul_le_mul_left _ (by omega)
theorem in2 {S A C : Nat} (h2 : C * 2 ≤ A) : S * (A + 2 * C) ≤ S * (A * 2) := Nat.mul_le_mul_left _ (by omega)
theorem g_lt {g V M E e w : Nat} {x : Nat} (q1 : V < W E) (q2 : M < W E) (hg : g * x ≤ V + M) (q3 : g * W w ≤ g * x) (h : E + 1 = e + w) : g < W e := by
  have q4 : g * W w < W e * W w := by
    rw [← W_add, ← h, W_add, W_one]
    omega
  exact Nat.lt_of_mul_lt_mul_right q4
theorem Hv.up {t t' n : Nat} {a b x u0 v0 y u1 v1 : Int} (h : Hv t n a b x u0 v0 y u1 v1) (e : t ≤ t') : Hv t' n a b x u0 v0 y u1 v1 :=
  ⟨h.ls, h.y0, h.yx, p2_up h.yb (by omega), p2_up h.xb (by omega), p2_up h.c0 (by omega), p2_up h.c1 (by omega), p2_up h.c2 (by omega), p2_up h.c3 (by omega)⟩
theorem zb {X l m lx ly : Int} {A C S : Nat} (hX : X.natAbs < A) (hl : l.natAbs < C) (hm : m.natAbs < C) (hx : lx.natAbs < S) (hy : ly.natAbs < S) : (X * (S : Int) + l * lx + m * ly).natAbs < S * (A + 2 * C) := by
  have h1 : (X * (S : Int) + l * lx + m * ly).natAbs ≤ X.natAbs * S + l.natAbs * lx.natAbs + m.natAbs * ly.natAbs := by
    refine Nat.le_trans (Int.natAbs_add_le _ _) ?_
    rw [Int.natAbs_mul m]
    refine Nat.add_le_add_right ?_ _
    refine Nat.le_trans (Int.natAbs_add_le _ _) ?_
    rw [Int.natAbs_mul, Int.natAbs_mul, Int.natAbs_natCast]
    exact Nat.le_refl _
  have h2 : l.natAbs * lx.natAbs ≤ C * S := Nat.mul_le_mul (by omega) (by omega)
  have h3 : m.natAbs * ly.natAbs ≤ C * S := Nat.mul_le_mul (by omega) (by omega)
  have h4 : (X.natAbs + 1) * S ≤ A * S := Nat.mul_le_mul_right _ (by omega)
  have h5 : S * (A + 2 * C) = A * S + 2 * (C * S) := by rw [Nat.mul_add, Nat.mul_comm S A, Nat.mul_left_comm, Nat.mul_comm S C]
  rw [Nat.succ_mul] at h4
  omega
def flipR (r : Int × Int × Int) : Int × Int × Int := if r.1 < 0 then (-r.1, -r.2.1, -r.2.2) else r
def inOrder (p q : Int × Int × Int) : (Int × Int × Int) × (Int × Int × Int) := if p.1 < q.1 then (q, p) else (p, q)
theorem flip_ok (z p q : Int) : ∃ X U V : Int, flipR (z, p, q) = (X, U, V) ∧ 0 ≤ X ∧ X.natAbs = z.natAbs ∧ U.natAbs = p.natAbs ∧ V.natAbs = q.natAbs ∧
    (∀ a b y u1 v1 : Int, Ls a b z p q y u1 v1 → Ls a b X U V y u1 v1) ∧ (∀ a b x u0 v0 : Int, Ls a b x u0 v0 z p q → Ls a b x u0 v0 X U V) := by
  unfold flipR
  by_cases h : z < 0
  · rw [if_pos h]
    exact ⟨-z, -p, -q, rfl, by omega, by omega, by omega, by omega, fun a b y u1 v1 h => h.flip0, fun a b x u0 v0 h => h.flip1⟩
  · rw [if_neg h]
    exact ⟨z, p, q, rfl, by omega, rfl, rfl, rfl, fun a b y u1 v1 h => h, fun a b x u0 v0 h => h⟩
theorem order_ok {a b z0 p0 q0 z1 p1 q1 : Int} (h : Ls a b z0 p0 q0 z1 p1 q1) {Z0 Z1 C : Nat}
    (h0 : z0.natAbs < Z0) (h1 : z1.natAbs < Z1) (hZ : Z1 ≤ Z0) (c0 : p0.natAbs < C) (c1 : q0.natAbs < C) (c2 : p1.natAbs < C) (c3 : q1.natAbs < C) :
    ∃ X U0 V0 Y U1 V1 : Int, inOrder (flipR (z0, p0, q0)) (flipR (z1, p1, q1)) = ((X, U0, V0), (Y, U1, V1)) ∧ Ls a b X U0 V0 Y U1 V1 ∧ 0 ≤ Y ∧ Y ≤ X ∧ Y.natAbs < Z1 ∧ X.natAbs < Z0 ∧ U0.natAbs < C ∧ V0.natAbs < C ∧ U1.natAbs < C ∧ V1.natAbs < C := by
  obtain ⟨X, U0, V0, e1, f1, f2, f3, f4, f5, _⟩ := flip_ok z0 p0 q0
  obtain ⟨Y, U1, V1, e2, g1, g2, g3, g4, _, g5⟩ := flip_ok z1 p1 q1
  have hL := g5 _ _ _ _ _ (f5 _ _ _ _ _ h)
  rw [e1, e2]
  unfold inOrder
  by_cases hlt : X < Y
  · rw [if_pos (show (X, U0, V0).1 < (Y, U1, V1).1 from hlt)]
    exact ⟨Y, U1, V1, X, U0, V0, rfl, hL.swap, f1, by omega, by omega, by omega, by omega, by omega, by omega, by omega⟩
  · rw [if_neg (show ¬ (X, U0, V0).1 < (Y, U1, V1).1 from hlt)]
    exact ⟨X, U0, V0, Y, U1, V1, rfl, hL, g1, by omega, by omega, by omega, by omega, by omega, by omega, by omega⟩
theorem nabs_lt {z : Int} {S : Nat} (h0 : 0 ≤ z) (h1 : z < (S : Int)) : z.natAbs < S := by omega
theorem stage1 {t n : Nat} {a b l0 m0 l1 m1 X Y : Int} (hn : 200 < n) (ht : t ≤ 40) (ha : a.natAbs < W n) (hb0 : 0 ≤ b) (ha0 : 0 ≤ a) (h : Hv t (n - n / 2) (a / ((W (n / 2) : Nat) : Int)) (b / ((W (n / 2) : Nat) : Int)) X l0 m0 Y l1 m1) :
    ∃ x u0 v0 y u1 v1 : Int, inOrder (flipR (l0 * a + m0 * b, l0, m0)) (flipR (l1 * a + m1 * b, l1, m1)) = ((x, u0, v0), (y, u1, v1)) ∧ Ls a b x u0 v0 y u1 v1 ∧ 0 ≤ y ∧ y ≤ x ∧ y.natAbs < W (n / 2 + ((n - n / 2) - (n - n / 2) / 2) + t + 2) ∧ x.natAbs < W (n + t + 2) ∧
      u0.natAbs < W ((n - n / 2) - (n - n / 2) / 2 + t) ∧ v0.natAbs < W ((n - n / 2) - (n - n / 2) / 2 + t) ∧ u1.natAbs < W ((n - n / 2) - (n - n / 2) / 2 + t) ∧ v1.natAbs < W ((n - n / 2) - (n - n / 2) / 2 + t) := by
  generalize hh : n / 2 = k at *
  generalize hn' : n - k = n' at *
  generalize hk' : n' / 2 = k' at *
  have A1 : k' + t ≤ n' - k' + t := by clear ha h; omega
  have A2 : k + (n' - k') + t + 2 = k + ((n' - k' + t) + 2) := by clear ha h; omega
  have A3 : n' - k' + t ≤ n' + t := by clear ha h; omega
  have A4 : n + t + 2 = k + ((n' + t) + 2) := by clear ha h; omega
  have A5 : k + (n' - k') + t + 2 ≤ n + t + 2 := by clear ha h; omega
  have hSp : (0 : Int) < ((W k : Nat) : Int) := Int.natCast_pos.mpr (W_pos k)
  have hS : 0 < W k := W_pos k
  have ea : a = a / ((W k : Nat) : Int) * ((W k : Nat) : Int) + a % ((W k : Nat) : Int) := by rw [Int.mul_comm]; exact (Int.mul_ediv_add_emod a _).symm
  have eb : b = b / ((W k : Nat) : Int) * ((W k : Nat) : Int) + b % ((W k : Nat) : Int) := by rw [Int.mul_comm]; exact (Int.mul_ediv_add_emod b _).symm
  have la0 := Int.emod_nonneg a (Int.ne_of_gt hSp)
  have la1 := Int.emod_lt_of_pos a hSp
  have lb0 := Int.emod_nonneg b (Int.ne_of_gt hSp)
  have lb1 := Int.emod_lt_of_pos b hSp
  have e1 := h.ls.ex
  have e2 := h.ls.ey
  generalize hA : a / ((W k : Nat) : Int) = A at *
  generalize hB : b / ((W k : Nat) : Int) = B at *
  generalize hla : a % ((W k : Nat) : Int) = la at *
  generalize hlb : b % ((W k : Nat) : Int) = lb at *
  have z0 : l0 * a + m0 * b = X * ((W k : Nat) : Int) + l0 * la + m0 * lb := by rw [ea, eb, e1]; grind
  have z1 : l1 * a + m1 * b = Y * ((W k : Nat) : Int) + l1 * la + m1 * lb := by rw [ea, eb, e2]; grind
  have k0 := h.c0
  have k1 := h.c1
  have k2 := h.c2
  have k3 := h.c3
  have xb := h.xb
  have yb := h.yb
  rw [hk'] at k0 k1 k2 k3 yb
  have w0 := zb (S := W k) xb k0 k1 (nabs_lt la0 la1) (nabs_lt lb0 lb1)
  have w1 := zb (S := W k) yb k2 k3 (nabs_lt la0 la1) (nabs_lt lb0 lb1)
  rw [← z0] at w0
  rw [← z1] at w1
  have hd : Ls a b (l0 * a + m0 * b) l0 m0 (l1 * a + m1 * b) l1 m1 := ⟨rfl, rfl, h.ls.det⟩
  have p1 : W (k' + t) ≤ W (n' - k' + t) := W_le A1
  have p2 : W k * (W (k' + t) + 2 * W (n' - k' + t)) ≤ W (k + (n' - k') + t + 2) := by
    rw [pw4 (e := k + (n' - k') + t + 2) (k := k) (m := n' - k' + t) A2]
    exact in4 p1 (Nat.le_refl _)
  have p3 : W (n' - k' + t) ≤ W (n' + t) := W_le A3
  have p4 : W k * (W (n' + t) + 2 * W (n' - k' + t)) ≤ W (n + t + 2) := by
    rw [pw4 (e := n + t + 2) (k := k) (m := n' + t) A4]
    exact in4 (Nat.le_refl _) p3
  exact order_ok hd (Nat.lt_of_lt_of_le w0 p4) (Nat.lt_of_lt_of_le w1 p2) (W_le A5) k0 k1 k2 k3
theorem stage2 {t n L : Nat} {a b x u0 v0 y u1 v1 l0 m0 l1 m1 X Y : Int} (hn : 200 < n) (ht : t ≤ 40) (ha : a.natAbs < W n) (hba : b.natAbs ≤ a.natAbs) (hL : Ls a b x u0 v0 y u1 v1) (hy0 : 0 ≤ y) (hyx : y ≤ x)
    (hx1 : W (L - 1) ≤ x.natAbs) (hx2 : x.natAbs < W L) (hLk : n / 2 < L) (hLm : L ≤ n / 2 + ((n - n / 2) - (n - n / 2) / 2) + t + 2)
    (c0 : u0.natAbs < W ((n - n / 2) - (n - n / 2) / 2 + t)) (c1 : v0.natAbs < W ((n - n / 2) - (n - n / 2) / 2 + t))
    (h : Hv t (2 * (L - n / 2)) (x / ((W (2 * (n / 2) - L) : Nat) : Int)) (y / ((W (2 * (n / 2) - L) : Nat) : Int)) X l0 m0 Y l1 m1) :
    ∃ x' u0' v0' y' u1' v1' : Int, inOrder (flipR (l0 * x + m0 * y, l0 * u0 + m0 * u1, l0 * v0 + m0 * v1)) (flipR (l1 * x + m1 * y, l1 * u0 + m1 * u1, l1 * v0 + m1 * v1)) = ((x', u0', v0'), (y', u1', v1')) ∧ Hv (t + 2) n a b x' u0' v0' y' u1' v1' := by
  generalize hh : n / 2 = k at *
  generalize hn' : n - k = n' at *
  generalize hk' : n' / 2 = k' at *
  have hL2 : L ≤ 2 * k := by clear ha hba hx1 hx2 c0 c1 h hyx hy0; omega
  generalize hs : 2 * k - L = s at *
  generalize hr : L - k = r at *
  have B2 : L + t + 1 = s + ((2 * r + t) + 1) := by clear ha hba hx1 hx2 c0 c1 h hyx hy0; omega
  have B3 : r + t + 1 ≤ 2 * r + t := by clear ha hba hx1 hx2 c0 c1 h hyx hy0; omega
  have B4 : k + t + 2 = s + ((r + t) + 2) := by clear ha hba hx1 hx2 c0 c1 h hyx hy0; omega
  have B5 : k + t + 2 ≤ L + t + 1 := by clear ha hba hx1 hx2 c0 c1 h hyx hy0; omega
  have B6 : n' - k' + t + (L + t + 1) ≤ n - k + (t + 1) + (L - 1) := by clear ha hba hx1 hx2 c0 c1 h hyx hy0; omega
  have B7 : r + t + n ≤ n - k + (t + 1) + (L - 1) := by clear ha hba hx1 hx2 c0 c1 h hyx hy0; omega
  have B8 : n - k + (t + 1) + (L - 1) + 1 = n - k + (t + 2) + (L - 1) := by clear ha hba hx1 hx2 c0 c1 h hyx hy0; omega
  have B9 : L + t + 1 ≤ n + (t + 2) := by clear ha hba hx1 hx2 c0 c1 h hyx hy0; omega
  have B10 : k + (t + 2) ≤ n + (t + 2) := by clear ha hba hx1 hx2 c0 c1 h hyx hy0; omega
  have B11 : 2 * r / 2 = r := by clear ha hba hx1 hx2 c0 c1 h hyx hy0; omega
  have B12 : 2 * r - r = r := by clear ha hba hx1 hx2 c0 c1 h hyx hy0; omega
  have hSp : (0 : Int) < ((W s : Nat) : Int) := Int.natCast_pos.mpr (W_pos s)
  have hS : 0 < W s := W_pos s
  have ea : x = x / ((W s : Nat) : Int) * ((W s : Nat) : Int) + x % ((W s : Nat) : Int) := by rw [Int.mul_comm]; exact (Int.mul_ediv_add_emod x _).symm
  have eb : y = y / ((W s : Nat) : Int) * ((W s : Nat) : Int) + y % ((W s : Nat) : Int) := by rw [Int.mul_comm]; exact (Int.mul_ediv_add_emod y _).symm
  have la0 := Int.emod_nonneg x (Int.ne_of_gt hSp)
  have la1 := Int.emod_lt_of_pos x hSp
  have lb0 := Int.emod_nonneg y (Int.ne_of_gt hSp)
  have lb1 := Int.emod_lt_of_pos y hSp
  have e1 := h.ls.ex
  have e2 := h.ls.ey
  generalize hA : x / ((W s : Nat) : Int) = A at *
  generalize hB : y / ((W s : Nat) : Int) = B at *
  generalize hla : x % ((W s : Nat) : Int) = la at *
  generalize hlb : y % ((W s : Nat) : Int) = lb at *
  have z0 : l0 * x + m0 * y = X * ((W s : Nat) : Int) + l0 * la + m0 * lb := by rw [ea, eb, e1]; grind
  have z1 : l1 * x + m1 * y = Y * ((W s : Nat) : Int) + l1 * la + m1 * lb := by rw [ea, eb, e2]; grind
  have k0 := h.c0
  have k1 := h.c1
  have k2 := h.c2
  have k3 := h.c3
  have xb := h.xb
  have yb := h.yb
  rw [B11] at k0 k1 k2 k3 yb
  rw [B12] at k0 k1 k2 k3
  have w0 := zb (S := W s) xb k0 k1 (nabs_lt la0 la1) (nabs_lt lb0 lb1)
  have w1 := zb (S := W s) yb k2 k3 (nabs_lt la0 la1) (nabs_lt lb0 lb1)
  rw [← z0] at w0
  rw [← z1] at w1
  have hz0 : (l0 * x + m0 * y).natAbs < W (L + t + 1) := by
    refine Nat.lt_of_lt_of_le w0 ?_
    rw [pw2 (e := L + t + 1) (k := s) (m := 2 * r + t) B2]
    refine in2 ?_
    have := W_le B3
    rwa [W_add, W_one] at this
  have hz1 : (l1 * x + m1 * y).natAbs < W (k + t + 2) := by
    refine Nat.lt_of_lt_of_le w1 ?_
    rw [pw4 (e := k + t + 2) (k := s) (m := r + t) B4]
    exact in4 (Nat.le_refl _) (Nat.le_refl _)
  have hz1' : (l1 * x + m1 * y).natAbs < W (L + t + 1) := p2_up hz1 B5
  have fac : ∀ (g V z m : Nat), g * x.natAbs ≤ V * z + m * a.natAbs → V < W (n' - k' + t) → z < W (L + t + 1) → m < W (r + t) → g < W (n - k + (t + 2)) := fun g V z m hg hV hz hm => by
    have q1 : V * z < W (n - k + (t + 1) + (L - 1)) := p2_up (p2_mul hV hz) B6
    have q2 : m * a.natAbs < W (n - k + (t + 1) + (L - 1)) := p2_up (p2_mul hm ha) B7
    have q3 : g * W (L - 1) ≤ g * x.natAbs := Nat.mul_le_mul_left _ hx1
    exact g_lt q1 q2 hg q3 B8
  obtain ⟨f0, f1⟩ := hL.fac l0 m0
  obtain ⟨f2, f3⟩ := hL.fac l1 m1
  have f1' : (l0 * u0 + m0 * u1).natAbs * x.natAbs ≤ u0.natAbs * (l0 * x + m0 * y).natAbs + m0.natAbs * a.natAbs := Nat.le_trans f1 (Nat.add_le_add_left (Nat.mul_le_mul_left _ hba) _)
  have f3' : (l1 * u0 + m1 * u1).natAbs * x.natAbs ≤ u0.natAbs * (l1 * x + m1 * y).natAbs + m1.natAbs * a.natAbs := Nat.le_trans f3 (Nat.add_le_add_left (Nat.mul_le_mul_left _ hba) _)
  obtain ⟨x', u0', v0', y', u1', v1', g1, g2, g3, g4, g5, g6, g7, g8, g9, g10⟩ := order_ok (hL.comp h.ls.det) (Z0 := W (n + (t + 2))) (Z1 := W (k + (t + 2))) (C := W (n - k + (t + 2))) (p2_up hz0 B9) hz1 (W_le B10)
    (fac _ _ _ _ f1' c0 hz0 k1) (fac _ _ _ _ f0 c1 hz0 k1) (fac _ _ _ _ f3' c0 hz1' k3) (fac _ _ _ _ f2 c1 hz1' k3)
  exact ⟨x', u0', v0', y', u1', v1', g1, g2, g3, g4, by rw [hh]; exact g5, g6, by rw [hh]; exact g7, by rw [hh]; exact g8, by rw [hh]; exact g9, by rw [hh]; exact g10⟩
end Rr

end
section
set_option linter.all false
set_option maxHeartbeats 1000000
namespace Rr
open Root
theorem ret1 {t n : Nat} {a b x u0 v0 y u1 v1 : Int} (hn : 200 < n) (hL : Ls a b x u0 v0 y u1 v1) (y0 : 0 ≤ y) (yx : y ≤ x) (xb : x.natAbs < W (n + t + 2)) (yb : y.natAbs < W (n / 2))
    (c0 : u0.natAbs < W ((n - n / 2) - (n - n / 2) / 2 + t)) (c1 : v0.natAbs < W ((n - n / 2) - (n - n / 2) / 2 + t)) (c2 : u1.natAbs < W ((n - n / 2) - (n - n / 2) / 2 + t)) (c3 : v1.natAbs < W ((n - n / 2) - (n - n / 2) / 2 + t)) : Hv (t + 2) n a b x u0 v0 y u1 v1 := by
  have A1 : (n - n / 2) - (n - n / 2) / 2 + t ≤ n - n / 2 + (t + 2) := by clear xb yb c0 c1 c2 c3; omega
  exact ⟨hL, y0, yx, p2_up yb (by clear xb yb c0 c1 c2 c3; omega), xb, p2_up c0 A1, p2_up c1 A1, p2_up c2 A1, p2_up c3 A1⟩
theorem div_few {a y d v w : Nat} {n k e E : Nat} (h : w * y ≤ a + v * d) (hd : d ≤ y) (hy : W k ≤ y) (ha : a < W n) (hv : v < W e) (hk : k ≤ n) (he : e ≤ E) (hE : n - k ≤ E) : w < W (E + 1) := by
  have h1 : v * d ≤ v * y := Nat.mul_le_mul_left _ hd
  rw [W_add, W_one]
  have e1 := W_le he
  have e2 := W_le hE
  by_cases hwv : w ≤ v
  · omega
  · have h2 : (w - v) * y ≤ a := by
      rw [Nat.sub_mul]
      omega
    have h3 : (w - v) * W k ≤ (w - v) * y := Nat.mul_le_mul_left _ hy
    have h4 : (w - v) * W k < W (n - k) * W k := by
      rw [← W_add, show n - k + k = n by omega]
      omega
    have h5 := Nat.lt_of_mul_lt_mul_right h4
    omega
theorem divide {t n : Nat} {a b x u0 v0 y u1 v1 : Int} (hn : 200 < n) (ha : a.natAbs < W n) (hba : b.natAbs ≤ a.natAbs) (hL : Ls a b x u0 v0 y u1 v1) (hy : W (n / 2) ≤ y.natAbs) (hy0 : 0 ≤ y) (hyx : y ≤ x)
    (c2 : u1.natAbs < W ((n - n / 2) - (n - n / 2) / 2 + t)) (c3 : v1.natAbs < W ((n - n / 2) - (n - n / 2) / 2 + t)) :
    Ls a b y u1 v1 (x - x / y * y) (u0 - x / y * u1) (v0 - x / y * v1) ∧ 0 ≤ x - x / y * y ∧ x - x / y * y ≤ y ∧ (u0 - x / y * u1).natAbs < W (n - n / 2 + t + 1) ∧ (v0 - x / y * v1).natAbs < W (n - n / 2 + t + 1) := by
  have hD := hL.div (x / y)
  have hp : 0 < y := by
    have := W_pos (n / 2)
    clear ha hba c2 c3
    omega
  have h1 := Int.emod_nonneg x (Int.ne_of_gt hp)
  have h2 := Int.emod_lt_of_pos x hp
  have h3 : x - x / y * y = x % y := by
    have := Int.mul_ediv_add_emod x y
    rw [Int.mul_comm] at this
    clear ha hba c2 c3
    omega
  rw [h3] at hD ⊢
  obtain ⟨e, he, k1, k2⟩ := hD.back
  have he1 : e.natAbs = 1 := by clear ha hba c2 c3 hy; omega
  have g1 : (v0 - x / y * v1).natAbs * y.natAbs ≤ a.natAbs + v1.natAbs * (x % y).natAbs := by
    rw [← Int.natAbs_mul, show (v0 - x / y * v1) * y = e * a + v1 * (x % y) by rw [← k1]; grind]
    refine Nat.le_trans (Int.natAbs_add_le _ _) ?_
    rw [Int.natAbs_mul, Int.natAbs_mul, he1, Nat.one_mul]
    exact Nat.le_refl _
  have g2 : (u0 - x / y * u1).natAbs * y.natAbs ≤ a.natAbs + u1.natAbs * (x % y).natAbs := by
    rw [← Int.natAbs_mul, show (u0 - x / y * u1) * y = -(e * b) + u1 * (x % y) by rw [← k2]; grind]
    refine Nat.le_trans (Int.natAbs_add_le _ _) ?_
    rw [Int.natAbs_neg, Int.natAbs_mul, Int.natAbs_mul, he1, Nat.one_mul]
    exact Nat.add_le_add_right hba _
  have hd : (x % y).natAbs ≤ y.natAbs := by clear ha hba c2 c3 g1 g2 hy k1 k2; omega
  have A1 : n / 2 ≤ n := by clear ha hba c2 c3 g1 g2 hy hd; omega
  have A2 : (n - n / 2) - (n - n / 2) / 2 + t ≤ n - n / 2 + t := by clear ha hba c2 c3 g1 g2 hy hd; omega
  have A3 : n - n / 2 ≤ n - n / 2 + t := Nat.le_add_right _ _
  exact ⟨hD, h1, Int.le_of_lt h2, div_few g2 hd hy ha c2 A1 A2 A3, div_few g1 hd hy ha c3 A1 A2 A3⟩
theorem ret2 {t n : Nat} {a b x u0 v0 y u1 v1 : Int} (hn : 200 < n) (ht : t ≤ 40) (hL : Ls a b x u0 v0 y u1 v1) (y0 : 0 ≤ y) (yx : y ≤ x) (xb : x.natAbs < W (n / 2 + ((n - n / 2) - (n - n / 2) / 2) + t + 2)) (yb : y.natAbs < W (n / 2))
    (c0 : u0.natAbs < W ((n - n / 2) - (n - n / 2) / 2 + t)) (c1 : v0.natAbs < W ((n - n / 2) - (n - n / 2) / 2 + t)) (c2 : u1.natAbs < W (n - n / 2 + t + 1)) (c3 : v1.natAbs < W (n - n / 2 + t + 1)) : Hv (t + 2) n a b x u0 v0 y u1 v1 := by
  have A1 : (n - n / 2) - (n - n / 2) / 2 + t ≤ n - n / 2 + (t + 2) := by clear xb yb c0 c1 c2 c3; omega
  have A2 : n - n / 2 + t + 1 ≤ n - n / 2 + (t + 2) := by clear xb yb c0 c1 c2 c3; omega
  have A3 : n / 2 + ((n - n / 2) - (n - n / 2) / 2) + t + 2 ≤ n + (t + 2) := by clear xb yb c0 c1 c2 c3; omega
  exact ⟨hL, y0, yx, p2_up yb (by clear xb yb c0 c1 c2 c3; omega), p2_up xb A3, p2_up c0 A1, p2_up c1 A1, p2_up c2 A2, p2_up c3 A2⟩
structure Eu (n : Nat) (a b x u0 v0 y u1 v1 : Int) : Prop where
  ls : Ls a b x u0 v0 y u1 v1
  y0 : 0 ≤ y
  yx : y ≤ x
  xk : W (n / 2) ≤ x.natAbs
  co : ∃ (e p0 q0 p1 q1 : Int), (e = 1 ∨ e = -1) ∧ 0 ≤ p0 ∧ p0 ≤ p1 ∧ 1 ≤ p1 ∧ 0 ≤ q0 ∧ 0 ≤ q1 ∧ (q0 ≤ 1 ∨ q0 ≤ q1) ∧ u0 = e * q0 ∧ v0 = -e * p0 ∧ u1 = -e * q1 ∧ v1 = e * p1 ∧ a = p1 * x + p0 * y ∧ b = q1 * x + q0 * y
theorem Eu.start {n : Nat} {a b : Int} (h0 : 0 ≤ b) (h1 : b ≤ a) (ha : W (n / 2) ≤ a.natAbs) : Eu n a b a 1 0 b 0 1 :=
  ⟨Ls.start a b, h0, h1, ha, 1, 0, 1, 1, 0, .inl rfl, by decide, by decide, by decide, by decide, by decide, .inl (by decide), rfl, rfl, rfl, rfl, by omega, by omega⟩
theorem Eu.step {n : Nat} {a b x u0 v0 y u1 v1 : Int} (h : Eu n a b x u0 v0 y u1 v1) (hy : W (n / 2) ≤ y.natAbs) : Eu n a b y u1 v1 (x - x / y * y) (u0 - x / y * u1) (v0 - x / y * v1) := by
  obtain ⟨hL, y0, yx, xk, e, p0, q0, p1, q1, he, h1, h2, h3, h4, h5, h6, e1, e2, e3, e4, e5, e6⟩ := h
  have hp : 0 < y := by
    have := W_pos (n / 2)
    omega
  have g1 := Int.emod_nonneg x (Int.ne_of_gt hp)
  have g2 := Int.emod_lt_of_pos x hp
  have g3 : x - x / y * y = x % y := by
    have := Int.mul_ediv_add_emod x y
    rw [Int.mul_comm] at this
    omega
  have g4 : 1 ≤ x / y := (Int.le_ediv_iff_mul_le hp).mpr (by omega)
  generalize x / y = q at *
  refine ⟨hL.div q, by omega, by omega, hy, -e, p1, q1, p0 + q * p1, q0 + q * q1, by omega, by omega, ?_, ?_, h5, ?_, ?_, by rw [e3], by rw [e4]; grind, by rw [e1, e3]; grind, by rw [e2, e4]; grind, by rw [e5]; grind, by rw [e6]; grind⟩
  · have := Int.mul_le_mul_of_nonneg_right g4 (show 0 ≤ p1 by omega)
    omega
  · have := Int.mul_le_mul_of_nonneg_right g4 (show 0 ≤ p1 by omega)
    omega
  · have := Int.mul_nonneg (show 0 ≤ q by omega) h5
    omega
  · right
    have := Int.mul_le_mul_of_nonneg_right g4 h5
    omega
theorem fac_lt {p x a : Int} {n k : Nat} (hp : 0 ≤ p) (h : p * x ≤ a) (ha : a.natAbs < W n) (hx : W k ≤ x.natAbs) (hx0 : 0 ≤ x) (hk : k ≤ n) : p.natAbs < W (n - k) := by
  have h1 : p.natAbs * x.natAbs ≤ a.natAbs := by
    rw [← Int.natAbs_mul]
    have := Int.mul_nonneg hp hx0
    omega
  have h2 : p.natAbs * W k ≤ p.natAbs * x.natAbs := Nat.mul_le_mul_left _ hx
  have h3 : p.natAbs * W k < W (n - k) * W k := by
    rw [← W_add, show n - k + k = n by omega]
    omega
  exact Nat.lt_of_mul_lt_mul_right h3
theorem Eu.done {n : Nat} {a b x u0 v0 y u1 v1 : Int} (h : Eu n a b x u0 v0 y u1 v1) (hn : 1 ≤ n) (ha : a.natAbs < W n) (ha0 : 0 ≤ a) (hba : b ≤ a) (hy : y.natAbs < W (n / 2)) : Hv 0 n a b x u0 v0 y u1 v1 := by
  obtain ⟨hL, y0, yx, xk, e, p0, q0, p1, q1, he, h1, h2, h3, h4, h5, h6, e1, e2, e3, e4, e5, e6⟩ := h
  have hx0 : 0 ≤ x := by omega
  have k1 : n / 2 ≤ n := Nat.div_le_self _ _
  have m1 := Int.mul_nonneg h1 y0
  have m2 := Int.mul_nonneg h4 y0
  have m3 := Int.mul_le_mul_of_nonneg_right h3 hx0
  have b1 := fac_lt (p := p1) (by omega) (show p1 * x ≤ a by omega) ha xk hx0 k1
  have b2 := fac_lt (p := q1) h5 (show q1 * x ≤ a by omega) ha xk hx0 k1
  have b3 : 2 ≤ W (n - n / 2) := by
    have := W_le (show 1 ≤ n - n / 2 by omega)
    rwa [W_one] at this
  have xa : x ≤ a := by omega
  have b4 : q0.natAbs < W (n - n / 2) := by omega
  have b5 : p0.natAbs < W (n - n / 2) := by omega
  have ab : ∀ z : Int, (e * z).natAbs = z.natAbs ∧ (-e * z).natAbs = z.natAbs := fun z => by
    rcases he with h | h <;> rw [h] <;> omega
  refine ⟨hL, y0, yx, by rw [Nat.add_zero]; exact hy, by rw [Nat.add_zero]; omega, ?_, ?_, ?_, ?_⟩ <;> rw [Nat.add_zero]
  · rw [e1, (ab q0).1]; exact b4
  · rw [e2, (ab p0).2]; exact b5
  · rw [e3, (ab q1).2]; exact b2
  · rw [e4, (ab p1).1]; exact b1
end Rr

end
section
set_option linter.all false
set_option maxHeartbeats 1000000
namespace Rr
open Root
theorem Eu.fac {n : Nat} {a b x u0 v0 y u1 v1 : Int} (h : Eu n a b x u0 v0 y u1 v1) (ha : a.natAbs < W n) (ha0 : 0 ≤ a) (hba : b ≤ a) : x.natAbs < W n ∧ u1.natAbs < W n ∧ v1.natAbs < W n ∧ y.natAbs < W n := by
  obtain ⟨hL, y0, yx, xk, e, p0, q0, p1, q1, he, h1, h2, h3, h4, h5, h6, e1, e2, e3, e4, e5, e6⟩ := h
  have hx0 : 0 ≤ x := by omega
  have k1 : n / 2 ≤ n := Nat.div_le_self _ _
  have m1 := Int.mul_nonneg h1 y0
  have m2 := Int.mul_nonneg h4 y0
  have m3 := Int.mul_le_mul_of_nonneg_right h3 hx0
  have b1 := fac_lt (p := p1) (by omega) (show p1 * x ≤ a by omega) ha xk hx0 k1
  have b2 := fac_lt (p := q1) h5 (show q1 * x ≤ a by omega) ha xk hx0 k1
  have b3 := W_le (show n - n / 2 ≤ n by omega)
  have xa : x ≤ a := by omega
  have ab : ∀ z : Int, (e * z).natAbs = z.natAbs ∧ (-e * z).natAbs = z.natAbs := fun z => by
    rcases he with h | h <;> rw [h] <;> omega
  refine ⟨by omega, ?_, ?_, by omega⟩
  · rw [e3, (ab q1).2]; omega
  · rw [e4, (ab p1).1]; omega
def Bj (j : Nat) : Nat := 100 * 2 ^ j + 8 * j + 40
theorem Bj_half {n j : Nat} (h : n ≤ Bj (j + 1)) : n - n / 2 ≤ Bj j := by
  unfold Bj at *
  rw [Nat.pow_succ] at h
  generalize 2 ^ j = M at *
  omega
theorem Bj_next {n j L : Nat} (h : n ≤ Bj (j + 1)) (hL : L ≤ n / 2 + ((n - n / 2) - (n - n / 2) / 2) + 2 * j + 2) : 2 * (L - n / 2) ≤ Bj j := by
  unfold Bj at *
  rw [Nat.pow_succ] at h
  generalize 2 ^ j = M at *
  omega
theorem Bj_le : ∀ j : Nat, j ≤ 7 → Bj j ≤ 13000 := fun j hj => by
  have : j = 0 ∨ j = 1 ∨ j = 2 ∨ j = 3 ∨ j = 4 ∨ j = 5 ∨ j = 6 ∨ j = 7 := by omega
  rcases this with rfl | rfl | rfl | rfl | rfl | rfl | rfl | rfl <;> decide
theorem bit_le {n j L : Nat} (hn : 200 < n) (hj : j ≤ 7) (hL : L ≤ n / 2 + ((n - n / 2) - (n - n / 2) / 2) + 2 * j + 2) : L ≤ 2 * (n / 2) := by omega
theorem two_div {x : Int} {h : Nat} (hx : 0 ≤ x) : x / ((2 ^ h : Nat) : Int) = 0 ↔ x.natAbs < W h := by
  have hS := Nat.two_pow_pos h
  rw [W_is]
  constructor
  · intro e
    have := Int.lt_ediv_add_one_mul_self x (show 0 < ((2 ^ h : Nat) : Int) by omega)
    rw [e] at this
    omega
  · intro e
    exact Int.ediv_eq_zero_of_lt hx (by omega)
theorem few_div {x : Int} {n h : Nat} (hx : 0 ≤ x) (h1 : 2 ^ (n - 1) ≤ x.natAbs) (h2 : x.natAbs < 2 ^ n) (hh : h < n) : 2 ^ (n - h - 1) ≤ (x / ((2 ^ h : Nat) : Int)).natAbs ∧ (x / ((2 ^ h : Nat) : Int)).natAbs < 2 ^ (n - h) := by
  have hS := Nat.two_pow_pos h
  have e1 : 2 ^ (n - 1) = 2 ^ (n - h - 1) * 2 ^ h := by rw [← Nat.pow_add]; congr 1; omega
  have e2 : 2 ^ n = 2 ^ (n - h) * 2 ^ h := by rw [← Nat.pow_add]; congr 1; omega
  have hq : 0 ≤ x / ((2 ^ h : Nat) : Int) := Int.ediv_nonneg hx (by omega)
  have k1 : ((2 ^ (n - h - 1) : Nat) : Int) ≤ x / ((2 ^ h : Nat) : Int) := (Int.le_ediv_iff_mul_le (by omega)).mpr (by
    rw [← Int.natCast_mul, ← e1]
    omega)
  have k2 : x / ((2 ^ h : Nat) : Int) < ((2 ^ (n - h) : Nat) : Int) := (Int.ediv_lt_iff_lt_mul (by omega)).mpr (by
    rw [← Int.natCast_mul, ← e2]
    omega)
  generalize x / ((2 ^ h : Nat) : Int) = q at *
  generalize 2 ^ (n - h - 1) = A at *
  generalize 2 ^ (n - h) = B at *
  omega
theorem gcdRow_few {l : List Int} {n : Nat} (h : ∀ z ∈ l, z.natAbs < 2 ^ n) : gcdRow l < 2 ^ n := by
  by_cases h0 : gcdRow l = 0
  · rw [h0]
    exact Nat.two_pow_pos n
  · false_or_by_contra
    rename_i hn
    apply h0
    refine Nat.eq_zero_of_zero_dvd ((dvd_gcdRow l).mpr fun z hz => ?_)
    have h1 := gcdRow_dvd hz
    have h2 := h z hz
    rcases Nat.eq_zero_or_pos z.natAbs with e | e
    · rw [e]; exact Nat.dvd_refl _
    · have := Nat.le_of_dvd e h1
      omega
end Rr

end
section
set_option linter.all false
namespace Rr
open Root
theorem power_mul {c : List Int} (hc : 1 ≤ c.length) {a : Num} (ha : a.length = c.length) (m : Nat) : ∀ n : Nat, Cg c (fun x => polyAt (Root.power c a m) x * polyAt (Root.power c a n) x) (polyAt (Root.power c a (m + n)))
  | 0 => Cg.of_eq fun x => by
    show polyAt (Root.power c a m) x * polyAt (oneIn c.length) x = polyAt (Root.power c a m) x
    rw [oneIn_at hc]
    grind
  | n + 1 => by
    have h1 := (times_cg hc (power_length hc ha n) ha).mul (Root.power c a m)
    have h2 := (power_mul hc ha m n).mul a
    have h3 := (times_cg hc (power_length hc ha (m + n)) ha).symm
    refine (Cg.of_eq fun x => ?_).trans (h1.trans ((Cg.of_eq fun x => ?_).trans (h2.trans h3)))
    · show polyAt (Root.power c a m) x * polyAt (Root.times c (Root.power c a n) a) x = polyAt (Root.times c (Root.power c a n) a) x * polyAt (Root.power c a m) x
      grind
    · grind
theorem power_twice {c : List Int} (hc : 1 ≤ c.length) {a : Num} (ha : a.length = c.length) (m : Nat) : Root.times c (Root.power c a m) (Root.power c a m) = Root.power c a (m + m) :=
  times_unique hc (power_length hc ha m) (power_length hc ha m) (power_length hc ha (m + m)) (power_mul hc ha m m)
theorem inverse_dv {c : List Int} (h : refusal c = 0) (hc : 1 ≤ c.length) {A G : List Int} {p D : Int} (hp : 0 < p) (hD : 0 < D) (hA : A.length = c.length) (hG : G.length = c.length) (hnz : isZero (dv p A) = false) (hcg : Cg c (fun x => pI A x * pI G x) (fun _ => (p : Rat) * (D : Rat))) : inverse c (dv p A) = dv D G := by
  have hA' : (dv p A).length = c.length := by rw [dv_length]; exact hA
  have hG' : (dv D G).length = c.length := by rw [dv_length]; exact hG
  obtain ⟨il, _⟩ := inverse_ok h hA' hnz
  have h1 := inverse_cg h hA' hnz
  have hp' : (p : Rat) ≠ 0 := fun z => by have := Rat.intCast_eq_zero_iff.mp z; omega
  have hD' : (D : Rat) ≠ 0 := fun z => by have := Rat.intCast_eq_zero_iff.mp z; omega
  have h2 : Cg c (fun x => polyAt (dv p A) x * polyAt (dv D G) x) (fun _ => 1) := by
    obtain ⟨Q, hQ⟩ := hcg
    refine ⟨mulC (1 / ((p : Rat) * (D : Rat))) Q, fun x => ?_⟩
    have e : pI A x * pI G x - (p : Rat) * (D : Rat) = polyAt Q x * polyAt (polyOf c) x := hQ x
    show polyAt (dv p A) x * polyAt (dv D G) x - 1 = _
    rw [dv_at hp, dv_at hD, mulC_at]
    have e2 : polyAt (rI A) x * polyAt (rI G) x - (p : Rat) * (D : Rat) = polyAt Q x * polyAt (polyOf c) x := e
    generalize polyAt (rI A) x = t1 at *
    generalize polyAt (rI G) x = t2 at *
    have e3 : 1 / ((p : Rat) * (D : Rat)) * polyAt Q x * polyAt (polyOf c) x = 1 / ((p : Rat) * (D : Rat)) * (polyAt Q x * polyAt (polyOf c) x) := by grind
    rw [e3, ← e2]
    clear hQ e e2 e3 h1
    grind
  refine Cg.unique il hG' ?_
  refine ((Cg.of_eq fun x => ?_).trans ((h2.mul (inverse c (dv p A))).symm)).trans ((Cg.of_eq fun x => ?_).trans ((h1.mul (dv D G)).trans (Cg.of_eq fun x => ?_)))
  · grind
  · show polyAt (dv p A) x * polyAt (dv D G) x * polyAt (inverse c (dv p A)) x = polyAt (dv p A) x * polyAt (inverse c (dv p A)) x * polyAt (dv D G) x
    grind
  · grind
end Rr

end
set_option Elab.async false
set_option linter.all false
set_option maxRecDepth 100000
set_option maxHeartbeats 4000000
namespace Rr
open PySem PySem.Spec PyProof.Rows L2
open PySem.W (Codec)
def IL (K : PySem.W.Frag) (H : Hp) (v : V) (l : List Int) : Prop := ∃ a, v = .ref a ∧ SqL K H a (l.map V.int)
def OL (H : Hp) (v : V) (l : List Int) : Prop := ∃ a, v = .ref a ∧ H a = some (.lst (l.map V.int))
theorem OL.il {K : PySem.W.Frag} {H : Hp} {v : V} {l : List Int} (h : OL H v l) : IL K H v l := let ⟨a, e, q⟩ := h; ⟨a, e, SqL.of q⟩
theorem IL.same {K : PySem.W.Frag} {H H' : Hp} {v : V} {l : List Int} (h : IL K H v l) (s : Same H H') : IL K H' v l := let ⟨a, e, q⟩ := h; ⟨a, e, s.seq q⟩
theorem OL.same {H H' : Hp} {v : V} {l : List Int} (h : OL H v l) (s : Same H H') : OL H' v l := let ⟨a, e, q⟩ := h; ⟨a, e, s _ _ q⟩
theorem same_upd {H : Hp} {p : Addr} {o : HO} (h : H p = none) : Same H (upd H p o) := fun b u e => by
  rw [upd_ne (ne_of_none e h)]
  exact e
theorem same_upd2 {H H' : Hp} {p : Addr} {o : HO} (s : Same H H') (h : H p = none) : Same H (upd H' p o) := fun b u e => by
  rw [upd_ne (ne_of_none e h)]
  exact s b u e
theorem args1 {α : Type} {us : List α} (h : us.length = 1) : ∃ a, us = [a] := match us, h with | [a], _ => ⟨a, rfl⟩
theorem args2 {α : Type} {us : List α} (h : us.length = 2) : ∃ a b, us = [a, b] := match us, h with | [a, b], _ => ⟨a, b, rfl⟩
theorem args3 {α : Type} {us : List α} (h : us.length = 3) : ∃ a b c, us = [a, b, c] := match us, h with | [a, b, c], _ => ⟨a, b, c, rfl⟩
theorem args4 {α : Type} {us : List α} (h : us.length = 4) : ∃ a b c d, us = [a, b, c, d] := match us, h with | [a, b, c, d], _ => ⟨a, b, c, d, rfl⟩
theorem args5 {α : Type} {us : List α} (h : us.length = 5) : ∃ a b c d e, us = [a, b, c, d, e] := match us, h with | [a, b, c, d, e], _ => ⟨a, b, c, d, e, rfl⟩
structure Cal (P : Program) (w : World) (K : PySem.W.Frag) (mg : Str → Option Value) (base : Heap) (k : Nat) (x : Str) (ps : List Str) (sp : Sp) : Prop where
  ex : ∃ (f : Addr) (fd : FuncData), FnOk P w K mg base CX0 k f fd ps sp ∧ mg x = some (.ref f) ∧ PySem.W.keepIn K (.ref f) = true ∧ Binds K fd ps []
theorem pe_cal {X : Cx} {k : Nat} {x : Str} {ps : List Str} {sp : Sp} {e : Expr} {es : List Expr} {t : TA} {p pos : Pos} (C : Cal X.prog X.w X.K X.mg X.base k x ps sp) (hr : Room k X.A) (hg : Gl X x) (ha : PA X (e :: es) t)
    (hdb : (x == ("__debug__" : Str)) = false := by decide) (he : starEach (e :: es) X.env = (false, eval e X.env) :: starEach es X.env := by rfl) (hpl : (backTo pos (starEach es X.env)).any (·.1) = false := by rfl) :
    PE X (.Call (.Name x p) (e :: es) [] pos) (tCall sp [] E0 t) := by
  obtain ⟨f, fd, F, hm, hk, hb⟩ := C.ex
  exact pe_call F hr hg hm hk hb .nil pass0 ha hdb he hpl
theorem op_fdivW {X : Cx} : OpR X (binaryOp .FloorDiv) (L2.rI (fun _ j => 0 < j ∧ j.natAbs.log2 < 9000) fun i j => .int (i / j)) := opI fun i j _ _ _ _ _ hc q => by
  have h1 : (0 : Int) < j := hc.1
  exact floordiv_int (by omega) (by rw [Int.fdiv_eq_ediv_of_nonneg i (by omega)]; exact q) (.inl (PyProof.noPylong_of_log2 hc.2))
theorem op_mulW {X : Cx} : OpR X (binaryOp .Mult) (L2.rI IntMulOk fun i j => .int (i * j)) := opI fun _ _ _ _ _ _ _ hc q => mul_int q hc
theorem op_shlW {X : Cx} : OpR X (binaryOp .LShift) (L2.rI (fun i j => 0 ≤ j ∧ (Builtin.Int.intBits i : Int) + j ≤ 2 ^ 27) fun i j => .int (i * 2 ^ j.toNat)) := opI fun _ _ _ _ _ _ _ hc q => lshift_int hc.1 hc.2 q
theorem abs_is (i : Int) : (if i < 0 then -i else i) = (i.natAbs : Int) := by split <;> omega
structure Own (mg : Str → Option Value) : Prop where
  abs_ : mg "abs" = none
  len_ : mg "len" = none
  all_ : mg "all" = none
  any_ : mg "any" = none
  list_ : mg "list" = none
  reversed_ : mg "reversed" = none
  range_ : mg "range" = none
  max_ : mg "max" = none
  min_ : mg "min" = none
  zip_ : mg "zip" = none
  ord_ : mg "ord" = none
  str_ : mg "str" = none
theorem bt_abs : bootBuiltins "abs" = some (.builtin "abs") := by decide +kernel
theorem bt_len : bootBuiltins "len" = some (.builtin "len") := by decide +kernel
theorem bt_all : bootBuiltins "all" = some (.builtin "all") := by decide +kernel
theorem bt_any : bootBuiltins "any" = some (.builtin "any") := by decide +kernel
theorem bt_max : bootBuiltins "max" = some (.builtin "max") := by decide +kernel
theorem bt_min : bootBuiltins "min" = some (.builtin "min") := by decide +kernel
theorem bt_ord : bootBuiltins "ord" = some (.builtin "ord") := by decide +kernel
theorem bt_str : bootBuiltins "str" = some (.type "str") := by decide +kernel
theorem bt_list : bootBuiltins "list" = some (.type "list") := by decide +kernel
def Kst (mg : Str → Option Value) (x : Str) (v : Int) : Prop := ∃ t : Tok, mg x = some (.int v t)
theorem pe_globK {X : Cx} {x : Str} {v : Int} {pos : Pos} (hg : Gl X x) (c : Kst X.mg x v) (hd : (x == ("__debug__" : Str)) = false := by decide) : PE X (.Name x pos) (tC (.int v)) := by
  obtain ⟨t, e⟩ := c
  exact pe_glob (v := .int v) hg e ⟨_, rfl⟩ hd
def tBits (to : TE) : TE := fun σ H Q => to σ H fun x H1 => ∃ a, x = .int a ∧ Q (.int (Builtin.Int.intBits a)) H1
theorem pe_bits {X : Cx} {o : Expr} {to : TE} {apos pos : Pos} (ho : PE X o to) (hbase : attributeBase o "bit_length" X.env (eval o X.env) = eval o X.env := by rfl) (hline : (apos.endLine == pos.line) = true := by rfl) :
    PE X (.Call (.Attribute o "bit_length" apos) [] [] pos) (tBits to) := by
  intro pins s σ H Q I h
  refine PySem.Call_method0 hbase hline (thn (ho pins s σ H _ I h) fun v s1 ⟨x, H1, I1, r1, q1⟩ => ?_)
  obtain ⟨a, rfl, q1⟩ := q1
  obtain ⟨t, rfl⟩ := _root_.id r1
  exact ⟨"int", _, F.plainAttrs_int, F.slot_int_bit_length, F.type_int_bit_length, typeIs_int _ _ _, (fun _ e => nomatch e), Calls.callWith_builtin rfl (PySem.evalArgs_none (call_int_bit_length ⟨.int _, H1, I1.tok _, ⟨_, rfl⟩, q1⟩))⟩
theorem int_eq {x y : Int} (h : decide (V.int x = V.int y) = true) : x = y := V.int.inj (of_decide_eq_true h)
theorem int_ne {x y : Int} (h : ¬ decide (V.int x = V.int y) = true) : x ≠ y := fun e => h (decide_eq_true (by rw [e]))
theorem dec_int (x y : Int) : decide (V.int x = V.int y) = decide (x = y) := by
  by_cases h : x = y
  · rw [h]; simp
  · have : ¬ V.int x = V.int y := fun e => h (V.int.inj e)
    rw [decide_eq_false h, decide_eq_false this]
theorem nq_ne {x y : Int} (h : (!decide (V.int x = V.int y)) = true) : x ≠ y := fun e => by
  rw [e, decide_eq_true rfl] at h
  cases h
theorem nq_eq {x y : Int} (h : ¬ (!decide (V.int x = V.int y)) = true) : x = y := by
  false_or_by_contra
  rename_i e
  exact h (by rw [decide_eq_false (fun z => e (V.int.inj z))]; rfl)
theorem call_lenK {X : Cx} {K : PySem.W.Frag} (h : X.K = K) : CallR X (.builtin "len") (fun xs H Q => ∃ p ys, xs = [.ref p] ∧ (SqL K H p ys ∨ SqT K H p ys) ∧ Q (.int ys.length) H) := by
  subst h
  exact call_len_seq
theorem ix_listK {X : Cx} {K : PySem.W.Frag} (h : X.K = K) : IxR X (rIxL K) := by
  subst h
  exact ix_list
theorem sl_listK {X : Cx} {K : PySem.W.Frag} (h : X.K = K) : SlR X (rSlL K) := by
  subst h
  exact sl_list
theorem cr_allK {X : Cx} {K : PySem.W.Frag} (h : X.K = K) (hc : X.calm = true) : CallR X (.builtin "all") (rAll K) := by
  subst h
  exact cr_all hc
theorem cr_anyK {X : Cx} {K : PySem.W.Frag} (h : X.K = K) (hc : X.calm = true) : CallR X (.builtin "any") (rAny K) := by
  subst h
  exact cr_any hc
theorem call_list_ofK {X : Cx} {K : PySem.W.Frag} (h : X.K = K) : CallR X (.type "list") (fun xs H Q => ∃ p ys, xs = [.ref p] ∧ (SqL K H p ys ∨ SqT K H p ys) ∧ ∀ l, H l = none → Q (.ref l) (upd H l (.lst ys))) := by
  subst h
  exact call_list_of
theorem pg_tupK {X : Cx} {K : PySem.W.Frag} {es : List Expr} {k : Nat} {t : TGs} {n : Nat} {pos : Pos} (hK : X.K = K) (hc : X.calm = true) (h : PGs X es t)
    (hn : (assignEach es X.env).length = n := by rfl) (hst : (assignEach es X.env).findIdx? (·.1) = none := by rfl) : PG X (.Tuple es k pos) (gTup K n t) := by
  subst hK
  exact pg_tup hc h hn hst
def top (i : Nat) : Stmt := PySem.Challenge.pw_rootrows_s07_power.main.body.getD i (.Pass ⟨0, 0, 0, 0⟩)
abbrev s_without_divisor : Stmt := top 3
abbrev s_common_divisor : Stmt := top 4
abbrev s_halved : Stmt := top 5
abbrev s_divided : Stmt := top 6
abbrev s_shortened : Stmt := top 7
abbrev s_carried_over : Stmt := top 8
abbrev s_is_row : Stmt := top 10
abbrev s_are_rows : Stmt := top 11
abbrev s_one_form : Stmt := top 12
abbrev s_whole_row : Stmt := top 13
abbrev s_is_zero : Stmt := top 14
abbrev s_multiplied : Stmt := top 15
abbrev s_raised : Stmt := top 16
abbrev s_inverse_of : Stmt := top 17
abbrev s_cofactor_of : Stmt := top 18
abbrev s_trace_of : Stmt := top 19
abbrev s_product_of : Stmt := top 20
abbrev s_remainder_of : Stmt := top 21
abbrev s_field_refusal : Stmt := top 25
abbrev s_is_told_rightly : Stmt := top 26
abbrev s_is_product : Stmt := top 27
abbrev s_has_whole_root : Stmt := top 28
abbrev s_is_product_of_quadratics : Stmt := top 29
abbrev s_polynomial_of : Stmt := top 30
abbrev s_value_at : Stmt := top 31
abbrev s_divisors_of : Stmt := top 32
abbrev s_square_root_floor : Stmt := top 33
abbrev s_power : Stmt := top 36
abbrev s_refusal_of : Stmt := top 37
theorem take_snoc' {α : Type} {l : List α} {i : Nat} {x : α} (h : l[i]? = some x) : l.take (i + 1) = l.take i ++ [x] := by
  rw [List.take_add_one, h]
  rfl
theorem lc_any {α : Type} (emb : α → V) {K : PySem.W.Frag} {a : Addr} {ns : List α} {j : Nat} {tt : TT} {te : TE} {vs : List Nat} {σ : L2.St} {H1 : Hp} {D : Addr} {Q : Hp → Prop} (p : α → Bool) (g : α → V)
    (ha : SqL K H1 a (ns.map emb)) (hn : ns.length < sizeLine) (hD : H1 D = none) (hw : ∀ z : α, wipe ((wipe σ vs).set j (some (emb z))) vs = wipe σ vs)
    (step : ∀ z ∈ ns, ∀ (H : Hp) (Rv : V → Hp → Prop) (R : Hp → Prop), Same H1 H → (∀ H', Same H H' → if p z = true then Rv (g z) H' else R H') →
      tt ((wipe σ vs).set j (some (emb z))) H fun b H3 => if b = true then te ((wipe σ vs).set j (some (emb z))) H3 Rv else R H3)
    (fin : ∀ H', Same H1 H' → H' D = some (.lst ((ns.filter p).map g)) → Q H') :
    ∃ W : Nat → Nat → Hp → Prop, (∃ m, W 0 m (upd H1 D (.lst []))) ∧ ∀ i m H, W i m H →
      ((Itl K a).stop i H ∧ Q H) ∨ ((Itl K a).go i H ∧ ∃ Nx : Hp → Prop, (∀ H', Nx H' → ∃ m', m' < m ∧ W (i + 1) m' H') ∧ ∀ x H', (Itl K a).yld i H x H' → gName j x (wipe σ vs) H' fun σ2 H2 => wipe σ2 vs = wipe σ vs ∧ tt σ2 H2 fun b H3 =>
        if b = true then te σ2 H3 fun y H4 => ∃ acc, H4 D = some (.lst acc) ∧ acc.length < sizeLine ∧ Nx (upd H4 D (.lst (acc ++ [y]))) else Nx H3) := by
  refine lc_list (K := K) (a := a) (xs := ns.map emb) (fun i H => Same H1 H ∧ H D = some (.lst (((ns.take i).filter p).map g))) ⟨same_upd hD, upd_same⟩ (fun i H _ h => h.1.seq ha) (fun i x H hx h => ?_) (fun H h => ?_)
  · obtain ⟨s, e⟩ := h
    rw [List.getElem?_map] at hx
    obtain ⟨z, hz, rfl⟩ := Option.map_eq_some_iff.mp hx
    refine ⟨hw z, step z (List.mem_of_getElem? hz) H _ _ s fun H' s' => ?_⟩
    have e' := s' _ _ e
    have ht : (ns.take (i + 1)).filter p = (ns.take i).filter p ++ [z].filter p := by rw [take_snoc' hz, List.filter_append]
    by_cases hp : p z = true
    · rw [if_pos hp]
      have hp1 : [z].filter p = [z] := by rw [List.filter_cons, if_pos hp, List.filter_nil]
      refine ⟨_, e', ?_, same_upd2 (s.trans s') hD, ?_⟩
      · rw [List.length_map]
        exact Nat.lt_of_le_of_lt (Nat.le_trans (List.length_filter_le _ _) (by rw [List.length_take]; exact Nat.min_le_right _ _)) hn
      · rw [upd_same, ht, hp1, List.map_append]
        rfl
    · rw [if_neg hp]
      have hp1 : [z].filter p = [] := by rw [List.filter_cons, if_neg hp, List.filter_nil]
      refine ⟨s.trans s', ?_⟩
      rw [ht, hp1, List.append_nil]
      exact e'
  · obtain ⟨s, e⟩ := h
    rw [List.length_map, List.take_length] at e
    exact fin H s e
theorem lc_ints {K : PySem.W.Frag} {a : Addr} {ns : List Int} {j : Nat} {tt : TT} {te : TE} {vs : List Nat} {σ : L2.St} {H1 : Hp} {D : Addr} {Q : Hp → Prop} (p : Int → Bool) (g : Int → V)
    (ha : SqL K H1 a (ns.map V.int)) (hn : ns.length < sizeLine) (hD : H1 D = none) (hw : ∀ z : Int, wipe ((wipe σ vs).set j (some (.int z))) vs = wipe σ vs)
    (step : ∀ z ∈ ns, ∀ (H : Hp) (Rv : V → Hp → Prop) (R : Hp → Prop), Same H1 H → (∀ H', Same H H' → if p z = true then Rv (g z) H' else R H') →
      tt ((wipe σ vs).set j (some (.int z))) H fun b H3 => if b = true then te ((wipe σ vs).set j (some (.int z))) H3 Rv else R H3)
    (fin : ∀ H', Same H1 H' → H' D = some (.lst ((ns.filter p).map g)) → Q H') :
    ∃ W : Nat → Nat → Hp → Prop, (∃ m, W 0 m (upd H1 D (.lst []))) ∧ ∀ i m H, W i m H →
      ((Itl K a).stop i H ∧ Q H) ∨ ((Itl K a).go i H ∧ ∃ Nx : Hp → Prop, (∀ H', Nx H' → ∃ m', m' < m ∧ W (i + 1) m' H') ∧ ∀ x H', (Itl K a).yld i H x H' → gName j x (wipe σ vs) H' fun σ2 H2 => wipe σ2 vs = wipe σ vs ∧ tt σ2 H2 fun b H3 =>
        if b = true then te σ2 H3 fun y H4 => ∃ acc, H4 D = some (.lst acc) ∧ acc.length < sizeLine ∧ Nx (upd H4 D (.lst (acc ++ [y]))) else Nx H3) :=
  lc_any V.int p g ha hn hD hw step fin
theorem lc_rng {lo : Int} {n : Nat} {j : Nat} {tt : TT} {te : TE} {vs : List Nat} {σ : L2.St} {H1 : Hp} {D : Addr} {Q : Hp → Prop} (p : Int → Bool) (g : Int → V)
    (hn : n < sizeLine) (hD : H1 D = none) (hw : ∀ z : Int, wipe ((wipe σ vs).set j (some (.int z))) vs = wipe σ vs)
    (step : ∀ i : Nat, i < n → ∀ (H : Hp) (Rv : V → Hp → Prop) (R : Hp → Prop), Same H1 H → (∀ H', Same H H' → if p (lo + i) = true then Rv (g (lo + i)) H' else R H') →
      tt ((wipe σ vs).set j (some (.int (lo + i)))) H fun b H3 => if b = true then te ((wipe σ vs).set j (some (.int (lo + i)))) H3 Rv else R H3)
    (fin : ∀ H', Same H1 H' → H' D = some (.lst ((((List.range n).map fun (i : Nat) => lo + (i : Int)).filter p).map g)) → Q H') :
    ∃ W : Nat → Nat → Hp → Prop, (∃ m, W 0 m (upd H1 D (.lst []))) ∧ ∀ i m H, W i m H →
      ((Itr lo n).stop i H ∧ Q H) ∨ ((Itr lo n).go i H ∧ ∃ Nx : Hp → Prop, (∀ H', Nx H' → ∃ m', m' < m ∧ W (i + 1) m' H') ∧ ∀ x H', (Itr lo n).yld i H x H' → gName j x (wipe σ vs) H' fun σ2 H2 => wipe σ2 vs = wipe σ vs ∧ tt σ2 H2 fun b H3 =>
        if b = true then te σ2 H3 fun y H4 => ∃ acc, H4 D = some (.lst acc) ∧ acc.length < sizeLine ∧ Nx (upd H4 D (.lst (acc ++ [y]))) else Nx H3) := by
  refine lc_range (lo := lo) (n := n) (fun i H => Same H1 H ∧ H D = some (.lst ((((List.range i).map fun (i : Nat) => lo + (i : Int)).filter p).map g))) ⟨same_upd hD, upd_same⟩ (fun i H hi h => ?_) (fun H h => fin H h.1 h.2)
  obtain ⟨s, e⟩ := h
  refine ⟨hw (lo + i), step i hi H _ _ s fun H' s' => ?_⟩
  have e' := s' _ _ e
  have ht : ((List.range (i + 1)).map fun (i : Nat) => lo + (i : Int)).filter p = ((List.range i).map fun (i : Nat) => lo + (i : Int)).filter p ++ [lo + (i : Int)].filter p := by
    rw [List.range_succ, List.map_append, List.filter_append]
    rfl
  by_cases hp : p (lo + i) = true
  · rw [if_pos hp]
    have hp1 : [lo + (i : Int)].filter p = [lo + (i : Int)] := by rw [List.filter_cons, if_pos hp, List.filter_nil]
    refine ⟨_, e', ?_, same_upd2 (s.trans s') hD, ?_⟩
    · rw [List.length_map]
      refine Nat.lt_of_le_of_lt (Nat.le_trans (List.length_filter_le _ _) ?_) hn
      rw [List.length_map, List.length_range]
      exact Nat.le_of_lt hi
    · rw [upd_same, ht, hp1, List.map_append]
      rfl
  · rw [if_neg hp]
    have hp1 : [lo + (i : Int)].filter p = [] := by rw [List.filter_cons, if_neg hp, List.filter_nil]
    refine ⟨s.trans s', ?_⟩
    rw [ht, hp1, List.append_nil]
    exact e'
theorem filter_yes {α : Type} (l : List α) : l.filter (fun _ => true) = l := List.filter_eq_self.mpr fun _ _ => rfl
theorem for_rev {K : PySem.W.Frag} {a : Addr} {xs : List V} {g : TG} {tb : TS} {D : Ends} {σ : L2.St} {H : Hp} (Pv : Nat → L2.St → Hp → Prop) (h0 : Pv 0 σ H) (hl : ∀ i σ H, i ≤ xs.length → Pv i σ H → SqL K H a xs)
    (hs : ∀ i x σ H, xs.reverse[i]? = some x → Pv i σ H → g x σ H fun σ2 H2 => tb { D with nx := Pv (i + 1), ct := Pv (i + 1), bk := D.nx } σ2 H2) (hd : ∀ σ H, Pv xs.length σ H → D.nx σ H) :
    ∃ W : Nat → Nat → L2.St → Hp → Prop, (∃ m, W 0 m σ H) ∧ ∀ i m σ H, W i m σ H →
      ((Itv K a xs.length).stop i H ∧ D.nx σ H) ∨ ((Itv K a xs.length).go i H ∧ ∃ N : L2.St → Hp → Prop, (∀ σ' H', N σ' H' → ∃ m', m' < m ∧ W (i + 1) m' σ' H') ∧ ∀ x H', (Itv K a xs.length).yld i H x H' → g x σ H' fun σ2 H2 => tb { D with nx := N, ct := N, bk := D.nx } σ2 H2) := by
  refine ⟨fun i m σ H => m = xs.length - i ∧ i ≤ xs.length ∧ Pv i σ H, ⟨xs.length, by simp, Nat.zero_le _, h0⟩, ?_⟩
  rintro i m σ H ⟨rfl, hi, p⟩
  have q := hl i σ H hi p
  by_cases hlt : i < xs.length
  · refine .inr ⟨⟨hlt, xs, xs[xs.length - 1 - i], q, by simp [show xs.length - 1 - i < xs.length by omega]⟩, Pv (i + 1), fun σ' H' p' => ⟨xs.length - (i + 1), by omega, rfl, hlt, p'⟩, fun x H' y => ?_⟩
    obtain ⟨e, y⟩ := y
    subst e
    refine hs i x σ _ ?_ p
    rw [List.getElem?_reverse hlt]
    exact y xs q
  · have e : i = xs.length := by omega
    subst e
    exact .inl ⟨Nat.le_refl _, hd σ H p⟩
theorem lc_zip2 {K : PySem.W.Frag} {a b : Addr} {ms ns : List Int} {j1 j2 : Nat} {te : TE} {vs : List Nat} {σ : L2.St} {H1 : Hp} {D : Addr} {Q : Hp → Prop} (g : Int → Int → V)
    (ha : SqL K H1 a (ms.map V.int)) (hb : SqL K H1 b (ns.map V.int)) (hn : ms.length = ns.length) (hlen : ms.length < sizeLine) (hD : H1 D = none)
    (hw : ∀ x y : Int, wipe (((wipe σ vs).set j1 (some (.int x))).set j2 (some (.int y))) vs = wipe σ vs)
    (step : ∀ x ∈ ms, ∀ y ∈ ns, ∀ (H : Hp) (Rv : V → Hp → Prop), Same H1 H → (∀ H', Same H H' → Rv (g x y) H') → te (((wipe σ vs).set j1 (some (.int x))).set j2 (some (.int y))) H Rv)
    (fin : ∀ H', Same H1 H' → H' D = some (.lst (List.zipWith g ms ns)) → Q H') :
    ∃ W : Nat → Nat → Hp → Prop, (∃ m, W 0 m (upd H1 D (.lst []))) ∧ ∀ i m H, W i m H →
      ((Itz K a b).stop i H ∧ Q H) ∨ ((Itz K a b).go i H ∧ ∃ Nx : Hp → Prop, (∀ H', Nx H' → ∃ m', m' < m ∧ W (i + 1) m' H') ∧ ∀ x H', (Itz K a b).yld i H x H' → gTup K 2 (gCons (gName j1) (gCons (gName j2) gNil)) x (wipe σ vs) H' fun σ2 H2 => wipe σ2 vs = wipe σ vs ∧ tYes σ2 H2 fun b H3 =>
        if b = true then te σ2 H3 fun y H4 => ∃ acc, H4 D = some (.lst acc) ∧ acc.length < sizeLine ∧ Nx (upd H4 D (.lst (acc ++ [y]))) else Nx H3) := by
  have hz : (List.zipWith g ms ns).length = ms.length := by rw [List.length_zipWith]; omega
  refine ⟨fun i m H => m = ms.length - i ∧ i ≤ ms.length ∧ Same H1 H ∧ H D = some (.lst ((List.zipWith g ms ns).take i)), ⟨ms.length, by simp, Nat.zero_le _, same_upd hD, upd_same⟩, ?_⟩
  rintro i m H ⟨rfl, hi, s, e⟩
  by_cases hlt : i < ms.length
  · have gx : (ms.map V.int)[i]? = some (V.int ms[i]) := by rw [List.getElem?_map, List.getElem?_eq_getElem hlt]; rfl
    have hlt2 : i < ns.length := by omega
    have gy : (ns.map V.int)[i]? = some (V.int ns[i]) := by rw [List.getElem?_map, List.getElem?_eq_getElem hlt2]; rfl
    refine .inr ⟨⟨_, _, _, _, s.seq ha, s.seq hb, gx, gy⟩, fun H' => Same H1 H' ∧ H' D = some (.lst ((List.zipWith g ms ns).take (i + 1))), fun H' p' => ⟨ms.length - (i + 1), by omega, rfl, hlt, p'.1, p'.2⟩, fun x H' y => ?_⟩
    obtain ⟨T, x1, y1, rfl, hT, rfl, q1, q2⟩ := y
    have ex : x1 = V.int ms[i] := Option.some.inj ((q1 _ (s.seq ha)).symm.trans gx)
    have ey : y1 = V.int ns[i] := Option.some.inj ((q2 _ (s.seq hb)).symm.trans gy)
    subst ex ey
    have sT : Same H (upd H T (.tup [V.int ms[i], V.int ns[i]])) := same_upd hT
    refine ⟨T, _, rfl, SqT.of upd_same, rfl, _, _, rfl, _, _, rfl, rfl, hw _ _, ?_⟩
    refine step ms[i] (List.getElem_mem hlt) ns[i] (List.getElem_mem hlt2) _ _ (s.trans sT) fun H' s' => ?_
    refine ⟨_, s' _ _ (sT _ _ e), ?_, same_upd2 ((s.trans sT).trans s') hD, ?_⟩
    · rw [List.length_take]
      omega
    · have gz : (List.zipWith g ms ns)[i]? = some (g ms[i] ns[i]) := by
        rw [List.getElem?_zipWith, List.getElem?_eq_getElem hlt, List.getElem?_eq_getElem hlt2]
      rw [upd_same, take_snoc' gz]
  · have e' : i = ms.length := by omega
    subst e'
    rw [List.take_of_length_le (by rw [hz]; exact Nat.le_refl _)] at e
    exact .inl ⟨⟨_, _, s.seq ha, s.seq hb, .inl (by rw [List.length_map]; exact Nat.le_refl _)⟩, fin H s e⟩
theorem cut_last (l : List Int) (z : Int) : cutV ((l ++ [z]).map V.int) none (some (-1)) = l.map V.int := by
  unfold cutV
  have e : ((l ++ [z]).map V.int).length = l.length + 1 := by simp
  have e1 : HT.sIx (l.length + 1) (l.length + 1) (some (-1)) = l.length := by
    unfold HT.sIx
    dsimp only
    rw [if_pos (by decide)]
    omega
  rw [e, e1, HT.sIx_none, List.drop_zero, Nat.sub_zero, List.map_append]
  exact List.take_left' (by simp)
theorem at_end (l : List Int) (z : Int) : atI ((l ++ [z]).map V.int) (-1) = some (.int z) := by
  rw [List.map_append]
  exact atI_last (l.map V.int) (V.int z)
theorem at_last {a : List Int} (h : a ≠ []) : atI (a.map V.int) (-1) = some (.int (a.getLastD 0)) := by
  obtain ⟨l, z, rfl⟩ : ∃ (l : List Int) (z : Int), a = l ++ [z] := ⟨a.dropLast, a.getLast h, (List.dropLast_concat_getLast h).symm⟩
  rw [List.map_append]
  have e : (l ++ [z]).getLastD 0 = z := by simp
  rw [e]
  exact atI_last (l.map V.int) (V.int z)
theorem good_at {c : List Int} {i : Nat} (h : i < c.length) : atI (c.map V.int) (i : Int) = some (.int (c.getD i 0)) := by
  refine atI_nat (j := i) ?_
  rw [List.getElem?_map, List.getElem?_eq_getElem h, List.getD_eq_getElem?_getD, List.getElem?_eq_getElem h]
  rfl
theorem get_listK {X : Cx} {K : PySem.W.Frag} (h : X.K = K) : PGet X (rIxL K) := by
  subst h
  intro pins s σ H x y v u Q I rx ry h
  obtain ⟨p, xs, i, z, rfl, rfl, hq, he, q⟩ := h
  cases rx
  obtain ⟨t, rfl⟩ := ry
  obtain ⟨its, r, pl, hz⟩ := I.list hq
  obtain ⟨j, h1, h2, h3, h4, h5⟩ := atI_get he
  obtain ⟨w, ew, rw'⟩ := r.get h2
  have hl := r.length
  have hn := line63
  have fin : EP X pins σ Q w s := ⟨z, H, I, rw', q⟩
  by_cases h0 : 0 ≤ i
  · have hj : i.toNat = j := by
      rw [seqIndex_of h0 h5] at h1
      exact Option.some.inj h1
    exact wpAny_getItem_list pl.isList h0 (by omega) (by rw [hj]; simpa using ew) fin
  · have hj : (i + (its.toArray.size : Int)).toNat = j := by
      rw [seqIndex_neg (by omega) h4] at h1
      rw [List.size_toArray, ← hl]
      exact Option.some.inj h1
    exact wpAny_getItem_list_neg pl.isList (by omega) (by rw [List.size_toArray] <;> omega) (by omega) (by rw [hj]; simpa using ew) fin
theorem bits_few {z : Int} {n : Nat} (h : z.natAbs < 2 ^ n) : Builtin.Int.intBits z ≤ n := by
  unfold Builtin.Int.intBits
  split
  · exact Nat.zero_le _
  · rename_i hz
    rcases Nat.eq_zero_or_pos z.natAbs with h0 | hp
    · exact absurd (Int.natAbs_eq_zero.mp h0) (by simpa using hz)
    · have := (Nat.log2_lt (Nat.ne_of_gt hp)).mpr h
      omega
theorem mul_few {a b : Int} {m n : Nat} (ha : a.natAbs < 2 ^ m) (hb : b.natAbs < 2 ^ n) (hm : m ≤ 8000) (hn : n ≤ 8000) : IntMulOk a b :=
  .of_bits (Nat.le_trans (bits_few ha) (Nat.le_trans hm (by decide))) (Nat.le_trans (bits_few hb) (Nat.le_trans hn (by decide)))
theorem cut_to (l : List Int) (n : Nat) (h : n ≤ l.length) : cutV (l.map V.int) none (some (n : Int)) = (l.take n).map V.int := by
  unfold cutV
  have e1 : HT.sIx (l.map V.int).length (l.map V.int).length (some (n : Int)) = n := by
    unfold HT.sIx
    dsimp only
    rw [if_neg (by omega), List.length_map]
    omega
  rw [e1, HT.sIx_none, List.drop_zero, Nat.sub_zero, List.map_take]
theorem good_atI {c : List Int} {i : Int} (h0 : 0 ≤ i) (h : i.toNat < c.length) : atI (c.map V.int) i = some (.int (c.getD i.toNat 0)) := by
  obtain ⟨n, rfl⟩ : ∃ n : Nat, i = (n : Int) := ⟨i.toNat, by omega⟩
  exact good_at (by simpa using h)
def FewI (n : Nat) (l : List Int) : Prop := ∀ z ∈ l, z.natAbs < 2 ^ n
theorem pow2_mono {m n : Nat} (h : m ≤ n) : 2 ^ m ≤ 2 ^ n := Nat.pow_le_pow_right (by decide) h
theorem lt_up {a m n : Nat} (h : a < 2 ^ m) (e : m ≤ n) : a < 2 ^ n := Nat.lt_of_lt_of_le h (pow2_mono e)
theorem FewI.mono {m n : Nat} {l : List Int} (h : FewI m l) (e : m ≤ n) : FewI n l := fun z hz => lt_up (h z hz) e
theorem FewI.left {m : Nat} {l r : List Int} (h : FewI m (l ++ r)) : FewI m l := fun z hz => h z (List.mem_append.mpr (.inl hz))
theorem FewI.last {m : Nat} {l : List Int} {z : Int} (h : FewI m (l ++ [z])) : z.natAbs < 2 ^ m := h z (List.mem_append.mpr (.inr (by simp)))
theorem FewI.app {m : Nat} {l : List Int} {z : Int} (h : FewI m l) (hz : z.natAbs < 2 ^ m) : FewI m (l ++ [z]) := fun y hy => by
  rcases List.mem_append.mp hy with h1 | h1
  · exact h y h1
  · have : y = z := by simpa using h1
    rw [this]
    exact hz
theorem FewI.getD {m : Nat} {l : List Int} (h : FewI m l) (i : Nat) : (l.getD i 0).natAbs < 2 ^ m := by
  rw [List.getD_eq_getElem?_getD]
  cases e : l[i]? with
  | none => exact Nat.two_pow_pos m
  | some z => exact h z (List.mem_of_getElem? e)
theorem mul_lt2 {a b : Int} {m n : Nat} (ha : a.natAbs < 2 ^ m) (hb : b.natAbs < 2 ^ n) : (a * b).natAbs < 2 ^ (m + n) := by
  rw [Int.natAbs_mul, Nat.pow_add]
  exact Nat.mul_lt_mul_of_lt_of_lt ha hb
theorem add_lt2 {a b : Int} {m : Nat} (ha : a.natAbs < 2 ^ m) (hb : b.natAbs < 2 ^ m) : (a + b).natAbs < 2 ^ (m + 1) := by
  rw [Nat.pow_succ]
  omega
theorem mul_big {a b : Int} {m n : Nat} (ha : a.natAbs < 2 ^ m) (hb : b.natAbs < 2 ^ n) (h : m + n ≤ 134217728) : IntMulOk a b := IntMulOk.of_le (bits_few ha) (bits_few hb) h
theorem mem_zipWith {α β γ : Type} {f : α → β → γ} {z : γ} : ∀ {l : List α} {m : List β}, z ∈ List.zipWith f l m → ∃ x ∈ l, ∃ y ∈ m, z = f x y
  | [], _, h => by simp at h
  | _ :: _, [], h => by simp at h
  | a :: l, b :: m, h => by
    rw [List.zipWith_cons_cons] at h
    rcases List.mem_cons.mp h with h | h
    · exact ⟨a, by simp, b, by simp, h⟩
    · obtain ⟨x, hx, y, hy, e⟩ := mem_zipWith h
      exact ⟨x, by simp [hx], y, by simp [hy], e⟩
theorem few_addRow {m n : Nat} {ms ns : List Int} {p q : Int} (h1 : FewI m (ms ++ [p])) (h2 : FewI n (ns ++ [q])) : FewI (m + n + 1) (addRow ms p ns q) := by
  intro z hz
  unfold addRow at hz
  rcases List.mem_append.mp hz with hz | hz
  · obtain ⟨x, hx, y, hy, rfl⟩ := mem_zipWith hz
    have e1 := mul_lt2 (h1.left x hx) h2.last
    have e2 := mul_lt2 (h2.left y hy) h1.last
    rw [Nat.add_comm n m] at e2
    exact add_lt2 e1 e2
  · have : z = p * q := by simpa using hz
    rw [this]
    exact lt_up (mul_lt2 h1.last h2.last) (by omega)
theorem len_addRow {ms ns : List Int} {p q : Int} (h : ms.length ≤ 100) : (addRow ms p ns q).length ≤ 1000 := by
  unfold addRow
  rw [List.length_append, List.length_zipWith]
  show min ms.length ns.length + 1 ≤ 1000
  omega
theorem at_ix {α : Type} {xs : List α} {i : Int} {j : Nat} {v : α} (e : i = (j : Int)) (h : xs[j]? = some v) : atI xs i = some v := e ▸ atI_nat h
theorem ix_nat {n j : Nat} {k : Int} (e : k = (j : Int)) (h : j < n) : ixN n k = some j := by
  unfold ixN
  rw [if_pos (by omega), if_pos (by omega), e]
  simp
theorem at_getD {l : List Int} {i : Int} {j : Nat} (e : i = (j : Int)) (h : j < l.length) : atI (l.map V.int) i = some (.int (l.getD j 0)) := by
  refine at_ix e ?_
  rw [List.getElem?_map, List.getElem?_eq_getElem h, List.getD_eq_getElem?_getD, List.getElem?_eq_getElem h]
  rfl
def FieldOk (c : List Int) : Prop := 1 ≤ c.length ∧ c.length ≤ 4 ∧ ∀ z ∈ c, z.natAbs ≤ 1000
theorem FieldOk.at {c : List Int} (h : FieldOk c) (i : Nat) : (c.getD i 0).natAbs ≤ 1000 := by
  rw [List.getD_eq_getElem?_getD]
  cases e : c[i]? with
  | none => exact Nat.zero_le _
  | some z => exact h.2.2 z (List.mem_of_getElem? e)
theorem getD_set_ne {l : List Int} {i j : Nat} {v : Int} (h : i ≠ j) : (l.set i v).getD j 0 = l.getD j 0 := by
  rw [List.getD_eq_getElem?_getD, List.getD_eq_getElem?_getD, List.getElem?_set_ne h]
theorem FewI.set {n : Nat} {l : List Int} {i : Nat} {v : Int} (h : FewI n l) (hv : v.natAbs < 2 ^ n) : FewI n (l.set i v) := fun z hz => by
  rcases List.mem_or_eq_of_mem_set hz with h1 | h1
  · exact h z h1
  · rw [h1]; exact hv
theorem asg_if {t : TT} {ta tb : TE} {i : Nat} {rest : TS} {D : Ends} {σ : L2.St} {H : Hp} {x : V} (h : ∀ R : VK, R x H → tIf t ta tb σ H R) (q : rest D (σ.set i (some x)) H) : tSeq (tAsg (tIf t ta tb) (gName i)) rest D σ H := h _ q
theorem ints_at : ∀ {its : List Value} {ns : List Int}, IntsAre its ns → ∀ {i : Nat} {v : Value}, its[i]? = some v → ∃ (n : Int) (t : Tok), v = .int n t ∧ ns.getD i 0 = n
  | _, _, .nil, i, v, h => by simp at h
  | _, _, .cons n t h, 0, v, hv => by
    simp at hv
    exact ⟨n, t, hv.symm, rfl⟩
  | _, _, .cons n t h, i + 1, v, hv => by
    simp at hv
    obtain ⟨m, u, e1, e2⟩ := ints_at h hv
    exact ⟨m, u, e1, by rw [List.getD_cons_succ]; exact e2⟩
theorem truth_ints {prog : Program} {w : World} {A : Around} {ns : List Int} {its : List Value} (e : IntsAre its ns) :
    TruthOf prog w A (fun i v => its.toArray[i]? = some v) (fun i => ns.getD i 0 != 0) := fun i v s Q E hv hq => by
  have hv' : its[i]? = some v := by simpa using hv
  obtain ⟨n, t, rfl, hn⟩ := ints_at e hv'
  have hq' : Q (ns.getD i 0 != 0) s := hq
  rw [hn] at hq'
  exact truthy_int hq'
theorem any_rangeI : ∀ ns : List Int, (List.range ns.length).any (fun i => ns.getD i 0 != 0) = ns.any fun (z : Int) => z != 0
  | [] => rfl
  | b :: bs => by
    rw [List.length_cons, List.range_succ_eq_map, List.any_cons, List.any_map, List.any_cons, ← any_rangeI bs]
    all_goals rfl
def rAnyI (K : PySem.W.Frag) : List V → Hp → VK → Prop := fun vs H Q => ∃ (a : Addr) (ns : List Int), vs = [V.ref a] ∧ SqL K H a (ns.map V.int) ∧ Q (.bl (ns.any fun (z : Int) => z != 0)) H
theorem cr_anyIK {X : Cx} {K : PySem.W.Frag} (h : X.K = K) (hc : X.calm = true) : CallR X (.builtin "any") (rAnyI K) := by
  subst h
  intro pins s σ H vs us Q I r h
  obtain ⟨a, ns, rfl, hs, q⟩ := h
  obtain ⟨its, rv, hl, _⟩ := I.list hs
  rw [Vals.ref1 r]
  have hb := rv.ints
  refine call_any_walk (iter_any hl.isList fun s₂ e2 st hne => ?_)
  subst e2
  refine ⟨_, _, _, _, _, _, _, rfl, Walks.list (A := X.A.in1) (I.ok.hd hc) _ a hne its.toArray, st, truth_ints hb, fun h' tk hk => ?_⟩
  refine ⟨.bl _, H, I.kept fun b o eo => hk b o (fun hmem => ?_) (Heap.get?_push_of_some _ eo), ?_, q⟩
  · rcases List.mem_cons.mp hmem with e1 | hmem
    · exact absurd (e1 ▸ Heap.lt_size eo) (Nat.lt_irrefl _)
    · cases hmem
  · show Value.bool _ = Value.bool _
    have hlen : its.length = ns.length := by
      have := rv.length
      rw [List.length_map] at this
      exact this.symm
    rw [← any_rangeI, List.size_toArray, hlen]
theorem field_ok {c : List Int} (h : refusal c = 0) : FieldOk c := ok_field h
theorem good_len {c : List Int} (h1 : ¬ decide ((c.length : Int) < 1) = true) (h2 : ¬ decide ((4 : Int) < (c.length : Int)) = true) : (!badField c) = (c.map fun (z : Int) => decide ((if z < 0 then -z else z) ≤ 1000)).all id := by
  have h1' : ¬ c.length < 1 := fun z => h1 (decide_eq_true (by omega))
  have h2' : ¬ 4 < c.length := fun z => h2 (decide_eq_true (by omega))
  unfold badField
  rw [decide_eq_false h1', decide_eq_false h2', Bool.false_or, Bool.false_or, List.all_map, Bool.eq_iff_iff, Bool.not_eq_true', List.any_eq_false, List.all_eq_true]
  constructor
  · intro h z hz
    have := h z hz
    rw [Bool.or_eq_true, decide_eq_true_eq, decide_eq_true_eq] at this
    show decide _ = true
    rw [decide_eq_true_eq, abs_is]
    omega
  · intro h z hz
    have := h z hz
    have h3 : decide ((if z < 0 then -z else z) ≤ 1000) = true := this
    rw [decide_eq_true_eq, abs_is] at h3
    rw [Bool.or_eq_true, decide_eq_true_eq, decide_eq_true_eq]
    omega
theorem bad_short {c : List Int} (h : decide ((c.length : Int) < 1) = true) : (!badField c) = false := by
  have h1 := of_decide_eq_true h
  unfold badField
  rw [decide_eq_true (show c.length < 1 by omega)]
  rfl
theorem bad_long {c : List Int} (h : decide ((4 : Int) < (c.length : Int)) = true) : (!badField c) = false := by
  have h1 := of_decide_eq_true h
  unfold badField
  rw [decide_eq_true (show 4 < c.length by omega), Bool.true_or, Bool.or_true]
  rfl
def sp_is_told_rightly (K : PySem.W.Frag) : Sp := fun vs H Q _ => ∃ (v : V) (c : List Int), vs = [v] ∧ IL K H v c ∧ c.length ≤ 1000 ∧ ∀ H' : Hp, Same H H' → Q (.bl (!badField c)) H'
theorem sc_is_told_rightly : FnScope ["field", "number"] ["field"] (defScope s_is_told_rightly) := ⟨rfl, rfl, rfl, by decide +kernel, rfl, by decide +kernel, by decide +kernel⟩
theorem ok_is_told_rightly {P : Program} {w : World} {K : PySem.W.Frag} {mg : Str → Option Value} {base : Heap} {f : Addr} {fd : FuncData} (F : Fun K "is_told_rightly" "is_told_rightly" s_is_told_rightly f fd) (O : Own mg) (c_GREATEST_DEGREE : Kst mg "GREATEST_DEGREE" 4) (c_GREATEST_SIZE : Kst mg "GREATEST_SIZE" 1000) :
    FnOk P w K mg base CX0 1 f fd ["field"] (sp_is_told_rightly K) := by
  refine F.ok sc_is_told_rightly (fun vs H Q E h => ?_) (fun cdv A outer s H vs Q E hr h => ?_)
  · obtain ⟨v, c, rfl, _⟩ := h
    rfl
  · obtain ⟨v, c, rfl, ⟨a, rfl, hc⟩, hl, k⟩ := h
    refine ⟨_, (pss_cons (ps_if (PW.pt (pw_or (pt_cmpR op_lt (pe_callB (call_lenK (K := K) rfl) (by rfl) O.len_ bt_len (pa_cons (pv 0) pa_nil)) pe_int (nomark _)) (pw_or1 (pt_cmpR op_gt (pe_callB (call_lenK (K := K) rfl) (by rfl) O.len_ bt_len (pa_cons (pv 0) pa_nil)) (pe_globK (by rfl) c_GREATEST_DEGREE) (nomark _))))) (pss_one (ps_ret pe_bl)) pss_nil)
      (pss_one (ps_ret (pe_callB (cr_allK (K := K) rfl rfl) (by rfl) O.all_ bt_all (pa_cons (pe_lc (own := [("number", 1)]) rfl sc_is_told_rightly.nd (pi_list (pv 0)) (show BlkOk ["field", "number"] (defScope s_is_told_rightly) _ _ from ⟨rfl, by decide +kernel, by decide +kernel, by decide +kernel, by decide +kernel⟩) (fun _ _ _ _ _ => (pg_name (i := 1) sc_is_told_rightly.nd rfl (by first | exact Or.inl rfl | exact Or.inr rfl))) (fun _ _ _ _ _ => pts_nil) (fun _ _ _ _ _ => (pe_cmpR op_le (pe_callB call_abs (by rfl) O.abs_ bt_abs (pa_cons (pv 1) pa_nil)) (pe_globK (by rfl) c_GREATEST_SIZE) (nomark _)))) pa_nil))))), ?_⟩
    refine ⟨_, rfl, a, _, rfl, .inl hc, _, _, rfl, rfl, _, rfl, ?_⟩
    rw [List.length_map]
    refine ite2 (fun h1 => ?_) (fun h1 => ?_)
    · have e := k H (Same.refl H)
      rw [bad_short h1] at e
      exact e
    · refine ⟨_, rfl, a, _, rfl, .inl hc, _, _, rfl, rfl, _, rfl, ?_⟩
      rw [List.length_map]
      refine ite2 (fun h2 => ?_) (fun h2 => ?_)
      · have e := k H (Same.refl H)
        rw [bad_long h2] at e
        exact e
      · refine ⟨_, rfl, a, rfl, ⟨_, hc⟩, fun D hD => ?_⟩
        refine lc_ints (K := K) (a := a) (ns := c) (fun _ => true) (fun z => V.bl (decide ((if z < 0 then -z else z) ≤ 1000))) hc (small1000 hl) hD (fun z => rfl) (fun z hz H2 Rv R s2 hR => ?_) (fun H2 s2 e4 => ?_)
        · have hR' := hR H2 (Same.refl H2)
          rw [if_pos rfl] at hR'
          exact ⟨_, rfl, z, rfl, _, _, rfl, rfl, hR'⟩
        · rw [filter_yes] at e4
          refine ⟨D, c.map fun (z : Int) => decide ((if z < 0 then -z else z) ≤ 1000), rfl, SqL.of ?_, ?_⟩
          · rw [e4, List.map_map]
            rfl
          · rw [← good_len h1 h2]
            exact k H2 s2
def sp_polynomial_of (K : PySem.W.Frag) : Sp := fun vs H Q _ => ∃ (v : V) (c : List Int), vs = [v] ∧ IL K H v c ∧ c.length ≤ 1000 ∧ ∀ (H' : Hp) (u : V), Same H H' → OL H' u (c ++ [1]) → Q u H'
theorem sc_polynomial_of : FnScope ["field"] ["field"] (defScope s_polynomial_of) := ⟨rfl, rfl, rfl, by decide +kernel, rfl, by decide +kernel, by decide +kernel⟩
theorem ok_polynomial_of {P : Program} {w : World} {K : PySem.W.Frag} {mg : Str → Option Value} {base : Heap} {f : Addr} {fd : FuncData} (F : Fun K "polynomial_of" "polynomial_of" s_polynomial_of f fd) (O : Own mg) :
    FnOk P w K mg base CX0 1 f fd ["field"] (sp_polynomial_of K) := by
  refine F.ok sc_polynomial_of (fun vs H Q E h => ?_) (fun cdv A outer s H vs Q E hr h => ?_)
  · obtain ⟨v, c, rfl, _⟩ := h
    rfl
  · obtain ⟨v, c, rfl, ⟨a, rfl, hc⟩, hl, k⟩ := h
    refine ⟨_, pss_one (ps_ret (pe_op op_cat (pe_callTy call_list_of (by rfl) O.list_ bt_list (pa_cons (pv 0) pa_nil)) (pe_lst (pa_cons pe_int pa_nil)))), ?_⟩
    refine ⟨_, rfl, a, _, rfl, .inl hc, fun l hl1 => ⟨by show 1 ≤ sizeLine; decide, fun q hq => ⟨l, q, _, _, rfl, rfl, (upd_ne (ne_of_none (H := upd H l (.lst (c.map V.int))) upd_same hq)).trans upd_same, upd_same, ?_, fun p hp => ?_⟩⟩⟩
    · rw [List.length_map]
      exact Nat.le_trans (Nat.add_le_add_right hl 1) (by decide)
    · have h1 : H q = none := (same_upd hl1).free hq
      have s1 : Same H (upd (upd H l (.lst (c.map V.int))) q (.lst [V.int 1])) := (same_upd hl1).trans (same_upd hq)
      refine k _ _ (s1.trans (same_upd hp)) ⟨p, rfl, ?_⟩
      rw [upd_same, List.map_append]
      rfl
def sp_divisors_of : Sp := fun vs H Q _ => ∃ n : Int, vs = [.int n] ∧ n.natAbs ≤ 1000 ∧ ∀ (H' : Hp) (u : V), Same H H' → OL H' u (divisorsOf n) → Q u H'
theorem sc_divisors_of : FnScope ["number", "above", "k"] ["number"] (defScope s_divisors_of) := ⟨rfl, rfl, rfl, by decide +kernel, rfl, by decide +kernel, by decide +kernel⟩
theorem ok_divisors_of {P : Program} {w : World} {K : PySem.W.Frag} {mg : Str → Option Value} {base : Heap} {f : Addr} {fd : FuncData} (F : Fun K "divisors_of" "divisors_of" s_divisors_of f fd) (O : Own mg) :
    FnOk P w K mg base CX0 1 f fd ["number"] sp_divisors_of := by
  refine F.ok sc_divisors_of (fun vs H Q E h => ?_) (fun cdv A outer s H vs Q E hr h => ?_)
  · obtain ⟨n, rfl, _⟩ := h
    rfl
  · obtain ⟨n, rfl, hn, k⟩ := h
    refine ⟨_, pss_cons (ps_setLc (i := 1) (own := [("k", 2)]) rfl sc_divisors_of.nd rfl rfl rfl
        (pi_range2 (by rfl) O.range_ (pa_cons pe_int (pa_cons (pe_op op_add (pe_callB call_abs (by rfl) O.abs_ bt_abs (pa_cons (pv 0) pa_nil)) pe_int) pa_nil)))
        (show BlkOk ["number", "above", "k"] (defScope s_divisors_of) _ _ from ⟨rfl, by decide +kernel, by decide +kernel, by decide +kernel, by decide +kernel⟩) (fun _ _ _ _ _ => pg_name (i := 2) sc_divisors_of.nd rfl (Or.inl rfl))
        (fun _ _ _ _ _ => pts_one (pt_cmpR op_eq (pe_op op_mod (pv 0) (pv 2)) pe_int (nomark _))) (fun _ _ _ _ _ => pv 2))
      (pss_one (ps_ret (pe_op op_cat (pv 1) (pe_lc (own := [("k", 2)]) rfl sc_divisors_of.nd (pi_list (pv 1))
        (show BlkOk ["number", "above", "k"] (defScope s_divisors_of) _ _ from ⟨rfl, by decide +kernel, by decide +kernel, by decide +kernel, by decide +kernel⟩) (fun _ _ _ _ _ => pg_name (i := 2) sc_divisors_of.nd rfl (Or.inl rfl))
        (fun _ _ _ _ _ => pts_nil) (fun _ _ _ _ _ => pe_un un_neg (pv 2)))))), ?_⟩
    refine ⟨_, rfl, n, rfl, _, _, rfl, rfl, _, _, rfl, ⟨by omega, by omega, by split <;> omega, by split <;> omega⟩, fun D hD => ?_⟩
    refine lc_rng (fun z => decide (n % z = 0)) V.int ?_ hD (fun z => rfl) (fun i hi H1 Rv R s1 hR => ?_) (fun H1 s1 e1 => ?_)
    · rw [abs_is]
      exact small1000 (by omega)
    · refine ⟨_, rfl, _, rfl, _, _, rfl, rfl, (by show (0 : Int) < 1 + i; omega), rfl, _, rfl, ?_⟩
      have hR' := hR H1 (Same.refl H1)
      refine ite2 (fun hb => ?_) (fun hb => ?_)
      · rw [if_pos (decide_eq_true (int_eq hb))] at hR'
        exact ⟨_, rfl, hR'⟩
      · rw [if_neg (fun z => int_ne hb (of_decide_eq_true z))] at hR'
        exact hR'
    · have e2 : ((List.range ((if n < 0 then -n else n) + 1 - 1).toNat).map fun (i : Nat) => (1 : Int) + (i : Int)).filter (fun z => decide (n % z = 0)) = divAbove n := by
        rw [abs_is, show ((n.natAbs : Int) + 1 - 1).toNat = n.natAbs by omega]
        rfl
      have hsmall : (divAbove n).length ≤ 1000 := by
        unfold divAbove
        refine Nat.le_trans (List.length_filter_le _ _) ?_
        rw [List.length_map, List.length_range]
        exact hn
      have e3 : H1 D = some (.lst ((divAbove n).map V.int)) := e2 ▸ e1
      refine ⟨_, rfl, _, rfl, D, rfl, ⟨_, SqL.of e3⟩, fun G hG => ?_⟩
      refine lc_ints (K := K) (a := D) (ns := divAbove n) (fun _ => true) (fun z => V.int (-z)) (SqL.of e3) (small1000 hsmall) hG (fun z => rfl) (fun z hz H2 Rv R s2 hR => ?_) (fun H2 s2 e4 => ?_)
      · have hR' := hR H2 (Same.refl H2)
        rw [if_pos rfl] at hR'
        exact ⟨_, rfl, _, rfl, hR'⟩
      · rw [filter_yes] at e4
        refine ⟨D, G, _, _, rfl, rfl, s2 _ _ e3, e4, ?_, fun p hp => ?_⟩
        · rw [List.length_map, List.length_map]
          exact Nat.le_trans (Nat.add_le_add hsmall hsmall) (by decide)
        · refine k _ _ ((s1.trans s2).trans (same_upd hp)) ⟨p, rfl, ?_⟩
          rw [upd_same]
          unfold divisorsOf
          rw [List.map_append, List.map_map]
          rfl
def fewBits (n : Nat) (z : Int) : Prop := z.natAbs < 2 ^ n
def sp_value_at (K : PySem.W.Frag) : Sp := fun vs H Q _ => ∃ (v : V) (f : List Int) (z : Int), vs = [v, .int z] ∧ IL K H v f ∧ (-(2 ^ 64) < z ∧ z < 2 ^ 64) ∧ ∀ H' : Hp, Same H H' → Q (.int (horner f z)) H'
theorem sc_value_at : FnScope ["f", "number", "value", "factor"] ["f", "number"] (defScope s_value_at) := ⟨rfl, rfl, rfl, by decide +kernel, rfl, by decide +kernel, by decide +kernel⟩
theorem ok_value_at {P : Program} {w : World} {K : PySem.W.Frag} {mg : Str → Option Value} {base : Heap} {f : Addr} {fd : FuncData} (F : Fun K "value_at" "value_at" s_value_at f fd) (O : Own mg) :
    FnOk P w K mg base CX0 1 f fd ["f", "number"] (sp_value_at K) := by
  refine F.ok sc_value_at (fun vs H Q E h => ?_) (fun cdv A outer s H vs Q E hr h => ?_)
  · obtain ⟨v, c, z, rfl, _⟩ := h
    rfl
  · obtain ⟨v, c, z, rfl, ⟨a, rfl, hc⟩, hz, k⟩ := h
    refine ⟨_, pss_cons (ps_set (i := 2) sc_value_at.nd rfl (Or.inl rfl) pe_int)
      (pss_cons (ps_for PassesOwn.never rfl (pi_reversed (by rfl) O.reversed_ (pa_cons (pv 0) pa_nil)) (pg_name (i := 3) sc_value_at.nd rfl (Or.inl rfl))
        (pss_one (ps_set (i := 2) sc_value_at.nd rfl (Or.inl rfl) (pe_op op_add (pe_op op_mul (pv 2) (pv 1)) (pv 3)))))
      (pss_one (ps_ret (pv 2)))), ?_⟩
    refine ⟨_, rfl, a, _, rfl, hc, for_rev (K := K) (a := a) (xs := c.map V.int) (fun i σ H' => ∃ v3 : Option V, σ = [some (.ref a), some (.int z), some (.int ((c.reverse.take i).foldl (fun (s t : Int) => s * z + t) 0)), v3] ∧ Same H H')
      ⟨none, rfl, Same.refl H⟩ (fun i σ H' _ h => ?_) ?_ ?_⟩
    · obtain ⟨_, _, hs⟩ := h
      exact hs.seq hc
    · rintro i x σ H' hx ⟨v3, rfl, hs⟩
      rw [← List.map_reverse, List.getElem?_map] at hx
      obtain ⟨t, ht, rfl⟩ := Option.map_eq_some_iff.mp hx
      refine ⟨_, rfl, _, rfl, _, _, rfl, rfl, .inr hz, _, rfl, _, _, rfl, rfl, some (.int t), ?_, hs⟩
      rw [take_snoc' ht, List.foldl_append]
      rfl
    · rintro σ H' ⟨v3, rfl, hs⟩
      refine ⟨_, rfl, ?_⟩
      have e : (c.reverse.take (c.map V.int).length).foldl (fun (s t : Int) => s * z + t) 0 = horner c z := by
        rw [List.length_map, List.take_of_length_le (by rw [List.length_reverse]; exact Nat.le_refl _)]
        rfl
      rw [e]
      exact k H' hs
theorem good_head {c : List Int} (h : c ≠ []) : atI (c.map V.int) 0 = some (.int (c.headD 0)) := by
  cases c with
  | nil => exact absurd rfl h
  | cons z l => exact atI_nat (j := 0) rfl
def sp_has_whole_root (K : PySem.W.Frag) : Sp := fun vs H Q _ => ∃ (v : V) (c : List Int), vs = [v] ∧ IL K H v c ∧ c ≠ [] ∧ c.length ≤ 999 ∧ (c.headD 0).natAbs ≤ 1000 ∧ ∀ H' : Hp, Same H H' → Q (.bl ((divisorsOf (c.headD 0)).any fun (z : Int) => horner (c ++ [1]) z == 0)) H'
theorem sc_has_whole_root : FnScope ["field", "f", "number"] ["field"] (defScope s_has_whole_root) := ⟨rfl, rfl, rfl, by decide +kernel, rfl, by decide +kernel, by decide +kernel⟩
theorem ok_has_whole_root {P : Program} {w : World} {K : PySem.W.Frag} {mg : Str → Option Value} {base : Heap} {f : Addr} {fd : FuncData} (F : Fun K "has_whole_root" "has_whole_root" s_has_whole_root f fd) (O : Own mg) (C_polynomial_of : Cal P w K mg base 1 "polynomial_of" ["field"] (sp_polynomial_of K)) (C_divisors_of : Cal P w K mg base 1 "divisors_of" ["number"] sp_divisors_of) (C_value_at : Cal P w K mg base 1 "value_at" ["f", "number"] (sp_value_at K)) :
    FnOk P w K mg base CX0 2 f fd ["field"] (sp_has_whole_root K) := by
  refine F.ok sc_has_whole_root (fun vs H Q E h => ?_) (fun cdv A outer s H vs Q E hr h => ?_)
  · obtain ⟨v, c, rfl, _⟩ := h
    rfl
  · obtain ⟨v, c, rfl, ⟨a, rfl, hc⟩, hne, hl, hz, k⟩ := h
    refine ⟨_, (pss_cons (ps_set (i := 1) sc_has_whole_root.nd rfl (by first | exact Or.inl rfl | exact Or.inr rfl) (pe_cal C_polynomial_of (hr.mono (by decide)) (by rfl) (pa_cons (pv 0) pa_nil)))
      (pss_one (ps_ret (pe_callB (cr_anyK (K := K) rfl rfl) (by rfl) O.any_ bt_any (pa_cons (pe_lc (own := [("number", 2)]) rfl sc_has_whole_root.nd (pi_list (pe_cal C_divisors_of (hr.mono (by decide)) (by rfl) (pa_cons (pe_ix (ix_listK (K := K) rfl) (pv 0) pe_int (fun _ _ => rfl)) pa_nil))) (show BlkOk ["field", "f", "number"] (defScope s_has_whole_root) _ _ from ⟨rfl, by decide +kernel, by decide +kernel, by decide +kernel, by decide +kernel⟩) (fun _ _ _ _ _ => (pg_name (i := 2) sc_has_whole_root.nd rfl (by first | exact Or.inl rfl | exact Or.inr rfl))) (fun _ _ _ _ _ => pts_nil) (fun _ _ _ _ _ => (pe_cmpR op_eq (pe_cal C_value_at (hr.mono (by decide)) (by rfl) (pa_cons (pv 1) (pa_cons (pv 2) pa_nil))) pe_int (nomark _)))) pa_nil))))), ?_⟩
    refine ⟨_, rfl, _, c, rfl, ⟨a, rfl, hc⟩, by omega, fun H1 u s1 hu => ?_⟩
    obtain ⟨b, rfl, hb⟩ := hu
    refine ⟨_, rfl, a, _, _, _, rfl, rfl, s1.seq hc, good_head hne, _, rfl, hz, fun H2 u2 s2 hu2 => ?_⟩
    obtain ⟨d, rfl, hd⟩ := hu2
    refine ⟨d, rfl, ⟨_, SqL.of hd⟩, fun D hD => ?_⟩
    have hlen : (divisorsOf (c.headD 0)).length ≤ 2000 := by
      unfold divisorsOf divAbove
      rw [List.length_append, List.length_map]
      have := List.length_filter_le (fun (k : Int) => decide ((c.headD 0) % k = 0)) ((List.range (c.headD 0).natAbs).map fun (i : Nat) => (1 : Int) + (i : Int))
      rw [List.length_map, List.length_range] at this
      omega
    refine lc_ints (K := K) (a := d) (ns := divisorsOf (c.headD 0)) (fun _ => true) (fun z => V.bl (decide (horner (c ++ [1]) z = 0))) (SqL.of hd) (Nat.lt_of_le_of_lt hlen (by decide)) hD (fun z => rfl) (fun z hz2 H3 Rv R s3 hR => ?_) (fun H3 s3 e4 => ?_)
    · obtain ⟨q1, q2, q3, q4⟩ := mem_divisors.mp hz2
      refine ⟨_, rfl, _, rfl, _, _, z, rfl, ⟨b, rfl, SqL.of (s3 _ _ (s2 _ _ hb))⟩, ⟨by omega, by omega⟩, fun H4 s4 => ⟨rfl, ?_⟩⟩
      have hR' := hR H4 s4
      rw [if_pos rfl] at hR'
      rw [dec_int]
      exact hR'
    · rw [filter_yes] at e4
      refine ⟨D, (divisorsOf (c.headD 0)).map fun (z : Int) => decide (horner (c ++ [1]) z = 0), rfl, SqL.of ?_, ?_⟩
      · rw [e4, List.map_map]
        rfl
      · have e : ((divisorsOf (c.headD 0)).map fun (z : Int) => decide (horner (c ++ [1]) z = 0)).any id = (divisorsOf (c.headD 0)).any fun (z : Int) => horner (c ++ [1]) z == 0 := by
          rw [List.any_map]
          congr 1
        rw [e]
        exact k H3 ((s1.trans s2).trans s3)
def sp_square_root_floor : Sp := fun vs H Q _ => ∃ n : Int, vs = [.int n] ∧ 0 ≤ n ∧ n < 1073741824 ∧ ∀ (H' : Hp) (r : Int), Same H H' → 0 ≤ r → r * r ≤ n → n < (r + 1) * (r + 1) → Q (.int r) H'
theorem sc_square_root_floor : FnScope ["number", "root", "nearer"] ["number"] (defScope s_square_root_floor) := ⟨rfl, rfl, rfl, by decide +kernel, rfl, by decide +kernel, by decide +kernel⟩
theorem ok_square_root_floor {P : Program} {w : World} {K : PySem.W.Frag} {mg : Str → Option Value} {base : Heap} {f : Addr} {fd : FuncData} (F : Fun K "square_root_floor" "square_root_floor" s_square_root_floor f fd) (O : Own mg) :
    FnOk P w K mg base CX0 1 f fd ["number"] sp_square_root_floor := by
  refine F.ok sc_square_root_floor (fun vs H Q E h => ?_) (fun cdv A outer s H vs Q E hr h => ?_)
  · obtain ⟨n, rfl, _⟩ := h
    rfl
  · obtain ⟨n, rfl, n0, n1, k⟩ := h
    refine ⟨_, pss_cons (ps_set (i := 1) sc_square_root_floor.nd rfl (Or.inl rfl) (pv 0))
      (pss_cons (ps_set (i := 2) sc_square_root_floor.nd rfl (Or.inl rfl) (pe_op op_fdiv (pe_op op_add (pv 1) pe_int) pe_int))
      (pss_cons (ps_while PassesOwn.never (pt_cmpR op_lt (pv 2) (pv 1) (nomark _))
        (pss_cons (ps_set (i := 1) sc_square_root_floor.nd rfl (Or.inl rfl) (pv 2))
        (pss_one (ps_set (i := 2) sc_square_root_floor.nd rfl (Or.inl rfl) (pe_op op_fdiv (pe_op op_add (pv 1) (pe_op op_fdiv (pv 0) (pv 1))) pe_int)))))
      (pss_one (ps_ret (pv 1))))), ?_⟩
    refine ⟨_, rfl, _, rfl, _, _, rfl, rfl, _, _, rfl, rfl, ⟨by decide, by decide⟩, ?_⟩
    refine while_by (fun σ H' => ∃ (a b : Int), σ = [some (.int n), some (.int a), some (.int b)] ∧ Newt n a b ∧ Same H H')
      (fun σ H' => match σ with | [_, some (.int a), _] => a.toNat | _ => 0) ⟨n, (n + 1) / 2, rfl, newt_start n0, Same.refl H⟩ ?_ ?_
    · rintro σ H' ⟨a, b, rfl, hN, hs⟩
      refine ⟨_, rfl, _, rfl, _, _, rfl, rfl, _, rfl, ?_⟩
      refine ite2 (fun hb => ?_) (fun hb => ?_)
      · have hb' : b < a := by simpa using hb
        obtain ⟨h1, h2⟩ := newt_step hN hb'
        have h3 := h2.rn
        refine ⟨_, rfl, _, rfl, _, rfl, _, rfl, _, _, rfl, rfl, ⟨h1, by omega⟩, _, _, rfl, rfl, _, _, rfl, rfl, ⟨by decide, by decide⟩, ?_⟩
        refine ⟨⟨b, _, rfl, h2, hs⟩, ?_⟩
        show b.toNat < a.toNat
        omega
      · have hb' : ¬ b < a := by simpa using hb
        obtain ⟨h1, h2⟩ := newt_end hN hb'
        exact ⟨_, rfl, k H' a hs hN.r0 h1 h2⟩
    · rintro σ H' Q1 Q2 hq ⟨v, e, h⟩
      exact ⟨v, e, by
        obtain ⟨u, h1, i, j, h2, h3, k, h4, h5⟩ := h
        exact ⟨u, h1, i, j, h2, h3, k, h4, hq _ _ h5⟩⟩
theorem fdiv_exact {n q : Int} (h0 : q ≠ 0) (h : n % q = 0) : n.fdiv q = n / q := by
  obtain ⟨k, hk⟩ := Int.dvd_of_emod_eq_zero h
  rw [hk, Int.mul_fdiv_cancel_left _ h0, Int.mul_ediv_cancel_left _ h0]
theorem op_fdivE {X : Cx} : OpR X (binaryOp .FloorDiv) (L2.rI (fun i j => j ≠ 0 ∧ j.natAbs < 1073741824 ∧ i % j = 0) fun i j => .int (i / j)) := opI fun i j _ _ _ _ _ hc q => by
  obtain ⟨h1, h2, h3⟩ := hc
  exact floordiv_int h1 (by rw [fdiv_exact h1 h3]; exact q) (.inl (PyProof.noPylong_small h2))
theorem small_prod {a b : Int} (ha : a.natAbs ≤ 1000) (hb : b.natAbs ≤ 1000) : (a * b).natAbs ≤ 1000000 := by
  rw [Int.natAbs_mul]
  exact Nat.mul_le_mul ha hb
theorem cm4 {a b : Int} (h : a.natAbs ≤ 4000) : CMul a b := .inl ⟨by omega, by omega⟩
theorem cm4r {a b : Int} (h : b.natAbs ≤ 4000) : CMul a b := .inr ⟨by omega, by omega⟩
theorem le4 {n : Nat} (h : n ≤ 1000) : n ≤ 4000 := Nat.le_trans h (by decide)
theorem sq_eq {r g : Int} (r0 : 0 ≤ r) (g0 : 0 ≤ g) (e : r * r = g * g) : r = g := by
  rcases Int.lt_trichotomy r g with z | z | z
  · have h5 : (r + 1) * (r + 1) ≤ g * g := Int.mul_le_mul z z (by omega) g0
    have h7 : (r + 1) * (r + 1) = r * r + 2 * r + 1 := by grind
    omega
  · exact z
  · have h6 : (g + 1) * (g + 1) ≤ r * r := Int.mul_le_mul z z (by omega) r0
    have h7 : (g + 1) * (g + 1) = g * g + 2 * g + 1 := by grind
    omega
theorem sq_floor {r g n : Int} (r0 : 0 ≤ r) (g0 : 0 ≤ g) (e : g * g = n) (r1 : r * r ≤ (if 0 > n then 0 else n)) (r2 : (if 0 > n then 0 else n) < (r + 1) * (r + 1)) : r = g := by
  have hp : 0 ≤ g * g := Int.mul_nonneg g0 g0
  rw [if_neg (by omega), ← e] at r1 r2
  rcases Int.lt_trichotomy r g with z | z | z
  · have h5 : (r + 1) * (r + 1) ≤ g * g := Int.mul_le_mul z z (by omega) g0
    omega
  · exact z
  · have h6 : (g + 1) * (g + 1) ≤ r * r := Int.mul_le_mul z z (by omega) r0
    have h7 : (g + 1) * (g + 1) = g * g + 2 * g + 1 := by grind
    omega
theorem gap_few {c3 c2 q s : Int} (m3 : c3.natAbs ≤ 1000) (m2 : c2.natAbs ≤ 1000) (hq : q.natAbs ≤ 1000) (hs : s.natAbs ≤ 1000) : 0 ≤ (if 0 > c3 * c3 - 4 * (c2 - q - s) then 0 else c3 * c3 - 4 * (c2 - q - s)) ∧ (if 0 > c3 * c3 - 4 * (c2 - q - s) then 0 else c3 * c3 - 4 * (c2 - q - s)) < 1073741824 ∧ ∀ r : Int, 0 ≤ r → r * r ≤ (if 0 > c3 * c3 - 4 * (c2 - q - s) then 0 else c3 * c3 - 4 * (c2 - q - s)) → r.natAbs ≤ 4000 := by
  have c33 := small_prod m3 m3
  have h1 : c3 * c3 - 4 * (c2 - q - s) ≤ 1012000 := by omega
  generalize c3 * c3 - 4 * (c2 - q - s) = n at *
  have h2 : (if 0 > n then 0 else n) ≤ 1012000 := by split <;> omega
  have h3 : 0 ≤ (if 0 > n then 0 else n) := by split <;> omega
  refine ⟨h3, by omega, fun r r0 r1 => ?_⟩
  have : ¬ 4001 ≤ r := fun z => by
    have h5 : (4001 : Int) * 4001 ≤ r * r := Int.mul_le_mul z z (by decide) r0
    omega
  omega
def sp_is_product_of_quadratics (K : PySem.W.Frag) : Sp := fun vs H Q _ => ∃ (v : V) (c : List Int), vs = [v] ∧ IL K H v c ∧ c.length = 4 ∧ c.headD 0 ≠ 0 ∧ (∀ z ∈ c, z.natAbs ≤ 1000) ∧ ∀ H' : Hp, Same H H' → Q (.bl (Root.twoTwos c)) H'
theorem sc_is_product_of_quadratics : FnScope ["field", "q", "s", "gap_squared", "gap", "p", "r"] ["field"] (defScope s_is_product_of_quadratics) := ⟨rfl, rfl, rfl, by decide +kernel, rfl, by decide +kernel, by decide +kernel⟩
theorem ok_is_product_of_quadratics {P : Program} {w : World} {K : PySem.W.Frag} {mg : Str → Option Value} {base : Heap} {f : Addr} {fd : FuncData} (F : Fun K "is_product_of_quadratics" "is_product_of_quadratics" s_is_product_of_quadratics f fd) (O : Own mg) (C_divisors_of : Cal P w K mg base 1 "divisors_of" ["number"] sp_divisors_of) (C_square_root_floor : Cal P w K mg base 1 "square_root_floor" ["number"] sp_square_root_floor) :
    FnOk P w K mg base CX0 2 f fd ["field"] (sp_is_product_of_quadratics K) := by
  refine F.ok sc_is_product_of_quadratics (fun vs H Q E h => ?_) (fun cdv A outer s H vs Q E hr h => ?_)
  · obtain ⟨v, c, rfl, _⟩ := h
    rfl
  · obtain ⟨v, c, rfl, ⟨a, rfl, hc⟩, hl, h0, hz, k⟩ := h
    have hmem : ∀ i : Nat, i < 4 → (c.getD i 0).natAbs ≤ 1000 := fun i hi => by
      have h : i < c.length := by omega
      rw [List.getD_eq_getElem?_getD, List.getElem?_eq_getElem h]
      exact hz _ (List.getElem_mem h)
    have g0 := good_at (c := c) (i := 0) (by omega)
    have g1 := good_at (c := c) (i := 1) (by omega)
    have g2 := good_at (c := c) (i := 2) (by omega)
    have g3 := good_at (c := c) (i := 3) (by omega)
    have m0 := hmem 0 (by omega)
    have m1 := hmem 1 (by omega)
    have m2 := hmem 2 (by omega)
    have m3 := hmem 3 (by omega)
    have hh : c.headD 0 = c.getD 0 0 := by cases c <;> rfl
    rw [hh] at h0
    refine ⟨_, (pss_cons (ps_for PassesOwn.never rfl (pi_list (pe_cal C_divisors_of (hr.mono (by decide)) (by rfl) (pa_cons (pe_ix (ix_listK (K := K) rfl) (pv 0) pe_int (fun _ _ => rfl)) pa_nil))) (pg_name (i := 1) sc_is_product_of_quadratics.nd rfl (by first | exact Or.inl rfl | exact Or.inr rfl)) (pss_cons (ps_set (i := 2) sc_is_product_of_quadratics.nd rfl (by first | exact Or.inl rfl | exact Or.inr rfl) (pe_op op_fdivE (pe_ix (ix_listK (K := K) rfl) (pv 0) pe_int (fun _ _ => rfl)) (pv 1)))
      (pss_cons (ps_set (i := 3) sc_is_product_of_quadratics.nd rfl (by first | exact Or.inl rfl | exact Or.inr rfl) (pe_op op_sub (pe_op op_mul (pe_ix (ix_listK (K := K) rfl) (pv 0) pe_int (fun _ _ => rfl)) (pe_ix (ix_listK (K := K) rfl) (pv 0) pe_int (fun _ _ => rfl))) (pe_op op_mul pe_int (pe_op op_sub (pe_op op_sub (pe_ix (ix_listK (K := K) rfl) (pv 0) pe_int (fun _ _ => rfl)) (pv 1)) (pv 2)))))
      (pss_cons (ps_set (i := 4) sc_is_product_of_quadratics.nd rfl (by first | exact Or.inl rfl | exact Or.inr rfl) (pe_cal C_square_root_floor (hr.mono (by decide)) (by rfl) (pa_cons (pe_callB (call_max2 rfl) (by rfl) O.max_ bt_max (pa_cons (pv 3) (pa_cons pe_int pa_nil))) pa_nil)))
      (pss_cons (ps_if (pt_cmpR op_ne (pe_op op_mul (pv 4) (pv 4)) (pv 3) (nomark _)) (pss_one ps_continue) pss_nil)
      (pss_cons (ps_set (i := 5) sc_is_product_of_quadratics.nd rfl (by first | exact Or.inl rfl | exact Or.inr rfl) (pe_op op_fdiv (pe_op op_add (pe_ix (ix_listK (K := K) rfl) (pv 0) pe_int (fun _ _ => rfl)) (pv 4)) pe_int))
      (pss_cons (ps_set (i := 6) sc_is_product_of_quadratics.nd rfl (by first | exact Or.inl rfl | exact Or.inr rfl) (pe_op op_sub (pe_ix (ix_listK (K := K) rfl) (pv 0) pe_int (fun _ _ => rfl)) (pv 5)))
      (pss_one (ps_if (pt_cmpR op_eq (pe_op op_add (pe_op op_mul (pv 5) (pv 2)) (pe_op op_mul (pv 1) (pv 6))) (pe_ix (ix_listK (K := K) rfl) (pv 0) pe_int (fun _ _ => rfl)) (nomark _)) (pss_one (ps_ret pe_bl)) pss_nil)))))))))
      (pss_one (ps_ret pe_bl))), ?_⟩
    refine ⟨_, rfl, a, _, _, _, rfl, rfl, hc, g0, _, rfl, m0, fun H1 u s1 hu => ?_⟩
    obtain ⟨d, rfl, hd⟩ := hu
    refine ⟨d, rfl, ⟨_, SqL.of hd⟩, for_list (K := K) (a := d) (xs := (divisorsOf (c.getD 0 0)).map V.int) (fun i σ H' => (∃ v1 v2 v3 v4 v5 v6 : Option V, σ = [some (.ref a), v1, v2, v3, v4, v5, v6]) ∧ Same H1 H' ∧ ∀ q ∈ (divisorsOf (c.getD 0 0)).take i, ¬ Hit c q)
      ⟨⟨none, none, none, none, none, none, rfl⟩, Same.refl H1, fun q hq => absurd hq (by simp)⟩ (fun i σ H' _ h => h.2.1.seq (SqL.of hd)) ?_ ?_⟩
    · rintro i x σ H' hx ⟨⟨v1, v2, v3, v4, v5, v6, rfl⟩, s2, hno⟩
      rw [List.getElem?_map] at hx
      obtain ⟨q, hq, rfl⟩ := Option.map_eq_some_iff.mp hx
      have hqm : q ∈ divisorsOf (c.getD 0 0) := List.mem_of_getElem? hq
      obtain ⟨q0, q1, q2, q3⟩ := mem_divisors.mp hqm
      have hq1000 : q.natAbs ≤ 1000 := by omega
      obtain ⟨e1, e2⟩ := ediv_div h0 q3
      have hs0 := divisor_small h0 e1
      have hs1000 : (c.getD 0 0 / q).natAbs ≤ 1000 := by omega
      have hcH := (s1.trans s2).seq hc
      have c33 := small_prod m3 m3
      have nohit : ¬ Hit c q → ∀ q' ∈ (divisorsOf (c.getD 0 0)).take (i + 1), ¬ Hit c q' := fun hn q' hq' => by
        rw [take_snoc' hq] at hq'
        rcases List.mem_append.mp hq' with z | z
        · exact hno q' z
        · have : q' = q := by simpa using z
          rw [this]
          exact hn
      refine ⟨_, rfl, a, _, _, _, rfl, rfl, hcH, g0, _, rfl, _, _, rfl, rfl, ⟨q0, by omega, q3⟩, ?_⟩
      refine ⟨_, rfl, a, _, _, _, rfl, rfl, hcH, g3, _, rfl, a, _, _, _, rfl, rfl, hcH, g3, _, _, rfl, rfl, cm4 (le4 m3), ?_⟩
      refine ⟨_, rfl, a, _, _, _, rfl, rfl, hcH, g2, _, rfl, _, _, rfl, rfl, _, rfl, _, _, rfl, rfl, _, _, rfl, rfl, .inl ⟨by decide, by decide⟩, _, _, rfl, rfl, ?_⟩
      obtain ⟨k1, k2, k3⟩ := gap_few m3 m2 hq1000 hs1000
      refine ⟨_, rfl, _, _, rfl, _, rfl, k1, k2, fun H3 r s3 r0 r1 r2 => ?_⟩
      have hcH3 := s3.seq hcH
      have hr : r.natAbs ≤ 4000 := k3 r r0 r1
      refine ⟨_, rfl, _, rfl, _, _, rfl, rfl, cm4 hr, _, rfl, rfl, _, rfl, ?_⟩
      refine ite2 (fun hne => ?_) (fun heq => ?_)
      · refine ⟨⟨_, _, _, _, _, _, rfl⟩, s2.trans s3, nohit ?_⟩
        rintro ⟨g, gg0, gg, _⟩
        have hne' : r * r ≠ c.getD 3 0 * c.getD 3 0 - 4 * (c.getD 2 0 - q - c.getD 0 0 / q) := nq_ne hne
        have e5 : r = g := sq_floor r0 gg0 gg r1 r2
        rw [← gg] at hne'
        exact hne' (by rw [e5])
      · have heq' : r * r = c.getD 3 0 * c.getD 3 0 - 4 * (c.getD 2 0 - q - c.getD 0 0 / q) := nq_eq heq
        refine ⟨_, rfl, a, _, _, _, rfl, rfl, hcH3, g3, _, rfl, _, _, rfl, rfl, _, _, rfl, rfl, ⟨by decide, by decide⟩, ?_⟩
        refine ⟨_, rfl, a, _, _, _, rfl, rfl, hcH3, g3, _, rfl, _, _, rfl, rfl, ?_⟩
        refine ⟨_, rfl, _, rfl, _, _, rfl, rfl, cm4r (le4 hs1000), _, rfl, _, rfl, _, _, rfl, rfl, cm4 (le4 hq1000), _, _, rfl, rfl, _, rfl, a, _, _, _, rfl, rfl, hcH3, g1, rfl, _, rfl, ?_⟩
        refine ite2 (fun hy => ?_) (fun hy => ?_)
        · have hit : Hit c q := ⟨r, r0, heq', int_eq hy⟩
          have e := k H3 ((s1.trans s2).trans s3)
          rw [twoTwos_of_hit h0 hqm hit] at e
          exact e
        · refine ⟨⟨_, _, _, _, _, _, rfl⟩, s2.trans s3, nohit ?_⟩
          rintro ⟨g, gg0, gg, hp⟩
          have e5 : r = g := sq_eq r0 gg0 (heq'.trans gg.symm)
          subst e5
          exact int_ne hy hp
    · rintro σ H' ⟨⟨v1, v2, v3, v4, v5, v6, rfl⟩, s2, hno⟩
      have e := k H' (s1.trans s2)
      rw [List.length_map, List.take_length] at hno
      have ht : Root.twoTwos c = false := by
        cases hT : Root.twoTwos c with
        | false => rfl
        | true =>
          obtain ⟨q, hq, hh⟩ := hit_of_twoTwos h0 hT
          exact absurd hh (hno q hq)
      rw [ht] at e
      exact e
structure Good (c : List Int) : Prop where
  ne : c ≠ []
  len : c.length ≤ 4
  all : ∀ z ∈ c, z.natAbs ≤ 1000
theorem good_of {c : List Int} (h : badField c = false) : Good c := by
  unfold badField at h
  rw [Bool.or_eq_false_iff, Bool.or_eq_false_iff, decide_eq_false_iff_not, decide_eq_false_iff_not, List.any_eq_false] at h
  obtain ⟨h1, h2, h3⟩ := h
  refine ⟨fun e => h1 (by rw [e]; decide), by omega, fun z hz => ?_⟩
  have := h3 z hz
  rw [Bool.or_eq_true, decide_eq_true_eq, decide_eq_true_eq] at this
  omega
theorem Good.head {c : List Int} (g : Good c) : (c.headD 0).natAbs ≤ 1000 := by
  cases c with
  | nil => exact absurd rfl g.ne
  | cons z l => exact g.all z (by simp)
def sp_is_product (K : PySem.W.Frag) : Sp := fun vs H Q _ => ∃ (v : V) (c : List Int), vs = [v] ∧ IL K H v c ∧ Good c ∧ ∀ H' : Hp, Same H H' → Q (.bl (!Root.isField c)) H'
theorem sc_is_product : FnScope ["field"] ["field"] (defScope s_is_product) := ⟨rfl, rfl, rfl, by decide +kernel, rfl, by decide +kernel, by decide +kernel⟩
theorem ok_is_product {P : Program} {w : World} {K : PySem.W.Frag} {mg : Str → Option Value} {base : Heap} {f : Addr} {fd : FuncData} (F : Fun K "is_product" "is_product" s_is_product f fd) (O : Own mg) (C_has_whole_root : Cal P w K mg base 2 "has_whole_root" ["field"] (sp_has_whole_root K)) (C_is_product_of_quadratics : Cal P w K mg base 2 "is_product_of_quadratics" ["field"] (sp_is_product_of_quadratics K)) :
    FnOk P w K mg base CX0 3 f fd ["field"] (sp_is_product K) := by
  refine F.ok sc_is_product (fun vs H Q E h => ?_) (fun cdv A outer s H vs Q E hr h => ?_)
  · obtain ⟨v, c, rfl, _⟩ := h
    rfl
  · obtain ⟨v, c, rfl, ⟨a, rfl, hc⟩, hg, k⟩ := h
    refine ⟨_, (pss_cons (ps_if (pt_cmpR op_eq (pe_callB (call_lenK (K := K) rfl) (by rfl) O.len_ bt_len (pa_cons (pv 0) pa_nil)) pe_int (nomark _)) (pss_one (ps_ret pe_bl)) pss_nil)
      (pss_cons (ps_if (pt_cmpR op_eq (pe_ix (ix_listK (K := K) rfl) (pv 0) pe_int (fun _ _ => rfl)) pe_int (nomark _)) (pss_one (ps_ret pe_bl)) pss_nil)
      (pss_cons (ps_if (pt_val (pe_cal C_has_whole_root (hr.mono (by decide)) (by rfl) (pa_cons (pv 0) pa_nil))) (pss_one (ps_ret pe_bl)) pss_nil)
      (pss_one (ps_ret (pe_and (pe_cmpR op_eq (pe_callB (call_lenK (K := K) rfl) (by rfl) O.len_ bt_len (pa_cons (pv 0) pa_nil)) pe_int (nomark _)) (pe_one (pe_cal C_is_product_of_quadratics (hr.mono (by decide)) (by rfl) (pa_cons (pv 0) pa_nil))))))))), ?_⟩
    refine ⟨_, rfl, a, _, rfl, .inl hc, rfl, _, rfl, ?_⟩
    rw [List.length_map]
    refine ite2 (fun h1 => ?_) (fun h1 => ?_)
    · have e := k H (Same.refl H)
      have h1' : (c.length : Int) = 1 := int_eq h1
      rw [isField_one (by omega)] at e
      exact e
    have hn1 : c.length ≠ 1 := fun z => int_ne h1 (by rw [z]; rfl)
    refine ⟨_, rfl, a, _, _, _, rfl, rfl, hc, good_head hg.ne, rfl, _, rfl, ?_⟩
    refine ite2 (fun h2 => ?_) (fun h2 => ?_)
    · have e := k H (Same.refl H)
      rw [isField_zero hn1 (int_eq h2)] at e
      exact e
    have h0 : c.headD 0 ≠ 0 := int_ne h2
    refine ⟨_, rfl, _, c, rfl, ⟨a, rfl, hc⟩, hg.ne, by have := hg.len; omega, hg.head, fun H1 s1 => ⟨_, rfl, ?_⟩⟩
    rw [← hasRoot_is h0]
    refine ite2 (fun h3 => ?_) (fun h3 => ?_)
    · have e := k H1 s1
      rw [isField_root hn1 h3] at e
      exact e
    have h3' : Root.hasRoot c = false := by
      cases z : Root.hasRoot c with
      | false => rfl
      | true => exact absurd z h3
    refine ⟨_, rfl, a, _, rfl, .inl (s1.seq hc), rfl, ?_⟩
    rw [List.length_map, dec_int]
    refine ⟨_, rfl, ?_⟩
    refine ite2 (fun h4 => ?_) (fun h4 => ?_)
    · have h4' : c.length = 4 := by
        have := of_decide_eq_true h4
        omega
      refine ⟨_, rfl, _, c, rfl, ⟨a, rfl, s1.seq hc⟩, h4', h0, hg.all, fun H2 s2 => ?_⟩
      have e := k H2 (s1.trans s2)
      rw [isField_four h3' h4', Bool.not_not] at e
      exact e
    · have h4' : c.length ≠ 4 := fun z => h4 (decide_eq_true (by rw [z]; rfl))
      have e := k H1 s1
      rw [isField_rest hn1 h3' h4'] at e
      exact e
def sp_field_refusal (K : PySem.W.Frag) : Sp := fun vs H Q _ => ∃ (v : V) (c : List Int), vs = [v] ∧ IL K H v c ∧ c.length ≤ 1000 ∧ ∀ H' : Hp, Same H H' → Q (.int (refusal c)) H'
theorem sc_field_refusal : FnScope ["field"] ["field"] (defScope s_field_refusal) := ⟨rfl, rfl, rfl, by decide +kernel, rfl, by decide +kernel, by decide +kernel⟩
theorem ok_field_refusal {P : Program} {w : World} {K : PySem.W.Frag} {mg : Str → Option Value} {base : Heap} {f : Addr} {fd : FuncData} (F : Fun K "field_refusal" "field_refusal" s_field_refusal f fd) (O : Own mg) (C_is_told_rightly : Cal P w K mg base 1 "is_told_rightly" ["field"] (sp_is_told_rightly K)) (C_is_product : Cal P w K mg base 3 "is_product" ["field"] (sp_is_product K)) :
    FnOk P w K mg base CX0 4 f fd ["field"] (sp_field_refusal K) := by
  refine F.ok sc_field_refusal (fun vs H Q E h => ?_) (fun cdv A outer s H vs Q E hr h => ?_)
  · obtain ⟨v, c, rfl, _⟩ := h
    rfl
  · obtain ⟨v, c, rfl, ⟨a, rfl, hc⟩, hl, k⟩ := h
    refine ⟨_, (pss_cons (ps_if (pt_not (pt_val (pe_cal C_is_told_rightly (hr.mono (by decide)) (by rfl) (pa_cons (pv 0) pa_nil)))) (pss_one (ps_ret (pe_un un_neg pe_int))) pss_nil)
      (pss_cons (ps_if (pt_val (pe_cal C_is_product (hr.mono (by decide)) (by rfl) (pa_cons (pv 0) pa_nil))) (pss_one (ps_ret (pe_un un_neg pe_int))) pss_nil)
      (pss_one (ps_ret pe_int)))), ?_⟩
    refine ⟨_, rfl, _, c, rfl, ⟨a, rfl, hc⟩, hl, fun H1 s1 => ⟨_, rfl, ?_⟩⟩
    refine ite2 (fun h1 => ?_) (fun h1 => ?_)
    · rw [Bool.not_not] at h1
      have e := k H1 s1
      unfold refusal at e
      rw [if_pos h1] at e
      exact ⟨_, rfl, e⟩
    rw [Bool.not_not] at h1
    have h1' : badField c = false := by
      cases z : badField c with
      | false => rfl
      | true => exact absurd z h1
    refine ⟨_, rfl, _, c, rfl, ⟨a, rfl, s1.seq hc⟩, good_of h1', fun H2 s2 => ⟨_, rfl, ?_⟩⟩
    refine ite2 (fun h2 => ?_) (fun h2 => ?_)
    · have e := k H2 (s1.trans s2)
      unfold refusal at e
      rw [if_neg h1, if_neg (by intro z; rw [z] at h2; cases h2)] at e
      exact ⟨_, rfl, e⟩
    · have e := k H2 (s1.trans s2)
      unfold refusal at e
      rw [if_neg h1, if_pos (by
        cases z : Root.isField c with
        | true => rfl
        | false => rw [z] at h2; exact absurd rfl h2)] at e
      exact e

def sp_is_row (K : PySem.W.Frag) : Sp := fun vs H Q _ => ∃ (v : V) (a : List Int) (d : Nat), vs = [v, .int d] ∧ IL K H v a ∧ ∀ H' : Hp, Same H H' → Q (.bl (isRow a d)) H'
theorem sc_is_row : FnScope ["operand", "degree"] ["operand", "degree"] (defScope s_is_row) := ⟨rfl, rfl, rfl, by decide +kernel, rfl, by decide +kernel, by decide +kernel⟩
theorem ok_is_row {P : Program} {w : World} {K : PySem.W.Frag} {mg : Str → Option Value} {base : Heap} {f : Addr} {fd : FuncData} (F : Fun K "is_row" "is_row" s_is_row f fd) (O : Own mg) :
    FnOk P w K mg base CX0 1 f fd ["operand", "degree"] (sp_is_row K) := by
  refine F.ok sc_is_row (fun vs H Q E h => ?_) (fun cdv A outer s H vs Q E hr h => ?_)
  · obtain ⟨v, a, d, rfl, _⟩ := h
    rfl
  · obtain ⟨v, c, d, rfl, ⟨a, rfl, hc⟩, k⟩ := h
    refine ⟨_, (pss_one (ps_ret (pe_and (pe_cmpR op_eq (pe_callB (call_lenK (K := K) rfl) (by rfl) O.len_ bt_len (pa_cons (pv 0) pa_nil)) (pe_op op_add (pv 1) pe_int) (nomark _)) (pe_one (pe_cmpR op_gt (pe_ix (ix_listK (K := K) rfl) (pv 0) (pe_un un_neg pe_int) (fun _ _ => rfl)) pe_int (nomark _)))))), ?_⟩
    refine ⟨_, rfl, a, _, rfl, .inl hc, _, rfl, _, _, rfl, rfl, rfl, ?_⟩
    rw [List.length_map, dec_int]
    refine ⟨_, rfl, ?_⟩
    have e := k H (Same.refl H)
    unfold isRow at e
    refine ite2 (fun h1 => ?_) (fun h1 => ?_)
    · have h1' : c.length = d + 1 := by
        have := of_decide_eq_true h1
        omega
      rw [decide_eq_true h1', Bool.true_and] at e
      exact ⟨_, rfl, _, rfl, a, _, _, _, rfl, rfl, hc, at_last (by intro z; rw [z] at h1'; cases h1'), _, _, rfl, rfl, e⟩
    · have h1' : ¬ c.length = d + 1 := fun z => h1 (decide_eq_true (by rw [z]; rfl))
      rw [decide_eq_false h1', Bool.false_and] at e
      exact e
def sp_are_rows (K : PySem.W.Frag) : Sp := fun vs H Q _ => ∃ (p : Addr) (d : Nat) (rs : List (Addr × List Int)), vs = [.ref p, .int d] ∧ SqL K H p (rs.map fun (r : Addr × List Int) => V.ref r.1) ∧ rs.length ≤ 1000 ∧
  (∀ r ∈ rs, SqL K H r.1 (r.2.map V.int)) ∧ ∀ H' : Hp, Same H H' → Q (.bl ((rs.map (·.2)).all fun (r : List Int) => isRow r d)) H'
theorem sc_are_rows : FnScope ["operands", "degree", "operand"] ["operands", "degree"] (defScope s_are_rows) := ⟨rfl, rfl, rfl, by decide +kernel, rfl, by decide +kernel, by decide +kernel⟩
theorem ok_are_rows {P : Program} {w : World} {K : PySem.W.Frag} {mg : Str → Option Value} {base : Heap} {f : Addr} {fd : FuncData} (F : Fun K "are_rows" "are_rows" s_are_rows f fd) (O : Own mg) (C_is_row : Cal P w K mg base 1 "is_row" ["operand", "degree"] (sp_is_row K)) :
    FnOk P w K mg base CX0 2 f fd ["operands", "degree"] (sp_are_rows K) := by
  refine F.ok sc_are_rows (fun vs H Q E h => ?_) (fun cdv A outer s H vs Q E hr h => ?_)
  · obtain ⟨p, d, rs, rfl, _⟩ := h
    rfl
  · obtain ⟨p, d, rs, rfl, hp, hrl, hrs, k⟩ := h
    refine ⟨_, (pss_one (ps_ret (pe_callB (cr_allK (K := K) rfl rfl) (by rfl) O.all_ bt_all (pa_cons (pe_lc (own := [("operand", 2)]) rfl sc_are_rows.nd (pi_list (pv 0)) (show BlkOk ["operands", "degree", "operand"] (defScope s_are_rows) _ _ from ⟨rfl, by decide +kernel, by decide +kernel, by decide +kernel, by decide +kernel⟩) (fun _ _ _ _ _ => (pg_name (i := 2) sc_are_rows.nd rfl (by first | exact Or.inl rfl | exact Or.inr rfl))) (fun _ _ _ _ _ => pts_nil) (fun _ _ _ _ _ => (pe_cal C_is_row (hr.mono (by decide)) (by rfl) (pa_cons (pv 2) (pa_cons (pv 1) pa_nil))))) pa_nil)))), ?_⟩
    refine ⟨_, rfl, p, rfl, ⟨_, hp⟩, fun D hD => ?_⟩
    refine lc_any (fun (r : Addr × List Int) => V.ref r.1) (K := K) (a := p) (ns := rs) (fun _ => true) (fun r => V.bl (isRow r.2 d)) hp (small1000 hrl) hD (fun z => rfl) (fun z hz H2 Rv R s2 hR => ?_) (fun H2 s2 e4 => ?_)
    · refine ⟨_, rfl, _, rfl, _, z.2, d, rfl, ⟨_, rfl, s2.seq (hrs z hz)⟩, fun H3 s3 => ?_⟩
      have hR' := hR H3 s3
      rw [if_pos rfl] at hR'
      exact hR'
    · rw [filter_yes] at e4
      refine ⟨D, rs.map fun (r : Addr × List Int) => isRow r.2 d, rfl, SqL.of ?_, ?_⟩
      · rw [e4, List.map_map]
        rfl
      · have e := k H2 s2
        have ea : (rs.map fun (r : Addr × List Int) => isRow r.2 d).all id = (rs.map (·.2)).all fun (r : List Int) => isRow r d := by
          rw [List.all_map, List.all_map]
          rfl
        rw [ea]
        exact e

def sp_refusal_of (K : PySem.W.Frag) : Sp := fun vs H Q _ => ∃ (v : V) (p : Addr) (c : List Int) (rs : List (Addr × List Int)), vs = [v, .ref p] ∧ IL K H v c ∧ c.length ≤ 1000 ∧ SqL K H p (rs.map fun (r : Addr × List Int) => V.ref r.1) ∧ rs.length ≤ 1000 ∧
  (∀ r ∈ rs, SqL K H r.1 (r.2.map V.int)) ∧ ∀ H' : Hp, Same H H' → Q (.int (rowsRefusal c (rs.map (·.2)))) H'
theorem sc_refusal_of : FnScope ["field", "operands", "refusal"] ["field", "operands"] (defScope s_refusal_of) := ⟨rfl, rfl, rfl, by decide +kernel, rfl, by decide +kernel, by decide +kernel⟩
theorem ok_refusal_of {P : Program} {w : World} {K : PySem.W.Frag} {mg : Str → Option Value} {base : Heap} {f : Addr} {fd : FuncData} (F : Fun K "refusal_of" "refusal_of" s_refusal_of f fd) (O : Own mg) (C_field_refusal : Cal P w K mg base 4 "field_refusal" ["field"] (sp_field_refusal K)) (C_are_rows : Cal P w K mg base 2 "are_rows" ["operands", "degree"] (sp_are_rows K)) :
    FnOk P w K mg base CX0 5 f fd ["field", "operands"] (sp_refusal_of K) := by
  refine F.ok sc_refusal_of (fun vs H Q E h => ?_) (fun cdv A outer s H vs Q E hr h => ?_)
  · obtain ⟨v, p, c, rs, rfl, _⟩ := h
    rfl
  · obtain ⟨v, p, c, rs, rfl, ⟨a, rfl, hc⟩, hl, hp, hrl, hrs, k⟩ := h
    refine ⟨_, (pss_cons (ps_set (i := 2) sc_refusal_of.nd rfl (by first | exact Or.inl rfl | exact Or.inr rfl) (pe_cal C_field_refusal (hr.mono (by decide)) (by rfl) (pa_cons (pv 0) pa_nil)))
      (pss_cons (ps_if (pt_cmpR op_ne (pv 2) pe_int (nomark _)) (pss_one (ps_ret (pv 2))) pss_nil)
      (pss_cons (ps_if (pt_val (pe_cal C_are_rows (hr.mono (by decide)) (by rfl) (pa_cons (pv 1) (pa_cons (pe_callB (call_lenK (K := K) rfl) (by rfl) O.len_ bt_len (pa_cons (pv 0) pa_nil)) pa_nil)))) (pss_one (ps_ret pe_int)) pss_nil)
      (pss_one (ps_ret (pe_un un_neg pe_int)))))), ?_⟩
    refine ⟨_, rfl, _, c, rfl, ⟨a, rfl, hc⟩, hl, fun H1 s1 => ?_⟩
    refine ⟨_, rfl, rfl, _, rfl, ?_⟩
    refine ite2 (fun h1 => ?_) (fun h1 => ?_)
    · have e := k H1 s1
      unfold rowsRefusal at e
      rw [if_neg (nq_ne h1)] at e
      exact ⟨_, rfl, e⟩
    have h0 : refusal c = 0 := nq_eq h1
    refine ⟨_, rfl, _, rfl, a, _, rfl, .inl (s1.seq hc), p, c.length, rs, ?_, s1.seq hp, hrl, fun r hr => s1.seq (hrs r hr), fun H2 s2 => ⟨_, rfl, ?_⟩⟩
    · rw [List.length_map]
      rfl
    · have e := k H2 (s1.trans s2)
      unfold rowsRefusal at e
      rw [if_pos h0] at e
      refine ite2 (fun h2 => ?_) (fun h2 => ?_)
      · rw [if_pos h2] at e
        exact e
      · rw [if_neg h2] at e
        exact ⟨_, rfl, e⟩
def sp_is_zero (K : PySem.W.Frag) : Sp := fun vs H Q _ => ∃ (v : V) (A : List Int) (p : Int), vs = [v] ∧ IL K H v (A ++ [p]) ∧ ∀ H' : Hp, Same H H' → Q (.bl (!(A.any fun (z : Int) => z != 0))) H'
theorem sc_is_zero : FnScope ["a"] ["a"] (defScope s_is_zero) := ⟨rfl, rfl, rfl, by decide +kernel, rfl, by decide +kernel, by decide +kernel⟩
theorem ok_is_zero {P : Program} {w : World} {K : PySem.W.Frag} {mg : Str → Option Value} {base : Heap} {f : Addr} {fd : FuncData} (F : Fun K "is_zero" "is_zero" s_is_zero f fd) (O : Own mg) :
    FnOk P w K mg base CX0 1 f fd ["a"] (sp_is_zero K) := by
  refine F.ok sc_is_zero (fun vs H Q E h => ?_) (fun cdv A outer s H vs Q E hr h => ?_)
  · obtain ⟨v, A, p, rfl, _⟩ := h
    rfl
  · obtain ⟨v, A, p, rfl, ⟨a, rfl, ha⟩, k⟩ := h
    refine ⟨_, (pss_one (ps_ret (pe_not (pe_callB (cr_anyIK (K := K) rfl rfl) (by rfl) O.any_ bt_any (pa_cons (pe_slice (sl_listK (K := K) rfl) (pv 0) po_none (po_some (pe_un un_neg pe_int))) pa_nil))))), ?_⟩
    refine ⟨_, rfl, _, rfl, _, rfl, a, _, rfl, ha, fun x hx => ?_⟩
    rw [cut_last]
    refine ⟨x, A, rfl, SqL.of upd_same, ?_⟩
    exact ⟨_, rfl, k _ (same_upd hx)⟩
abbrev T3 := Int × Int × Int
def trL (r : T3) : List V := [V.int r.1, V.int r.2.1, V.int r.2.2]
def LN (H : Hp) (v : V) (r s : T3) : Prop := ∃ p a b : Addr, v = .ref p ∧ H p = some (.lst [V.ref a, V.ref b]) ∧ H a = some (.lst (trL r)) ∧ H b = some (.lst (trL s))
theorem LN.same {H H' : Hp} {v : V} {r s : T3} (h : LN H v r s) (e : Same H H') : LN H' v r s := let ⟨p, a, b, h1, h2, h3, h4⟩ := h; ⟨p, a, b, h1, e _ _ h2, e _ _ h3, e _ _ h4⟩
theorem noPylong_left {x y : Int} (h : x.natAbs < 2 ^ 13500) : Builtin.divisionGoesByPylong x y = false := by
  unfold Builtin.divisionGoesByPylong
  dsimp only
  by_cases hx : x = 0
  · rw [hx]
    simp
  · have h1 : x.natAbs.log2 < 13500 := (Nat.log2_lt (by omega)).mpr h
    rw [Bool.and_eq_false_iff]
    by_cases h2 : 300 < (if (y == 0) = true then 0 else y.natAbs.log2 / 30 + 1)
    · right
      refine decide_eq_false ?_
      have hx' : ¬ (x == 0) = true := by simpa using hx
      rw [if_neg hx']
      generalize (if (y == 0) = true then 0 else y.natAbs.log2 / 30 + 1) = d at *
      omega
    · left
      exact decide_eq_false h2
theorem op_fdivX {X : Cx} : OpR X (binaryOp .FloorDiv) (L2.rI (fun i j => 0 < j ∧ i.natAbs < 2 ^ 13500) fun i j => .int (i / j)) := opI fun i j _ _ _ _ _ hc q => by
  have h1 : (0 : Int) < j := hc.1
  exact floordiv_int (by omega) (by rw [Int.fdiv_eq_ediv_of_nonneg i (by omega)]; exact q) (.inl (noPylong_left hc.2))
def sp_divided : Sp := fun vs H Q _ => ∃ (v : V) (r s : T3), vs = [v] ∧ LN H v r s ∧ 0 < s.1 ∧ r.1.natAbs < 2 ^ 13500 ∧ s.1.natAbs < 2 ^ 13500 ∧ s.2.1.natAbs < 2 ^ 13500 ∧ s.2.2.natAbs < 2 ^ 13500 ∧
  ∀ (H' : Hp) (u : V), Same H H' → LN H' u s (r.1 - r.1 / s.1 * s.1, r.2.1 - r.1 / s.1 * s.2.1, r.2.2 - r.1 / s.1 * s.2.2) → Q u H'
theorem sc_divided : FnScope ["lines", "quotient", "m", "n"] ["lines"] (defScope s_divided) := ⟨rfl, rfl, rfl, by decide +kernel, rfl, by decide +kernel, by decide +kernel⟩
theorem ok_divided {P : Program} {w : World} {K : PySem.W.Frag} {mg : Str → Option Value} {base : Heap} {f : Addr} {fd : FuncData} (F : Fun K "divided" "divided" s_divided f fd) (O : Own mg) :
    FnOk P w K mg base CX0 1 f fd ["lines"] sp_divided := by
  refine F.ok sc_divided (fun vs H Q E h => ?_) (fun cdv A outer s H vs Q E hr h => ?_)
  · obtain ⟨v, r, s, rfl, _⟩ := h
    rfl
  · obtain ⟨v, ⟨x, u0, v0⟩, ⟨y, u1, v1⟩, rfl, ⟨p, a, b, rfl, hp, ha, hb⟩, hy, hx, hyb, hu, hv, k⟩ := h
    refine ⟨_, (pss_cons (ps_set (i := 1) sc_divided.nd rfl (by first | exact Or.inl rfl | exact Or.inr rfl) (pe_op op_fdivX (pe_ix (ix_listK (K := K) rfl) (pe_ix (ix_listK (K := K) rfl) (pv 0) pe_int (fun _ _ => rfl)) pe_int (fun _ _ => rfl)) (pe_ix (ix_listK (K := K) rfl) (pe_ix (ix_listK (K := K) rfl) (pv 0) pe_int (fun _ _ => rfl)) pe_int (fun _ _ => rfl))))
      (pss_one (ps_ret (pe_lst (pa_cons (pe_ix (ix_listK (K := K) rfl) (pv 0) pe_int (fun _ _ => rfl)) (pa_cons (pe_lc (own := [("m", 2), ("n", 3)]) rfl sc_divided.nd (pi_zip (by rfl) O.zip_ (pa_cons (pe_ix (ix_listK (K := K) rfl) (pv 0) pe_int (fun _ _ => rfl)) (pa_cons (pe_ix (ix_listK (K := K) rfl) (pv 0) pe_int (fun _ _ => rfl)) pa_nil))) (show BlkOk ["lines", "quotient", "m", "n"] (defScope s_divided) _ _ from ⟨rfl, by decide +kernel, by decide +kernel, by decide +kernel, by decide +kernel⟩) (fun _ _ _ _ _ => (pg_tupK (K := K) (n := 2) rfl rfl (pgs_cons (pg_name (i := 2) sc_divided.nd rfl (by first | exact Or.inl rfl | exact Or.inr rfl)) (pgs_cons (pg_name (i := 3) sc_divided.nd rfl (by first | exact Or.inl rfl | exact Or.inr rfl)) pgs_nil)))) (fun _ _ _ _ _ => pts_nil) (fun _ _ _ _ _ => (pe_op op_sub (pv 2) (pe_op op_mulW (pv 1) (pv 3))))) pa_nil)))))), ?_⟩
    have ha' : H a = some (.lst ([x, u0, v0].map V.int)) := ha
    have hb' : H b = some (.lst ([y, u1, v1].map V.int)) := hb
    have hq : (x / y).natAbs < 2 ^ 13500 := Nat.lt_of_le_of_lt (Int.natAbs_ediv_le_natAbs x y) hx
    refine ⟨_, rfl, p, _, _, _, rfl, rfl, SqL.of hp, at_ix (j := 0) rfl rfl, a, _, _, _, rfl, rfl, SqL.of ha', at_ix (j := 0) rfl rfl, _, rfl, p, _, _, _, rfl, rfl, SqL.of hp, at_ix (j := 1) rfl rfl, b, _, _, _, rfl, rfl, SqL.of hb', at_ix (j := 0) rfl rfl, _, _, rfl, rfl, ⟨hy, hx⟩, ?_⟩
    refine ⟨_, rfl, p, _, _, _, rfl, rfl, SqL.of hp, at_ix (j := 1) rfl rfl, _, rfl, p, _, _, _, rfl, rfl, SqL.of hp, at_ix (j := 0) rfl rfl, _, rfl, p, _, _, _, rfl, rfl, SqL.of hp, at_ix (j := 1) rfl rfl, a, b, _, _, rfl, SqL.of ha', SqL.of hb', fun D hD => ?_⟩
    refine lc_zip2 (K := K) (a := a) (b := b) (ms := [x, u0, v0]) (ns := [y, u1, v1]) (fun m n => V.int (m - x / y * n)) (SqL.of ha') (SqL.of hb') rfl (by show 3 < sizeLine; decide) hD (fun _ _ => rfl) (fun m hm n hn H3 Rv s3 hR => ?_) (fun H3 s3 e3 => ?_)
    · have hn2 : n.natAbs < 2 ^ 13500 := by
        have : n = y ∨ n = u1 ∨ n = v1 := by simpa using hn
        rcases this with rfl | rfl | rfl
        · exact hyb
        · exact hu
        · exact hv
      exact ⟨_, rfl, _, rfl, _, rfl, _, _, rfl, rfl, mul_big hq hn2 (by decide), _, _, rfl, rfl, hR H3 (Same.refl H3)⟩
    · refine ⟨(by show 2 ≤ sizeLine; decide), fun q hq => ?_⟩
      have s4 := same_upd (o := .lst [V.ref b, V.ref D]) hq
      refine k _ _ (s3.trans s4) ⟨q, b, D, rfl, upd_same, s4 _ _ (s3 _ _ hb), ?_⟩
      rw [s4 _ _ e3]
      rfl
theorem and_mask {x : Int} (h : 0 ≤ x) (s : Nat) : Builtin.bitAnd x (((2 ^ s : Nat) : Int) - 1) = x % ((2 ^ s : Nat) : Int) := by
  have h2 := Nat.two_pow_pos s
  unfold Builtin.bitAnd
  rw [decide_eq_true h, decide_eq_true (show (0 : Int) ≤ ((2 ^ s : Nat) : Int) - 1 by omega)]
  dsimp only
  rw [show (((2 ^ s : Nat) : Int) - 1).toNat = 2 ^ s - 1 by omega, Nat.and_two_pow_sub_one_eq_mod, Int.natCast_emod, Int.toNat_of_nonneg h]
theorem mod_few (x : Int) {n m : Nat} (h : n ≤ m) : (x % ((2 ^ n : Nat) : Int)).natAbs < 2 ^ m := by
  have hS := Nat.two_pow_pos n
  have h1 := Int.emod_nonneg x (show ((2 ^ n : Nat) : Int) ≠ 0 by omega)
  have h2 := Int.emod_lt_of_pos x (show 0 < ((2 ^ n : Nat) : Int) by omega)
  refine lt_up (m := n) ?_ h
  omega
theorem carry_z {x y l m S : Int} : (l * (x / S) + m * (y / S)) * S + l * (x % S) + m * (y % S) = l * x + m * y := by
  have h1 := Int.mul_ediv_add_emod x S
  have h2 := Int.mul_ediv_add_emod y S
  generalize x / S = x1 at *
  generalize y / S = y1 at *
  generalize x % S = x2 at *
  generalize y % S = y2 at *
  rw [← h1, ← h2]
  grind
def big : Nat := 20000
theorem le_big {m : Nat} (h : m ≤ 20000) : m ≤ big := h
theorem big_add {m : Nat} (h : m ≤ big) : m ≤ 20000 := h
def Few3 (n : Nat) (r : T3) : Prop := r.1.natAbs < 2 ^ n ∧ r.2.1.natAbs < 2 ^ n ∧ r.2.2.natAbs < 2 ^ n
def sp_carried_over : Sp := fun vs H Q _ => ∃ (v : V) (g : Addr) (r s : T3) (X l m : Int) (n : Nat), vs = [v, .int n, .ref g] ∧ LN H v r s ∧ H g = some (.lst (trL (X, l, m))) ∧ 0 ≤ r.1 ∧ 0 ≤ s.1 ∧ n ≤ 20000 ∧ X = l * (r.1 / ((2 ^ n : Nat) : Int)) + m * (s.1 / ((2 ^ n : Nat) : Int)) ∧
  Few3 big (X, l, m) ∧ Few3 big r ∧ Few3 big s ∧
  ∀ (H' : Hp) (w : Addr), Same H H' → H' w = some (.lst (trL (flipR (l * r.1 + m * s.1, l * r.2.1 + m * s.2.1, l * r.2.2 + m * s.2.2)))) → Q (.ref w) H'
theorem sc_carried_over : FnScope ["lines", "shift", "step", "u", "v", "last_digits", "number", "line", "part"] ["lines", "shift", "step"] (defScope s_carried_over) := ⟨rfl, rfl, rfl, by decide +kernel, rfl, by decide +kernel, by decide +kernel⟩
theorem ok_carried_over {P : Program} {w : World} {K : PySem.W.Frag} {mg : Str → Option Value} {base : Heap} {f : Addr} {fd : FuncData} (F : Fun K "carried_over" "carried_over" s_carried_over f fd) (O : Own mg) :
    FnOk P w K mg base CX0 1 f fd ["lines", "shift", "step"] sp_carried_over := by
  refine F.ok sc_carried_over (fun vs H Q E h => ?_) (fun cdv A outer s H vs Q E hr h => ?_)
  · obtain ⟨v, g, r, s, X, l, m, n, rfl, _⟩ := h
    rfl
  · obtain ⟨v, g, ⟨x, u0, v0⟩, ⟨y, u1, v1⟩, X, l, m, n, rfl, ⟨p, a, b, rfl, hp, ha, hb⟩, hg, hx0, hy0, hn, hX, ⟨bX, bl, bm⟩, ⟨_, b0, b1⟩, ⟨_, b2, b3⟩, k⟩ := h
    refine ⟨_, (pss_cons (ps_set (i := 3) sc_carried_over.nd rfl (by first | exact Or.inl rfl | exact Or.inr rfl) (pe_ix (ix_listK (K := K) rfl) (pv 2) pe_int (fun _ _ => rfl)))
      (pss_cons (ps_set (i := 4) sc_carried_over.nd rfl (by first | exact Or.inl rfl | exact Or.inr rfl) (pe_ix (ix_listK (K := K) rfl) (pv 2) pe_int (fun _ _ => rfl)))
      (pss_cons (ps_set (i := 5) sc_carried_over.nd rfl (by first | exact Or.inl rfl | exact Or.inr rfl) (pe_op op_sub (pe_op op_shlW pe_int (pv 1)) pe_int))
      (pss_cons (ps_set (i := 6) sc_carried_over.nd rfl (by first | exact Or.inl rfl | exact Or.inr rfl) (pe_op op_add (pe_op op_add (pe_op op_shlW (pe_ix (ix_listK (K := K) rfl) (pv 2) pe_int (fun _ _ => rfl)) (pv 1)) (pe_op op_mulW (pv 3) (pe_op op_and (pe_ix (ix_listK (K := K) rfl) (pe_ix (ix_listK (K := K) rfl) (pv 0) pe_int (fun _ _ => rfl)) pe_int (fun _ _ => rfl)) (pv 5)))) (pe_op op_mulW (pv 4) (pe_op op_and (pe_ix (ix_listK (K := K) rfl) (pe_ix (ix_listK (K := K) rfl) (pv 0) pe_int (fun _ _ => rfl)) pe_int (fun _ _ => rfl)) (pv 5)))))
      (pss_cons (ps_set (i := 7) sc_carried_over.nd rfl (by first | exact Or.inl rfl | exact Or.inr rfl) (pe_lst (pa_cons (pv 6) (pa_cons (pe_op op_add (pe_op op_mulW (pv 3) (pe_ix (ix_listK (K := K) rfl) (pe_ix (ix_listK (K := K) rfl) (pv 0) pe_int (fun _ _ => rfl)) pe_int (fun _ _ => rfl))) (pe_op op_mulW (pv 4) (pe_ix (ix_listK (K := K) rfl) (pe_ix (ix_listK (K := K) rfl) (pv 0) pe_int (fun _ _ => rfl)) pe_int (fun _ _ => rfl)))) (pa_cons (pe_op op_add (pe_op op_mulW (pv 3) (pe_ix (ix_listK (K := K) rfl) (pe_ix (ix_listK (K := K) rfl) (pv 0) pe_int (fun _ _ => rfl)) pe_int (fun _ _ => rfl))) (pe_op op_mulW (pv 4) (pe_ix (ix_listK (K := K) rfl) (pe_ix (ix_listK (K := K) rfl) (pv 0) pe_int (fun _ _ => rfl)) pe_int (fun _ _ => rfl)))) pa_nil)))))
      (pss_cons (ps_if (pt_cmpR op_lt (pv 6) pe_int (nomark _)) (pss_one (ps_ret (pe_lc (own := [("part", 8)]) rfl sc_carried_over.nd (pi_list (pv 7)) (show BlkOk ["lines", "shift", "step", "u", "v", "last_digits", "number", "line", "part"] (defScope s_carried_over) _ _ from ⟨rfl, by decide +kernel, by decide +kernel, by decide +kernel, by decide +kernel⟩) (fun _ _ _ _ _ => (pg_name (i := 8) sc_carried_over.nd rfl (by first | exact Or.inl rfl | exact Or.inr rfl))) (fun _ _ _ _ _ => pts_nil) (fun _ _ _ _ _ => (pe_un un_neg (pv 8)))))) pss_nil)
      (pss_one (ps_ret (pv 7))))))))), ?_⟩
    dsimp only at bX bl bm b0 b1 b2 b3 hx0 hy0 hX k
    have ha' : H a = some (.lst ([x, u0, v0].map V.int)) := ha
    have hb' : H b = some (.lst ([y, u1, v1].map V.int)) := hb
    have hg' : H g = some (.lst ([X, l, m].map V.int)) := hg
    have e2 : (1 : Int) * 2 ^ ((n : Int)).toNat = ((2 ^ n : Nat) : Int) := by
      rw [Int.one_mul, Int.toNat_natCast]
      push_cast
      rfl
    have e3 : X * 2 ^ ((n : Int)).toNat = X * ((2 ^ n : Nat) : Int) := by
      rw [Int.toNat_natCast]
      push_cast
      rfl
    have hb1 : ((Builtin.Int.intBits 1 : Nat) : Int) + (n : Int) ≤ 2 ^ 27 := by
      have : Builtin.Int.intBits 1 = 1 := by decide
      rw [this]
      clear bX bl bm b0 b1 b2 b3 hX
      omega
    have hbX : ((Builtin.Int.intBits X : Nat) : Int) + (n : Int) ≤ 2 ^ 27 := by
      have h1 := big_add (bits_few bX)
      clear bX bl bm b0 b1 b2 b3 hX
      omega
    have hla := mod_few x (m := big) (le_big hn)
    have hlb := mod_few y (m := big) (le_big hn)
    have hmm : big + big ≤ 134217728 := by decide
    have ez : X * ((2 ^ n : Nat) : Int) + l * (x % ((2 ^ n : Nat) : Int)) + m * (y % ((2 ^ n : Nat) : Int)) = l * x + m * y := by
      rw [hX]
      exact carry_z
    refine ⟨_, rfl, g, _, _, _, rfl, rfl, SqL.of hg', at_ix (j := 1) rfl rfl, _, rfl, g, _, _, _, rfl, rfl, SqL.of hg', at_ix (j := 2) rfl rfl, _, rfl, _, _, rfl, rfl, ⟨Int.natCast_nonneg n, hb1⟩, _, _, rfl, rfl, ?_⟩
    rw [e2]
    refine ⟨_, rfl, g, _, _, _, rfl, rfl, SqL.of hg', at_ix (j := 0) rfl rfl, _, rfl, _, _, rfl, rfl, ⟨Int.natCast_nonneg n, hbX⟩, ?_⟩
    refine ⟨_, rfl, _, rfl, p, _, _, _, rfl, rfl, SqL.of hp, at_ix (j := 0) rfl rfl, a, _, _, _, rfl, rfl, SqL.of ha', at_ix (j := 0) rfl rfl, _, rfl, _, _, rfl, rfl, ?_⟩
    dsimp only
    rw [and_mask hx0]
    refine ⟨_, _, rfl, rfl, mul_big bl hla hmm, _, _, rfl, rfl, ?_⟩
    refine ⟨_, rfl, _, rfl, p, _, _, _, rfl, rfl, SqL.of hp, at_ix (j := 1) rfl rfl, b, _, _, _, rfl, rfl, SqL.of hb', at_ix (j := 0) rfl rfl, _, rfl, _, _, rfl, rfl, ?_⟩
    dsimp only
    rw [and_mask hy0]
    refine ⟨_, _, rfl, rfl, mul_big bm hlb hmm, _, _, rfl, rfl, ?_⟩
    rw [e3]
    dsimp only
    rw [ez]
    refine ⟨_, rfl, _, rfl, _, rfl, p, _, _, _, rfl, rfl, SqL.of hp, at_ix (j := 0) rfl rfl, a, _, _, _, rfl, rfl, SqL.of ha', at_ix (j := 1) rfl rfl, _, _, rfl, rfl, mul_big bl b0 hmm, ?_⟩
    refine ⟨_, rfl, _, rfl, p, _, _, _, rfl, rfl, SqL.of hp, at_ix (j := 1) rfl rfl, b, _, _, _, rfl, rfl, SqL.of hb', at_ix (j := 1) rfl rfl, _, _, rfl, rfl, mul_big bm b2 hmm, _, _, rfl, rfl, ?_⟩
    refine ⟨_, rfl, _, rfl, p, _, _, _, rfl, rfl, SqL.of hp, at_ix (j := 0) rfl rfl, a, _, _, _, rfl, rfl, SqL.of ha', at_ix (j := 2) rfl rfl, _, _, rfl, rfl, mul_big bl b1 hmm, ?_⟩
    refine ⟨_, rfl, _, rfl, p, _, _, _, rfl, rfl, SqL.of hp, at_ix (j := 1) rfl rfl, b, _, _, _, rfl, rfl, SqL.of hb', at_ix (j := 2) rfl rfl, _, _, rfl, rfl, mul_big bm b3 hmm, _, _, rfl, rfl, ?_⟩
    refine ⟨(by show 3 ≤ sizeLine; decide), fun t ht => ?_⟩
    have s1 := same_upd (o := .lst ([l * x + m * y, l * u0 + m * u1, l * v0 + m * v1].map V.int)) ht
    unfold flipR at k
    dsimp only at k
    refine ⟨_, rfl, _, _, rfl, rfl, _, rfl, ?_⟩
    refine ite2 (fun h1 => ?_) (fun h1 => ?_)
    · rw [if_pos (of_decide_eq_true h1)] at k
      refine ⟨_, rfl, t, rfl, ⟨_, SqL.of upd_same⟩, fun D hD => ?_⟩
      refine lc_ints (K := K) (a := t) (ns := [l * x + m * y, l * u0 + m * u1, l * v0 + m * v1]) (fun _ => true) (fun z => V.int (-z)) (SqL.of upd_same) (small1000 (by show 3 ≤ 1000; decide)) hD (fun z => rfl) (fun z hz H5 Rv R' s5 hR' => ?_) (fun H5 s5 e5 => ?_)
      · have hR2 := hR' H5 (Same.refl H5)
        rw [if_pos rfl] at hR2
        exact ⟨_, rfl, _, rfl, hR2⟩
      · rw [filter_yes] at e5
        refine k _ _ (s1.trans s5) ?_
        rw [e5]
        rfl
    · rw [if_neg (fun z => h1 (decide_eq_true z))] at k
      exact ⟨_, rfl, k _ _ s1 upd_same⟩
def sp_halved (j : Nat) : Sp := fun vs H Q _ => ∃ (a b : Int), vs = [.int a, .int b] ∧ 0 ≤ b ∧ b ≤ a ∧ 0 < a ∧ Builtin.Int.intBits a ≤ Bj j ∧ j ≤ 7 ∧
  ∀ (H' : Hp) (v : V) (x u0 v0 y u1 v1 : Int), Same H H' → LN H' v (x, u0, v0) (y, u1, v1) → Hv (2 * j) (Builtin.Int.intBits a) a b x u0 v0 y u1 v1 → Q v H'
def sp_shortened : Nat → Sp
  | 0 => fun _ _ _ _ => False
  | j + 1 => fun vs H Q _ => ∃ (v : V) (r s : T3) (n : Nat), vs = [v, .int n] ∧ LN H v r s ∧ 0 ≤ s.1 ∧ s.1 ≤ r.1 ∧ 0 < r.1 / ((2 ^ n : Nat) : Int) ∧ Builtin.Int.intBits (r.1 / ((2 ^ n : Nat) : Int)) ≤ Bj j ∧ j ≤ 7 ∧ n ≤ 20000 ∧ Few3 big r ∧ Few3 big s ∧
    ∀ (H' : Hp) (u : V) (X l0 m0 Y l1 m1 : Int), Same H H' → Hv (2 * j) (Builtin.Int.intBits (r.1 / ((2 ^ n : Nat) : Int))) (r.1 / ((2 ^ n : Nat) : Int)) (s.1 / ((2 ^ n : Nat) : Int)) X l0 m0 Y l1 m1 →
      LN H' u (inOrder (flipR (l0 * r.1 + m0 * s.1, l0 * r.2.1 + m0 * s.2.1, l0 * r.2.2 + m0 * s.2.2)) (flipR (l1 * r.1 + m1 * s.1, l1 * r.2.1 + m1 * s.2.1, l1 * r.2.2 + m1 * s.2.2))).1
        (inOrder (flipR (l0 * r.1 + m0 * s.1, l0 * r.2.1 + m0 * s.2.1, l0 * r.2.2 + m0 * s.2.2)) (flipR (l1 * r.1 + m1 * s.1, l1 * r.2.1 + m1 * s.2.1, l1 * r.2.2 + m1 * s.2.2))).2 → Q u H'
theorem Hv.few {j n : Nat} {a b x u0 v0 y u1 v1 : Int} (h : Hv (2 * j) n a b x u0 v0 y u1 v1) (hj : j ≤ 7) (hn : n ≤ 13000) : Few3 big (x, u0, v0) ∧ Few3 big (y, u1, v1) := by
  obtain ⟨_, _, _, h1, h2, h3, h4, h5, h6⟩ := h
  simp only [W_is] at h1 h2 h3 h4 h5 h6
  exact ⟨⟨lt_up h2 (le_big (by omega)), lt_up h3 (le_big (by omega)), lt_up h4 (le_big (by omega))⟩, lt_up h1 (le_big (by omega)), lt_up h5 (le_big (by omega)), lt_up h6 (le_big (by omega))⟩
theorem sc_shortened : FnScope ["lines", "shift", "steps", "first", "second"] ["lines", "shift"] (defScope s_shortened) := ⟨rfl, rfl, rfl, by decide +kernel, rfl, by decide +kernel, by decide +kernel⟩
theorem ok_shortened0 {P : Program} {w : World} {K : PySem.W.Frag} {mg : Str → Option Value} {base : Heap} {f : Addr} {fd : FuncData} (F : Fun K "shortened" "shortened" s_shortened f fd) {k : Nat} : FnOk P w K mg base CX0 (k + 1) f fd ["lines", "shift"] (sp_shortened 0) := by
  refine F.ok sc_shortened (fun vs H Q E h => ?_) (fun cdv A outer s H vs Q E hr h => ?_)
  · exact h.elim
  · exact h.elim
theorem ok_shortened {P : Program} {w : World} {K : PySem.W.Frag} {mg : Str → Option Value} {base : Heap} {f : Addr} {fd : FuncData} (F : Fun K "shortened" "shortened" s_shortened f fd) (O : Own mg) {k j : Nat} (hk : 1 ≤ k) (C_carried_over : Cal P w K mg base 1 "carried_over" ["lines", "shift", "step"] sp_carried_over) (C_halved : Cal P w K mg base k "halved" ["a", "b"] (sp_halved j)) :
    FnOk P w K mg base CX0 (k + 1) f fd ["lines", "shift"] (sp_shortened (j + 1)) := by
  refine F.ok sc_shortened (fun vs H Q E h => ?_) (fun cdv A outer s H vs Q E hr h => ?_)
  · obtain ⟨v, r, s, n, rfl, _⟩ := h
    rfl
  · obtain ⟨v, ⟨x, u0, v0⟩, ⟨y, u1, v1⟩, n, rfl, ⟨p, a, b, rfl, hp, ha, hb⟩, hy0, hyx, hpos, hbits, hj, hn, f0, f1, k⟩ := h
    refine ⟨_, (pss_cons (ps_set (i := 2) sc_shortened.nd rfl (by first | exact Or.inl rfl | exact Or.inr rfl) (pe_cal C_halved (hr.mono (by omega)) (by rfl) (pa_cons (pe_op op_shr (pe_ix (ix_listK (K := K) rfl) (pe_ix (ix_listK (K := K) rfl) (pv 0) pe_int (fun _ _ => rfl)) pe_int (fun _ _ => rfl)) (pv 1)) (pa_cons (pe_op op_shr (pe_ix (ix_listK (K := K) rfl) (pe_ix (ix_listK (K := K) rfl) (pv 0) pe_int (fun _ _ => rfl)) pe_int (fun _ _ => rfl)) (pv 1)) pa_nil))))
      (pss_cons (ps_set (i := 3) sc_shortened.nd rfl (by first | exact Or.inl rfl | exact Or.inr rfl) (pe_cal C_carried_over (hr.mono (by omega)) (by rfl) (pa_cons (pv 0) (pa_cons (pv 1) (pa_cons (pe_ix (ix_listK (K := K) rfl) (pv 2) pe_int (fun _ _ => rfl)) pa_nil)))))
      (pss_cons (ps_set (i := 4) sc_shortened.nd rfl (by first | exact Or.inl rfl | exact Or.inr rfl) (pe_cal C_carried_over (hr.mono (by omega)) (by rfl) (pa_cons (pv 0) (pa_cons (pv 1) (pa_cons (pe_ix (ix_listK (K := K) rfl) (pv 2) pe_int (fun _ _ => rfl)) pa_nil)))))
      (pss_cons (ps_if (pt_cmpR op_lt (pe_ix (ix_listK (K := K) rfl) (pv 3) pe_int (fun _ _ => rfl)) (pe_ix (ix_listK (K := K) rfl) (pv 4) pe_int (fun _ _ => rfl)) (nomark _)) (pss_one (ps_ret (pe_lst (pa_cons (pv 4) (pa_cons (pv 3) pa_nil))))) pss_nil)
      (pss_one (ps_ret (pe_lst (pa_cons (pv 3) (pa_cons (pv 4) pa_nil))))))))), ?_⟩
    have ha' : H a = some (.lst ([x, u0, v0].map V.int)) := ha
    have hb' : H b = some (.lst ([y, u1, v1].map V.int)) := hb
    have e2 : (2 : Int) ^ ((n : Int)).toNat = ((2 ^ n : Nat) : Int) := by
      rw [Int.toNat_natCast]
      push_cast
      rfl
    have hS : (0 : Int) < ((2 ^ n : Nat) : Int) := by
      have := Nat.two_pow_pos n
      omega
    refine ⟨_, rfl, p, _, _, _, rfl, rfl, SqL.of hp, at_ix (j := 0) rfl rfl, a, _, _, _, rfl, rfl, SqL.of ha', at_ix (j := 0) rfl rfl, _, rfl, _, _, rfl, rfl, (by omega), ?_⟩
    refine ⟨_, rfl, p, _, _, _, rfl, rfl, SqL.of hp, at_ix (j := 1) rfl rfl, b, _, _, _, rfl, rfl, SqL.of hb', at_ix (j := 0) rfl rfl, _, rfl, _, _, rfl, rfl, (by omega), ?_⟩
    refine ⟨x / ((2 ^ n : Nat) : Int), y / ((2 ^ n : Nat) : Int), ?_, ?_, ?_, hpos, hbits, hj, fun H1 v1' X l0 m0 Y l1 m1 s1 hln hhv => ?_⟩
    · rw [← e2]
      rfl
    · exact Int.ediv_nonneg hy0 (Int.le_of_lt hS)
    · exact Int.ediv_le_ediv hS hyx
    obtain ⟨q, c0, c1, rfl, hq, hc0, hc1⟩ := hln
    obtain ⟨g0, g1⟩ := hhv.few hj (Nat.le_trans hbits (Bj_le j hj))
    have hx0 : 0 ≤ x := Int.le_trans hy0 hyx
    refine ⟨_, rfl, _, rfl, _, rfl, q, _, _, _, rfl, rfl, SqL.of hq, at_ix (j := 0) rfl rfl, ?_⟩
    refine ⟨_, c0, (x, u0, v0), (y, u1, v1), X, l0, m0, n, rfl, ⟨p, a, b, rfl, s1 _ _ hp, s1 _ _ ha, s1 _ _ hb⟩, hc0, hx0, hy0, hn, hhv.ls.ex, g0, f0, f1, fun H2 w0 s2 hw0 => ?_⟩
    have s12 := s1.trans s2
    refine ⟨_, rfl, _, rfl, _, rfl, q, _, _, _, rfl, rfl, SqL.of (s2 _ _ hq), at_ix (j := 1) rfl rfl, ?_⟩
    refine ⟨_, c1, (x, u0, v0), (y, u1, v1), Y, l1, m1, n, rfl, ⟨p, a, b, rfl, s12 _ _ hp, s12 _ _ ha, s12 _ _ hb⟩, s2 _ _ hc1, hx0, hy0, hn, hhv.ls.ey, g1, f0, f1, fun H3 w1 s3 hw1 => ?_⟩
    have hw0' := s3 _ _ hw0
    have fin := fun H' u => k H' u X l0 m0 Y l1 m1
    dsimp only at fin hw0' hw1
    generalize hR0 : flipR (l0 * x + m0 * y, l0 * u0 + m0 * u1, l0 * v0 + m0 * v1) = R0 at *
    generalize hR1 : flipR (l1 * x + m1 * y, l1 * u0 + m1 * u1, l1 * v0 + m1 * v1) = R1 at *
    have hw0'' : H3 w0 = some (.lst ([R0.1, R0.2.1, R0.2.2].map V.int)) := hw0'
    have hw1'' : H3 w1 = some (.lst ([R1.1, R1.2.1, R1.2.2].map V.int)) := hw1
    refine ⟨_, rfl, w0, _, _, _, rfl, rfl, SqL.of hw0'', at_ix (j := 0) rfl rfl, _, rfl, w1, _, _, _, rfl, rfl, SqL.of hw1'', at_ix (j := 0) rfl rfl, _, _, rfl, rfl, _, rfl, ?_⟩
    unfold inOrder at fin
    refine ite2 (fun h1 => ?_) (fun h1 => ?_)
    · have h2 : R0.1 < R1.1 := of_decide_eq_true h1
      rw [if_pos h2] at fin
      refine ⟨_, rfl, _, rfl, (by show 2 ≤ sizeLine; decide), fun z hz => ?_⟩
      have s4 := same_upd (o := .lst [V.ref w1, V.ref w0]) hz
      exact fin _ _ ((s12.trans s3).trans s4) hhv ⟨z, w1, w0, rfl, upd_same, s4 _ _ hw1, s4 _ _ hw0'⟩
    · have h2 : ¬ R0.1 < R1.1 := fun z => h1 (decide_eq_true z)
      rw [if_neg h2] at fin
      refine ⟨_, rfl, _, rfl, (by show 2 ≤ sizeLine; decide), fun z hz => ?_⟩
      have s4 := same_upd (o := .lst [V.ref w0, V.ref w1]) hz
      exact fin _ _ ((s12.trans s3).trans s4) hhv ⟨z, w0, w1, rfl, upd_same, s4 _ _ hw0', s4 _ _ hw1⟩
theorem bits_lt (z : Int) : z.natAbs < 2 ^ (Builtin.Int.intBits z) := by
  unfold Builtin.Int.intBits
  split
  · rename_i hz
    have : z = 0 := by simpa using hz
    subst this
    decide
  · exact Nat.lt_log2_self
theorem bits_ge {z : Int} (h : z ≠ 0) : 2 ^ (Builtin.Int.intBits z - 1) ≤ z.natAbs ∧ 1 ≤ Builtin.Int.intBits z := by
  unfold Builtin.Int.intBits
  split
  · rename_i hz
    exact absurd (by simpa using hz) h
  · rw [Nat.add_sub_cancel]
    exact ⟨Nat.log2_self_le (by omega), by omega⟩
theorem bits_eq {z : Int} {n : Nat} (hn : 1 ≤ n) (h1 : 2 ^ (n - 1) ≤ z.natAbs) (h2 : z.natAbs < 2 ^ n) : Builtin.Int.intBits z = n := by
  have g1 := bits_few h2
  have hz : z ≠ 0 := fun e => by
    rw [e] at h1
    have := Nat.two_pow_pos (n - 1)
    have e0 : (0 : Int).natAbs = 0 := rfl
    omega
  have g2 := bits_lt z
  false_or_by_contra
  have g3 : 2 ^ (Builtin.Int.intBits z) ≤ 2 ^ (n - 1) := pow2_mono (by omega)
  omega
def yAt (σ : L2.St) (H : Hp) : Nat := match σ with
  | [_, _, _, some (.ref p)] => match H p with
    | some (.lst [_, .ref b]) => match H b with
      | some (.lst (.int y :: _)) => y.toNat
      | _ => 0
    | _ => 0
  | _ => 0
theorem yAt_is {H : Hp} {v0 v1 v2 : Option V} {p a b : Addr} {r s : T3} (hp : H p = some (.lst [V.ref a, V.ref b])) (hb : H b = some (.lst (trL s))) : yAt [v0, v1, v2, some (.ref p)] H = s.1.toNat := by
  unfold yAt
  dsimp only
  rw [hp]
  dsimp only
  rw [hb]
  rfl
theorem few135 {z : Int} {n : Nat} (h : z.natAbs < W n) (hn : n ≤ 13500) : z.natAbs < 2 ^ 13500 := lt_up (by rw [W_is] at h; exact h) hn
theorem fewbig {z : Int} {n : Nat} (h : z.natAbs < W n) (hn : n ≤ 20000) : z.natAbs < 2 ^ big := lt_up (by rw [W_is] at h; exact h) (le_big hn)
theorem pow_int (n : Nat) : (2 : Int) ^ ((n : Int)).toNat = ((2 ^ n : Nat) : Int) := by
  rw [Int.toNat_natCast]
  push_cast
  rfl
theorem sh_ne {y : Int} {h : Nat} (hy : 0 ≤ y) (e : y / 2 ^ ((h : Int)).toNat ≠ 0) : W h ≤ y.natAbs := by
  rw [pow_int] at e
  false_or_by_contra
  exact e ((two_div hy).mpr (by omega))
theorem sh_eq {y : Int} {h : Nat} (hy : 0 ≤ y) (e : y / 2 ^ ((h : Int)).toNat = 0) : y.natAbs < W h := by
  rw [pow_int] at e
  exact (two_div hy).mp e
theorem sc_halved : FnScope ["a", "b", "half", "lines"] ["a", "b"] (defScope s_halved) := ⟨rfl, rfl, rfl, by decide +kernel, rfl, by decide +kernel, by decide +kernel⟩
theorem ok_halved {P : Program} {w : World} {K : PySem.W.Frag} {mg : Str → Option Value} {base : Heap} {f : Addr} {fd : FuncData} (F : Fun K "halved" "halved" s_halved f fd) (O : Own mg) (c_SHORT_TO_HALVE : Kst mg "SHORT_TO_HALVE" 200) {k j : Nat} (hk : 1 ≤ k) (C_divided : Cal P w K mg base 1 "divided" ["lines"] sp_divided) (C_shortened : Cal P w K mg base k "shortened" ["lines", "shift"] (sp_shortened j)) :
    FnOk P w K mg base CX0 (k + 1) f fd ["a", "b"] (sp_halved j) := by
  refine F.ok sc_halved (fun vs H Q E h => ?_) (fun cdv A outer s H vs Q E hr h => ?_)
  · obtain ⟨a, b, rfl, _⟩ := h
    rfl
  · obtain ⟨a, b, rfl, hb0, hba, ha0, hbits, hj, k⟩ := h
    refine ⟨_, (pss_cons (ps_set (i := 2) sc_halved.nd rfl (by first | exact Or.inl rfl | exact Or.inr rfl) (pe_op op_fdiv (pe_bits (pv 0)) pe_int))
      (pss_cons (ps_set (i := 3) sc_halved.nd rfl (by first | exact Or.inl rfl | exact Or.inr rfl) (pe_lst (pa_cons (pe_lst (pa_cons (pv 0) (pa_cons pe_int (pa_cons pe_int pa_nil)))) (pa_cons (pe_lst (pa_cons (pv 1) (pa_cons pe_int (pa_cons pe_int pa_nil)))) pa_nil))))
      (pss_cons (ps_if (pt_cmpR op_le (pe_bits (pv 0)) (pe_globK (by rfl) c_SHORT_TO_HALVE) (nomark _)) (pss_cons (ps_while PassesOwn.never (pt_cmpR op_ne (pe_op op_shr (pe_ix (ix_listK (K := K) rfl) (pe_ix (ix_listK (K := K) rfl) (pv 3) pe_int (fun _ _ => rfl)) pe_int (fun _ _ => rfl)) (pv 2)) pe_int (nomark _)) (pss_one (ps_set (i := 3) sc_halved.nd rfl (by first | exact Or.inl rfl | exact Or.inr rfl) (pe_cal C_divided (hr.mono (by omega)) (by rfl) (pa_cons (pv 3) pa_nil)))))
      (pss_one (ps_ret (pv 3)))) pss_nil)
      (pss_cons (ps_set (i := 3) sc_halved.nd rfl (by first | exact Or.inl rfl | exact Or.inr rfl) (pe_cal C_shortened (hr.mono (by omega)) (by rfl) (pa_cons (pv 3) (pa_cons (pv 2) pa_nil))))
      (pss_cons (ps_if (pt_cmpR op_ne (pe_op op_shr (pe_ix (ix_listK (K := K) rfl) (pe_ix (ix_listK (K := K) rfl) (pv 3) pe_int (fun _ _ => rfl)) pe_int (fun _ _ => rfl)) (pv 2)) pe_int (nomark _)) (pss_one (ps_set (i := 3) sc_halved.nd rfl (by first | exact Or.inl rfl | exact Or.inr rfl) (pe_cal C_divided (hr.mono (by omega)) (by rfl) (pa_cons (pv 3) pa_nil)))) pss_nil)
      (pss_cons (ps_if (pt_cmpR op_ne (pe_op op_shr (pe_ix (ix_listK (K := K) rfl) (pe_ix (ix_listK (K := K) rfl) (pv 3) pe_int (fun _ _ => rfl)) pe_int (fun _ _ => rfl)) (pv 2)) pe_int (nomark _)) (pss_one (ps_set (i := 3) sc_halved.nd rfl (by first | exact Or.inl rfl | exact Or.inr rfl) (pe_cal C_shortened (hr.mono (by omega)) (by rfl) (pa_cons (pv 3) (pa_cons (pe_callB (call_max2 rfl) (by rfl) O.max_ bt_max (pa_cons (pe_op op_sub (pe_op op_mul pe_int (pv 2)) (pe_bits (pe_ix (ix_listK (K := K) rfl) (pe_ix (ix_listK (K := K) rfl) (pv 3) pe_int (fun _ _ => rfl)) pe_int (fun _ _ => rfl)))) (pa_cons pe_int pa_nil))) pa_nil))))) pss_nil)
      (pss_one (ps_ret (pv 3))))))))), ?_⟩
    have ha1 := bits_lt a
    obtain ⟨ha2, hn1⟩ := bits_ge (show a ≠ 0 by omega)
    generalize hn : Builtin.Int.intBits a = n at *
    have hBn := Nat.le_trans hbits (Bj_le j hj)
    have haW : a.natAbs < W n := by rw [W_is]; exact ha1
    have ehalf : (n : Int) / 2 = ((n / 2 : Nat) : Int) := by omega
    have hakW : W (n / 2) ≤ a.natAbs := by
      rw [W_is]
      exact Nat.le_trans (pow2_mono (by omega)) ha2
    refine ⟨_, rfl, _, rfl, _, _, rfl, rfl, ⟨by decide, by decide⟩, ?_⟩
    rw [hn]
    dsimp only
    rw [ehalf]
    refine ⟨_, rfl, (by show 3 ≤ sizeLine; decide), fun r0 hr0 => ⟨_, rfl, (by show 3 ≤ sizeLine; decide), fun r1 hr1 => ⟨(by show 2 ≤ sizeLine; decide), fun p hp => ?_⟩⟩⟩
    have s1 := same_upd (o := .lst (trL (a, 1, 0))) hr0
    have s2 := same_upd (o := .lst (trL (b, 0, 1))) hr1
    have s3 := same_upd (o := .lst [V.ref r0, V.ref r1]) hp
    have s123 : Same H (upd (upd (upd H r0 (.lst (trL (a, 1, 0)))) r1 (.lst (trL (b, 0, 1)))) p (.lst [V.ref r0, V.ref r1])) := (s1.trans s2).trans s3
    have hLN : LN (upd (upd (upd H r0 (.lst (trL (a, 1, 0)))) r1 (.lst (trL (b, 0, 1)))) p (.lst [V.ref r0, V.ref r1])) (.ref p) (a, 1, 0) (b, 0, 1) := ⟨p, r0, r1, rfl, upd_same, s3 _ _ (s2 _ _ upd_same), s3 _ _ upd_same⟩
    generalize hH : upd (upd (upd H r0 (.lst (trL (a, 1, 0)))) r1 (.lst (trL (b, 0, 1)))) p (.lst [V.ref r0, V.ref r1]) = H0 at *
    have hH' : upd (upd (upd H r0 (HO.lst [V.int a, V.int 1, V.int 0])) r1 (HO.lst [V.int b, V.int 0, V.int 1])) p (HO.lst [V.ref r0, V.ref r1]) = H0 := hH
    rw [hH']
    refine ⟨_, rfl, _, rfl, _, _, rfl, rfl, _, rfl, ?_⟩
    rw [hn]
    refine ite2 (fun h1 => ?_) (fun h1 => ?_)
    · have h2 : n ≤ 200 := by
        have := of_decide_eq_true h1
        omega
      refine while_by (fun σ H' => ∃ (v : Addr) (r s : T3), σ = [some (.int a), some (.int b), some (.int ((n / 2 : Nat) : Int)), some (.ref v)] ∧ LN H' (.ref v) r s ∧ Eu n a b r.1 r.2.1 r.2.2 s.1 s.2.1 s.2.2 ∧ Same H0 H') yAt
        ⟨p, (a, 1, 0), (b, 0, 1), rfl, hLN, Eu.start hb0 hba hakW, Same.refl _⟩ ?_ ?_
      · rintro σ H1 ⟨v, ⟨x, u0, v0⟩, ⟨y, u1, v1⟩, rfl, ⟨p', c0, c1, e', hp', hc0, hc1⟩, hEu, s4⟩
        cases e'
        have hc1' : H1 c1 = some (.lst ([y, u1, v1].map V.int)) := hc1
        have hy0 := hEu.y0
        refine ⟨_, rfl, v, _, _, _, rfl, rfl, SqL.of hp', at_ix (j := 1) rfl rfl, c1, _, _, _, rfl, rfl, SqL.of hc1', at_ix (j := 0) rfl rfl, _, rfl, _, _, rfl, rfl, (by omega), rfl, _, rfl, ?_⟩
        refine ite2 (fun h3 => ?_) (fun h3 => ?_)
        · have hyk := sh_ne hy0 (nq_ne h3)
          obtain ⟨g1, g2, g3, g4⟩ := hEu.fac haW (by omega) hba
          have hyp : 0 < y := by
            have := W_pos (n / 2)
            have hy00 : 0 ≤ y := hy0
            clear g1 g2 g3 g4 haW hakW ha1 ha2
            omega
          refine ⟨_, rfl, _, (x, u0, v0), (y, u1, v1), rfl, ⟨v, c0, c1, rfl, hp', hc0, hc1⟩, hyp, few135 g1 (by omega), few135 g4 (by omega), few135 g2 (by omega), few135 g3 (by omega), fun H2 u2 s5 hln => ?_⟩
          obtain ⟨p2, d0, d1, rfl, hp2, hd0, hd1⟩ := hln
          refine ⟨⟨p2, _, _, rfl, ⟨p2, d0, d1, rfl, hp2, hd0, hd1⟩, hEu.step hyk, s4.trans s5⟩, ?_⟩
          show yAt [_, _, _, some (.ref p2)] H2 < yAt [_, _, _, some (.ref v)] H1
          rw [yAt_is (r := (y, u1, v1)) hp2 hd1, yAt_is (r := (x, u0, v0)) hp' hc1]
          show (x - x / y * y).toNat < y.toNat
          have h5 := Int.emod_lt_of_pos x hyp
          have h6 : x - x / y * y = x % y := by
            have := Int.mul_ediv_add_emod x y
            rw [Int.mul_comm] at this
            clear g1 g2 g3 g4 haW hakW ha1 ha2
            omega
          rw [h6]
          clear g1 g2 g3 g4 haW hakW ha1 ha2
          omega
        · have hyk := sh_eq hy0 (nq_eq h3)
          exact ⟨_, rfl, k _ _ x u0 v0 y u1 v1 (s123.trans s4) ⟨v, c0, c1, rfl, hp', hc0, hc1⟩ ((hEu.done hn1 haW (by omega) hba hyk).up (Nat.zero_le _))⟩
      · rintro σ H' Q1 Q2 hq ⟨w0, f0, g, xs, i, v, e1, e2, e3, e4, g', xs', i', v', e1', e2', e3', e4', w1, f1, i2, j2, e5, e6, c6, r1, b, e7, h⟩
        exact ⟨w0, f0, g, xs, i, v, e1, e2, e3, e4, g', xs', i', v', e1', e2', e3', e4', w1, f1, i2, j2, e5, e6, c6, r1, b, e7, hq _ _ h⟩
    have h2 : 200 < n := by
      false_or_by_contra
      exact h1 (decide_eq_true (by omega))
    obtain ⟨j', rfl⟩ : ∃ j', j = j' + 1 := by
      cases j with
      | zero =>
        have : Bj 0 = 140 := by decide
        omega
      | succ j' => exact ⟨j', rfl⟩
    have hj' : j' ≤ 7 := by omega
    have ht : 2 * j' ≤ 40 := by omega
    obtain ⟨q1, q2⟩ := few_div (h := n / 2) (show 0 ≤ a by omega) ha2 ha1 (by omega)
    have hbd := bits_eq (show 1 ≤ n - n / 2 by omega) q1 q2
    have hpos : 0 < a / ((2 ^ (n / 2) : Nat) : Int) := by
      have h3 : 0 ≤ a / ((2 ^ (n / 2) : Nat) : Int) := Int.ediv_nonneg (by omega) (Int.natCast_nonneg _)
      have h4 := Nat.two_pow_pos (n - n / 2 - 1)
      generalize a / ((2 ^ (n / 2) : Nat) : Int) = z at *
      generalize 2 ^ (n - n / 2 - 1) = M at *
      clear haW hakW ha1 ha2
      omega
    have hbig1 : (1 : Int).natAbs < 2 ^ big := Nat.one_lt_two_pow (by decide)
    have hbig0 : (0 : Int).natAbs < 2 ^ big := Nat.two_pow_pos _
    have hbW : b.natAbs < W n := by clear hakW ha1 ha2 q1 q2 hbig1 hbig0; omega
    refine ⟨_, rfl, _, rfl, _, (a, 1, 0), (b, 0, 1), n / 2, rfl, hLN, hb0, hba, hpos, ?_, hj', by omega, ⟨fewbig haW (by omega), hbig1, hbig0⟩, ⟨fewbig hbW (by omega), hbig0, hbig1⟩, fun H4 u4 X l0 m0 Y l1 m1 s4 hhv hln => ?_⟩
    · show Builtin.Int.intBits (a / ((2 ^ (n / 2) : Nat) : Int)) ≤ Bj j'
      rw [hbd]
      exact Bj_half hbits
    dsimp only at hhv hln
    rw [hbd] at hhv
    simp only [Int.mul_one, Int.mul_zero, Int.add_zero, Int.zero_add] at hln
    rw [← W_is] at hhv
    obtain ⟨x, u0, v0, y, u1, v1, e1, hL, y0, yx, yb, xb, c0, c1, c2, c3⟩ := stage1 h2 ht haW hb0 (by omega) hhv
    rw [e1] at hln
    obtain ⟨p5, r5, t5, rfl, hp5, hr5, ht5⟩ := hln
    dsimp only at hr5 ht5
    have ht5' : H4 t5 = some (.lst ([y, u1, v1].map V.int)) := ht5
    have hr5' : H4 r5 = some (.lst ([x, u0, v0].map V.int)) := hr5
    have hLe : n / 2 + ((n - n / 2) - (n - n / 2) / 2) + 2 * j' + 2 ≤ 13500 := by clear haW hakW ha1 ha2 q1 q2 hbig1 hbig0 hbW yb xb c0 c1 c2 c3; omega
    refine ⟨_, rfl, p5, _, _, _, rfl, rfl, SqL.of hp5, at_ix (j := 1) rfl rfl, t5, _, _, _, rfl, rfl, SqL.of ht5', at_ix (j := 0) rfl rfl, _, rfl, _, _, rfl, rfl, (by omega), rfl, _, rfl, ?_⟩
    refine ite2 (fun h3 => ?_) (fun h3 => ?_)
    · have hyk := sh_ne y0 (nq_ne h3)
      obtain ⟨hD, d0, d1, d2, d3⟩ := divide (t := 2 * j') h2 haW (by clear hakW ha1 ha2 q1 q2 hbig1 hbig0 hbW yb xb c0 c1 c2 c3 haW hyk; omega) hL hyk y0 yx c2 c3
      have hyp : 0 < y := by
        have h9 := W_pos (n / 2)
        clear hakW ha1 ha2 q1 q2 hbig1 hbig0 hbW yb xb c0 c1 c2 c3 haW d0 d1 d2 d3
        omega
      have hxe : n + 2 * j' + 2 ≤ 13500 := by clear hakW ha1 ha2 q1 q2 hbig1 hbig0 hbW yb xb c0 c1 c2 c3 haW d0 d1 d2 d3 hyk; omega
      have hce : (n - n / 2) - (n - n / 2) / 2 + 2 * j' ≤ 13500 := by clear hakW ha1 ha2 q1 q2 hbig1 hbig0 hbW yb xb c0 c1 c2 c3 haW d0 d1 d2 d3 hyk; omega
      have hde : n - n / 2 + 2 * j' + 1 ≤ 13500 := by clear hakW ha1 ha2 q1 q2 hbig1 hbig0 hbW yb xb c0 c1 c2 c3 haW d0 d1 d2 d3 hyk; omega
      have hba' : b.natAbs ≤ a.natAbs := by clear hakW ha1 ha2 q1 q2 hbig1 hbig0 hbW yb xb c0 c1 c2 c3 haW d0 d1 d2 d3 hyk; omega
      refine ⟨_, rfl, _, (x, u0, v0), (y, u1, v1), rfl, ⟨p5, r5, t5, rfl, hp5, hr5, ht5⟩, hyp, few135 xb hxe, few135 yb hLe, few135 c2 hce, few135 c3 hce, fun H6 u6 s6 hln6 => ?_⟩
      dsimp only at hln6
      generalize x - x / y * y = y2 at *
      generalize u0 - x / y * u1 = u2 at *
      generalize v0 - x / y * v1 = v2 at *
      obtain ⟨p6, r6, t6, rfl, hp6, hr6, ht6⟩ := hln6
      have ht6' : H6 t6 = some (.lst ([y2, u2, v2].map V.int)) := ht6
      have hr6' : H6 r6 = some (.lst ([y, u1, v1].map V.int)) := hr6
      refine ⟨_, rfl, p6, _, _, _, rfl, rfl, SqL.of hp6, at_ix (j := 1) rfl rfl, t6, _, _, _, rfl, rfl, SqL.of ht6', at_ix (j := 0) rfl rfl, _, rfl, _, _, rfl, rfl, (by omega), rfl, _, rfl, ?_⟩
      refine ite2 (fun h4 => ?_) (fun h4 => ?_)
      · have hy2k := sh_ne d0 (nq_ne h4)
        have hb1 := bits_lt y
        obtain ⟨hb2, hb3⟩ := bits_ge (show y ≠ 0 from Int.ne_of_gt hyp)
        have hLm : Builtin.Int.intBits y ≤ n / 2 + ((n - n / 2) - (n - n / 2) / 2) + 2 * j' + 2 := bits_few (by rw [← W_is]; exact yb)
        have hLk : n / 2 < Builtin.Int.intBits y := by
          false_or_by_contra
          rename_i hc
          have h9 := W_le (Nat.le_of_not_lt hc)
          rw [W_is (Builtin.Int.intBits y)] at h9
          generalize 2 ^ Builtin.Int.intBits y = M at *
          clear hakW ha1 ha2 q1 q2 hbig1 hbig0 hbW yb xb c0 c1 c2 c3 haW d0 d1 d2 d3 hb2
          omega
        refine ⟨_, rfl, _, rfl, _, _, rfl, rfl, .inl ⟨by decide, by decide⟩, _, rfl, p6, _, _, _, rfl, rfl, SqL.of hp6, at_ix (j := 0) rfl rfl, r6, _, _, _, rfl, rfl, SqL.of hr6', at_ix (j := 0) rfl rfl, _, rfl, _, _, rfl, rfl, _, _, rfl, ?_⟩
        generalize hL0 : Builtin.Int.intBits y = L at *
        have hL2 := bit_le h2 hj' hLm
        have emax : (if (0 : Int) > 2 * ((n / 2 : Nat) : Int) - (L : Int) then (0 : Int) else 2 * ((n / 2 : Nat) : Int) - (L : Int)) = ((2 * (n / 2) - L : Nat) : Int) := by
          clear hakW ha1 ha2 q1 q2 hbig1 hbig0 hbW yb xb c0 c1 c2 c3 haW d0 d1 d2 d3 hb1 hb2 hyk hy2k
          rw [if_neg (by omega)]
          omega
        rw [emax]
        have hsh : 2 * (n / 2) - L < L := by clear hakW ha1 ha2 q1 q2 hbig1 hbig0 hbW yb xb c0 c1 c2 c3 haW d0 d1 d2 d3 hb1 hb2 hyk hy2k; omega
        have hexp : L - (2 * (n / 2) - L) = 2 * (L - n / 2) := by clear hakW ha1 ha2 q1 q2 hbig1 hbig0 hbW yb xb c0 c1 c2 c3 haW d0 d1 d2 d3 hb1 hb2 hyk hy2k; omega
        have he1 : 1 ≤ 2 * (L - n / 2) := by clear hakW ha1 ha2 q1 q2 hbig1 hbig0 hbW yb xb c0 c1 c2 c3 haW d0 d1 d2 d3 hb1 hb2 hyk hy2k; omega
        have hn20 : 2 * (n / 2) - L ≤ 20000 := by clear hakW ha1 ha2 q1 q2 hbig1 hbig0 hbW yb xb c0 c1 c2 c3 haW d0 d1 d2 d3 hb1 hb2 hyk hy2k; omega
        obtain ⟨q3, q4⟩ := few_div (Int.le_of_lt hyp) hb2 hb1 hsh
        rw [hexp] at q3 q4
        have hbd2 := bits_eq he1 q3 q4
        have hpos2 : 0 < y / ((2 ^ (2 * (n / 2) - L) : Nat) : Int) := by
          have h3 : 0 ≤ y / ((2 ^ (2 * (n / 2) - L) : Nat) : Int) := Int.ediv_nonneg (Int.le_of_lt hyp) (Int.natCast_nonneg _)
          have h9 := Nat.two_pow_pos (2 * (L - n / 2) - 1)
          generalize y / ((2 ^ (2 * (n / 2) - L) : Nat) : Int) = z at *
          generalize 2 ^ (2 * (L - n / 2) - 1) = M at *
          clear hakW ha1 ha2 q1 q2 hbig1 hbig0 hbW yb xb c0 c1 c2 c3 haW d0 d1 d2 d3 hb1 hb2 hyk hy2k q4
          omega
        have hy2b : y2.natAbs < W (n / 2 + ((n - n / 2) - (n - n / 2) / 2) + 2 * j' + 2) := by
          clear hakW ha1 ha2 q1 q2 hbig1 hbig0 hbW xb c0 c1 c2 c3 haW d2 d3 hb1 hb2 hyk hy2k q3 q4
          omega
        refine ⟨_, (y, u1, v1), (y2, u2, v2), 2 * (n / 2) - L, rfl, ⟨p6, r6, t6, rfl, hp6, hr6, ht6⟩, d0, d1, hpos2, ?_, hj', hn20, ⟨fewbig yb (Nat.le_trans hLe (by decide)), fewbig c2 (Nat.le_trans hce (by decide)), fewbig c3 (Nat.le_trans hce (by decide))⟩, ⟨fewbig hy2b (Nat.le_trans hLe (by decide)), fewbig d2 (Nat.le_trans hde (by decide)), fewbig d3 (Nat.le_trans hde (by decide))⟩, fun H7 u7 X' l0' m0' Y' l1' m1' s7 hhv2 hln7 => ?_⟩
        · show Builtin.Int.intBits (y / ((2 ^ (2 * (n / 2) - L) : Nat) : Int)) ≤ Bj j'
          rw [hbd2]
          exact Bj_next hbits hLm
        dsimp only at hhv2 hln7
        rw [hbd2, ← W_is] at hhv2
        obtain ⟨x', u0', v0', y', u1', v1', e7, hfin⟩ := stage2 h2 ht haW hba' hD d0 d1 (by rw [W_is]; exact hb2) (by rw [W_is]; exact hb1) hLk hLm c2 c3 hhv2
        rw [e7] at hln7
        exact ⟨_, rfl, k _ _ x' u0' v0' y' u1' v1' (((s123.trans s4).trans s6).trans s7) hln7 hfin⟩
      · have hy2k := sh_eq d0 (nq_eq h4)
        exact ⟨_, rfl, k _ _ y u1 v1 y2 u2 v2 ((s123.trans s4).trans s6) ⟨p6, r6, t6, rfl, hp6, hr6, ht6⟩ (ret2 h2 ht hD d0 d1 yb hy2k c2 c3 d2 d3)⟩
    · have hyk := sh_eq y0 (nq_eq h3)
      refine ⟨_, rfl, p5, _, _, _, rfl, rfl, SqL.of hp5, at_ix (j := 1) rfl rfl, t5, _, _, _, rfl, rfl, SqL.of ht5', at_ix (j := 0) rfl rfl, _, rfl, _, _, rfl, rfl, (by omega), rfl, _, rfl, ?_⟩
      refine ite2 (fun h4 => absurd (nq_eq h3) (nq_ne h4)) (fun h4 => ?_)
      exact ⟨_, rfl, k _ _ x u0 v0 y u1 v1 (s123.trans s4) ⟨p5, r5, t5, rfl, hp5, hr5, ht5⟩ (ret1 h2 hL y0 yx xb hyk c0 c1 c2 c3)⟩
theorem cal_halved {P : Program} {w : World} {K : PySem.W.Frag} {mg : Str → Option Value} {base : Heap} {f g : Addr} {fd gd : FuncData} (F : Fun K "halved" "halved" s_halved f fd) (G : Fun K "shortened" "shortened" s_shortened g gd) (O : Own mg) (c_SHORT_TO_HALVE : Kst mg "SHORT_TO_HALVE" 200)
    (C_divided : Cal P w K mg base 1 "divided" ["lines"] sp_divided) (C_carried_over : Cal P w K mg base 1 "carried_over" ["lines", "shift", "step"] sp_carried_over)
    (m1 : mg "halved" = some (.ref f)) (k1 : PySem.W.keepIn K (.ref f) = true) (b1 : Binds K fd ["a", "b"] []) (m2 : mg "shortened" = some (.ref g)) (k2 : PySem.W.keepIn K (.ref g) = true) (b2 : Binds K gd ["lines", "shift"] []) :
    ∀ j : Nat, Cal P w K mg base (2 * j + 4) "halved" ["a", "b"] (sp_halved j)
  | 0 => ⟨f, fd, ok_halved F O c_SHORT_TO_HALVE (k := 3) (by decide) C_divided ⟨g, gd, ok_shortened0 G, m2, k2, b2⟩, m1, k1, b1⟩
  | j + 1 => ⟨f, fd, ok_halved F O c_SHORT_TO_HALVE (k := 2 * j + 5) (by omega) C_divided ⟨g, gd, ok_shortened G O (by omega) C_carried_over (cal_halved F G O c_SHORT_TO_HALVE C_divided C_carried_over m1 k1 b1 m2 k2 b2 j), m2, k2, b2⟩, m1, k1, b1⟩
def sp_common_divisor : Sp := fun vs H Q _ => ∃ m n : Int, vs = [.int m, .int n] ∧ m.natAbs < 2 ^ 12800 ∧ n.natAbs < 2 ^ 12800 ∧ ∀ H' : Hp, Same H H' → Q (.int (Nat.gcd m.natAbs n.natAbs : Nat)) H'
theorem max_is (a b : Int) (m n : Nat) (ha : a = m) (hb : b = n) : (if b > a then b else a) = ((max m n : Nat) : Int) := by
  subst ha hb
  rw [Nat.max_def]
  split <;> split <;> omega
theorem min_is (a b : Int) (m n : Nat) (ha : a = m) (hb : b = n) : (if b < a then b else a) = ((min m n : Nat) : Int) := by
  subst ha hb
  rw [Nat.min_def]
  split <;> split <;> omega
theorem gcd_max_min (m n : Nat) : Nat.gcd (max m n) (min m n) = Nat.gcd m n := by
  rw [Nat.max_def, Nat.min_def]
  split
  · exact Nat.gcd_comm n m
  · rfl
theorem min_few' {m n k : Nat} (h : m < k) : min m n < k := Nat.lt_of_le_of_lt (Nat.min_le_left _ _) h
theorem sc_common_divisor : FnScope ["m", "n", "left", "right", "lines", "rest"] ["m", "n"] (defScope s_common_divisor) := ⟨rfl, rfl, rfl, by decide +kernel, rfl, by decide +kernel, by decide +kernel⟩
theorem ok_common_divisor {P : Program} {w : World} {K : PySem.W.Frag} {mg : Str → Option Value} {base : Heap} {f : Addr} {fd : FuncData} (F : Fun K "common_divisor" "common_divisor" s_common_divisor f fd) (O : Own mg) (c_SHORT_TO_DIVIDE : Kst mg "SHORT_TO_DIVIDE" 2000) (C_halved : Cal P w K mg base 18 "halved" ["a", "b"] (sp_halved 7)) :
    FnOk P w K mg base CX0 19 f fd ["m", "n"] sp_common_divisor := by
  refine F.ok sc_common_divisor (fun vs H Q E h => ?_) (fun cdv A outer s H vs Q E hr h => ?_)
  · obtain ⟨m, n, rfl, _⟩ := h
    rfl
  · obtain ⟨m, n, rfl, hm, _, k⟩ := h
    refine ⟨_, (pss_cons (ps_set (i := 2) sc_common_divisor.nd rfl (by first | exact Or.inl rfl | exact Or.inr rfl) (pe_callB (call_max2 rfl) (by rfl) O.max_ bt_max (pa_cons (pe_callB call_abs (by rfl) O.abs_ bt_abs (pa_cons (pv 0) pa_nil)) (pa_cons (pe_callB call_abs (by rfl) O.abs_ bt_abs (pa_cons (pv 1) pa_nil)) pa_nil))))
      (pss_cons (ps_set (i := 3) sc_common_divisor.nd rfl (by first | exact Or.inl rfl | exact Or.inr rfl) (pe_callB (call_min2 rfl) (by rfl) O.min_ bt_min (pa_cons (pe_callB call_abs (by rfl) O.abs_ bt_abs (pa_cons (pv 0) pa_nil)) (pa_cons (pe_callB call_abs (by rfl) O.abs_ bt_abs (pa_cons (pv 1) pa_nil)) pa_nil))))
      (pss_cons (ps_while PassesOwn.never (pt_cmpR op_gt (pe_bits (pv 3)) (pe_globK (by rfl) c_SHORT_TO_DIVIDE) (nomark _)) (pss_cons (ps_set (i := 4) sc_common_divisor.nd rfl (by first | exact Or.inl rfl | exact Or.inr rfl) (pe_cal C_halved (hr.mono (by decide)) (by rfl) (pa_cons (pv 3) (pa_cons (pe_op op_mod (pv 2) (pv 3)) pa_nil))))
      (pss_cons (ps_set (i := 2) sc_common_divisor.nd rfl (by first | exact Or.inl rfl | exact Or.inr rfl) (pe_ix (ix_listK (K := K) rfl) (pe_ix (ix_listK (K := K) rfl) (pv 4) pe_int (fun _ _ => rfl)) pe_int (fun _ _ => rfl)))
      (pss_one (ps_set (i := 3) sc_common_divisor.nd rfl (by first | exact Or.inl rfl | exact Or.inr rfl) (pe_ix (ix_listK (K := K) rfl) (pe_ix (ix_listK (K := K) rfl) (pv 4) pe_int (fun _ _ => rfl)) pe_int (fun _ _ => rfl)))))))
      (pss_cons (ps_while PassesOwn.never (pt_cmpR op_ne (pv 3) pe_int (nomark _)) (pss_cons (ps_set (i := 5) sc_common_divisor.nd rfl (by first | exact Or.inl rfl | exact Or.inr rfl) (pe_op op_mod (pv 2) (pv 3)))
      (pss_cons (ps_set (i := 2) sc_common_divisor.nd rfl (by first | exact Or.inl rfl | exact Or.inr rfl) (pv 3))
      (pss_one (ps_set (i := 3) sc_common_divisor.nd rfl (by first | exact Or.inl rfl | exact Or.inr rfl) (pv 5))))))
      (pss_one (ps_ret (pv 2))))))), ?_⟩
    refine ⟨_, rfl, m, rfl, _, rfl, n, rfl, _, _, rfl, _, rfl, m, rfl, _, rfl, n, rfl, _, _, rfl, ?_⟩
    rw [max_is _ _ m.natAbs n.natAbs (abs_is _) (abs_is _), min_is _ _ m.natAbs n.natAbs (abs_is _) (abs_is _)]
    refine while_by (fun σ H' => ∃ (a b : Nat) (v : Option V), σ = [some (.int m), some (.int n), some (.int a), some (.int b), v, none] ∧ Nat.gcd a b = Nat.gcd m.natAbs n.natAbs ∧ b < 2 ^ 12800 ∧ Same H H')
      (fun σ H' => match σ with | [_, _, _, some (.int b), _, _] => b.toNat | _ => 0) ⟨_, _, none, rfl, gcd_max_min _ _, min_few' hm, Same.refl H⟩ ?_ ?_
    · rintro σ H' ⟨a0, b0, v, rfl, hg, hbb, hs'⟩
      refine ⟨_, rfl, _, rfl, _, _, rfl, rfl, _, rfl, ?_⟩
      refine ite2 (fun h1 => ?_) (fun h1 => ?_)
      · have hbits : 2000 < Builtin.Int.intBits (b0 : Int) := by
          have := of_decide_eq_true h1
          omega
        have hle : Builtin.Int.intBits (b0 : Int) ≤ 12800 := bits_few (by rw [Int.natAbs_natCast]; exact hbb)
        have hb0 : 0 < (b0 : Int) := by
          false_or_by_contra
          have e : (b0 : Int) = 0 := by clear hbb hm; omega
          rw [e] at hbits
          exact absurd hbits (by decide)
        have hmod0 := Int.emod_nonneg (a0 : Int) (Int.ne_of_gt hb0)
        have hmod1 := Int.emod_lt_of_pos (a0 : Int) hb0
        refine ⟨_, rfl, _, rfl, _, rfl, _, _, rfl, rfl, hb0, (b0 : Int), (a0 : Int) % (b0 : Int), rfl, hmod0, Int.le_of_lt hmod1, hb0, Nat.le_trans hle (by decide), by decide, fun H2 v2 x u0 v0 y u1 v1 s2 hln hhv => ?_⟩
        obtain ⟨p, c, d, rfl, hp, hc, hd⟩ := hln
        have hc' : H2 c = some (.lst ([x, u0, v0].map V.int)) := hc
        have hd' : H2 d = some (.lst ([y, u1, v1].map V.int)) := hd
        refine ⟨_, rfl, p, _, _, _, rfl, rfl, SqL.of hp, at_ix (j := 0) rfl rfl, c, _, _, _, rfl, rfl, SqL.of hc', at_ix (j := 0) rfl rfl, ?_⟩
        refine ⟨_, rfl, p, _, _, _, rfl, rfl, SqL.of hp, at_ix (j := 1) rfl rfl, d, _, _, _, rfl, rfl, SqL.of hd', at_ix (j := 0) rfl rfl, ?_⟩
        have y0 := hhv.y0
        have yx := hhv.yx
        have hgc := hhv.ls.gcd
        have hyb := hhv.yb
        rw [W_is] at hyb
        obtain ⟨hb2, _⟩ := bits_ge (Int.ne_of_gt hb0)
        have hyl : y.natAbs < 2 ^ (Builtin.Int.intBits (b0 : Int) - 1) := lt_up hyb (by clear hbb hm hyb hb2; omega)
        have ex : x = ((x.toNat : Nat) : Int) := by clear hbb hm hyb hb2 hyl; omega
        have ey : y = ((y.toNat : Nat) : Int) := by clear hbb hm hyb hb2 hyl; omega
        refine ⟨⟨x.toNat, y.toNat, some (.ref p), ?_, ?_, ?_, hs'.trans s2⟩, ?_⟩
        · rw [← ex, ← ey]
          rfl
        · rw [← hg, Nat.gcd_comm a0 b0]
          have e1 : x.toNat = x.natAbs := by clear hbb hm hyb hb2 hyl; omega
          have e2 : y.toNat = y.natAbs := by clear hbb hm hyb hb2 hyl; omega
          rw [e1, e2, hgc, Int.natAbs_natCast]
          have e3 : ((a0 : Int) % (b0 : Int)).natAbs = a0 % b0 := by
            rw [← Int.natCast_emod, Int.natAbs_natCast]
          rw [e3, Nat.gcd_rec b0 a0, Nat.gcd_comm]
        · have e2 : y.toNat = y.natAbs := by clear hbb hm hyb hb2 hyl; omega
          rw [e2]
          exact lt_up hyl (by clear hbb hm hyb hb2 hyl; omega)
        · show y.toNat < ((b0 : Int)).toNat
          rw [Int.natAbs_natCast] at hb2
          have e2 : y.toNat = y.natAbs := by clear hbb hm hyb hb2 hyl; omega
          rw [e2, Int.toNat_natCast]
          exact Nat.lt_of_lt_of_le hyl hb2
      refine while_by (fun σ H' => ∃ (a b : Nat) (v w : Option V), σ = [some (.int m), some (.int n), some (.int a), some (.int b), v, w] ∧ Nat.gcd a b = Nat.gcd m.natAbs n.natAbs ∧ Same H H')
        (fun σ H' => match σ with | [_, _, _, some (.int b), _, _] => b.toNat | _ => 0) ⟨_, _, _, none, rfl, hg, hs'⟩ ?_ ?_
      · rintro σ H' ⟨a, b, v, w', rfl, hg, hs⟩
        refine ⟨_, rfl, rfl, _, rfl, ?_⟩
        refine ite2 (fun hb => ?_) (fun hb => ?_)
        · have hb' : ¬ (b : Int) = 0 := by simpa using hb
          have hbp : (0 : Int) < b := by clear hbb hm; omega
          refine ⟨_, rfl, _, rfl, _, _, rfl, rfl, hbp, _, rfl, _, rfl, ?_⟩
          refine ⟨⟨b, a % b, _, _, rfl, ?_, hs⟩, ?_⟩
          · rw [← hg, Nat.gcd_comm a b, Nat.gcd_rec b a, Nat.gcd_comm]
          · show ((a : Int) % (b : Int)).toNat < ((b : Int)).toNat
            have : a % b < b := Nat.mod_lt _ (by clear hbb hm; omega)
            rw [← Int.natCast_emod]
            clear hbb hm
            omega
        · have hb' : (b : Int) = 0 := by simpa using hb
          have hb0 : b = 0 := by clear hbb hm; omega
          subst hb0
          refine ⟨_, rfl, ?_⟩
          rw [Nat.gcd_zero_right] at hg
          rw [hg]
          exact k H' hs
      · rintro σ H' Q1 Q2 hq ⟨v, e, h⟩
        exact ⟨v, e, by
          obtain ⟨h1, k, h2, h3⟩ := h
          exact ⟨h1, k, h2, hq _ _ h3⟩⟩
    · rintro σ H' Q1 Q2 hq ⟨v, e, a, ea, i, j, e1, e2, b, eb, h⟩
      exact ⟨v, e, a, ea, i, j, e1, e2, b, eb, hq _ _ h⟩
theorem lessRow_id {l : List Int} (h : gcdRow l = 0) : lessRow l = l := by
  unfold lessRow
  rw [h]
  have hz : ∀ z ∈ l, z = 0 := fun z hz => by
    have := gcdRow_dvd hz
    rw [h] at this
    have := Nat.eq_zero_of_zero_dvd this
    omega
  have e : l.map (fun (z : Int) => z / ((0 : Nat) : Int)) = l.map id := List.map_congr_left fun z hz' => by
    rw [hz z hz']
    rfl
  rw [e, List.map_id]
theorem gcdRow_log {l : List Int} {n : Nat} (h : ∀ z ∈ l, z.natAbs < 2 ^ n) (h0 : gcdRow l ≠ 0) : (gcdRow l).log2 < n := by
  have hex : ∃ z ∈ l, z ≠ 0 := by
    false_or_by_contra
    rename_i hn
    apply h0
    refine Nat.eq_zero_of_zero_dvd ((dvd_gcdRow l).mpr fun z hz => ?_)
    have : z = 0 := by
      false_or_by_contra
      rename_i hz0
      exact hn ⟨z, hz, hz0⟩
    rw [this]
    exact Nat.dvd_refl _
  obtain ⟨z, hz, hz0⟩ := hex
  have h1 : gcdRow l ≤ z.natAbs := Nat.le_of_dvd (by omega) (gcdRow_dvd hz)
  exact (Nat.log2_lt h0).mpr (Nat.lt_of_le_of_lt h1 (h z hz))
theorem gcdRow_rev (l : List Int) : gcdRow l.reverse = gcdRow l := by
  apply Nat.dvd_antisymm
  · exact (dvd_gcdRow l).mpr fun z hz => gcdRow_dvd (by simpa using hz)
  · exact (dvd_gcdRow l.reverse).mpr fun z hz => gcdRow_dvd (by simpa using hz)
theorem gcdRow_one {l : List Int} {i : Nat} (h : gcdRow (l.reverse.take i) = 1) : gcdRow l = 1 := by
  have : gcdRow l ∣ gcdRow (l.reverse.take i) := (dvd_gcdRow _).mpr fun z hz => gcdRow_dvd (by
    have := List.mem_of_mem_take hz
    simpa using this)
  rw [h] at this
  exact Nat.dvd_one.mp this
theorem lessRow_one {l : List Int} (h : gcdRow l = 1) : lessRow l = l := by
  unfold lessRow
  rw [h]
  have e : l.map (fun (z : Int) => z / ((1 : Nat) : Int)) = l.map id := List.map_congr_left fun z _ => Int.ediv_one z
  rw [e, List.map_id]
def Divs (l : List Int) : Prop := ∀ z ∈ l, z.natAbs < 2 ^ 12800
theorem Divs.of {n : Nat} {l : List Int} (h : FewI n l) (hn : n ≤ 12800) : Divs l := h.mono hn
def sp_without_divisor (K : PySem.W.Frag) : Sp := fun vs H Q _ => ∃ (v : V) (l : List Int), vs = [v] ∧ IL K H v l ∧ l.length ≤ 1000 ∧ Divs l ∧ ∀ (H' : Hp) (u : V), Same H H' → OL H' u (lessRow l) → Q u H'
theorem sc_without_divisor : FnScope ["values", "divisor", "number"] ["values"] (defScope s_without_divisor) := ⟨rfl, rfl, rfl, by decide +kernel, rfl, by decide +kernel, by decide +kernel⟩
theorem ok_without_divisor {P : Program} {w : World} {K : PySem.W.Frag} {mg : Str → Option Value} {base : Heap} {f : Addr} {fd : FuncData} (F : Fun K "without_divisor" "without_divisor" s_without_divisor f fd) (O : Own mg) (C_common_divisor : Cal P w K mg base 19 "common_divisor" ["m", "n"] sp_common_divisor) :
    FnOk P w K mg base CX0 20 f fd ["values"] (sp_without_divisor K) := by
  refine F.ok sc_without_divisor (fun vs H Q E h => ?_) (fun cdv A outer s H vs Q E hr h => ?_)
  · obtain ⟨v, l, rfl, _⟩ := h
    rfl
  · obtain ⟨v, l, rfl, ⟨a, rfl, hc⟩, hl, hb, k⟩ := h
    refine ⟨_, (pss_cons (ps_set (i := 1) sc_without_divisor.nd rfl (by first | exact Or.inl rfl | exact Or.inr rfl) pe_int)
      (pss_cons (ps_for PassesOwn.never rfl (pi_reversed (by rfl) O.reversed_ (pa_cons (pv 0) pa_nil)) (pg_name (i := 2) sc_without_divisor.nd rfl (by first | exact Or.inl rfl | exact Or.inr rfl)) (pss_cons (ps_set (i := 1) sc_without_divisor.nd rfl (by first | exact Or.inl rfl | exact Or.inr rfl) (pe_cal C_common_divisor (hr.mono (by decide)) (by rfl) (pa_cons (pv 1) (pa_cons (pv 2) pa_nil))))
      (pss_one (ps_if (pt_cmpR op_eq (pv 1) pe_int (nomark _)) (pss_one (ps_ret (pe_callTy (call_list_ofK (K := K) rfl) (by rfl) O.list_ bt_list (pa_cons (pv 0) pa_nil)))) pss_nil))))
      (pss_cons (ps_if (pt_cmpR op_eq (pv 1) pe_int (nomark _)) (pss_one (ps_ret (pe_callTy (call_list_ofK (K := K) rfl) (by rfl) O.list_ bt_list (pa_cons (pv 0) pa_nil)))) pss_nil)
      (pss_one (ps_ret (pe_lc (own := [("number", 2)]) rfl sc_without_divisor.nd (pi_list (pv 0)) (show BlkOk ["values", "divisor", "number"] (defScope s_without_divisor) _ _ from ⟨rfl, by decide +kernel, by decide +kernel, by decide +kernel, by decide +kernel⟩) (fun _ _ _ _ _ => (pg_name (i := 2) sc_without_divisor.nd rfl (by first | exact Or.inl rfl | exact Or.inr rfl))) (fun _ _ _ _ _ => pts_nil) (fun _ _ _ _ _ => (pe_op op_fdivX (pv 2) (pv 1))))))))), ?_⟩
    refine ⟨_, rfl, a, _, rfl, hc, for_rev (K := K) (a := a) (xs := l.map V.int) (fun i σ H' => ∃ v2 : Option V, σ = [some (.ref a), some (.int (gcdRow (l.reverse.take i) : Nat)), v2] ∧ Same H H')
      ⟨none, rfl, Same.refl H⟩ (fun i σ H' _ h => ?_) ?_ ?_⟩
    · obtain ⟨_, _, s⟩ := h
      exact s.seq hc
    · rintro i x σ H' hx ⟨v2, rfl, s1⟩
      rw [← List.map_reverse, List.getElem?_map] at hx
      obtain ⟨z, hz, rfl⟩ := Option.map_eq_some_iff.mp hx
      have hzl : z ∈ l := by simpa using List.mem_of_getElem? hz
      have e : gcdRow (l.reverse.take (i + 1)) = Nat.gcd (gcdRow (l.reverse.take i)) z.natAbs := by
        unfold gcdRow
        rw [take_snoc' hz, List.foldl_append]
        rfl
      refine ⟨_, rfl, _, rfl, _, z, rfl, by rw [Int.natAbs_natCast]; exact gcdRow_few fun y hy => hb y (by simpa using List.mem_of_mem_take hy), hb z hzl, fun H2 s2 => ?_⟩
      rw [Int.natAbs_natCast, ← e]
      refine ⟨_, rfl, rfl, _, rfl, ?_⟩
      refine ite2 (fun h1 => ?_) (fun h1 => ?_)
      · have h1' : ((gcdRow (l.reverse.take (i + 1)) : Nat) : Int) = 1 := int_eq h1
        refine ⟨_, rfl, a, _, rfl, .inl ((s1.trans s2).seq hc), fun p hp => k _ _ ((s1.trans s2).trans (same_upd hp)) ⟨p, rfl, ?_⟩⟩
        rw [upd_same, lessRow_one (gcdRow_one (i := i + 1) (by omega))]
      · exact ⟨some (.int z), rfl, s1.trans s2⟩
    · rintro σ H' ⟨v2, rfl, s1⟩
      have el : l.reverse.take (l.map V.int).length = l.reverse := List.take_of_length_le (by rw [List.length_map, List.length_reverse]; exact Nat.le_refl _)
      rw [el, gcdRow_rev]
      refine ⟨_, rfl, rfl, _, rfl, ?_⟩
      refine ite2 (fun h1 => ?_) (fun h1 => ?_)
      · have h1' : ((gcdRow l : Nat) : Int) = 0 := int_eq h1
        refine ⟨_, rfl, a, _, rfl, .inl (s1.seq hc), fun p hp => k _ _ (s1.trans (same_upd hp)) ⟨p, rfl, ?_⟩⟩
        rw [upd_same, lessRow_id (by omega)]
      · have h1' : ((gcdRow l : Nat) : Int) ≠ 0 := int_ne h1
        refine ⟨_, rfl, a, rfl, ⟨_, s1.seq hc⟩, fun D hD => ?_⟩
        refine lc_ints (K := K) (a := a) (ns := l) (fun _ => true) (fun z => V.int (z / ((gcdRow l : Nat) : Int))) (s1.seq hc) (small1000 hl) hD (fun z => rfl) (fun z hz H2 Rv R s2 hR => ?_) (fun H2 s2 e4 => ?_)
        · have hR' := hR H2 (Same.refl H2)
          rw [if_pos rfl] at hR'
          exact ⟨_, rfl, _, rfl, _, _, rfl, rfl, ⟨by omega, lt_up (hb z hz) (by decide)⟩, hR'⟩
        · rw [filter_yes] at e4
          refine k _ _ (s1.trans s2) ⟨D, rfl, ?_⟩
          rw [e4]
          unfold lessRow
          rw [List.map_map]
          rfl
theorem sc_one_form : FnScope ["a"] ["a"] (defScope s_one_form) := ⟨rfl, rfl, rfl, by decide +kernel, rfl, by decide +kernel, by decide +kernel⟩
theorem ok_one_form {P : Program} {w : World} {K : PySem.W.Frag} {mg : Str → Option Value} {base : Heap} {f : Addr} {fd : FuncData} (F : Fun K "one_form" "one_form" s_one_form f fd) (O : Own mg) (C_without_divisor : Cal P w K mg base 20 "without_divisor" ["values"] (sp_without_divisor K)) :
    FnOk P w K mg base CX0 21 f fd ["a"] (sp_without_divisor K) := by
  refine F.ok sc_one_form (fun vs H Q E h => ?_) (fun cdv A outer s H vs Q E hr h => ?_)
  · obtain ⟨v, l, rfl, _⟩ := h
    rfl
  · obtain ⟨v, l, rfl, hc, hl, hb, k⟩ := h
    refine ⟨_, (pss_one (ps_ret (pe_cal C_without_divisor (hr.mono (by decide)) (by rfl) (pa_cons (pv 0) pa_nil)))), ?_⟩
    exact ⟨_, rfl, v, l, rfl, hc, hl, hb, k⟩
theorem rep_zeros' : ∀ n : Nat, (List.replicate n [V.int 0]).flatten = (List.replicate n (0 : Int)).map V.int
  | 0 => rfl
  | n + 1 => by
    rw [List.replicate_succ, List.flatten_cons, rep_zeros' n, List.replicate_succ]
    rfl
def wholeRow (z : Int) (d : Nat) : List Int := z :: List.replicate (d - 1) 0
def sp_whole_row : Sp := fun vs H Q _ => ∃ (z : Int) (d : Nat), vs = [.int z, .int d] ∧ 1 ≤ d ∧ d ≤ 10 ∧ ∀ (H' : Hp) (y : V), Same H H' → OL H' y (wholeRow z d ++ [1]) → Q y H'
theorem sc_whole_row : FnScope ["number", "degree"] ["number", "degree"] (defScope s_whole_row) := ⟨rfl, rfl, rfl, by decide +kernel, rfl, by decide +kernel, by decide +kernel⟩
theorem ok_whole_row {P : Program} {w : World} {K : PySem.W.Frag} {mg : Str → Option Value} {base : Heap} {f : Addr} {fd : FuncData} (F : Fun K "whole_row" "whole_row" s_whole_row f fd) (O : Own mg) :
    FnOk P w K mg base CX0 1 f fd ["number", "degree"] sp_whole_row := by
  refine F.ok sc_whole_row (fun vs H Q E h => ?_) (fun cdv A outer s H vs Q E hr h => ?_)
  · obtain ⟨z, d, rfl, _⟩ := h
    rfl
  · obtain ⟨z, d, rfl, h1, h2, k⟩ := h
    refine ⟨_, (pss_one (ps_ret (pe_op op_cat (pe_op op_cat (pe_lst (pa_cons (pv 0) pa_nil)) (pe_op op_rep (pe_lst (pa_cons pe_int pa_nil)) (pe_op op_sub (pv 1) pe_int))) (pe_lst (pa_cons pe_int pa_nil))))), ?_⟩
    refine ⟨_, rfl, (by show 1 ≤ sizeLine; decide), fun l1 hl1 => ⟨(by show 1 ≤ sizeLine; decide), fun l2 hl2 => ?_⟩⟩
    have s1 : Same H (upd H l1 (.lst [V.int z])) := same_upd hl1
    have s2 : Same (upd H l1 (.lst [V.int z])) (upd (upd H l1 (.lst [V.int z])) l2 (.lst [V.int 0])) := same_upd hl2
    refine ⟨_, rfl, _, _, rfl, rfl, l2, _, _, rfl, rfl, upd_same, by omega, by omega, ?_, fun l3 hl3 => ?_⟩
    · show 1 * _ ≤ sizeLine
      exact Nat.le_trans (show 1 * ((d : Int) - 1).toNat ≤ 10 by omega) (by decide)
    have e1 : ((d : Int) - 1).toNat = d - 1 := by omega
    rw [rep_zeros', e1]
    have s3 := same_upd (o := .lst ((List.replicate (d - 1) (0 : Int)).map V.int)) hl3
    refine ⟨l1, l3, _, _, rfl, rfl, s3 _ _ (s2 _ _ upd_same), upd_same, ?_, fun D hD => ?_⟩
    · rw [List.length_map, List.length_replicate]
      exact Nat.le_trans (show 1 + (d - 1) ≤ 10 by omega) (by decide)
    have s4 := same_upd (o := .lst ([V.int z] ++ (List.replicate (d - 1) (0 : Int)).map V.int)) hD
    refine ⟨(by show 1 ≤ sizeLine; decide), fun l5 hl5 => ?_⟩
    have s5 := same_upd (o := .lst [V.int 1]) hl5
    refine ⟨D, l5, _, _, rfl, rfl, s5 _ _ upd_same, upd_same, ?_, fun r hr' => k _ _ (((s1.trans s2).trans (s3.trans s4)).trans (s5.trans (same_upd hr'))) ⟨r, rfl, ?_⟩⟩
    · rw [List.length_append, List.length_map, List.length_replicate]
      exact Nat.le_trans (show 1 + (d - 1) + 1 ≤ 11 by omega) (by decide)
    · rw [upd_same]
      unfold wholeRow
      rw [List.map_append, List.map_cons]
      rfl
def sp_remainder_of (K : PySem.W.Frag) : Sp := fun vs H Q _ => ∃ (v u : V) (c P : List Int) (b : Nat), vs = [v, u] ∧ IL K H v c ∧ IL K H u P ∧ FieldOk c ∧ c.length ≤ P.length ∧ P.length ≤ 20 ∧ FewI b P ∧ b ≤ 100000000 ∧
  ∀ (H' : Hp) (y : V) (R : List Int), Same H H' → OL H' y R → R.length = c.length → Cg c (pI P) (pI R) → FewI (b + 10 * (P.length - c.length)) R → Q y H'
theorem sc_remainder_of : FnScope ["field", "polynomial", "rest", "highest", "shift", "k"] ["field", "polynomial"] (defScope s_remainder_of) := ⟨rfl, rfl, rfl, by decide +kernel, rfl, by decide +kernel, by decide +kernel⟩
theorem ok_remainder_of {P : Program} {w : World} {K : PySem.W.Frag} {mg : Str → Option Value} {base : Heap} {f : Addr} {fd : FuncData} (F : Fun K "remainder_of" "remainder_of" s_remainder_of f fd) (O : Own mg) :
    FnOk P w K mg base CX0 1 f fd ["field", "polynomial"] (sp_remainder_of K) := by
  refine F.ok sc_remainder_of (fun vs H Q E h => ?_) (fun cdv A outer s H vs Q E hr h => ?_)
  · obtain ⟨v, u, c, P, b, rfl, _⟩ := h
    rfl
  · obtain ⟨v, u, c, P, b, rfl, ⟨ca, rfl, hC⟩, ⟨pa, rfl, hP⟩, hf, hl1, hl2, hb, hbb, k⟩ := h
    obtain ⟨f1, f2, f3⟩ := hf
    refine ⟨_, (pss_cons (ps_set (i := 2) sc_remainder_of.nd rfl (by first | exact Or.inl rfl | exact Or.inr rfl) (pe_callTy (call_list_ofK (K := K) rfl) (by rfl) O.list_ bt_list (pa_cons (pv 1) pa_nil)))
      (pss_cons (ps_while PassesOwn.never (pt_cmpR op_gt (pe_callB (call_lenK (K := K) rfl) (by rfl) O.len_ bt_len (pa_cons (pv 2) pa_nil)) (pe_callB (call_lenK (K := K) rfl) (by rfl) O.len_ bt_len (pa_cons (pv 0) pa_nil)) (nomark _)) (pss_cons (ps_set (i := 3) sc_remainder_of.nd rfl (by first | exact Or.inl rfl | exact Or.inr rfl) (pe_bm0 PySem.F.plainAttrs_list PySem.F.slot_list_pop PySem.F.type_list_pop mt_pop (pv 2)))
      (pss_cons (ps_set (i := 4) sc_remainder_of.nd rfl (by first | exact Or.inl rfl | exact Or.inr rfl) (pe_op op_sub (pe_callB (call_lenK (K := K) rfl) (by rfl) O.len_ bt_len (pa_cons (pv 2) pa_nil)) (pe_callB (call_lenK (K := K) rfl) (by rfl) O.len_ bt_len (pa_cons (pv 0) pa_nil))))
      (pss_one (ps_for PassesOwn.never rfl (pi_range1 (by rfl) O.range_ (pa_cons (pe_callB (call_lenK (K := K) rfl) (by rfl) O.len_ bt_len (pa_cons (pv 0) pa_nil)) pa_nil)) (pg_name (i := 5) sc_remainder_of.nd rfl (by first | exact Or.inl rfl | exact Or.inr rfl)) (pss_one (ps_augS (pv 2) (pe_op op_add (pv 4) (pv 5)) (get_listK (K := K) rfl) (pe_op op_mulW (pv 3) (pe_ix (ix_listK (K := K) rfl) (pv 0) (pv 5) (fun _ _ => rfl))) ip_sub set_list)))))))
      (pss_one (ps_ret (pv 2))))), ?_⟩
    refine ⟨_, rfl, pa, _, rfl, .inl hP, fun D hD => ?_⟩
    refine while_by (fun σ H' => ∃ (r : List Int) (v3 v4 v5 : Option V), σ = [some (.ref ca), some (.ref pa), some (.ref D), v3, v4, v5] ∧ H' D = some (.lst (r.map V.int)) ∧ c.length ≤ r.length ∧ r.length ≤ P.length ∧ Cg c (pI P) (pI r) ∧ FewI (b + 10 * (P.length - r.length)) r ∧ Same H H')
      (fun σ H' => match H' D with | some (.lst xs) => xs.length | _ => 0)
      ⟨P, none, none, none, rfl, upd_same, hl1, Nat.le_refl _, Cg.refl _, hb.mono (by omega), same_upd hD⟩ ?_ ?_
    · rintro σ H1 ⟨r, v3, v4, v5, rfl, hr1, hr2, hr3, hcg, hfew, s1⟩
      refine ⟨_, rfl, D, _, rfl, .inl (SqL.of hr1), _, rfl, ca, _, rfl, .inl (s1.seq hC), _, _, rfl, rfl, _, rfl, ?_⟩
      rw [List.length_map, List.length_map]
      refine ite2 (fun h1 => ?_) (fun h1 => ?_)
      · have h1' : c.length < r.length := by
          have := of_decide_eq_true h1
          omega
        have hrne : r ≠ [] := by
          rintro rfl
          simp at h1'
        obtain ⟨r', h0, rfl⟩ := snoc_of hrne
        rw [List.length_append] at hr2 hr3 h1' hfew
        have hl' : (r'.length + [h0].length) = r'.length + 1 := rfl
        rw [hl'] at hr2 hr3 h1' hfew
        generalize hB : b + 10 * (P.length - (r'.length + 1)) = B at hfew
        have hB' : B ≤ 100000200 := by omega
        have hh0 : h0.natAbs < 2 ^ B := hfew.last
        refine ⟨_, rfl, .inl ⟨rfl, _, SqL.of hr1⟩, D, _, V.int h0, rfl, rfl, hr1, ?_, ?_⟩
        · rw [List.map_append, List.length_append, List.map_cons, List.map_nil, List.length_cons, List.length_nil]
          simp
        have edl : ((r' ++ [h0]).map V.int).dropLast = r'.map V.int := by rw [List.map_append, List.map_cons, List.map_nil, List.dropLast_concat]
        rw [edl]
        have s2 : Same H (upd H1 D (.lst (r'.map V.int))) := same_upd2 s1 hD
        refine ⟨_, rfl, D, _, rfl, .inl (SqL.of upd_same), _, rfl, ca, _, rfl, .inl (s2.seq hC), _, _, rfl, rfl, ?_⟩
        rw [List.length_map, List.length_map]
        have hnC : (((c.map V.int).length : Nat) : Int).toNat = c.length := by rw [List.length_map]; omega
        refine ⟨_, rfl, ca, _, rfl, .inl (s2.seq hC), _, rfl, by omega, by rw [List.length_map]; omega, ?_⟩
        refine for_range (lo := 0) (n := (((c.map V.int).length : Nat) : Int).toNat) (fun i σ H' => ∃ (R : List Int) (v5 : Option V), σ = [some (.ref ca), some (.ref pa), some (.ref D), some (.int h0), some (.int ((r'.length : Int) - (c.length : Int))), v5] ∧ H' D = some (.lst (R.map V.int)) ∧ R.length = r'.length ∧
            (∀ x, pI R x = pI r' x - (h0 : Rat) * x ^ (r'.length - c.length) * pI (c.take i) x) ∧ FewI (B + 10) R ∧ (∀ j, r'.length - c.length + i ≤ j → (R.getD j 0).natAbs < 2 ^ B) ∧ Same H H')
          ⟨r', v5, rfl, upd_same, rfl, fun x => by rw [List.take_zero, pI_nil]; grind, hfew.left.mono (by omega), fun j _ => hfew.left.getD j, s2⟩ ?_ ?_
        · rintro i σ H3 hi ⟨R, w5, rfl, hR1, hR2, hR3, hR4, hR5, s3⟩
          rw [hnC] at hi
          have hix : (r'.length : Int) - (c.length : Int) + (0 + (i : Int)) = ((r'.length - c.length + i : Nat) : Int) := by omega
          have hlt : r'.length - c.length + i < R.length := by omega
          have hci : (c.getD i 0).natAbs < 2 ^ 10 := Nat.lt_of_le_of_lt (FieldOk.at ⟨f1, f2, f3⟩ i) (by decide)
          refine ⟨_, rfl, _, rfl, _, rfl, _, _, rfl, rfl, D, _, _, _, rfl, rfl, SqL.of hR1, at_getD hix hlt, _, rfl, _, rfl, _, rfl, ca, _, _, _, rfl, rfl, s3.seq hC, at_getD (j := i) (by omega) hi, _, _, rfl, rfl, ?_, _, _, rfl, rfl, D, _, _, _, rfl, rfl, hR1, ix_nat hix (by rw [List.length_map]; omega), ?_⟩
          · exact mul_big hh0 hci (by omega)
          · refine ⟨R.set (r'.length - c.length + i) (R.getD (r'.length - c.length + i) 0 - h0 * c.getD i 0), _, rfl, ?_, by rw [List.length_set]; exact hR2, fun x => ?_, ?_, fun j hj => ?_, same_upd2 s3 hD⟩
            · rw [upd_same, List.map_set]
            · rw [pI_set x _ _ _ hlt, hR3, pI_take x _ _ hi, ratpow_add, Rat.intCast_sub, Rat.intCast_mul]
              grind
            · refine hR4.set ?_
              have e1 := hR5 (r'.length - c.length + i) (Nat.le_refl _)
              have e2 : (h0 * c.getD i 0).natAbs ≤ 2 ^ B * 1000 := by
                rw [Int.natAbs_mul]
                exact Nat.mul_le_mul (Nat.le_of_lt hh0) (FieldOk.at ⟨f1, f2, f3⟩ i)
              rw [Nat.pow_add]
              have : (2 : Nat) ^ 10 = 1024 := by decide
              omega
            · rw [getD_set_ne (by omega)]
              exact hR5 j (by omega)
        · rintro σ H3 ⟨R, w5, rfl, hR1, hR2, hR3, hR4, hR5, s3⟩
          rw [hnC, List.take_length] at hR3
          refine ⟨⟨R, _, _, _, rfl, hR1, by omega, by omega, hcg.trans (rem_step (by omega) hR3), hR4.mono (by omega), s3⟩, ?_⟩
          show (match H3 D with | some (HO.lst xs) => xs.length | _ => 0) < (match H1 D with | some (HO.lst xs) => xs.length | _ => 0)
          rw [hR1, hr1]
          show (List.map V.int _).length < (List.map V.int _).length
          rw [List.length_map, List.length_map, List.length_append, hR2]
          exact Nat.lt_succ_self _
      · have h1' : r.length = c.length := by
          have : ¬ c.length < r.length := fun z => h1 (decide_eq_true (by omega))
          omega
        exact ⟨_, rfl, k H1 _ r s1 ⟨D, rfl, hr1⟩ h1' hcg (hfew.mono (by omega))⟩
    · rintro σ H' Q1 Q2 hq h
      obtain ⟨w0, f0, p, xs, g1, g2, w1, f1, p', xs', g3, g4, i, j, g5, g6, b, g7, g8⟩ := h
      exact ⟨w0, f0, p, xs, g1, g2, w1, f1, p', xs', g3, g4, i, j, g5, g6, b, g7, hq _ _ g8⟩
theorem rep_zeros : ∀ n : Nat, (List.replicate n [V.int 0]).flatten = (List.replicate n (0 : Int)).map V.int
  | 0 => rfl
  | n + 1 => by
    rw [List.replicate_succ, List.flatten_cons, rep_zeros n, List.replicate_succ]
    rfl
def UpTo (n M : Nat) (l : List Int) : Prop := ∀ z ∈ l, z.natAbs ≤ n * M
theorem UpTo.set {n M : Nat} {l : List Int} {i : Nat} {z : Int} (h : UpTo n M l) (hz : z.natAbs ≤ M) : UpTo (n + 1) M (l.set i (l.getD i 0 + z)) := fun y hy => by
  rw [Nat.succ_mul]
  rcases List.mem_or_eq_of_mem_set hy with h1 | h1
  · have := h y h1
    omega
  · have h2 : (l.getD i 0).natAbs ≤ n * M := by
      rw [List.getD_eq_getElem?_getD]
      cases e : l[i]? with
      | none => exact Nat.zero_le _
      | some w => exact h w (List.mem_of_getElem? e)
    rw [h1]
    omega
def sp_product_of (K : PySem.W.Frag) : Sp := fun vs H Q _ => ∃ (v u t : V) (c A B : List Int) (a b : Nat), vs = [v, u, t] ∧ IL K H v c ∧ IL K H u A ∧ IL K H t B ∧ FieldOk c ∧ A.length = c.length ∧ B.length = c.length ∧ FewI a A ∧ FewI b B ∧ a + b ≤ 90000000 ∧
  ∀ (H' : Hp) (y : V) (R : List Int), Same H H' → OL H' y R → R.length = c.length → Cg c (fun x => pI A x * pI B x) (pI R) → FewI (a + b + 35) R → Q y H'
theorem sc_product_of : FnScope ["field", "p", "q", "product", "i", "k"] ["field", "p", "q"] (defScope s_product_of) := ⟨rfl, rfl, rfl, by decide +kernel, rfl, by decide +kernel, by decide +kernel⟩
theorem ok_product_of {P : Program} {w : World} {K : PySem.W.Frag} {mg : Str → Option Value} {base : Heap} {f : Addr} {fd : FuncData} (F : Fun K "product_of" "product_of" s_product_of f fd) (O : Own mg) (C_remainder_of : Cal P w K mg base 1 "remainder_of" ["field", "polynomial"] (sp_remainder_of K)) :
    FnOk P w K mg base CX0 2 f fd ["field", "p", "q"] (sp_product_of K) := by
  refine F.ok sc_product_of (fun vs H Q E h => ?_) (fun cdv A outer s H vs Q E hr h => ?_)
  · obtain ⟨v, u, t, c, A, B, a, b, rfl, _⟩ := h
    rfl
  · obtain ⟨v, u, t, c, A, B, a, b, rfl, ⟨ca, rfl, hC⟩, ⟨pa, rfl, hP⟩, ⟨qa, rfl, hQ⟩, hf, hl1, hl2, hb1, hb2, hbb, k⟩ := h
    obtain ⟨f1, f2, f3⟩ := id hf
    refine ⟨_, (pss_cons (ps_set (i := 3) sc_product_of.nd rfl (by first | exact Or.inl rfl | exact Or.inr rfl) (pe_op op_rep (pe_lst (pa_cons pe_int pa_nil)) (pe_op op_sub (pe_op op_add (pe_callB (call_lenK (K := K) rfl) (by rfl) O.len_ bt_len (pa_cons (pv 1) pa_nil)) (pe_callB (call_lenK (K := K) rfl) (by rfl) O.len_ bt_len (pa_cons (pv 2) pa_nil))) pe_int)))
      (pss_cons (ps_for PassesOwn.never rfl (pi_range1 (by rfl) O.range_ (pa_cons (pe_callB (call_lenK (K := K) rfl) (by rfl) O.len_ bt_len (pa_cons (pv 1) pa_nil)) pa_nil)) (pg_name (i := 4) sc_product_of.nd rfl (by first | exact Or.inl rfl | exact Or.inr rfl)) (pss_one (ps_for PassesOwn.never rfl (pi_range1 (by rfl) O.range_ (pa_cons (pe_callB (call_lenK (K := K) rfl) (by rfl) O.len_ bt_len (pa_cons (pv 2) pa_nil)) pa_nil)) (pg_name (i := 5) sc_product_of.nd rfl (by first | exact Or.inl rfl | exact Or.inr rfl)) (pss_one (ps_augS (pv 3) (pe_op op_add (pv 4) (pv 5)) (get_listK (K := K) rfl) (pe_op op_mulW (pe_ix (ix_listK (K := K) rfl) (pv 1) (pv 4) (fun _ _ => rfl)) (pe_ix (ix_listK (K := K) rfl) (pv 2) (pv 5) (fun _ _ => rfl))) ip_add set_list)))))
      (pss_one (ps_ret (pe_cal C_remainder_of (hr.mono (by decide)) (by rfl) (pa_cons (pv 0) (pa_cons (pv 3) pa_nil))))))), ?_⟩
    refine ⟨(by show 1 ≤ sizeLine; decide), fun l hl => ?_⟩
    have s1 : Same H (upd H l (.lst [V.int 0])) := same_upd hl
    refine ⟨_, rfl, pa, _, rfl, .inl (s1.seq hP), _, rfl, qa, _, rfl, .inl (s1.seq hQ), _, _, rfl, rfl, _, _, rfl, rfl, l, _, _, rfl, rfl, upd_same, ?_⟩
    rw [List.length_map, List.length_map, hl1, hl2]
    refine ⟨by omega, by omega, ?_, fun D hD => ?_⟩
    · show 1 * _ ≤ sizeLine
      exact Nat.le_trans (show 1 * ((c.length : Int) + (c.length : Int) - 1).toNat ≤ 7 by omega) (by decide)
    rw [rep_zeros]
    have hDH : H D = none := by
      cases e : H D with
      | none => rfl
      | some o =>
        have := s1 _ _ e
        rw [hD] at this
        cases this
    have s2 : Same H (upd (upd H l (.lst [V.int 0])) D (.lst ((List.replicate ((c.length : Int) + (c.length : Int) - 1).toNat (0 : Int)).map V.int))) := s1.trans (same_upd hD)
    have hnA : (((A.map V.int).length : Nat) : Int).toNat = c.length := by rw [List.length_map]; omega
    have hnB : (((B.map V.int).length : Nat) : Int).toNat = c.length := by rw [List.length_map]; omega
    refine ⟨_, rfl, pa, _, rfl, .inl (s2.seq hP), _, rfl, by omega, by rw [List.length_map]; omega, ?_⟩
    refine for_range (lo := 0) (n := (((A.map V.int).length : Nat) : Int).toNat) (fun i σ H' => ∃ (R : List Int) (v5 v6 : Option V), σ = [some (.ref ca), some (.ref pa), some (.ref qa), some (.ref D), v5, v6] ∧ H' D = some (.lst (R.map V.int)) ∧ R.length = 2 * c.length - 1 ∧
        (∀ x, pI R x = pI (A.take i) x * pI B x) ∧ UpTo (i * c.length) (2 ^ (a + b)) R ∧ Same H H')
      ⟨_, none, none, rfl, upd_same, by rw [List.length_replicate]; omega, fun x => by rw [List.take_zero, pI_nil, pI_zeros]; grind, fun z hz => ?_, s2⟩ ?_ ?_
    · rw [List.eq_of_mem_replicate hz]
      exact Nat.zero_le _
    · rintro i σ H3 hi ⟨R, w5, w6, rfl, hR1, hR2, hR3, hR4, s3⟩
      rw [hnA] at hi
      refine ⟨_, rfl, qa, _, rfl, .inl (s3.seq hQ), _, rfl, by omega, by rw [List.length_map]; omega, ?_⟩
      refine for_range (lo := 0) (n := (((B.map V.int).length : Nat) : Int).toNat) (fun j σ H' => ∃ (R : List Int) (v6 : Option V), σ = [some (.ref ca), some (.ref pa), some (.ref qa), some (.ref D), some (.int (0 + (i : Int))), v6] ∧ H' D = some (.lst (R.map V.int)) ∧ R.length = 2 * c.length - 1 ∧
          (∀ x, pI R x = pI (A.take i) x * pI B x + (A.getD i 0 : Rat) * x ^ i * pI (B.take j) x) ∧ UpTo (i * c.length + j) (2 ^ (a + b)) R ∧ Same H H')
        ⟨R, _, rfl, hR1, hR2, fun x => by rw [hR3, List.take_zero, pI_nil]; grind, hR4, s3⟩ ?_ ?_
      · rintro j σ H4 hj ⟨R', w7, rfl, gR1, gR2, gR3, gR4, s4⟩
        rw [hnB] at hj
        have hix : (0 + (i : Int)) + (0 + (j : Int)) = ((i + j : Nat) : Int) := by omega
        have hlt : i + j < R'.length := by omega
        refine ⟨_, rfl, _, rfl, _, rfl, _, _, rfl, rfl, D, _, _, _, rfl, rfl, SqL.of gR1, at_getD hix hlt, _, rfl, _, rfl, pa, _, _, _, rfl, rfl, s4.seq hP, at_getD (j := i) (by omega) (by omega), _, rfl, _, rfl, qa, _, _, _, rfl, rfl, s4.seq hQ, at_getD (j := j) (by omega) (by omega), _, _, rfl, rfl, ?_, _, _, rfl, rfl, D, _, _, _, rfl, rfl, gR1, ix_nat hix (by rw [List.length_map]; omega), ?_⟩
        · exact mul_big (hb1.getD i) (hb2.getD j) (by omega)
        · refine ⟨R'.set (i + j) (R'.getD (i + j) 0 + A.getD i 0 * B.getD j 0), _, rfl, ?_, by rw [List.length_set]; exact gR2, fun x => ?_, ?_, same_upd2 s4 hDH⟩
          · rw [upd_same, List.map_set]
          · rw [pI_set x _ _ _ hlt, gR3, pI_take x B _ (by omega), ratpow_add, Rat.intCast_add, Rat.intCast_mul]
            grind
          · exact gR4.set (Nat.le_of_lt (mul_lt2 (hb1.getD i) (hb2.getD j)))
      · rintro σ H4 ⟨R', w7, rfl, gR1, gR2, gR3, gR4, s4⟩
        rw [hnB] at gR3 gR4
        refine ⟨R', _, _, rfl, gR1, gR2, fun x => ?_, ?_, s4⟩
        · rw [gR3, pI_take x A _ (by omega), List.take_of_length_le (l := B) (by omega)]
          grind
        · rw [Nat.succ_mul]
          exact gR4
    · rintro σ H3 ⟨R, w5, w6, rfl, hR1, hR2, hR3, hR4, s3⟩
      rw [hnA, List.take_of_length_le (by omega)] at hR3
      have hfew : FewI (a + b + 5) R := fun z hz => by
        have e1 := hR4 z hz
        rw [hnA] at e1
        have e2 : c.length * c.length ≤ 4 * 4 := Nat.mul_le_mul f2 f2
        have e3 : c.length * c.length * 2 ^ (a + b) ≤ 16 * 2 ^ (a + b) := Nat.mul_le_mul_right _ e2
        have e4 : 0 < 2 ^ (a + b) := Nat.two_pow_pos _
        have e5 : 2 ^ (a + b + 5) = 2 ^ (a + b) * 32 := Nat.pow_add _ _ _
        omega
      refine ⟨_, rfl, _, rfl, _, _, c, R, a + b + 5, rfl, ⟨ca, rfl, s3.seq hC⟩, ⟨D, rfl, SqL.of hR1⟩, hf, by omega, by omega, hfew, by omega, fun H4 y R' s4 hy hl hcg hfw => ?_⟩
      exact k H4 y R' (s3.trans s4) hy hl ((Cg.of_eq fun x => by rw [hR3]).trans hcg) (hfw.mono (by omega))
theorem oneForm_dv {p : Int} (hp : 0 < p) (A : List Int) : Root.oneForm (dv p A) = lessRow (A ++ [p]) := oneForm_row A hp
theorem len_less {l : List Int} (h : l.length ≤ 100) : 1 + (lessRow l).length ≤ sizeLine := by
  unfold lessRow
  rw [List.length_map]
  exact Nat.le_trans (Nat.add_le_add_left h 1) (by decide)
def sp_multiplied (K : PySem.W.Frag) : Sp := fun vs H Q _ => ∃ (v u t : V) (c A B : List Int) (p q : Int) (a b : Nat), vs = [v, u, t] ∧ IL K H v c ∧ IL K H u (A ++ [p]) ∧ IL K H t (B ++ [q]) ∧ FieldOk c ∧ A.length = c.length ∧ B.length = c.length ∧ FewI a (A ++ [p]) ∧ FewI b (B ++ [q]) ∧ a + b ≤ 90000000 ∧
  ∀ (H' : Hp) (y : V) (R : List Int), Same H H' → OL H' y (R ++ [p * q]) → R.length = c.length → Cg c (fun x => pI A x * pI B x) (pI R) → FewI (a + b + 35) (R ++ [p * q]) → Q y H'
theorem sc_multiplied : FnScope ["field", "a", "b"] ["field", "a", "b"] (defScope s_multiplied) := ⟨rfl, rfl, rfl, by decide +kernel, rfl, by decide +kernel, by decide +kernel⟩
theorem ok_multiplied {P : Program} {w : World} {K : PySem.W.Frag} {mg : Str → Option Value} {base : Heap} {f : Addr} {fd : FuncData} (F : Fun K "multiplied" "multiplied" s_multiplied f fd) (O : Own mg) (C_product_of : Cal P w K mg base 2 "product_of" ["field", "p", "q"] (sp_product_of K)) :
    FnOk P w K mg base CX0 3 f fd ["field", "a", "b"] (sp_multiplied K) := by
  refine F.ok sc_multiplied (fun vs H Q E h => ?_) (fun cdv A outer s H vs Q E hr h => ?_)
  · obtain ⟨v, u, t, c, A, B, p, q, a, b, rfl, _⟩ := h
    rfl
  · obtain ⟨v, u, t, c, A, B, p, q, a, b, rfl, ⟨ca, rfl, hC⟩, ⟨pa, rfl, hP⟩, ⟨qa, rfl, hQ⟩, hf, hl1, hl2, hb1, hb2, hbb, k⟩ := h
    obtain ⟨f1, f2, f3⟩ := id hf
    refine ⟨_, (pss_one (ps_ret (pe_op op_cat (pe_cal C_product_of (hr.mono (by decide)) (by rfl) (pa_cons (pv 0) (pa_cons (pe_slice (sl_listK (K := K) rfl) (pv 1) po_none (po_some (pe_un un_neg pe_int))) (pa_cons (pe_slice (sl_listK (K := K) rfl) (pv 2) po_none (po_some (pe_un un_neg pe_int))) pa_nil)))) (pe_lst (pa_cons (pe_op op_mulW (pe_ix (ix_listK (K := K) rfl) (pv 1) (pe_un un_neg pe_int) (fun _ _ => rfl)) (pe_ix (ix_listK (K := K) rfl) (pv 2) (pe_un un_neg pe_int) (fun _ _ => rfl))) pa_nil))))), ?_⟩
    refine ⟨_, rfl, _, rfl, _, rfl, _, rfl, pa, _, rfl, hP, fun x hx => ?_⟩
    rw [cut_last]
    have s1 : Same H (upd H x (.lst (A.map V.int))) := same_upd hx
    refine ⟨_, rfl, _, rfl, _, rfl, qa, _, rfl, s1.seq hQ, fun y hy => ?_⟩
    rw [cut_last]
    have s2 : Same (upd H x (.lst (A.map V.int))) (upd (upd H x (.lst (A.map V.int))) y (.lst (B.map V.int))) := same_upd hy
    refine ⟨_, _, _, c, A, B, a, b, rfl, ⟨ca, rfl, (s1.trans s2).seq hC⟩, ⟨x, rfl, SqL.of (s2 _ _ upd_same)⟩, ⟨y, rfl, SqL.of upd_same⟩, hf, hl1, hl2, hb1.left, hb2.left, hbb, fun H3 z R s3 hz hl hcg hfw => ?_⟩
    obtain ⟨g, rfl, hg⟩ := hz
    have s4 := (s1.trans s2).trans s3
    refine ⟨_, rfl, _, rfl, pa, _, _, _, rfl, rfl, s4.seq hP, at_end _ _, _, rfl, _, rfl, qa, _, _, _, rfl, rfl, s4.seq hQ, at_end _ _, _, _, rfl, rfl, mul_big hb1.last hb2.last (by omega), (by show 1 ≤ sizeLine; decide), fun w hw => ?_⟩
    have s5 : Same H3 (upd H3 w (.lst [V.int (p * q)])) := same_upd hw
    refine ⟨g, w, _, _, rfl, rfl, s5 _ _ hg, upd_same, ?_, fun r hr' => k _ _ R (s4.trans (s5.trans (same_upd hr'))) ⟨r, rfl, ?_⟩ hl hcg (hfw.app (lt_up (mul_lt2 hb1.last hb2.last) (by omega)))⟩
    · rw [List.length_map, hl]
      exact Nat.le_trans (Nat.add_le_add_right f2 1) (by decide)
    · rw [upd_same, List.map_append]
      rfl
theorem dv_oneR (d : Nat) (h : 1 ≤ d) : dv 1 (wholeRow 1 d) = Root.oneIn d := by
  have e1 : ((1 : Int) : Rat) / ((1 : Int) : Rat) = 1 := by rw [Rat.intCast_one, Rat.div_def]; exact Rat.mul_inv_cancel 1 (by decide)
  refine num_ext ?_ fun i => ?_
  · rw [dv_length, oneIn_length]
    unfold wholeRow
    rw [List.length_cons, List.length_replicate]
    omega
  · unfold dv wholeRow Root.oneIn Root.at_
    rw [List.getD_eq_getElem?_getD, List.getD_eq_getElem?_getD, List.getElem?_map, List.getElem?_map]
    cases i with
    | zero =>
      rw [List.getElem?_range (by omega)]
      exact e1
    | succ i =>
      rw [List.getElem?_cons_succ, List.getElem?_replicate]
      by_cases h2 : i + 1 < d
      · rw [List.getElem?_range h2, if_pos (by omega)]
        show ((0 : Int) : Rat) / ((1 : Int) : Rat) = if i + 1 = 0 then 1 else 0
        rw [if_neg (by omega), Rat.intCast_zero, Rat.div_def, Rat.zero_mul]
      · rw [if_neg (by omega), List.getElem?_eq_none (by rw [List.length_range]; omega)]
        rfl
theorem whole_few (d : Nat) : FewI 1 (wholeRow 1 d ++ [1]) := fun z hz => by
  rcases List.mem_append.mp hz with h3 | h3
  · rcases List.mem_cons.mp h3 with h4 | h4
    · rw [h4]; decide
    · rw [List.eq_of_mem_replicate h4]; decide
  · have : z = 1 := by simpa using h3
    rw [this]; decide
def bitsE (b e : Nat) : Nat := if e = 0 then 1 else e * (b + 107) - 35
theorem bitsE_sq {b e : Nat} : bitsE b e + bitsE b e + 35 ≤ (if e = 0 then 37 else bitsE b (e + e)) := by
  unfold bitsE
  by_cases h : e = 0
  · rw [if_pos h, if_pos h]
    decide
  · rw [if_neg h, if_neg h, if_neg (by omega), Nat.add_mul]
    have : 1 * (b + 107) ≤ e * (b + 107) := Nat.mul_le_mul_right _ (by omega)
    generalize e * (b + 107) = x at *
    omega
theorem bitsE_one {b e : Nat} : (if e = 0 then 37 else bitsE b (e + e)) + b + 35 ≤ bitsE b (e + e + 1) := by
  unfold bitsE
  rw [if_neg (show ¬ e + e + 1 = 0 by omega)]
  by_cases h : e = 0
  · rw [if_pos h]
    subst h
    omega
  · rw [if_neg h, if_neg (by omega), Nat.succ_mul, Nat.add_mul]
    have : 1 * (b + 107) ≤ e * (b + 107) := Nat.mul_le_mul_right _ (by omega)
    generalize e * (b + 107) = x at *
    omega
theorem bitsE_le {b e : Nat} (hb : b ≤ 532) (he : e ≤ 20) : bitsE b e ≤ 12745 := by
  unfold bitsE
  split
  · decide
  · have : e * (b + 107) ≤ 20 * 639 := Nat.mul_le_mul he (by omega)
    omega
def sp_raised (K : PySem.W.Frag) : Sp := fun vs H Q _ => ∃ (v u : V) (c A : List Int) (p : Int) (k b : Nat), vs = [v, u, .int k] ∧ IL K H v c ∧ IL K H u (A ++ [p]) ∧ FieldOk c ∧ A.length = c.length ∧ 0 < p ∧ FewI b (A ++ [p]) ∧ b ≤ 532 ∧ k ≤ 20 ∧
  ∀ (H' : Hp) (y : V) (R : List Int) (q : Int), Same H H' → OL H' y (R ++ [q]) → R.length = c.length → 0 < q → dv q R = Root.power c (dv p A) k → FewI (bitsE b k) (R ++ [q]) → Q y H'
theorem sc_raised : FnScope ["field", "a", "k", "answer", "shift"] ["field", "a", "k"] (defScope s_raised) := ⟨rfl, rfl, rfl, by decide +kernel, rfl, by decide +kernel, by decide +kernel⟩
theorem ok_raised {P : Program} {w : World} {K : PySem.W.Frag} {mg : Str → Option Value} {base : Heap} {f : Addr} {fd : FuncData} (F : Fun K "raised" "raised" s_raised f fd) (O : Own mg) (C_whole_row : Cal P w K mg base 1 "whole_row" ["number", "degree"] sp_whole_row) (C_multiplied : Cal P w K mg base 3 "multiplied" ["field", "a", "b"] (sp_multiplied K)) :
    FnOk P w K mg base CX0 4 f fd ["field", "a", "k"] (sp_raised K) := by
  refine F.ok sc_raised (fun vs H Q E h => ?_) (fun cdv A outer s H vs Q E hr h => ?_)
  · obtain ⟨v, u, c, A, p, k, b, rfl, _⟩ := h
    rfl
  · obtain ⟨v, u, c, A, p, n, b, rfl, ⟨ca, rfl, hC⟩, ⟨na, rfl, hN⟩, hf, hl, hp, hb, hb5, hn20, k⟩ := h
    obtain ⟨f1, f2, f3⟩ := id hf
    refine ⟨_, (pss_cons (ps_set (i := 3) sc_raised.nd rfl (by first | exact Or.inl rfl | exact Or.inr rfl) (pe_cal C_whole_row (hr.mono (by decide)) (by rfl) (pa_cons pe_int (pa_cons (pe_callB (call_lenK (K := K) rfl) (by rfl) O.len_ bt_len (pa_cons (pv 0) pa_nil)) pa_nil))))
      (pss_cons (ps_for PassesOwn.never rfl (pi_range3 (by rfl) O.range_ (pa_cons (pe_op op_sub (pe_bits (pv 2)) pe_int) (pa_cons (pe_un un_neg pe_int) (pa_cons (pe_un un_neg pe_int) pa_nil)))) (pg_name (i := 4) sc_raised.nd rfl (by first | exact Or.inl rfl | exact Or.inr rfl)) (pss_cons (ps_set (i := 3) sc_raised.nd rfl (by first | exact Or.inl rfl | exact Or.inr rfl) (pe_cal C_multiplied (hr.mono (by decide)) (by rfl) (pa_cons (pv 0) (pa_cons (pv 3) (pa_cons (pv 3) pa_nil)))))
      (pss_one (ps_if (pt_cmpR op_eq (pe_op op_and (pe_op op_shr (pv 2) (pv 4)) pe_int) pe_int (nomark _)) (pss_one (ps_set (i := 3) sc_raised.nd rfl (by first | exact Or.inl rfl | exact Or.inr rfl) (pe_cal C_multiplied (hr.mono (by decide)) (by rfl) (pa_cons (pv 0) (pa_cons (pv 3) (pa_cons (pv 1) pa_nil)))))) pss_nil))))
      (pss_one (ps_ret (pv 3))))), ?_⟩
    have hdl : (dv p A).length = c.length := by rw [dv_length]; exact hl
    refine ⟨_, rfl, ca, _, rfl, .inl hC, ?_⟩
    rw [List.length_map]
    refine ⟨1, c.length, rfl, f1, by omega, fun H1 y1 s1 hy1 => ?_⟩
    obtain ⟨w0, rfl, hw0⟩ := hy1
    have hnl := bits_lt (n : Int)
    rw [Int.natAbs_natCast] at hnl
    have hng := fun h : (n : Int) ≠ 0 => bits_ge h
    have hm5 : Builtin.Int.intBits (n : Int) ≤ 5 := bits_few (by rw [Int.natAbs_natCast]; exact Nat.lt_of_le_of_lt hn20 (by decide))
    generalize hm : Builtin.Int.intBits (n : Int) = m at *
    refine ⟨_, rfl, _, rfl, _, _, rfl, rfl, _, rfl, _, rfl, _, _, _, m, rfl, ?_, ?_⟩
    · have := RgC.neg (i := (m : Int) - 1) (j := -1) (by omega) (by omega) (by omega) (by omega)
      rw [show ((m : Int) - 1 - (-1)).toNat = m by omega] at this
      rw [hm]
      exact this
    rw [hm]
    refine for_rangeC (lo := (m : Int) - 1) (c := -1) (n := m) (fun i σ H' => ∃ (T : List Int) (t : Int) (w : Addr) (v4 : Option V), σ = [some (.ref ca), some (.ref na), some (.int n), some (.ref w), v4] ∧ H' w = some (.lst ((T ++ [t]).map V.int)) ∧ T.length = c.length ∧ 0 < t ∧ dv t T = Root.power c (dv p A) (n / 2 ^ (m - i)) ∧ FewI (bitsE b (n / 2 ^ (m - i))) (T ++ [t]) ∧ Same H1 H')
      ⟨wholeRow 1 c.length, 1, w0, none, rfl, hw0, ?_, by decide, ?_, ?_, Same.refl _⟩ ?_ ?_
    · unfold wholeRow
      rw [List.length_cons, List.length_replicate]
      omega
    · rw [Nat.sub_zero, Nat.div_eq_of_lt hnl]
      exact dv_oneR _ f1
    · rw [Nat.sub_zero, Nat.div_eq_of_lt hnl]
      exact whole_few _
    · rintro i σ H2 hi ⟨T, t, w, v4, rfl, hw, hT, ht, hdv, hfw, s2⟩
      have hn0 : (n : Int) ≠ 0 := fun z => by
        have : m = 0 := by rw [← hm, z]; decide
        omega
      obtain ⟨hge, _⟩ := hng hn0
      rw [Int.natAbs_natCast] at hge
      have ei : m - i = (m - 1 - i) + 1 := by omega
      have es : n / 2 ^ (m - i) = n / 2 ^ (m - 1 - i) / 2 := by
        rw [ei, Nat.pow_succ, Nat.div_div_eq_div_mul]
      have ei2 : m - (i + 1) = m - 1 - i := by omega
      have hs1 : 1 ≤ n / 2 ^ (m - 1 - i) := (Nat.le_div_iff_mul_le (Nat.two_pow_pos _)).mpr (by
        rw [Nat.one_mul]
        exact Nat.le_trans (pow2_mono (by omega)) hge)
      have hs20 : n / 2 ^ (m - 1 - i) ≤ 20 := Nat.le_trans (Nat.div_le_self _ _) hn20
      rw [es] at hdv hfw
      rw [ei2]
      have hix : (m : Int) - 1 + (i : Nat) * (-1) = ((m - 1 - i : Nat) : Int) := by omega
      have eshift : (n : Int) / 2 ^ (((m - 1 - i : Nat) : Int)).toNat = ((n / 2 ^ (m - 1 - i) : Nat) : Int) := by
        rw [Int.toNat_natCast]
        push_cast
        rfl
      generalize hS : n / 2 ^ (m - 1 - i) = S at *
      have s12 := s1.trans s2
      have hble := bitsE_le (b := b) (e := S / 2) hb5 (by omega)
      refine ⟨_, rfl, _, rfl, _, rfl, _, _, _, c, T, T, t, t, bitsE b (S / 2), bitsE b (S / 2), rfl, ⟨ca, rfl, s12.seq hC⟩, ⟨w, rfl, SqL.of hw⟩, ⟨w, rfl, SqL.of hw⟩, hf, hT, hT, hfw, hfw, by omega, fun H3 y3 R s3 hy3 hR hcg hfR => ?_⟩
      obtain ⟨w3, rfl, hw3⟩ := hy3
      have hd2 : dv (t * t) R = Root.power c (dv p A) (S / 2 + S / 2) := by
        rw [← times_dv f1 ht ht hT hT hR hcg, hdv]
        exact power_twice f1 hdl _
      have hfR2 := hfR.mono (bitsE_sq (b := b) (e := S / 2))
      refine ⟨_, rfl, _, rfl, _, _, rfl, rfl, ?_, _, _, rfl, rfl, rfl, _, rfl, ?_⟩
      · show (0 : Int) ≤ (m : Int) - 1 + (i : Nat) * (-1)
        omega
      dsimp only
      rw [hix, eshift]
      refine ite2 (fun h1 => ?_) (fun h1 => ?_)
      · have h2 : S = S / 2 + S / 2 + 1 := by
          have h0 : Builtin.bitAnd (S : Int) 1 = 1 := int_eq h1
          rw [bitAnd_m1] at h0
          omega
        have hble2 : (if S / 2 = 0 then 37 else bitsE b (S / 2 + S / 2)) ≤ 12745 := by
          split
          · decide
          · exact bitsE_le hb5 (by omega)
        refine ⟨_, rfl, _, rfl, _, rfl, _, _, _, c, R, A, t * t, p, _, b, rfl, ⟨ca, rfl, (s12.trans s3).seq hC⟩, ⟨w3, rfl, SqL.of hw3⟩, ⟨na, rfl, (s12.trans s3).seq hN⟩, hf, hR, hl, hfR2, hb, by omega, fun H4 y4 R4 s4 hy4 hR4 hcg4 hfR4 => ?_⟩
        obtain ⟨w4, rfl, hw4⟩ := hy4
        refine ⟨R4, t * t * p, w4, _, rfl, hw4, hR4, Int.mul_pos (Int.mul_pos ht ht) hp, ?_, ?_, (s2.trans s3).trans s4⟩
        · rw [← times_dv f1 (Int.mul_pos ht ht) hp hR hl hR4 hcg4, hd2]
          conv => rhs; rw [h2]
          rfl
        · have h3 := bitsE_one (b := b) (e := S / 2)
          rw [← h2] at h3
          exact hfR4.mono h3
      · have h2 : S = S / 2 + S / 2 := by
          have h0 : Builtin.bitAnd (S : Int) 1 ≠ 1 := int_ne h1
          rw [bitAnd_m1] at h0
          omega
        have h3 : ¬ S / 2 = 0 := by omega
        refine ⟨R, t * t, w3, _, rfl, hw3, hR, Int.mul_pos ht ht, ?_, ?_, s2.trans s3⟩
        · rw [hd2, ← h2]
        · rw [if_neg h3, ← h2] at hfR2
          exact hfR2
    · rintro σ H2 ⟨T, t, w, v4, rfl, hw, hT, ht, hdv, hfw, s2⟩
      rw [Nat.sub_self, Nat.pow_zero, Nat.div_one] at hdv hfw
      exact ⟨_, rfl, k _ _ T t (s1.trans s2) ⟨w, rfl, hw⟩ hT ht hdv hfw⟩
theorem getD_le {n : Nat} {l : List Int} (h : FewI n l) (i : Nat) : (l.getD i 0).natAbs ≤ 2 ^ n := Nat.le_of_lt (h.getD i)
def sp_trace_of (K : PySem.W.Frag) : Sp := fun vs H Q _ => ∃ (v u : V) (c A : List Int) (b : Nat), vs = [v, u] ∧ IL K H v c ∧ IL K H u A ∧ FieldOk c ∧ A.length = c.length ∧ FewI b A ∧ b ≤ 90000000 ∧
  ∀ H' : Hp, Same H H' → (trI c A).natAbs < 2 ^ (b + 43) → Q (.int (trI c A)) H'
theorem sc_trace_of : FnScope ["field", "numerators", "total", "image", "k"] ["field", "numerators"] (defScope s_trace_of) := ⟨rfl, rfl, rfl, by decide +kernel, rfl, by decide +kernel, by decide +kernel⟩
theorem ok_trace_of {P : Program} {w : World} {K : PySem.W.Frag} {mg : Str → Option Value} {base : Heap} {f : Addr} {fd : FuncData} (F : Fun K "trace_of" "trace_of" s_trace_of f fd) (O : Own mg) (C_remainder_of : Cal P w K mg base 1 "remainder_of" ["field", "polynomial"] (sp_remainder_of K)) :
    FnOk P w K mg base CX0 2 f fd ["field", "numerators"] (sp_trace_of K) := by
  refine F.ok sc_trace_of (fun vs H Q E h => ?_) (fun cdv A outer s H vs Q E hr h => ?_)
  · obtain ⟨v, u, c, A, b, rfl, _⟩ := h
    rfl
  · obtain ⟨v, u, c, A, b, rfl, ⟨ca, rfl, hC⟩, ⟨na, rfl, hN⟩, hf, hl, hb, hbb, k⟩ := h
    obtain ⟨f1, f2, f3⟩ := id hf
    refine ⟨_, (pss_cons (ps_set (i := 2) sc_trace_of.nd rfl (by first | exact Or.inl rfl | exact Or.inr rfl) pe_int)
      (pss_cons (ps_set (i := 3) sc_trace_of.nd rfl (by first | exact Or.inl rfl | exact Or.inr rfl) (pe_callTy (call_list_ofK (K := K) rfl) (by rfl) O.list_ bt_list (pa_cons (pv 1) pa_nil)))
      (pss_cons (ps_for PassesOwn.never rfl (pi_range1 (by rfl) O.range_ (pa_cons (pe_callB (call_lenK (K := K) rfl) (by rfl) O.len_ bt_len (pa_cons (pv 0) pa_nil)) pa_nil)) (pg_name (i := 4) sc_trace_of.nd rfl (by first | exact Or.inl rfl | exact Or.inr rfl)) (pss_cons (ps_aug (i := 2) sc_trace_of.nd rfl (by first | exact Or.inl rfl | exact Or.inr rfl) (pe_ix (ix_listK (K := K) rfl) (pv 3) (pv 4) (fun _ _ => rfl)) ip_add)
      (pss_one (ps_set (i := 3) sc_trace_of.nd rfl (by first | exact Or.inl rfl | exact Or.inr rfl) (pe_cal C_remainder_of (hr.mono (by decide)) (by rfl) (pa_cons (pv 0) (pa_cons (pe_op op_cat (pe_lst (pa_cons pe_int pa_nil)) (pv 3)) pa_nil)))))))
      (pss_one (ps_ret (pv 2)))))), ?_⟩
    refine ⟨_, rfl, na, _, rfl, .inl hN, fun D hD => ?_⟩
    have s1 : Same H (upd H D (.lst (A.map V.int))) := same_upd hD
    have hnC : (((c.map V.int).length : Nat) : Int).toNat = c.length := by rw [List.length_map]; omega
    refine ⟨_, rfl, ca, _, rfl, .inl (s1.seq hC), _, rfl, by omega, by rw [List.length_map]; omega, ?_⟩
    refine for_range (lo := 0) (n := (((c.map V.int).length : Nat) : Int).toNat) (fun i σ H' => ∃ (p : Addr) (v4 : Option V), σ = [some (.ref ca), some (.ref na), some (.int (trN c A i)), some (.ref p), v4] ∧ H' p = some (.lst ((colI c A i).map V.int)) ∧ FewI (b + 10 * i) (colI c A i) ∧ (trN c A i).natAbs ≤ i * 2 ^ (b + 40) ∧ Same H H')
      ⟨D, none, rfl, upd_same, hb, by show (0 : Int).natAbs ≤ _; exact Nat.zero_le _, s1⟩ ?_ ?_
    · rintro i σ H3 hi ⟨p, w4, rfl, hp, hfw, htr, s3⟩
      rw [hnC] at hi
      have hlc := colI_length f1 hl i
      refine ⟨_, rfl, _, rfl, _, rfl, p, _, _, _, rfl, rfl, SqL.of hp, at_getD (j := i) (by omega) (by omega), _, _, rfl, rfl, ?_⟩
      refine ⟨_, rfl, (by show 1 ≤ sizeLine; decide), fun z hz => ?_⟩
      have s4 : Same H3 (upd H3 z (.lst [V.int 0])) := same_upd hz
      refine ⟨_, rfl, z, p, _, _, rfl, rfl, upd_same, s4 _ _ hp, ?_, fun q hq => ?_⟩
      · rw [List.length_map, hlc]
        exact Nat.le_trans (Nat.add_le_add_left f2 1) (by decide)
      have s5 := s4.trans (same_upd (o := .lst ([V.int 0] ++ (colI c A i).map V.int)) hq)
      refine ⟨_, _, c, 0 :: colI c A i, b + 10 * i, rfl, ⟨ca, rfl, (s3.trans s5).seq hC⟩, ⟨q, rfl, SqL.of ?_⟩, hf, by rw [List.length_cons]; omega, by rw [List.length_cons]; omega, fun y hy => ?_, by omega, fun H6 y R s6 hy hR hcg hfR => ?_⟩
      · rw [upd_same]
        rfl
      · rcases List.mem_cons.mp hy with h1 | h1
        · rw [h1]
          exact Nat.two_pow_pos _
        · exact hfw y h1
      obtain ⟨g, rfl, hg⟩ := hy
      have eR : R = colI c A (i + 1) := xI_is f1 hlc hR ((Cg.of_eq fun x => by rw [pI_cons]; grind).trans hcg)
      subst eR
      refine ⟨g, _, rfl, hg, hfR.mono (by rw [List.length_cons]; omega), ?_, (s3.trans s5).trans s6⟩
      have e1 := getD_le hfw i
      have e2 : 2 ^ (b + 10 * i) ≤ 2 ^ (b + 40) := pow2_mono (by omega)
      show (trN c A i + (colI c A i).getD i 0).natAbs ≤ _
      rw [Nat.succ_mul]
      omega
    · rintro σ H3 ⟨p, w4, rfl, hp, hfw, htr, s3⟩
      rw [hnC] at htr
      have e := k H3 s3 (by
        show (trN c A c.length).natAbs < _
        have e1 : c.length * 2 ^ (b + 40) ≤ 4 * 2 ^ (b + 40) := Nat.mul_le_mul_right _ f2
        have e2 : 2 ^ (b + 43) = 2 ^ (b + 40) * 8 := by rw [show b + 43 = b + 40 + 3 by omega, Nat.pow_add]
        have e3 := Nat.two_pow_pos (b + 40)
        omega)
      refine ⟨_, ?_, e⟩
      rw [hnC]
      rfl
theorem cut_from (l : List Int) : cutV (l.map V.int) (some 1) none = (l.drop 1).map V.int := by
  cases l with
  | nil => rfl
  | cons a l =>
    unfold cutV
    have e1 : HT.sIx (List.map V.int (a :: l)).length 0 (some 1) = 1 := by
      unfold HT.sIx
      dsimp only
      rw [if_neg (by omega), List.length_map, List.length_cons]
      omega
    rw [e1, HT.sIx_none, List.map_drop, List.take_of_length_le (by rw [List.length_drop]; omega)]
def sp_cofactor_of (K : PySem.W.Frag) : Sp := fun vs H Q _ => ∃ (v u : V) (c A : List Int) (b : Nat), vs = [v, u] ∧ IL K H v c ∧ IL K H u A ∧ FieldOk c ∧ A.length = c.length ∧ FewI b A ∧ b ≤ 10000000 ∧
  ∀ (H' : Hp) (y : V), Same H H' → OL H' y (flI c A (c.length - 1)) → FewI (1 + (c.length - 1) * (b + 79)) (flI c A (c.length - 1)) → Q y H'
theorem sc_cofactor_of : FnScope ["field", "numerators", "cofactor", "step", "product", "part"] ["field", "numerators"] (defScope s_cofactor_of) := ⟨rfl, rfl, rfl, by decide +kernel, rfl, by decide +kernel, by decide +kernel⟩
theorem ok_cofactor_of {P : Program} {w : World} {K : PySem.W.Frag} {mg : Str → Option Value} {base : Heap} {f : Addr} {fd : FuncData} (F : Fun K "cofactor_of" "cofactor_of" s_cofactor_of f fd) (O : Own mg) (C_product_of : Cal P w K mg base 2 "product_of" ["field", "p", "q"] (sp_product_of K)) (C_trace_of : Cal P w K mg base 2 "trace_of" ["field", "numerators"] (sp_trace_of K)) :
    FnOk P w K mg base CX0 3 f fd ["field", "numerators"] (sp_cofactor_of K) := by
  refine F.ok sc_cofactor_of (fun vs H Q E h => ?_) (fun cdv A outer s H vs Q E hr h => ?_)
  · obtain ⟨v, u, c, A, b, rfl, _⟩ := h
    rfl
  · obtain ⟨v, u, c, A, b, rfl, ⟨ca, rfl, hC⟩, ⟨na, rfl, hN⟩, hf, hl, hb, hbb, k⟩ := h
    obtain ⟨f1, f2, f3⟩ := id hf
    refine ⟨_, (pss_cons (ps_set (i := 2) sc_cofactor_of.nd rfl (by first | exact Or.inl rfl | exact Or.inr rfl) (pe_op op_cat (pe_lst (pa_cons pe_int pa_nil)) (pe_op op_rep (pe_lst (pa_cons pe_int pa_nil)) (pe_op op_sub (pe_callB (call_lenK (K := K) rfl) (by rfl) O.len_ bt_len (pa_cons (pv 0) pa_nil)) pe_int))))
      (pss_cons (ps_for PassesOwn.never rfl (pi_range2 (by rfl) O.range_ (pa_cons pe_int (pa_cons (pe_callB (call_lenK (K := K) rfl) (by rfl) O.len_ bt_len (pa_cons (pv 0) pa_nil)) pa_nil))) (pg_name (i := 3) sc_cofactor_of.nd rfl (by first | exact Or.inl rfl | exact Or.inr rfl)) (pss_cons (ps_set (i := 4) sc_cofactor_of.nd rfl (by first | exact Or.inl rfl | exact Or.inr rfl) (pe_cal C_product_of (hr.mono (by decide)) (by rfl) (pa_cons (pv 0) (pa_cons (pv 1) (pa_cons (pv 2) pa_nil)))))
      (pss_cons (ps_set (i := 5) sc_cofactor_of.nd rfl (by first | exact Or.inl rfl | exact Or.inr rfl) (pe_op op_fdivW (pe_cal C_trace_of (hr.mono (by decide)) (by rfl) (pa_cons (pv 0) (pa_cons (pv 4) pa_nil))) (pv 3)))
      (pss_one (ps_set (i := 2) sc_cofactor_of.nd rfl (by first | exact Or.inl rfl | exact Or.inr rfl) (pe_op op_cat (pe_lst (pa_cons (pe_op op_sub (pe_ix (ix_listK (K := K) rfl) (pv 4) pe_int (fun _ _ => rfl)) (pv 5)) pa_nil)) (pe_slice (sl_listK (K := K) rfl) (pv 4) (po_some pe_int) po_none)))))))
      (pss_one (ps_ret (pv 2))))), ?_⟩
    refine ⟨(by show 1 ≤ sizeLine; decide), fun l1 hl1 => ⟨(by show 1 ≤ sizeLine; decide), fun l2 hl2 => ?_⟩⟩
    have s1 : Same H (upd H l1 (.lst [V.int 1])) := same_upd hl1
    have s2 : Same (upd H l1 (.lst [V.int 1])) (upd (upd H l1 (.lst [V.int 1])) l2 (.lst [V.int 0])) := same_upd hl2
    refine ⟨_, rfl, ca, _, rfl, .inl ((s1.trans s2).seq hC), _, _, rfl, rfl, l2, _, _, rfl, rfl, upd_same, ?_⟩
    rw [List.length_map]
    refine ⟨by omega, by omega, ?_, fun l3 hl3 => ?_⟩
    · show 1 * _ ≤ sizeLine
      exact Nat.le_trans (show 1 * ((c.length : Int) - 1).toNat ≤ 7 by omega) (by decide)
    rw [rep_zeros]
    have e1 : ((c.length : Int) - 1).toNat = c.length - 1 := by omega
    rw [e1]
    have s3 := same_upd (o := .lst ((List.replicate (c.length - 1) (0 : Int)).map V.int)) hl3
    refine ⟨l1, l3, _, _, rfl, rfl, s3 _ _ (s2 _ _ upd_same), upd_same, ?_, fun D hD => ?_⟩
    · rw [List.length_map, List.length_replicate]
      exact Nat.le_trans (show 1 + (c.length - 1) ≤ 7 by omega) (by decide)
    have s4 := (s1.trans s2).trans (s3.trans (same_upd (o := .lst ([V.int 1] ++ (List.replicate (c.length - 1) (0 : Int)).map V.int)) hD))
    refine ⟨_, rfl, ca, _, rfl, .inl (s4.seq hC), ?_⟩
    rw [List.length_map]
    have hn : ((c.length : Int) - 1).toNat = c.length - 1 := by omega
    refine ⟨_, _, rfl, ⟨by omega, by omega, by omega, by omega⟩, ?_⟩
    refine for_range (lo := 1) (n := ((c.length : Int) - 1).toNat) (fun i σ H' => ∃ (p : Addr) (v3 v4 v5 : Option V), σ = [some (.ref ca), some (.ref na), some (.ref p), v3, v4, v5] ∧ H' p = some (.lst ((flI c A i).map V.int)) ∧ FewI (1 + i * (b + 79)) (flI c A i) ∧ Same H H')
      ⟨D, none, none, none, rfl, ?_, ?_, s4⟩ ?_ ?_
    · rw [upd_same]
      rfl
    · intro z hz
      rcases List.mem_cons.mp hz with h1 | h1
      · rw [h1, Nat.zero_mul]
        decide
      · rw [List.eq_of_mem_replicate h1, Nat.zero_mul]
        decide
    · rintro i σ H3 hi ⟨p, w3, w4, w5, rfl, hp, hfw, s5⟩
      rw [hn] at hi
      have hfl := flI_length f1 hl i
      have hbi : i * (b + 79) ≤ 3 * (b + 79) := Nat.mul_le_mul_right _ (by omega)
      refine ⟨_, rfl, _, rfl, _, rfl, _, _, _, c, A, flI c A i, b, 1 + i * (b + 79), rfl, ⟨ca, rfl, s5.seq hC⟩, ⟨na, rfl, s5.seq hN⟩, ⟨p, rfl, SqL.of hp⟩, hf, hl, hfl, hb, hfw, by omega, fun H6 y R s6 hy hR hcg hfR => ?_⟩
      obtain ⟨g, rfl, hg⟩ := hy
      have eR : R = mulI c A (flI c A i) := mulI_is f1 hl hR hcg
      have s7 := s5.trans s6
      refine ⟨_, rfl, _, rfl, _, _, c, R, _, rfl, ⟨ca, rfl, s7.seq hC⟩, ⟨g, rfl, SqL.of hg⟩, hf, hR, hfR, by omega, fun H8 s8 htr => ?_⟩
      have s9 := s7.trans s8
      have hg8 := s8 _ _ hg
      refine ⟨_, rfl, _, _, rfl, rfl, ⟨by omega, ?_⟩, ?_⟩
      · have : (1 + (i : Int)).natAbs.log2 < 9000 := by
          have : (1 + (i : Int)).natAbs ≤ 4 := by omega
          rcases Nat.eq_zero_or_pos (1 + (i : Int)).natAbs with z | z
          · rw [z]; decide
          · refine (Nat.log2_lt (by omega)).mpr (Nat.lt_of_le_of_lt this (Nat.lt_of_lt_of_le (show 4 < 2 ^ 3 by decide) (Nat.pow_le_pow_right (by decide) (by decide))))
        exact this
      refine ⟨_, rfl, g, _, _, _, rfl, rfl, SqL.of hg8, at_getD (j := 0) rfl (by omega), _, rfl, _, _, rfl, rfl, (by show 1 ≤ sizeLine; decide), fun m hm => ?_⟩
      have s10 : Same H8 (upd H8 m (.lst [V.int (R.getD 0 0 - trI c R / (1 + (i : Int)))])) := same_upd hm
      refine ⟨_, rfl, _, rfl, g, _, rfl, SqL.of (s10 _ _ hg8), fun n hn' => ?_⟩
      rw [cut_from]
      have s11 := same_upd (o := .lst ((R.drop 1).map V.int)) hn'
      refine ⟨m, n, _, _, rfl, rfl, s11 _ _ upd_same, upd_same, ?_, fun q hq => ?_⟩
      · rw [List.length_map, List.length_drop]
        exact Nat.le_trans (show 1 + (R.length - 1) ≤ 7 by omega) (by decide)
      have hRe : R = R.getD 0 0 :: R.drop 1 := by
        cases R with
        | nil => simp at hR; omega
        | cons a l => rfl
      have efl : flI c A (i + 1) = (R.getD 0 0 - trI c R / (1 + (i : Int))) :: R.drop 1 := by
        show lessI (mulI c A (flI c A i)) (trI c (mulI c A (flI c A i)) / ((i : Int) + 1)) = _
        rw [← eR, Int.add_comm (i : Int) 1]
        cases R with
        | nil => simp at hR; omega
        | cons a l => rfl
      refine ⟨q, _, _, _, rfl, ?_, ?_, (s9.trans (s10.trans s11)).trans (same_upd hq)⟩
      · rw [upd_same, efl]
        rfl
      · rw [efl]
        have hq1 : (trI c R / (1 + (i : Int))).natAbs ≤ (trI c R).natAbs := Int.natAbs_ediv_le_natAbs _ _
        have hB : 1 + (i + 1) * (b + 79) = b + (1 + i * (b + 79)) + 35 + 43 + 1 := by rw [Nat.succ_mul]; omega
        rw [hB]
        intro z hz
        rcases List.mem_cons.mp hz with h1 | h1
        · rw [h1]
          have e2 := hfR.getD 0
          have e3 : (R.getD 0 0).natAbs < 2 ^ (b + (1 + i * (b + 79)) + 35 + 43) := lt_up e2 (by omega)
          have e4 : (-(trI c R / (1 + (i : Int)))).natAbs < 2 ^ (b + (1 + i * (b + 79)) + 35 + 43) := by
            rw [Int.natAbs_neg]
            exact Nat.lt_of_le_of_lt hq1 htr
          rw [Int.sub_eq_add_neg]
          exact add_lt2 e3 e4
        · exact lt_up (hfR z (List.mem_of_mem_drop h1)) (by omega)
    · rintro σ H3 ⟨p, w3, w4, w5, rfl, hp, hfw, s5⟩
      rw [hn] at hp hfw
      exact ⟨_, rfl, k H3 _ s5 ⟨p, rfl, hp⟩ hfw⟩
def sp_inverse_of (K : PySem.W.Frag) : Sp := fun vs H Q _ => ∃ (v u : V) (c A : List Int) (p : Int) (b : Nat), vs = [v, u] ∧ IL K H v c ∧ IL K H u (A ++ [p]) ∧ refusal c = 0 ∧ A.length = c.length ∧ 0 < p ∧ (∃ z ∈ A, z ≠ 0) ∧ FewI b (A ++ [p]) ∧ b ≤ 10000000 ∧
  ∀ (H' : Hp) (y : V) (G : List Int) (D : Int), Same H H' → OL H' y (G ++ [D]) → 0 < D → G.length = c.length → Cg c (fun x => pI A x * pI G x) (fun _ => (p : Rat) * (D : Rat)) → FewI (4 * b + 280) (G ++ [D]) → Q y H'
theorem sc_inverse_of : FnScope ["field", "a", "cofactor", "divisor", "factor", "number"] ["field", "a"] (defScope s_inverse_of) := ⟨rfl, rfl, rfl, by decide +kernel, rfl, by decide +kernel, by decide +kernel⟩
theorem ok_inverse_of {P : Program} {w : World} {K : PySem.W.Frag} {mg : Str → Option Value} {base : Heap} {f : Addr} {fd : FuncData} (F : Fun K "inverse_of" "inverse_of" s_inverse_of f fd) (O : Own mg) (C_cofactor_of : Cal P w K mg base 3 "cofactor_of" ["field", "numerators"] (sp_cofactor_of K)) (C_product_of : Cal P w K mg base 2 "product_of" ["field", "p", "q"] (sp_product_of K)) :
    FnOk P w K mg base CX0 4 f fd ["field", "a"] (sp_inverse_of K) := by
  refine F.ok sc_inverse_of (fun vs H Q E h => ?_) (fun cdv A outer s H vs Q E hr h => ?_)
  · obtain ⟨v, u, c, A, p, b, rfl, _⟩ := h
    rfl
  · obtain ⟨v, u, c, A, p, b, rfl, ⟨ca, rfl, hC⟩, ⟨na, rfl, hN⟩, hc0, hl, hp, hnz, hb, hbb, k⟩ := h
    have hf := field_ok hc0
    obtain ⟨f1, f2, f3⟩ := id hf
    obtain ⟨D, hD0, hD1, hD2⟩ := fl_whole hc0 f1 f2 hl hnz
    have hFl := flI_length f1 hl (c.length - 1)
    refine ⟨_, (pss_cons (ps_set (i := 2) sc_inverse_of.nd rfl (by first | exact Or.inl rfl | exact Or.inr rfl) (pe_cal C_cofactor_of (hr.mono (by decide)) (by rfl) (pa_cons (pv 0) (pa_cons (pe_slice (sl_listK (K := K) rfl) (pv 1) po_none (po_some (pe_un un_neg pe_int))) pa_nil))))
      (pss_cons (ps_set (i := 3) sc_inverse_of.nd rfl (by first | exact Or.inl rfl | exact Or.inr rfl) (pe_ix (ix_listK (K := K) rfl) (pe_cal C_product_of (hr.mono (by decide)) (by rfl) (pa_cons (pv 0) (pa_cons (pe_slice (sl_listK (K := K) rfl) (pv 1) po_none (po_some (pe_un un_neg pe_int))) (pa_cons (pv 2) pa_nil)))) pe_int (fun _ _ => rfl)))
      (pss_cons (ps_set (i := 4) sc_inverse_of.nd rfl (by first | exact Or.inl rfl | exact Or.inr rfl) (pe_ifExp (pt_cmpR op_gt (pv 3) pe_int (nomark _)) (pe_ix (ix_listK (K := K) rfl) (pv 1) (pe_un un_neg pe_int) (fun _ _ => rfl)) (pe_un un_neg (pe_ix (ix_listK (K := K) rfl) (pv 1) (pe_un un_neg pe_int) (fun _ _ => rfl)))))
      (pss_one (ps_ret (pe_op op_cat (pe_lc (own := [("number", 5)]) rfl sc_inverse_of.nd (pi_list (pv 2)) (show BlkOk ["field", "a", "cofactor", "divisor", "factor", "number"] (defScope s_inverse_of) _ _ from ⟨rfl, by decide +kernel, by decide +kernel, by decide +kernel, by decide +kernel⟩) (fun _ _ _ _ _ => (pg_name (i := 5) sc_inverse_of.nd rfl (by first | exact Or.inl rfl | exact Or.inr rfl))) (fun _ _ _ _ _ => pts_nil) (fun _ _ _ _ _ => (pe_op op_mulW (pv 4) (pv 5)))) (pe_lst (pa_cons (pe_callB call_abs (by rfl) O.abs_ bt_abs (pa_cons (pv 3) pa_nil)) pa_nil)))))))), ?_⟩
    refine ⟨_, rfl, _, rfl, _, rfl, _, rfl, na, _, rfl, hN, fun x hx => ?_⟩
    rw [cut_last]
    have s1 : Same H (upd H x (.lst (A.map V.int))) := same_upd hx
    refine ⟨_, _, c, A, b, rfl, ⟨ca, rfl, s1.seq hC⟩, ⟨x, rfl, SqL.of upd_same⟩, hf, hl, hb.left, hbb, fun H2 y s2 hy hfw => ?_⟩
    obtain ⟨fa, rfl, hfa⟩ := hy
    have s3 := s1.trans s2
    generalize hF : flI c A (c.length - 1) = F at *
    have hbi : (c.length - 1) * (b + 79) ≤ 3 * (b + 79) := Nat.mul_le_mul_right _ (by omega)
    have hfw' : FewI (3 * b + 238) F := hfw.mono (by omega)
    refine ⟨_, rfl, _, rfl, _, rfl, _, rfl, na, _, rfl, s3.seq hN, fun x2 hx2 => ?_⟩
    rw [cut_last]
    have s4 : Same H2 (upd H2 x2 (.lst (A.map V.int))) := same_upd hx2
    refine ⟨_, rfl, _, _, _, c, A, F, b, 3 * b + 238, rfl, ⟨ca, rfl, (s3.trans s4).seq hC⟩, ⟨x2, rfl, SqL.of upd_same⟩, ⟨fa, rfl, SqL.of (s4 _ _ hfa)⟩, hf, hl, hFl, hb.left, hfw', by omega, fun H5 y R s5 hy hR hcg hfR => ?_⟩
    obtain ⟨ra, rfl, hra⟩ := hy
    have s6 := (s3.trans s4).trans s5
    have eR : R = D :: List.replicate (c.length - 1) 0 := (mulI_is f1 hl hR hcg).trans hD1
    have hDb : D.natAbs < 2 ^ (4 * b + 273) := lt_up (hfR D (by rw [eR]; simp)) (by omega)
    refine ⟨ra, _, _, V.int D, rfl, rfl, SqL.of hra, ?_, ?_⟩
    · rw [eR]
      exact at_ix (j := 0) rfl rfl
    dsimp only [gName]
    refine asg_if (x := .int (if 0 < D then p else -p)) (fun R hR => ?_) ?_
    · refine ⟨_, rfl, _, _, rfl, rfl, _, rfl, ?_⟩
      refine ite2 (fun hb => ?_) (fun hb => ?_)
      · rw [if_pos (of_decide_eq_true hb)] at hR
        exact ⟨_, rfl, _, rfl, na, _, _, _, rfl, rfl, s6.seq hN, at_end _ _, hR⟩
      · rw [if_neg (fun z => hb (decide_eq_true z))] at hR
        exact ⟨_, rfl, _, rfl, na, _, _, _, rfl, rfl, s6.seq hN, at_end _ _, _, rfl, hR⟩
    generalize hq : (if 0 < D then p else -p) = q
    have hqb : q.natAbs < 2 ^ b := by
      have := hb.last
      rw [← hq]
      split <;> omega
    have hqD : q * D = p * (D.natAbs : Int) := by
      rw [← hq]
      split
      · rw [show ((D.natAbs : Nat) : Int) = D by omega]
      · rw [show ((D.natAbs : Nat) : Int) = -D by omega]
        grind
    have hfa5 := s5 _ _ (s4 _ _ hfa)
    refine ⟨_, rfl, fa, rfl, ⟨_, SqL.of hfa5⟩, fun E hE => ?_⟩
    refine lc_ints (K := K) (a := fa) (ns := F) (fun _ => true) (fun z => V.int (q * z)) (SqL.of hfa5) (small1000 (by omega)) hE (fun z => rfl) (fun z hz H7 Rv R7 s7 hR7 => ?_) (fun H7 s7 e7 => ?_)
    · have hR' := hR7 H7 (Same.refl H7)
      rw [if_pos rfl] at hR'
      exact ⟨_, rfl, _, rfl, _, _, rfl, rfl, mul_big hqb (hfw' z hz) (by omega), hR'⟩
    rw [filter_yes] at e7
    have e8 : H7 E = some (.lst ((F.map fun (z : Int) => q * z).map V.int)) := by
      rw [e7, List.map_map]
      rfl
    refine ⟨_, rfl, _, rfl, (by show 1 ≤ sizeLine; decide), fun t ht => ?_⟩
    rw [abs_is]
    have s8 : Same H7 (upd H7 t (.lst [V.int (D.natAbs : Int)])) := same_upd ht
    refine ⟨E, t, _, _, rfl, rfl, s8 _ _ e8, upd_same, ?_, fun r hr' => ?_⟩
    · rw [List.length_map, List.length_map]
      exact Nat.le_trans (show F.length + 1 ≤ 7 by omega) (by decide)
    refine k _ _ (F.map fun (z : Int) => q * z) (D.natAbs : Int) ((s6.trans s7).trans (s8.trans (same_upd hr'))) ⟨r, rfl, ?_⟩ (by omega) (by rw [List.length_map]; exact hFl) ?_ ?_
    · rw [upd_same, List.map_append]
      rfl
    · obtain ⟨W, hW⟩ := hD2
      refine ⟨mulC (q : Rat) W, fun x => ?_⟩
      have h1 : pI A x * pI F x - (D : Rat) = Root.polyAt W x * Root.polyAt (Root.polyOf c) x := hW x
      have h2 : (q : Rat) * (D : Rat) = (p : Rat) * ((D.natAbs : Int) : Rat) := by
        rw [← Rat.intCast_mul, hqD, Rat.intCast_mul]
      show pI A x * pI _ x - (p : Rat) * ((D.natAbs : Int) : Rat) = _
      rw [pI_smul, mulC_at, ← h2]
      grind
    · refine FewI.app (fun z hz => ?_) (by rw [Int.natAbs_natCast]; exact lt_up hDb (by omega))
      obtain ⟨y, hy, rfl⟩ := List.mem_map.mp hz
      exact lt_up (mul_lt2 hqb (hfw' y hy)) (by omega)
theorem isZero_anyP {p : Int} (hp : 0 < p) (A : List Int) : Root.isZero (dv p A) = !(A.any fun (z : Int) => z != 0) := by
  cases e : A.any fun (z : Int) => z != 0 with
  | true =>
    obtain ⟨z, h1, h2⟩ := List.any_eq_true.mp e
    cases e2 : Root.isZero (dv p A) with
    | false => rfl
    | true => exact absurd ((isZero_dv hp).mp e2 z h1) (by simpa using h2)
  | false =>
    refine (isZero_dv hp).mpr fun z hz => ?_
    have := List.any_eq_false.mp e z hz
    simpa using this
def sp_power (K : PySem.W.Frag) : Sp := fun vs H Q _ => ∃ (v u : V) (c a : List Int) (k : Int), vs = [.int k, v, u] ∧ IL K H v c ∧ IL K H u a ∧ c.length ≤ 10 ∧ a.length ≤ 10 ∧ ((-9223372036854775807) ≤ k ∧ k ≤ 9223372036854775807) ∧ (∀ z ∈ a, z.natAbs < 2 ^ 63) ∧
  ∀ (H' : Hp) (y : V), OL H' y (PyWqaqaw.power k c a) → Q y H'
theorem sc_power : FnScope ["k", "field", "a", "refusal"] ["k", "field", "a"] (defScope s_power) := ⟨rfl, rfl, rfl, by decide +kernel, rfl, by decide +kernel, by decide +kernel⟩
theorem ok_power {P : Program} {w : World} {K : PySem.W.Frag} {mg : Str → Option Value} {base : Heap} {f : Addr} {fd : FuncData} (F : Fun K "power" "power" s_power f fd) (O : Own mg) (c_GREATEST_POWER : Kst mg "GREATEST_POWER" 20) (C_refusal_of : Cal P w K mg base 5 "refusal_of" ["field", "operands"] (sp_refusal_of K)) (C_is_zero : Cal P w K mg base 1 "is_zero" ["a"] (sp_is_zero K)) (C_one_form : Cal P w K mg base 21 "one_form" ["a"] (sp_without_divisor K)) (C_raised : Cal P w K mg base 4 "raised" ["field", "a", "k"] (sp_raised K)) (C_inverse_of : Cal P w K mg base 4 "inverse_of" ["field", "a"] (sp_inverse_of K)) :
    FnOk P w K mg base CX0 22 f fd ["k", "field", "a"] (sp_power K) := by
  refine F.ok sc_power (fun vs H Q E h => ?_) (fun cdv A outer s H vs Q E hr h => ?_)
  · obtain ⟨v, u, c, a, k, rfl, _⟩ := h
    rfl
  · obtain ⟨v, u, c, r1, n, rfl, ⟨a, rfl, hc⟩, ⟨b, rfl, hb⟩, hl, hl1, hn, hz1, k⟩ := h
    refine ⟨_, (pss_cons (ps_set (i := 3) sc_power.nd rfl (by first | exact Or.inl rfl | exact Or.inr rfl) (pe_cal C_refusal_of (hr.mono (by decide)) (by rfl) (pa_cons (pv 1) (pa_cons (pe_lst (pa_cons (pv 2) pa_nil)) pa_nil))))
      (pss_cons (ps_if (pt_cmpR op_ne (pv 3) pe_int (nomark _)) (pss_one (ps_ret (pe_lst (pa_cons (pv 3) pa_nil)))) pss_nil)
      (pss_cons (ps_if (pt_cmpR op_gt (pe_callB call_abs (by rfl) O.abs_ bt_abs (pa_cons (pv 0) pa_nil)) (pe_globK (by rfl) c_GREATEST_POWER) (nomark _)) (pss_one (ps_ret (pe_lst (pa_cons (pe_un un_neg pe_int) pa_nil)))) pss_nil)
      (pss_cons (ps_if (pt_cmpR op_ge (pv 0) pe_int (nomark _)) (pss_one (ps_ret (pe_op op_cat (pe_lst (pa_cons pe_int pa_nil)) (pe_cal C_one_form (hr.mono (by decide)) (by rfl) (pa_cons (pe_cal C_raised (hr.mono (by decide)) (by rfl) (pa_cons (pv 1) (pa_cons (pv 2) (pa_cons (pv 0) pa_nil)))) pa_nil))))) pss_nil)
      (pss_cons (ps_if (pt_val (pe_cal C_is_zero (hr.mono (by decide)) (by rfl) (pa_cons (pv 2) pa_nil))) (pss_one (ps_ret (pe_lst (pa_cons (pe_un un_neg pe_int) pa_nil)))) pss_nil)
      (pss_one (ps_ret (pe_op op_cat (pe_lst (pa_cons pe_int pa_nil)) (pe_cal C_one_form (hr.mono (by decide)) (by rfl) (pa_cons (pe_cal C_raised (hr.mono (by decide)) (by rfl) (pa_cons (pv 1) (pa_cons (pe_cal C_one_form (hr.mono (by decide)) (by rfl) (pa_cons (pe_cal C_inverse_of (hr.mono (by decide)) (by rfl) (pa_cons (pv 1) (pa_cons (pv 2) pa_nil))) pa_nil)) (pa_cons (pe_un un_neg (pv 0)) pa_nil)))) pa_nil)))))))))), ?_⟩
    refine ⟨_, rfl, _, rfl, (by show 1 ≤ sizeLine; decide), fun p hp => ?_⟩
    have s1 : Same H (upd H p (.lst [V.ref b])) := same_upd hp
    refine ⟨_, p, c, [(b, r1)], rfl, ⟨a, rfl, s1.seq hc⟩, by omega, SqL.of upd_same, (by show 1 ≤ 1000; decide), fun q hq => ?_, fun H2 s2 => ?_⟩
    · have e : q = (b, r1) := by simpa using hq
      subst e
      exact s1.seq hb
    refine ⟨_, rfl, rfl, _, rfl, ?_⟩
    have e0 := power_is n c r1
    refine ite2 (fun h1 => ?_) (fun h1 => ?_)
    · have h1' : rowsRefusal c [r1] ≠ 0 := nq_ne h1
      rw [if_neg h1'] at e0
      refine ⟨_, rfl, (by show 1 ≤ sizeLine; decide), fun q hq => k _ _ ⟨q, rfl, ?_⟩⟩
      rw [upd_same, e0]
      rfl
    have h1' : rowsRefusal c [r1] = 0 := nq_eq h1
    rw [if_pos h1'] at e0
    obtain ⟨i0, i1⟩ := rows1 h1'
    obtain ⟨ms, m, rfl, hm1, hm2⟩ := row_split i1
    have hf := field_ok i0
    obtain ⟨f1, f2, f3⟩ := id hf
    rw [num_snoc] at e0
    have s12 := s1.trans s2
    refine ⟨_, rfl, n, rfl, _, _, rfl, rfl, _, rfl, ?_⟩
    rw [abs_is]
    refine ite2 (fun h2 => ?_) (fun h2 => ?_)
    · have h2' : 20 < n.natAbs := by
        have := of_decide_eq_true h2
        omega
      rw [if_pos h2'] at e0
      refine ⟨_, rfl, (by show 1 ≤ sizeLine; decide), fun q hq => k _ _ ⟨q, rfl, ?_⟩⟩
      rw [upd_same, e0]
      rfl
    have h2' : ¬ 20 < n.natAbs := fun z => h2 (decide_eq_true (by omega))
    rw [if_neg h2'] at e0
    refine ⟨_, rfl, _, _, rfl, rfl, _, rfl, ?_⟩
    refine ite2 (fun h3 => ?_) (fun h3 => ?_)
    · have h3' : 0 ≤ n := of_decide_eq_true h3
      rw [if_pos h3'] at e0
      refine ⟨(by show 1 ≤ sizeLine; decide), fun q hq => ?_⟩
      have s3 := same_upd (o := .lst [V.int 0]) hq
      have s4 := s12.trans s3
      have en : n = ((n.toNat : Nat) : Int) := by omega
      refine ⟨_, rfl, _, rfl, _, rfl, _, _, c, ms, m, n.toNat, 63, ?_, ⟨a, rfl, s4.seq hc⟩, ⟨b, rfl, s4.seq hb⟩, hf, by omega, hm2, hz1, by decide, by omega, fun H5 y5 R r s5 hy5 hR hr hdv hfw => ?_⟩
      · rw [← en]
        rfl
      rw [← hdv, oneForm_dv hr] at e0
      have hl6 : (R ++ [r]).length ≤ 100 := by
        rw [List.length_append, hR]
        exact Nat.le_trans (Nat.add_le_add_right f2 1) (by decide)
      refine ⟨_, R ++ [r], rfl, hy5.il, by omega, .of hfw (Nat.le_trans (bitsE_le (by decide) (by omega)) (by decide)), fun H6 y6 s6 hy6 => ?_⟩
      obtain ⟨g, rfl, hg⟩ := hy6
      refine ⟨q, g, _, _, rfl, rfl, s6 _ _ (s5 _ _ upd_same), hg, ?_, fun w hw => k _ _ ⟨w, rfl, ?_⟩⟩
      · rw [List.length_map]
        exact len_less hl6
      · rw [upd_same, e0]
        rfl
    have h3' : ¬ 0 ≤ n := fun z => h3 (decide_eq_true z)
    rw [if_neg h3', isZero_anyP hm2] at e0
    refine ⟨_, rfl, _, ms, m, rfl, ⟨b, rfl, s12.seq hb⟩, fun H3 s3 => ⟨_, rfl, ?_⟩⟩
    have s13 := s12.trans s3
    refine ite2 (fun h4 => ?_) (fun h4 => ?_)
    · rw [if_pos h4] at e0
      refine ⟨_, rfl, (by show 1 ≤ sizeLine; decide), fun q hq => k _ _ ⟨q, rfl, ?_⟩⟩
      rw [upd_same, e0]
      rfl
    rw [if_neg h4] at e0
    have hz : Root.isZero (dv m ms) = false := by
      rw [isZero_anyP hm2]
      cases z : !(ms.any fun (z : Int) => z != 0) with
      | true => exact absurd z h4
      | false => rfl
    have hnz : ∃ z ∈ ms, z ≠ 0 := by
      cases z : ms.any fun (z : Int) => z != 0 with
      | true =>
        obtain ⟨y, h5, h6⟩ := List.any_eq_true.mp z
        exact ⟨y, h5, by simpa using h6⟩
      | false => rw [z] at h4; exact absurd rfl h4
    refine ⟨(by show 1 ≤ sizeLine; decide), fun q hq => ?_⟩
    have s4 := same_upd (o := .lst [V.int 0]) hq
    have s14 := s13.trans s4
    refine ⟨_, rfl, _, rfl, _, rfl, _, _, c, ms, m, 63, rfl, ⟨a, rfl, s14.seq hc⟩, ⟨b, rfl, s14.seq hb⟩, i0, by omega, hm2, hnz, hz1, by decide, fun H6 y6 G D s6 hy6 hD hG hcg hfw => ?_⟩
    have hlG : (G ++ [D]).length ≤ 100 := by
      rw [List.length_append, hG]
      exact Nat.le_trans (Nat.add_le_add_right f2 1) (by decide)
    refine ⟨_, G ++ [D], rfl, hy6.il, by omega, .of hfw (by decide), fun H7 y7 s7 hy7 => ?_⟩
    have hfl : FewI (4 * 63 + 280) (lessRow (G ++ [D])) := fun z hz => by
      unfold lessRow at hz
      obtain ⟨y, hy, rfl⟩ := List.mem_map.mp hz
      exact Nat.lt_of_le_of_lt (Int.natAbs_ediv_le_natAbs y _) (hfw y hy)
    obtain ⟨M, t, eM, hM1, hM2, hM3⟩ := dv_less (A := G) hD
    rw [eM] at hy7 hfl
    rw [hG] at hM1
    have hinv := inverse_dv i0 f1 hm2 hD (by omega) hG hz hcg
    rw [hinv, ← hM3] at e0
    have s17 := (s14.trans s6).trans s7
    have en : -n = ((n.natAbs : Nat) : Int) := by omega
    refine ⟨_, rfl, _, rfl, _, _, c, M, t, n.natAbs, 4 * 63 + 280, ?_, ⟨a, rfl, s17.seq hc⟩, hy7.il, hf, hM1, hM2, hfl, by decide, by omega, fun H8 y8 R r s8 hy8 hR hr hdv hfw8 => ?_⟩
    · rw [← en]
      rfl
    rw [← hdv, oneForm_dv hr] at e0
    have hl6 : (R ++ [r]).length ≤ 100 := by
      rw [List.length_append, hR]
      exact Nat.le_trans (Nat.add_le_add_right f2 1) (by decide)
    refine ⟨_, R ++ [r], rfl, hy8.il, by omega, .of hfw8 (Nat.le_trans (bitsE_le (by decide) (by omega)) (by decide)), fun H9 y9 s9 hy9 => ?_⟩
    obtain ⟨g, rfl, hg⟩ := hy9
    refine ⟨q, g, _, _, rfl, rfl, s9 _ _ (s8 _ _ (s7 _ _ (s6 _ _ upd_same))), hg, ?_, fun w hw => k _ _ ⟨w, rfl, ?_⟩⟩
    · rw [List.length_map]
      exact len_less hl6
    · rw [upd_same, e0]
      rfl
theorem all_mk {P : Program} {w : World} {K : PySem.W.Frag} {h : Heap} {mg : Str → Option Value} {fa : Addr} (X : K.In h) (G : h.Ns mainGlobals mg) (hfa : mg "power" = some (.ref fa))
    {f0 : Addr} {od0 an0 : Option Addr} {sl0 : Array (Option Value)} {oc0 kV0 dc0 pm0 cd0 ct0 : Value}
    (a0 : PySem.W.nsIn K mainGlobals "is_told_rightly" = some (some (.ref f0))) (l0 : K.lookup f0 = some ⟨oc0, od0, .func (PySem.W.fnOf "is_told_rightly" "is_told_rightly" (defArgs s_is_told_rightly) (defBody s_is_told_rightly) (defScope s_is_told_rightly) .none kV0 dc0 pm0 an0 cd0 ct0), sl0⟩) (c0 : PySem.W.codeIn K cd0 "is_told_rightly" = true) (k0 : PySem.W.keepIn K (.ref f0) = true)
    {f1 : Addr} {od1 an1 : Option Addr} {sl1 : Array (Option Value)} {oc1 kV1 dc1 pm1 cd1 ct1 : Value}
    (a1 : PySem.W.nsIn K mainGlobals "polynomial_of" = some (some (.ref f1))) (l1 : K.lookup f1 = some ⟨oc1, od1, .func (PySem.W.fnOf "polynomial_of" "polynomial_of" (defArgs s_polynomial_of) (defBody s_polynomial_of) (defScope s_polynomial_of) .none kV1 dc1 pm1 an1 cd1 ct1), sl1⟩) (c1 : PySem.W.codeIn K cd1 "polynomial_of" = true) (k1 : PySem.W.keepIn K (.ref f1) = true)
    {f2 : Addr} {od2 an2 : Option Addr} {sl2 : Array (Option Value)} {oc2 kV2 dc2 pm2 cd2 ct2 : Value}
    (a2 : PySem.W.nsIn K mainGlobals "divisors_of" = some (some (.ref f2))) (l2 : K.lookup f2 = some ⟨oc2, od2, .func (PySem.W.fnOf "divisors_of" "divisors_of" (defArgs s_divisors_of) (defBody s_divisors_of) (defScope s_divisors_of) .none kV2 dc2 pm2 an2 cd2 ct2), sl2⟩) (c2 : PySem.W.codeIn K cd2 "divisors_of" = true) (k2 : PySem.W.keepIn K (.ref f2) = true)
    {f3 : Addr} {od3 an3 : Option Addr} {sl3 : Array (Option Value)} {oc3 kV3 dc3 pm3 cd3 ct3 : Value}
    (a3 : PySem.W.nsIn K mainGlobals "value_at" = some (some (.ref f3))) (l3 : K.lookup f3 = some ⟨oc3, od3, .func (PySem.W.fnOf "value_at" "value_at" (defArgs s_value_at) (defBody s_value_at) (defScope s_value_at) .none kV3 dc3 pm3 an3 cd3 ct3), sl3⟩) (c3 : PySem.W.codeIn K cd3 "value_at" = true) (k3 : PySem.W.keepIn K (.ref f3) = true)
    {f4 : Addr} {od4 an4 : Option Addr} {sl4 : Array (Option Value)} {oc4 kV4 dc4 pm4 cd4 ct4 : Value}
    (a4 : PySem.W.nsIn K mainGlobals "has_whole_root" = some (some (.ref f4))) (l4 : K.lookup f4 = some ⟨oc4, od4, .func (PySem.W.fnOf "has_whole_root" "has_whole_root" (defArgs s_has_whole_root) (defBody s_has_whole_root) (defScope s_has_whole_root) .none kV4 dc4 pm4 an4 cd4 ct4), sl4⟩) (c4 : PySem.W.codeIn K cd4 "has_whole_root" = true) (k4 : PySem.W.keepIn K (.ref f4) = true)
    {f5 : Addr} {od5 an5 : Option Addr} {sl5 : Array (Option Value)} {oc5 kV5 dc5 pm5 cd5 ct5 : Value}
    (a5 : PySem.W.nsIn K mainGlobals "square_root_floor" = some (some (.ref f5))) (l5 : K.lookup f5 = some ⟨oc5, od5, .func (PySem.W.fnOf "square_root_floor" "square_root_floor" (defArgs s_square_root_floor) (defBody s_square_root_floor) (defScope s_square_root_floor) .none kV5 dc5 pm5 an5 cd5 ct5), sl5⟩) (c5 : PySem.W.codeIn K cd5 "square_root_floor" = true) (k5 : PySem.W.keepIn K (.ref f5) = true)
    {f6 : Addr} {od6 an6 : Option Addr} {sl6 : Array (Option Value)} {oc6 kV6 dc6 pm6 cd6 ct6 : Value}
    (a6 : PySem.W.nsIn K mainGlobals "is_product_of_quadratics" = some (some (.ref f6))) (l6 : K.lookup f6 = some ⟨oc6, od6, .func (PySem.W.fnOf "is_product_of_quadratics" "is_product_of_quadratics" (defArgs s_is_product_of_quadratics) (defBody s_is_product_of_quadratics) (defScope s_is_product_of_quadratics) .none kV6 dc6 pm6 an6 cd6 ct6), sl6⟩) (c6 : PySem.W.codeIn K cd6 "is_product_of_quadratics" = true) (k6 : PySem.W.keepIn K (.ref f6) = true)
    {f7 : Addr} {od7 an7 : Option Addr} {sl7 : Array (Option Value)} {oc7 kV7 dc7 pm7 cd7 ct7 : Value}
    (a7 : PySem.W.nsIn K mainGlobals "is_product" = some (some (.ref f7))) (l7 : K.lookup f7 = some ⟨oc7, od7, .func (PySem.W.fnOf "is_product" "is_product" (defArgs s_is_product) (defBody s_is_product) (defScope s_is_product) .none kV7 dc7 pm7 an7 cd7 ct7), sl7⟩) (c7 : PySem.W.codeIn K cd7 "is_product" = true) (k7 : PySem.W.keepIn K (.ref f7) = true)
    {f8 : Addr} {od8 an8 : Option Addr} {sl8 : Array (Option Value)} {oc8 kV8 dc8 pm8 cd8 ct8 : Value}
    (a8 : PySem.W.nsIn K mainGlobals "field_refusal" = some (some (.ref f8))) (l8 : K.lookup f8 = some ⟨oc8, od8, .func (PySem.W.fnOf "field_refusal" "field_refusal" (defArgs s_field_refusal) (defBody s_field_refusal) (defScope s_field_refusal) .none kV8 dc8 pm8 an8 cd8 ct8), sl8⟩) (c8 : PySem.W.codeIn K cd8 "field_refusal" = true) (k8 : PySem.W.keepIn K (.ref f8) = true)
    {f9 : Addr} {od9 an9 : Option Addr} {sl9 : Array (Option Value)} {oc9 kV9 dc9 pm9 cd9 ct9 : Value}
    (a9 : PySem.W.nsIn K mainGlobals "is_row" = some (some (.ref f9))) (l9 : K.lookup f9 = some ⟨oc9, od9, .func (PySem.W.fnOf "is_row" "is_row" (defArgs s_is_row) (defBody s_is_row) (defScope s_is_row) .none kV9 dc9 pm9 an9 cd9 ct9), sl9⟩) (c9 : PySem.W.codeIn K cd9 "is_row" = true) (k9 : PySem.W.keepIn K (.ref f9) = true)
    {f10 : Addr} {od10 an10 : Option Addr} {sl10 : Array (Option Value)} {oc10 kV10 dc10 pm10 cd10 ct10 : Value}
    (a10 : PySem.W.nsIn K mainGlobals "are_rows" = some (some (.ref f10))) (l10 : K.lookup f10 = some ⟨oc10, od10, .func (PySem.W.fnOf "are_rows" "are_rows" (defArgs s_are_rows) (defBody s_are_rows) (defScope s_are_rows) .none kV10 dc10 pm10 an10 cd10 ct10), sl10⟩) (c10 : PySem.W.codeIn K cd10 "are_rows" = true) (k10 : PySem.W.keepIn K (.ref f10) = true)
    {f11 : Addr} {od11 an11 : Option Addr} {sl11 : Array (Option Value)} {oc11 kV11 dc11 pm11 cd11 ct11 : Value}
    (a11 : PySem.W.nsIn K mainGlobals "refusal_of" = some (some (.ref f11))) (l11 : K.lookup f11 = some ⟨oc11, od11, .func (PySem.W.fnOf "refusal_of" "refusal_of" (defArgs s_refusal_of) (defBody s_refusal_of) (defScope s_refusal_of) .none kV11 dc11 pm11 an11 cd11 ct11), sl11⟩) (c11 : PySem.W.codeIn K cd11 "refusal_of" = true) (k11 : PySem.W.keepIn K (.ref f11) = true)
    {f12 : Addr} {od12 an12 : Option Addr} {sl12 : Array (Option Value)} {oc12 kV12 dc12 pm12 cd12 ct12 : Value}
    (a12 : PySem.W.nsIn K mainGlobals "is_zero" = some (some (.ref f12))) (l12 : K.lookup f12 = some ⟨oc12, od12, .func (PySem.W.fnOf "is_zero" "is_zero" (defArgs s_is_zero) (defBody s_is_zero) (defScope s_is_zero) .none kV12 dc12 pm12 an12 cd12 ct12), sl12⟩) (c12 : PySem.W.codeIn K cd12 "is_zero" = true) (k12 : PySem.W.keepIn K (.ref f12) = true)
    {f13 : Addr} {od13 an13 : Option Addr} {sl13 : Array (Option Value)} {oc13 kV13 dc13 pm13 cd13 ct13 : Value}
    (a13 : PySem.W.nsIn K mainGlobals "divided" = some (some (.ref f13))) (l13 : K.lookup f13 = some ⟨oc13, od13, .func (PySem.W.fnOf "divided" "divided" (defArgs s_divided) (defBody s_divided) (defScope s_divided) .none kV13 dc13 pm13 an13 cd13 ct13), sl13⟩) (c13 : PySem.W.codeIn K cd13 "divided" = true) (k13 : PySem.W.keepIn K (.ref f13) = true)
    {f14 : Addr} {od14 an14 : Option Addr} {sl14 : Array (Option Value)} {oc14 kV14 dc14 pm14 cd14 ct14 : Value}
    (a14 : PySem.W.nsIn K mainGlobals "carried_over" = some (some (.ref f14))) (l14 : K.lookup f14 = some ⟨oc14, od14, .func (PySem.W.fnOf "carried_over" "carried_over" (defArgs s_carried_over) (defBody s_carried_over) (defScope s_carried_over) .none kV14 dc14 pm14 an14 cd14 ct14), sl14⟩) (c14 : PySem.W.codeIn K cd14 "carried_over" = true) (k14 : PySem.W.keepIn K (.ref f14) = true)
    {f15 : Addr} {od15 an15 : Option Addr} {sl15 : Array (Option Value)} {oc15 kV15 dc15 pm15 cd15 ct15 : Value}
    (a15 : PySem.W.nsIn K mainGlobals "shortened" = some (some (.ref f15))) (l15 : K.lookup f15 = some ⟨oc15, od15, .func (PySem.W.fnOf "shortened" "shortened" (defArgs s_shortened) (defBody s_shortened) (defScope s_shortened) .none kV15 dc15 pm15 an15 cd15 ct15), sl15⟩) (c15 : PySem.W.codeIn K cd15 "shortened" = true) (k15 : PySem.W.keepIn K (.ref f15) = true)
    {f16 : Addr} {od16 an16 : Option Addr} {sl16 : Array (Option Value)} {oc16 kV16 dc16 pm16 cd16 ct16 : Value}
    (a16 : PySem.W.nsIn K mainGlobals "halved" = some (some (.ref f16))) (l16 : K.lookup f16 = some ⟨oc16, od16, .func (PySem.W.fnOf "halved" "halved" (defArgs s_halved) (defBody s_halved) (defScope s_halved) .none kV16 dc16 pm16 an16 cd16 ct16), sl16⟩) (c16 : PySem.W.codeIn K cd16 "halved" = true) (k16 : PySem.W.keepIn K (.ref f16) = true)
    {f17 : Addr} {od17 an17 : Option Addr} {sl17 : Array (Option Value)} {oc17 kV17 dc17 pm17 cd17 ct17 : Value}
    (a17 : PySem.W.nsIn K mainGlobals "common_divisor" = some (some (.ref f17))) (l17 : K.lookup f17 = some ⟨oc17, od17, .func (PySem.W.fnOf "common_divisor" "common_divisor" (defArgs s_common_divisor) (defBody s_common_divisor) (defScope s_common_divisor) .none kV17 dc17 pm17 an17 cd17 ct17), sl17⟩) (c17 : PySem.W.codeIn K cd17 "common_divisor" = true) (k17 : PySem.W.keepIn K (.ref f17) = true)
    {f18 : Addr} {od18 an18 : Option Addr} {sl18 : Array (Option Value)} {oc18 kV18 dc18 pm18 cd18 ct18 : Value}
    (a18 : PySem.W.nsIn K mainGlobals "without_divisor" = some (some (.ref f18))) (l18 : K.lookup f18 = some ⟨oc18, od18, .func (PySem.W.fnOf "without_divisor" "without_divisor" (defArgs s_without_divisor) (defBody s_without_divisor) (defScope s_without_divisor) .none kV18 dc18 pm18 an18 cd18 ct18), sl18⟩) (c18 : PySem.W.codeIn K cd18 "without_divisor" = true) (k18 : PySem.W.keepIn K (.ref f18) = true)
    {f19 : Addr} {od19 an19 : Option Addr} {sl19 : Array (Option Value)} {oc19 kV19 dc19 pm19 cd19 ct19 : Value}
    (a19 : PySem.W.nsIn K mainGlobals "one_form" = some (some (.ref f19))) (l19 : K.lookup f19 = some ⟨oc19, od19, .func (PySem.W.fnOf "one_form" "one_form" (defArgs s_one_form) (defBody s_one_form) (defScope s_one_form) .none kV19 dc19 pm19 an19 cd19 ct19), sl19⟩) (c19 : PySem.W.codeIn K cd19 "one_form" = true) (k19 : PySem.W.keepIn K (.ref f19) = true)
    {f20 : Addr} {od20 an20 : Option Addr} {sl20 : Array (Option Value)} {oc20 kV20 dc20 pm20 cd20 ct20 : Value}
    (a20 : PySem.W.nsIn K mainGlobals "whole_row" = some (some (.ref f20))) (l20 : K.lookup f20 = some ⟨oc20, od20, .func (PySem.W.fnOf "whole_row" "whole_row" (defArgs s_whole_row) (defBody s_whole_row) (defScope s_whole_row) .none kV20 dc20 pm20 an20 cd20 ct20), sl20⟩) (c20 : PySem.W.codeIn K cd20 "whole_row" = true) (k20 : PySem.W.keepIn K (.ref f20) = true)
    {f21 : Addr} {od21 an21 : Option Addr} {sl21 : Array (Option Value)} {oc21 kV21 dc21 pm21 cd21 ct21 : Value}
    (a21 : PySem.W.nsIn K mainGlobals "remainder_of" = some (some (.ref f21))) (l21 : K.lookup f21 = some ⟨oc21, od21, .func (PySem.W.fnOf "remainder_of" "remainder_of" (defArgs s_remainder_of) (defBody s_remainder_of) (defScope s_remainder_of) .none kV21 dc21 pm21 an21 cd21 ct21), sl21⟩) (c21 : PySem.W.codeIn K cd21 "remainder_of" = true) (k21 : PySem.W.keepIn K (.ref f21) = true)
    {f22 : Addr} {od22 an22 : Option Addr} {sl22 : Array (Option Value)} {oc22 kV22 dc22 pm22 cd22 ct22 : Value}
    (a22 : PySem.W.nsIn K mainGlobals "product_of" = some (some (.ref f22))) (l22 : K.lookup f22 = some ⟨oc22, od22, .func (PySem.W.fnOf "product_of" "product_of" (defArgs s_product_of) (defBody s_product_of) (defScope s_product_of) .none kV22 dc22 pm22 an22 cd22 ct22), sl22⟩) (c22 : PySem.W.codeIn K cd22 "product_of" = true) (k22 : PySem.W.keepIn K (.ref f22) = true)
    {f23 : Addr} {od23 an23 : Option Addr} {sl23 : Array (Option Value)} {oc23 kV23 dc23 pm23 cd23 ct23 : Value}
    (a23 : PySem.W.nsIn K mainGlobals "multiplied" = some (some (.ref f23))) (l23 : K.lookup f23 = some ⟨oc23, od23, .func (PySem.W.fnOf "multiplied" "multiplied" (defArgs s_multiplied) (defBody s_multiplied) (defScope s_multiplied) .none kV23 dc23 pm23 an23 cd23 ct23), sl23⟩) (c23 : PySem.W.codeIn K cd23 "multiplied" = true) (k23 : PySem.W.keepIn K (.ref f23) = true)
    {f24 : Addr} {od24 an24 : Option Addr} {sl24 : Array (Option Value)} {oc24 kV24 dc24 pm24 cd24 ct24 : Value}
    (a24 : PySem.W.nsIn K mainGlobals "raised" = some (some (.ref f24))) (l24 : K.lookup f24 = some ⟨oc24, od24, .func (PySem.W.fnOf "raised" "raised" (defArgs s_raised) (defBody s_raised) (defScope s_raised) .none kV24 dc24 pm24 an24 cd24 ct24), sl24⟩) (c24 : PySem.W.codeIn K cd24 "raised" = true) (k24 : PySem.W.keepIn K (.ref f24) = true)
    {f25 : Addr} {od25 an25 : Option Addr} {sl25 : Array (Option Value)} {oc25 kV25 dc25 pm25 cd25 ct25 : Value}
    (a25 : PySem.W.nsIn K mainGlobals "trace_of" = some (some (.ref f25))) (l25 : K.lookup f25 = some ⟨oc25, od25, .func (PySem.W.fnOf "trace_of" "trace_of" (defArgs s_trace_of) (defBody s_trace_of) (defScope s_trace_of) .none kV25 dc25 pm25 an25 cd25 ct25), sl25⟩) (c25 : PySem.W.codeIn K cd25 "trace_of" = true) (k25 : PySem.W.keepIn K (.ref f25) = true)
    {f26 : Addr} {od26 an26 : Option Addr} {sl26 : Array (Option Value)} {oc26 kV26 dc26 pm26 cd26 ct26 : Value}
    (a26 : PySem.W.nsIn K mainGlobals "cofactor_of" = some (some (.ref f26))) (l26 : K.lookup f26 = some ⟨oc26, od26, .func (PySem.W.fnOf "cofactor_of" "cofactor_of" (defArgs s_cofactor_of) (defBody s_cofactor_of) (defScope s_cofactor_of) .none kV26 dc26 pm26 an26 cd26 ct26), sl26⟩) (c26 : PySem.W.codeIn K cd26 "cofactor_of" = true) (k26 : PySem.W.keepIn K (.ref f26) = true)
    {f27 : Addr} {od27 an27 : Option Addr} {sl27 : Array (Option Value)} {oc27 kV27 dc27 pm27 cd27 ct27 : Value}
    (a27 : PySem.W.nsIn K mainGlobals "inverse_of" = some (some (.ref f27))) (l27 : K.lookup f27 = some ⟨oc27, od27, .func (PySem.W.fnOf "inverse_of" "inverse_of" (defArgs s_inverse_of) (defBody s_inverse_of) (defScope s_inverse_of) .none kV27 dc27 pm27 an27 cd27 ct27), sl27⟩) (c27 : PySem.W.codeIn K cd27 "inverse_of" = true) (k27 : PySem.W.keepIn K (.ref f27) = true)
    {f28 : Addr} {od28 an28 : Option Addr} {sl28 : Array (Option Value)} {oc28 kV28 dc28 pm28 cd28 ct28 : Value}
    (a28 : PySem.W.nsIn K mainGlobals "power" = some (some (.ref f28))) (l28 : K.lookup f28 = some ⟨oc28, od28, .func (PySem.W.fnOf "power" "power" (defArgs s_power) (defBody s_power) (defScope s_power) .none kV28 dc28 pm28 an28 cd28 ct28), sl28⟩) (c28 : PySem.W.codeIn K cd28 "power" = true) (k28 : PySem.W.keepIn K (.ref f28) = true)
    (b_abs : PySem.W.nsIn K mainGlobals "abs" = some none)
    (b_len : PySem.W.nsIn K mainGlobals "len" = some none)
    (b_all : PySem.W.nsIn K mainGlobals "all" = some none)
    (b_any : PySem.W.nsIn K mainGlobals "any" = some none)
    (b_list : PySem.W.nsIn K mainGlobals "list" = some none)
    (b_reversed : PySem.W.nsIn K mainGlobals "reversed" = some none)
    (b_range : PySem.W.nsIn K mainGlobals "range" = some none)
    (b_max : PySem.W.nsIn K mainGlobals "max" = some none)
    (b_min : PySem.W.nsIn K mainGlobals "min" = some none)
    (b_zip : PySem.W.nsIn K mainGlobals "zip" = some none)
    (b_ord : PySem.W.nsIn K mainGlobals "ord" = some none)
    (b_str : PySem.W.nsIn K mainGlobals "str" = some none)
    {t_GREATEST_DEGREE : Tok} (g_GREATEST_DEGREE : PySem.W.nsIn K mainGlobals "GREATEST_DEGREE" = some (some (.int 4 t_GREATEST_DEGREE)))
    {t_GREATEST_SIZE : Tok} (g_GREATEST_SIZE : PySem.W.nsIn K mainGlobals "GREATEST_SIZE" = some (some (.int 1000 t_GREATEST_SIZE)))
    {t_SHORT_TO_HALVE : Tok} (g_SHORT_TO_HALVE : PySem.W.nsIn K mainGlobals "SHORT_TO_HALVE" = some (some (.int 200 t_SHORT_TO_HALVE)))
    {t_SHORT_TO_DIVIDE : Tok} (g_SHORT_TO_DIVIDE : PySem.W.nsIn K mainGlobals "SHORT_TO_DIVIDE" = some (some (.int 2000 t_SHORT_TO_DIVIDE)))
    {t_GREATEST_POWER : Tok} (g_GREATEST_POWER : PySem.W.nsIn K mainGlobals "GREATEST_POWER" = some (some (.int 20 t_GREATEST_POWER)))
    : ∃ fd : FuncData, (∀ (s : Shared) (us : List Value), us.length = (["k", "field", "a"] : List Str).length → BindsTo s fd ⟨us, []⟩ ((["k", "field", "a"] : List Str).zip us)) ∧ ∀ base : Heap, K.In base → base.Ns mainGlobals mg → FnOk P w K mg base CX0 22 fa fd ["k", "field", "a"] (sp_power K) := by
  have e := hfa.symm.trans (PySem.W.mg_of X G a28)
  cases e
  have O : Own mg := ⟨PySem.W.mg_none_of X G b_abs, PySem.W.mg_none_of X G b_len, PySem.W.mg_none_of X G b_all, PySem.W.mg_none_of X G b_any, PySem.W.mg_none_of X G b_list, PySem.W.mg_none_of X G b_reversed, PySem.W.mg_none_of X G b_range, PySem.W.mg_none_of X G b_max, PySem.W.mg_none_of X G b_min, PySem.W.mg_none_of X G b_zip, PySem.W.mg_none_of X G b_ord, PySem.W.mg_none_of X G b_str⟩
  have c_GREATEST_DEGREE : Kst mg "GREATEST_DEGREE" 4 := ⟨t_GREATEST_DEGREE, PySem.W.mg_of X G g_GREATEST_DEGREE⟩
  have c_GREATEST_SIZE : Kst mg "GREATEST_SIZE" 1000 := ⟨t_GREATEST_SIZE, PySem.W.mg_of X G g_GREATEST_SIZE⟩
  have c_SHORT_TO_HALVE : Kst mg "SHORT_TO_HALVE" 200 := ⟨t_SHORT_TO_HALVE, PySem.W.mg_of X G g_SHORT_TO_HALVE⟩
  have c_SHORT_TO_DIVIDE : Kst mg "SHORT_TO_DIVIDE" 2000 := ⟨t_SHORT_TO_DIVIDE, PySem.W.mg_of X G g_SHORT_TO_DIVIDE⟩
  have c_GREATEST_POWER : Kst mg "GREATEST_POWER" 20 := ⟨t_GREATEST_POWER, PySem.W.mg_of X G g_GREATEST_POWER⟩
  have F0 := fun_mk (st := s_is_told_rightly) l0 c0 k0
  have B0 := F0.binds (ps := ["field"]) fun _ _ _ _ _ _ us hl => by obtain ⟨_, rfl⟩ := args1 hl; rfl
  have F1 := fun_mk (st := s_polynomial_of) l1 c1 k1
  have B1 := F1.binds (ps := ["field"]) fun _ _ _ _ _ _ us hl => by obtain ⟨_, rfl⟩ := args1 hl; rfl
  have F2 := fun_mk (st := s_divisors_of) l2 c2 k2
  have B2 := F2.binds (ps := ["number"]) fun _ _ _ _ _ _ us hl => by obtain ⟨_, rfl⟩ := args1 hl; rfl
  have F3 := fun_mk (st := s_value_at) l3 c3 k3
  have B3 := F3.binds (ps := ["f", "number"]) fun _ _ _ _ _ _ us hl => by obtain ⟨_, _, rfl⟩ := args2 hl; rfl
  have F4 := fun_mk (st := s_has_whole_root) l4 c4 k4
  have B4 := F4.binds (ps := ["field"]) fun _ _ _ _ _ _ us hl => by obtain ⟨_, rfl⟩ := args1 hl; rfl
  have F5 := fun_mk (st := s_square_root_floor) l5 c5 k5
  have B5 := F5.binds (ps := ["number"]) fun _ _ _ _ _ _ us hl => by obtain ⟨_, rfl⟩ := args1 hl; rfl
  have F6 := fun_mk (st := s_is_product_of_quadratics) l6 c6 k6
  have B6 := F6.binds (ps := ["field"]) fun _ _ _ _ _ _ us hl => by obtain ⟨_, rfl⟩ := args1 hl; rfl
  have F7 := fun_mk (st := s_is_product) l7 c7 k7
  have B7 := F7.binds (ps := ["field"]) fun _ _ _ _ _ _ us hl => by obtain ⟨_, rfl⟩ := args1 hl; rfl
  have F8 := fun_mk (st := s_field_refusal) l8 c8 k8
  have B8 := F8.binds (ps := ["field"]) fun _ _ _ _ _ _ us hl => by obtain ⟨_, rfl⟩ := args1 hl; rfl
  have F9 := fun_mk (st := s_is_row) l9 c9 k9
  have B9 := F9.binds (ps := ["operand", "degree"]) fun _ _ _ _ _ _ us hl => by obtain ⟨_, _, rfl⟩ := args2 hl; rfl
  have F10 := fun_mk (st := s_are_rows) l10 c10 k10
  have B10 := F10.binds (ps := ["operands", "degree"]) fun _ _ _ _ _ _ us hl => by obtain ⟨_, _, rfl⟩ := args2 hl; rfl
  have F11 := fun_mk (st := s_refusal_of) l11 c11 k11
  have B11 := F11.binds (ps := ["field", "operands"]) fun _ _ _ _ _ _ us hl => by obtain ⟨_, _, rfl⟩ := args2 hl; rfl
  have F12 := fun_mk (st := s_is_zero) l12 c12 k12
  have B12 := F12.binds (ps := ["a"]) fun _ _ _ _ _ _ us hl => by obtain ⟨_, rfl⟩ := args1 hl; rfl
  have F13 := fun_mk (st := s_divided) l13 c13 k13
  have B13 := F13.binds (ps := ["lines"]) fun _ _ _ _ _ _ us hl => by obtain ⟨_, rfl⟩ := args1 hl; rfl
  have F14 := fun_mk (st := s_carried_over) l14 c14 k14
  have B14 := F14.binds (ps := ["lines", "shift", "step"]) fun _ _ _ _ _ _ us hl => by obtain ⟨_, _, _, rfl⟩ := args3 hl; rfl
  have F15 := fun_mk (st := s_shortened) l15 c15 k15
  have B15 := F15.binds (ps := ["lines", "shift"]) fun _ _ _ _ _ _ us hl => by obtain ⟨_, _, rfl⟩ := args2 hl; rfl
  have F16 := fun_mk (st := s_halved) l16 c16 k16
  have B16 := F16.binds (ps := ["a", "b"]) fun _ _ _ _ _ _ us hl => by obtain ⟨_, _, rfl⟩ := args2 hl; rfl
  have F17 := fun_mk (st := s_common_divisor) l17 c17 k17
  have B17 := F17.binds (ps := ["m", "n"]) fun _ _ _ _ _ _ us hl => by obtain ⟨_, _, rfl⟩ := args2 hl; rfl
  have F18 := fun_mk (st := s_without_divisor) l18 c18 k18
  have B18 := F18.binds (ps := ["values"]) fun _ _ _ _ _ _ us hl => by obtain ⟨_, rfl⟩ := args1 hl; rfl
  have F19 := fun_mk (st := s_one_form) l19 c19 k19
  have B19 := F19.binds (ps := ["a"]) fun _ _ _ _ _ _ us hl => by obtain ⟨_, rfl⟩ := args1 hl; rfl
  have F20 := fun_mk (st := s_whole_row) l20 c20 k20
  have B20 := F20.binds (ps := ["number", "degree"]) fun _ _ _ _ _ _ us hl => by obtain ⟨_, _, rfl⟩ := args2 hl; rfl
  have F21 := fun_mk (st := s_remainder_of) l21 c21 k21
  have B21 := F21.binds (ps := ["field", "polynomial"]) fun _ _ _ _ _ _ us hl => by obtain ⟨_, _, rfl⟩ := args2 hl; rfl
  have F22 := fun_mk (st := s_product_of) l22 c22 k22
  have B22 := F22.binds (ps := ["field", "p", "q"]) fun _ _ _ _ _ _ us hl => by obtain ⟨_, _, _, rfl⟩ := args3 hl; rfl
  have F23 := fun_mk (st := s_multiplied) l23 c23 k23
  have B23 := F23.binds (ps := ["field", "a", "b"]) fun _ _ _ _ _ _ us hl => by obtain ⟨_, _, _, rfl⟩ := args3 hl; rfl
  have F24 := fun_mk (st := s_raised) l24 c24 k24
  have B24 := F24.binds (ps := ["field", "a", "k"]) fun _ _ _ _ _ _ us hl => by obtain ⟨_, _, _, rfl⟩ := args3 hl; rfl
  have F25 := fun_mk (st := s_trace_of) l25 c25 k25
  have B25 := F25.binds (ps := ["field", "numerators"]) fun _ _ _ _ _ _ us hl => by obtain ⟨_, _, rfl⟩ := args2 hl; rfl
  have F26 := fun_mk (st := s_cofactor_of) l26 c26 k26
  have B26 := F26.binds (ps := ["field", "numerators"]) fun _ _ _ _ _ _ us hl => by obtain ⟨_, _, rfl⟩ := args2 hl; rfl
  have F27 := fun_mk (st := s_inverse_of) l27 c27 k27
  have B27 := F27.binds (ps := ["field", "a"]) fun _ _ _ _ _ _ us hl => by obtain ⟨_, _, rfl⟩ := args2 hl; rfl
  have F28 := fun_mk (st := s_power) l28 c28 k28
  have B28 := F28.binds (ps := ["k", "field", "a"]) fun _ _ _ _ _ _ us hl => by obtain ⟨_, _, _, rfl⟩ := args3 hl; rfl
  refine ⟨PySem.W.fnOf "power" "power" (defArgs s_power) (defBody s_power) (defScope s_power) .none kV28 dc28 pm28 an28 cd28 ct28, fun s us hu => by obtain ⟨_, _, _, rfl⟩ := args3 hu; exact .of_eq rfl, fun base _ _ => ?_⟩
  have C_is_told_rightly : Cal P w K mg base 1 "is_told_rightly" ["field"] (sp_is_told_rightly K) := ⟨_, _, ok_is_told_rightly F0 O c_GREATEST_DEGREE c_GREATEST_SIZE, PySem.W.mg_of X G a0, k0, B0⟩
  have C_polynomial_of : Cal P w K mg base 1 "polynomial_of" ["field"] (sp_polynomial_of K) := ⟨_, _, ok_polynomial_of F1 O, PySem.W.mg_of X G a1, k1, B1⟩
  have C_divisors_of : Cal P w K mg base 1 "divisors_of" ["number"] sp_divisors_of := ⟨_, _, ok_divisors_of F2 O, PySem.W.mg_of X G a2, k2, B2⟩
  have C_value_at : Cal P w K mg base 1 "value_at" ["f", "number"] (sp_value_at K) := ⟨_, _, ok_value_at F3 O, PySem.W.mg_of X G a3, k3, B3⟩
  have C_has_whole_root : Cal P w K mg base 2 "has_whole_root" ["field"] (sp_has_whole_root K) := ⟨_, _, ok_has_whole_root F4 O C_polynomial_of C_divisors_of C_value_at, PySem.W.mg_of X G a4, k4, B4⟩
  have C_square_root_floor : Cal P w K mg base 1 "square_root_floor" ["number"] sp_square_root_floor := ⟨_, _, ok_square_root_floor F5 O, PySem.W.mg_of X G a5, k5, B5⟩
  have C_is_product_of_quadratics : Cal P w K mg base 2 "is_product_of_quadratics" ["field"] (sp_is_product_of_quadratics K) := ⟨_, _, ok_is_product_of_quadratics F6 O C_divisors_of C_square_root_floor, PySem.W.mg_of X G a6, k6, B6⟩
  have C_is_product : Cal P w K mg base 3 "is_product" ["field"] (sp_is_product K) := ⟨_, _, ok_is_product F7 O C_has_whole_root C_is_product_of_quadratics, PySem.W.mg_of X G a7, k7, B7⟩
  have C_field_refusal : Cal P w K mg base 4 "field_refusal" ["field"] (sp_field_refusal K) := ⟨_, _, ok_field_refusal F8 O C_is_told_rightly C_is_product, PySem.W.mg_of X G a8, k8, B8⟩
  have C_is_row : Cal P w K mg base 1 "is_row" ["operand", "degree"] (sp_is_row K) := ⟨_, _, ok_is_row F9 O, PySem.W.mg_of X G a9, k9, B9⟩
  have C_are_rows : Cal P w K mg base 2 "are_rows" ["operands", "degree"] (sp_are_rows K) := ⟨_, _, ok_are_rows F10 O C_is_row, PySem.W.mg_of X G a10, k10, B10⟩
  have C_refusal_of : Cal P w K mg base 5 "refusal_of" ["field", "operands"] (sp_refusal_of K) := ⟨_, _, ok_refusal_of F11 O C_field_refusal C_are_rows, PySem.W.mg_of X G a11, k11, B11⟩
  have C_is_zero : Cal P w K mg base 1 "is_zero" ["a"] (sp_is_zero K) := ⟨_, _, ok_is_zero F12 O, PySem.W.mg_of X G a12, k12, B12⟩
  have C_divided : Cal P w K mg base 1 "divided" ["lines"] sp_divided := ⟨_, _, ok_divided F13 O, PySem.W.mg_of X G a13, k13, B13⟩
  have C_carried_over : Cal P w K mg base 1 "carried_over" ["lines", "shift", "step"] sp_carried_over := ⟨_, _, ok_carried_over F14 O, PySem.W.mg_of X G a14, k14, B14⟩
  have C_halved : Cal P w K mg base 18 "halved" ["a", "b"] (sp_halved 7) := cal_halved F16 F15 O c_SHORT_TO_HALVE C_divided C_carried_over (PySem.W.mg_of X G a16) k16 B16 (PySem.W.mg_of X G a15) k15 B15 7
  have C_common_divisor : Cal P w K mg base 19 "common_divisor" ["m", "n"] sp_common_divisor := ⟨_, _, ok_common_divisor F17 O c_SHORT_TO_DIVIDE C_halved, PySem.W.mg_of X G a17, k17, B17⟩
  have C_without_divisor : Cal P w K mg base 20 "without_divisor" ["values"] (sp_without_divisor K) := ⟨_, _, ok_without_divisor F18 O C_common_divisor, PySem.W.mg_of X G a18, k18, B18⟩
  have C_one_form : Cal P w K mg base 21 "one_form" ["a"] (sp_without_divisor K) := ⟨_, _, ok_one_form F19 O C_without_divisor, PySem.W.mg_of X G a19, k19, B19⟩
  have C_whole_row : Cal P w K mg base 1 "whole_row" ["number", "degree"] sp_whole_row := ⟨_, _, ok_whole_row F20 O, PySem.W.mg_of X G a20, k20, B20⟩
  have C_remainder_of : Cal P w K mg base 1 "remainder_of" ["field", "polynomial"] (sp_remainder_of K) := ⟨_, _, ok_remainder_of F21 O, PySem.W.mg_of X G a21, k21, B21⟩
  have C_product_of : Cal P w K mg base 2 "product_of" ["field", "p", "q"] (sp_product_of K) := ⟨_, _, ok_product_of F22 O C_remainder_of, PySem.W.mg_of X G a22, k22, B22⟩
  have C_multiplied : Cal P w K mg base 3 "multiplied" ["field", "a", "b"] (sp_multiplied K) := ⟨_, _, ok_multiplied F23 O C_product_of, PySem.W.mg_of X G a23, k23, B23⟩
  have C_raised : Cal P w K mg base 4 "raised" ["field", "a", "k"] (sp_raised K) := ⟨_, _, ok_raised F24 O C_whole_row C_multiplied, PySem.W.mg_of X G a24, k24, B24⟩
  have C_trace_of : Cal P w K mg base 2 "trace_of" ["field", "numerators"] (sp_trace_of K) := ⟨_, _, ok_trace_of F25 O C_remainder_of, PySem.W.mg_of X G a25, k25, B25⟩
  have C_cofactor_of : Cal P w K mg base 3 "cofactor_of" ["field", "numerators"] (sp_cofactor_of K) := ⟨_, _, ok_cofactor_of F26 O C_product_of C_trace_of, PySem.W.mg_of X G a26, k26, B26⟩
  have C_inverse_of : Cal P w K mg base 4 "inverse_of" ["field", "a"] (sp_inverse_of K) := ⟨_, _, ok_inverse_of F27 O C_cofactor_of C_product_of, PySem.W.mg_of X G a27, k27, B27⟩
  exact ok_power F28 O c_GREATEST_POWER C_refusal_of C_is_zero C_one_form C_raised C_inverse_of
end Rr
open PySem PySem.W PyProof.Rows
set_option maxRecDepth 100000 in
set_option maxHeartbeats 0 in
theorem PySem.Challenge.cw_rootrows_s07_power_holds : PySem.Challenge.rw_rootrows_s07_power.Holds := by
  w_on; k_headS; (case hw => exact ⟨[.int 0, .list [], .list []], by decide +kernel, by decide +kernel⟩)
  k_fillS
  refine L2.walk_specK (r := PySem.Challenge.rw_rootrows_s07_power) (k := 22) (CX := L2.CX0) (ps := ["k", "field", "a"]) (sp := Rr.sp_power) (by decide +kernel) rfl rfl ⟨rfl, by decide, by decide⟩ (fun w h Y => PySem.W.kIn_of Y) ?F ?S (fun _ _ _ _ z => z)
  case F =>
    intro w mg fa h Y KX G hmg
    refine' Rr.all_mk KX G hmg ?a0 ?l0 ?c0 ?k0 ?a1 ?l1 ?c1 ?k1 ?a2 ?l2 ?c2 ?k2 ?a3 ?l3 ?c3 ?k3 ?a4 ?l4 ?c4 ?k4 ?a5 ?l5 ?c5 ?k5 ?a6 ?l6 ?c6 ?k6 ?a7 ?l7 ?c7 ?k7 ?a8 ?l8 ?c8 ?k8 ?a9 ?l9 ?c9 ?k9 ?a10 ?l10 ?c10 ?k10 ?a11 ?l11 ?c11 ?k11 ?a12 ?l12 ?c12 ?k12 ?a13 ?l13 ?c13 ?k13 ?a14 ?l14 ?c14 ?k14 ?a15 ?l15 ?c15 ?k15 ?a16 ?l16 ?c16 ?k16 ?a17 ?l17 ?c17 ?k17 ?a18 ?l18 ?c18 ?k18 ?a19 ?l19 ?c19 ?k19 ?a20 ?l20 ?c20 ?k20 ?a21 ?l21 ?c21 ?k21 ?a22 ?l22 ?c22 ?k22 ?a23 ?l23 ?c23 ?k23 ?a24 ?l24 ?c24 ?k24 ?a25 ?l25 ?c25 ?k25 ?a26 ?l26 ?c26 ?k26 ?a27 ?l27 ?c27 ?k27 ?a28 ?l28 ?c28 ?k28 ?b_abs ?b_len ?b_all ?b_any ?b_list ?b_reversed ?b_range ?b_max ?b_min ?b_zip ?b_ord ?b_str ?g_GREATEST_DEGREE ?g_GREATEST_SIZE ?g_SHORT_TO_HALVE ?g_SHORT_TO_DIVIDE ?g_GREATEST_POWER
    (case a0 => k_is)
    (case l0 => k_is)
    (case c0 => k_is)
    (case k0 => k_is)
    (case a1 => k_is)
    (case l1 => k_is)
    (case c1 => k_is)
    (case k1 => k_is)
    (case a2 => k_is)
    (case l2 => k_is)
    (case c2 => k_is)
    (case k2 => k_is)
    (case a3 => k_is)
    (case l3 => k_is)
    (case c3 => k_is)
    (case k3 => k_is)
    (case a4 => k_is)
    (case l4 => k_is)
    (case c4 => k_is)
    (case k4 => k_is)
    (case a5 => k_is)
    (case l5 => k_is)
    (case c5 => k_is)
    (case k5 => k_is)
    (case a6 => k_is)
    (case l6 => k_is)
    (case c6 => k_is)
    (case k6 => k_is)
    (case a7 => k_is)
    (case l7 => k_is)
    (case c7 => k_is)
    (case k7 => k_is)
    (case a8 => k_is)
    (case l8 => k_is)
    (case c8 => k_is)
    (case k8 => k_is)
    (case a9 => k_is)
    (case l9 => k_is)
    (case c9 => k_is)
    (case k9 => k_is)
    (case a10 => k_is)
    (case l10 => k_is)
    (case c10 => k_is)
    (case k10 => k_is)
    (case a11 => k_is)
    (case l11 => k_is)
    (case c11 => k_is)
    (case k11 => k_is)
    (case a12 => k_is)
    (case l12 => k_is)
    (case c12 => k_is)
    (case k12 => k_is)
    (case a13 => k_is)
    (case l13 => k_is)
    (case c13 => k_is)
    (case k13 => k_is)
    (case a14 => k_is)
    (case l14 => k_is)
    (case c14 => k_is)
    (case k14 => k_is)
    (case a15 => k_is)
    (case l15 => k_is)
    (case c15 => k_is)
    (case k15 => k_is)
    (case a16 => k_is)
    (case l16 => k_is)
    (case c16 => k_is)
    (case k16 => k_is)
    (case a17 => k_is)
    (case l17 => k_is)
    (case c17 => k_is)
    (case k17 => k_is)
    (case a18 => k_is)
    (case l18 => k_is)
    (case c18 => k_is)
    (case k18 => k_is)
    (case a19 => k_is)
    (case l19 => k_is)
    (case c19 => k_is)
    (case k19 => k_is)
    (case a20 => k_is)
    (case l20 => k_is)
    (case c20 => k_is)
    (case k20 => k_is)
    (case a21 => k_is)
    (case l21 => k_is)
    (case c21 => k_is)
    (case k21 => k_is)
    (case a22 => k_is)
    (case l22 => k_is)
    (case c22 => k_is)
    (case k22 => k_is)
    (case a23 => k_is)
    (case l23 => k_is)
    (case c23 => k_is)
    (case k23 => k_is)
    (case a24 => k_is)
    (case l24 => k_is)
    (case c24 => k_is)
    (case k24 => k_is)
    (case a25 => k_is)
    (case l25 => k_is)
    (case c25 => k_is)
    (case k25 => k_is)
    (case a26 => k_is)
    (case l26 => k_is)
    (case c26 => k_is)
    (case k26 => k_is)
    (case a27 => k_is)
    (case l27 => k_is)
    (case c27 => k_is)
    (case k27 => k_is)
    (case a28 => k_is)
    (case l28 => k_is)
    (case c28 => k_is)
    (case k28 => k_is)
    (case b_abs => k_is)
    (case b_len => k_is)
    (case b_all => k_is)
    (case b_any => k_is)
    (case b_list => k_is)
    (case b_reversed => k_is)
    (case b_range => k_is)
    (case b_max => k_is)
    (case b_min => k_is)
    (case b_zip => k_is)
    (case b_ord => k_is)
    (case b_str => k_is)
    (case g_GREATEST_DEGREE => k_is)
    (case g_GREATEST_SIZE => k_is)
    (case g_SHORT_TO_HALVE => k_is)
    (case g_SHORT_TO_DIVIDE => k_is)
    (case g_GREATEST_POWER => k_is)
  case S =>
    intro K H xs a hO hwi hask hx
    obtain ⟨l0, l1, l2, _⟩ := a
    cases hx with
    | cons h0 r0 =>
      cases r0 with
      | cons h1 r1 =>
        cases r1 with
        | cons h2 r2 =>
          cases r2
          cases h0
          cases h1 with
          | lst hs1 ha1 =>
            cases h2 with
            | lst hs2 ha2 =>
              have e1 := L2.ints_dw l1 _ ha1
              have e2 := L2.ints_dw l2 _ ha2
              subst e1 e2
              have q : (Codec.inInt (-9223372036854775807) 9223372036854775807 l0 && ((Codec.inLen 0 10 l1 && l1.all (Codec.inInt (-9223372036854775807) 9223372036854775807)) && ((Codec.inLen 0 10 l2 && l2.all (Codec.inInt (-9223372036854775807) 9223372036854775807)) && true))) = true := hwi
              simp only [Bool.and_eq_true] at q
              obtain ⟨q0, ⟨⟨q1, p1⟩, ⟨⟨q2, p2⟩, _⟩⟩⟩ := q
              refine ⟨_, _, l1, l2, l0, rfl, ⟨_, rfl, hs1⟩, ⟨_, rfl, hs2⟩, (Codec.inNat_iff.mp q1).2, (Codec.inNat_iff.mp q2).2, (Codec.inInt_iff.mp q0), fun z hz => ?_, fun H' y hy => ?_⟩
              · have := Codec.inInt_iff.mp (List.all_eq_true.mp p2 z hz)
                omega
              · obtain ⟨p, rfl, hp⟩ := hy
                exact .lst (L2.SqL.of hp) (L2.dw_ints _)
#print axioms PySem.Challenge.cw_rootrows_s07_power_holds
