import PyProof.Rows.All
import Wide.All
import OpenK.AllK
import Wide.FinOn
import PyProof.EqAt
import PyProof.EqKinds
import PyProof.TupleCall
import KE.BitLaws
import Open.SpecLaws
import KE.OsHead
import KE.OsGo
import KE.KDictList
import KE.KDictSum
import PyFlatLaws
import KE.RegKIsAll
import PySem.Challenge.RW_landregister_s01_answers
set_option Elab.async false
set_option linter.all false
set_option maxRecDepth 100000
namespace L2
open PySem PySem.Spec PyProof.Rows
abbrev Key := Sum Int Str
def Zem : Key → Value → Bool
  | .inl k, v => Value.isInt k v
  | .inr x, v => Value.isStrOf x v
def jhK (w : World) : Key → Int
  | .inl k => hashInt k
  | .inr x => hashStr w x
theorem yal : ∀ {k : Key} {v : Value}, Zem k v = true → (∃ i t, k = Sum.inl i ∧ v = Value.int i t) ∨ (∃ x t, k = Sum.inr x ∧ v = Value.str x t)
  | .inl i, v, h => by
    obtain ⟨t, e⟩ := Value.isInt_shape (k := i) (v := v) h
    exact .inl ⟨i, t, rfl, e⟩
  | .inr x, v, h => by
    obtain ⟨t, e⟩ := Value.isStrOf_shape (x := x) (v := v) h
    exact .inr ⟨x, t, rfl, e⟩
theorem Yg0 (i : Int) (t : Tok) : Zem (.inl i) (.int i t) = true := by simp [Zem, Value.isInt]
theorem jg0 (x : Str) (t : Tok) : Zem (.inr x) (.str x t) = true := by simp [Zem, Value.isStrOf]
theorem Jhx (a b : Int) : decide ((Sum.inl a : Key) = Sum.inl b) = (a == b) := by
  by_cases e : a = b
  · subst e; simp
  · have h : ¬ (Sum.inl a : Key) = Sum.inl b := fun q => e (Sum.inl.inj q)
    rw [decide_eq_false h]
    exact (beq_eq_false_iff_ne.mpr e).symm
theorem zhy (a b : Str) : decide ((Sum.inr a : Key) = Sum.inr b) = decide (a = b) := by
  by_cases e : a = b
  · subst e; simp
  · have h : ¬ (Sum.inr a : Key) = Sum.inr b := fun q => e (Sum.inr.inj q)
    rw [decide_eq_false h, decide_eq_false e]
theorem Zhy (a : Int) (b : Str) : decide ((Sum.inl a : Key) = Sum.inr b) = false := decide_eq_false (fun q => nomatch q)
theorem yhy (a : Str) (b : Int) : decide ((Sum.inr a : Key) = Sum.inl b) = false := decide_eq_false (fun q => nomatch q)
def zN (prog : Program) (w : World) : PySem.KeyKind prog w Key where
  is := Zem
  hash := jhK w
  inj := fun v a b ha hb => by
    rcases yal ha with ⟨i, t, rfl, rfl⟩ | ⟨x, t, rfl, rfl⟩
    · rcases yal hb with ⟨j, u, rfl, e⟩ | ⟨y, u, rfl, e⟩
      · injection e with e1 _; rw [e1]
      · exact nomatch e
    · rcases yal hb with ⟨j, u, rfl, e⟩ | ⟨y, u, rfl, e⟩
      · exact nomatch e
      · injection e with e1 _; rw [e1]
  byValue := fun k v h => by
    rcases yal h with ⟨i, t, rfl, rfl⟩ | ⟨x, t, rfl, rfl⟩ <;> rfl
  pyHash := fun hv h => by
    rcases yal hv with ⟨i, t, rfl, rfl⟩ | ⟨x, t, rfl, rfl⟩
    · exact wpAny_pyHash_int h
    · exact wpAny_pyHash_str h
  eqBool := fun hu hv h => by
    rcases yal hu with ⟨i, t, rfl, rfl⟩ | ⟨x, t, rfl, rfl⟩
    · rcases yal hv with ⟨j, u, rfl, rfl⟩ | ⟨y, u, rfl, rfl⟩
      · rw [Jhx] at h; exact wpAny_eqBool_int h
      · rw [Zhy] at h; exact SeqAt.EqAt.int_str i t y u _ _ _ _ h
    · rcases yal hv with ⟨j, u, rfl, rfl⟩ | ⟨y, u, rfl, rfl⟩
      · rw [yhy] at h; exact SeqAt.EqAt.str_int x t j u _ _ _ _ h
      · rw [zhy] at h; exact wpAny_eqBool_str h
  «strs» := fun k x t v h => by
    rcases yal h with ⟨i, u, rfl, e⟩ | ⟨y, u, rfl, e⟩
    · exact nomatch e
    · injection e with e1 _
      subst e1
      cases v <;> rfl
theorem Ygt (prog : Program) (w : World) (i : Int) (t : Tok) : (zN prog w).is (.inl i) (.int i t) = true := Yg0 i t
theorem jgt (prog : Program) (w : World) (x : Str) (t : Tok) : (zN prog w).is (.inr x) (.str x t) = true := jg0 x t
end L2
namespace L2
open PySem PySem.Spec PyProof.Rows
inductive V where
  | non | bl (b : Bool) | int (i : Int) | str (x : Str) | byt (b : Array UInt8) | flt (b : UInt64) | ref (a : Addr) | ty (n : String)
  deriving DecidableEq
def RelV : V → Value → Prop
  | .non, u => u = Value.none
  | .bl b, u => u = Value.bool b
  | .int i, u => ∃ t, u = Value.int i t
  | .str x, u => ∃ t, u = Value.str x t
  | .byt b, u => ∃ t, u = Value.bytes b t
  | .flt b, u => ∃ t, u = Value.float b t
  | .ref a, u => u = Value.ref a
  | .ty n, u => u = Value.type n
abbrev Vals : List V → List Value → Prop := Paired RelV
theorem Vals.length {xs : List V} {us : List Value} (r : Vals xs us) : xs.length = us.length := Paired.length r
theorem Vals.get : ∀ {xs : List V} {us : List Value} {i : Nat} {x : V}, Vals xs us → xs[i]? = some x → ∃ u, us[i]? = some u ∧ RelV x u
  | _, _, _, _, .nil, e => by simp at e
  | _, _, 0, _, .cons r _, e => by simp at e; subst e; exact ⟨_, rfl, r⟩
  | _, _, i + 1, x, .cons _ t, e => by
    obtain ⟨u, h1, h2⟩ := Vals.get (i := i) (x := x) t (by simpa using e)
    exact ⟨u, by simpa using h1, h2⟩
theorem Vals.append : ∀ {xs ys : List V} {us ws : List Value}, Vals xs us → Vals ys ws → Vals (xs ++ ys) (us ++ ws)
  | _, _, _, _, .nil, s => s
  | _, _, _, _, .cons r t, s => .cons r (Vals.append t s)
theorem Vals.take : ∀ {xs : List V} {us : List Value} (n : Nat), Vals xs us → Vals (xs.take n) (us.take n)
  | _, _, 0, _ => .nil
  | _, _, _ + 1, .nil => .nil
  | _, _, n + 1, .cons r t => .cons r (Vals.take n t)
theorem Vals.drop : ∀ {xs : List V} {us : List Value} (n : Nat), Vals xs us → Vals (xs.drop n) (us.drop n)
  | _, _, 0, r => r
  | _, _, _ + 1, .nil => .nil
  | _, _, n + 1, .cons _ t => Vals.drop n t
def jdm : Option V → Option Value → Prop
  | some v, some u => RelV v u
  | none, none => True
  | _, _ => False
def KV {κ : Type} : List (κ × V) → List (κ × Value) → Prop := Paired fun (p : κ × V) (q : κ × Value) => p.1 = q.1 ∧ RelV p.2 q.2
def kV : Key → V
  | .inl i => .int i
  | .inr x => .str x
inductive HO where
    | lst (xs : List V)
    | tup (xs : List V)
    | dK (kvs : List (Key × V)) | dT (kvs : List (List Key × V))
    | set (S : Int → Bool) (n : Nat)
    | ins (C dx : Addr) (fs : List (Str × V))
    | own (x : Addr)
    | xd (fs : List (Str × V))
    | met (f x : Addr)
    | rng (lo hi : Int)
    | frz (o : Obj) (u : HO)
    | tbl (ps : Array Value)
    | ext (φ : Heap → Prop)
abbrev Hp := Addr → Option HO
def upd (H : Hp) (a : Addr) (o : HO) : Hp := fun b => if b = a then some o else H b
theorem Ja {H : Hp} {a : Addr} {o : HO} : upd H a o a = some o := by unfold upd; rw [if_pos rfl]
theorem Zc {H : Hp} {a b : Addr} {o : HO} (h : b ≠ a) : upd H a o b = H b := by unfold upd; rw [if_neg h]
theorem Yai {H : Hp} {a : Addr} {o u : HO} : upd (upd H a o) a u = upd H a u := by
  funext b; unfold upd; split <;> rfl
theorem zaR {H : Hp} {a b : Addr} {o u : HO} (h : H a = some o) (h' : H b = some u) (d : o ≠ u) : a ≠ b := by
  intro e; subst e; rw [h] at h'; exact d (Option.some.inj h')
theorem yd {H : Hp} {a b : Addr} {o : HO} (h : H a = some o) (h' : H b = none) : a ≠ b := by
  intro e; subst e; rw [h] at h'; cases h'
section
variable (P : Program) (w : World)
def yO (H : Hp) (h : Heap) (a : Addr) : HO → Prop
  | .lst xs => xs.length ≤ sizeLine ∧ ∃ (its : List Value) (n : Nat), Vals xs its ∧ h.get? a = some { cls := .type "list", data := .seq its.toArray n }
  | .tup xs => xs.length ≤ sizeLine ∧ ∃ its : List Value, Vals xs its ∧ IsTup h a its.toArray
  | .dK kvs => kvs.length ≤ sizeLine ∧ (a == sysModules) = false ∧ ∃ vs, KV kvs vs ∧ h.DictOf (zN P w) a vs
  | .dT kvs => kvs.length ≤ sizeLine ∧ (a == sysModules) = false ∧ ∃ xs : List (List Key × Addr × Value),
      Paired (fun (p : List Key × V) (q : List Key × Addr × Value) => p.1 = q.1 ∧ H q.2.1 = some (.tup (p.1.map kV)) ∧ RelV p.2 q.2.2) kvs xs ∧
      ∃ o es ep, h.get? a = some o ∧ o.ExactDict ∧ o.data = .dict es ep ∧ es.toList = xs.map (entryOfKey (tupleKind (zN P w))) ∧ (xs.map (·.1)).Nodup
  | .set S n => h.SetOf (intKind P w) a S n
  | .ins C dx fs => H dx = some (.own a) ∧ fs.length ≤ 1000 ∧ dx ≠ a ∧ h.get? a = some (PySem.W.instObj C dx) ∧
      ∃ mA, h.Ns1 dx mA ∧ (∀ f, jdm (fs.lookup f) (mA f)) ∧ PySem.Within mA (fs.map (·.1))
  | .own _ => ∃ o, h.get? a = some o
  | .xd fs => ∃ mA, h.Ns1 a mA ∧ ∀ f, jdm (fs.lookup f) (mA f)
  | .rng lo hi => ∃ t u v, h.get? a = some { cls := .type "range", data := .fields #[.int lo t, .int hi u, .int 1 v] }
  | .frz o u => h.get? a = some o ∧ yO H h a u
  | .tbl ps => h.get? a = some { cls := .none, data := .fields ps }
  | .met f x => h.get? a = some (PySem.W.methodObj (.ref f) (.ref x))
  | .ext φ => φ h ∧ (∃ o, h.get? a = some o) ∧ ∀ h1 h2 : Heap, φ h1 → (∀ o, h1.get? a = some o → h2.get? a = some o) → φ h2
def HOk (H : Hp) (h : Heap) : Prop := ∀ a o, H a = some o → yO P w H h a o
end
section
variable {P : Program} {w : World} {H H' : Hp} {h h' : Heap} {a : Addr} {o : HO}
theorem yO.lt (x : yO P w H h a o) : a < h.objs.size := by
  cases o with
  | lst xs => obtain ⟨_, _, _, _, e⟩ := x; exact Heap.lt_size e
  | tup xs => obtain ⟨_, _, _, p⟩ := x; exact p.lt
  | dK kvs => obtain ⟨_, _, _, _, o, _, _, e, _⟩ := x; exact Heap.lt_size e
  | dT kvs => obtain ⟨_, _, _, _, o, _, _, e, _⟩ := x; exact Heap.lt_size e
  | set S n => obtain ⟨o, _, _, _, e, _⟩ := x; exact Heap.lt_size e
  | ins C dx fs => obtain ⟨_, _, _, e, _⟩ := x; exact Heap.lt_size e
  | own y => obtain ⟨_, e⟩ := x; exact Heap.lt_size e
  | xd fs => obtain ⟨_, ⟨_, _, _, e, _⟩, _⟩ := x; exact Heap.lt_size e
  | rng lo hi => obtain ⟨_, _, _, e⟩ := x; exact Heap.lt_size e
  | frz ob u => obtain ⟨e, _⟩ := x; exact Heap.lt_size e
  | tbl ps => exact Heap.lt_size (show h.get? a = some _ from x)
  | met f y => exact Heap.lt_size (show h.get? a = some _ from x)
  | ext φ => obtain ⟨_, ⟨_, e⟩, _⟩ := x; exact Heap.lt_size e
theorem Paired.Yei {α β : Type} {F G : α → β → Prop} : ∀ {l₁ : List α} {l₂ : List β}, Paired F l₁ l₂ → (∀ a b, F a b → G a b) → Paired G l₁ l₂
  | _, _, .nil, _ => .nil
  | _, _, .cons r t, f => .cons (f _ _ r) (Paired.Yei t f)
theorem yO.stay (x : yO P w H h a o) (k : ∀ b u, (b = a ∨ H b = some (.own a)) → h.get? b = some u → h'.get? b = some u)
    (ho : ∀ b, H b = some (.own a) → H' b = some (.own a)) (ht : ∀ b xs, H b = some (.tup xs) → H' b = some (.tup xs)) : yO P w H' h' a o := by
  induction o with
  | lst xs => obtain ⟨z, its, n, r, e⟩ := x; exact ⟨z, its, n, r, k _ _ (.inl rfl) e⟩
  | tup xs => obtain ⟨z, its, r, ob, e, c⟩ := x; exact ⟨z, its, r, ob, k _ _ (.inl rfl) e, c⟩
  | dK kvs => obtain ⟨z, y, vs, r, ob, es, ep, e, c⟩ := x; exact ⟨z, y, vs, r, ob, es, ep, k _ _ (.inl rfl) e, c⟩
  | dT kvs =>
    obtain ⟨z, y, xs, r, ob, es, ep, e, c⟩ := x
    exact ⟨z, y, xs, Paired.Yei r fun p q z => ⟨z.1, ht _ _ z.2.1, z.2.2⟩, ob, es, ep, k _ _ (.inl rfl) e, c⟩
  | set S n => obtain ⟨ob, es, ep, t, e, c⟩ := x; exact ⟨ob, es, ep, t, k _ _ (.inl rfl) e, c⟩
  | ins C dx fs =>
    obtain ⟨d, z, ne, e, mA, ⟨od, es, ep, e2, c⟩, r⟩ := x
    exact ⟨ho _ d, z, ne, k _ _ (.inl rfl) e, mA, ⟨od, es, ep, k _ _ (.inr d) e2, c⟩, r⟩
  | own y => obtain ⟨ob, e⟩ := x; exact ⟨ob, k _ _ (.inl rfl) e⟩
  | xd fs => obtain ⟨mA, ⟨od, es, ep, e, c⟩, r⟩ := x; exact ⟨mA, ⟨od, es, ep, k _ _ (.inl rfl) e, c⟩, r⟩
  | rng lo hi => obtain ⟨t, u, v, e⟩ := x; exact ⟨t, u, v, k _ _ (.inl rfl) e⟩
  | frz ob u ih => obtain ⟨e, q⟩ := x; exact ⟨k _ _ (.inl rfl) e, ih q⟩
  | tbl ps =>
    have e : h.get? a = some { cls := .none, data := .fields ps } := x
    show h'.get? a = some { cls := .none, data := .fields ps }
    exact k a _ (.inl rfl) e
  | met f y =>
    have e : h.get? a = some (PySem.W.methodObj (.ref f) (.ref y)) := x
    show h'.get? a = some (PySem.W.methodObj (.ref f) (.ref y))
    exact k a _ (.inl rfl) e
  | ext φ => obtain ⟨p, ⟨o, e⟩, st⟩ := x; exact ⟨st _ _ p fun o q => k _ _ (.inl rfl) q, ⟨o, k _ _ (.inl rfl) e⟩, st⟩
theorem HOk.lt (x : HOk P w H h) (e : H a = some o) : a < h.objs.size := (x a o e).lt
theorem HOk.fresh (x : HOk P w H h) (e : h.objs.size ≤ a) : H a = none := by
  cases q : H a with
  | none => rfl
  | some u => exact absurd (Nat.lt_of_lt_of_le (x.lt q) e) (Nat.lt_irrefl _)
theorem HOk.kept (x : HOk P w H h) (k : ∀ b u, h.get? b = some u → h'.get? b = some u) : HOk P w H h' := fun a o e =>
  (x a o e).stay (fun b u _ q => k b u q) (fun _ q => q) fun _ _ q => q
theorem HOk.laid (x : HOk P w H h) (k : ∀ b u, h.get? b = some u → h'.get? b = some u) (hp : h.objs.size ≤ a) (new : yO P w (upd H a o) h' a o) : HOk P w (upd H a o) h' := fun b u e => by
  have hn := x.fresh hp
  by_cases hb : b = a
  · subst hb; rw [Ja] at e; cases e; exact new
  · rw [Zc hb] at e
    exact (x b u e).stay (fun c v _ q => k c v q) (fun c q => by rw [Zc (yd q hn)]; exact q) fun c xs q => by rw [Zc (yd q hn)]; exact q
end
def Rd (H : Hp) (a : Addr) (u : HO) : Prop := H a = some u ∨ ∃ o, H a = some (.frz o u)
theorem Rd.ok {P : Program} {w : World} {H : Hp} {h : Heap} {a : Addr} {u : HO} (r : Rd H a u) (x : HOk P w H h) : yO P w H h a u := by
  rcases r with r | ⟨o, r⟩
  · exact x a u r
  · obtain ⟨_, q⟩ := x a _ r
    exact q
def Mut : Option HO → Prop
  | some (.lst _) => True
  | some (.dK _) => True
  | some (.dT _) => True
  | some (.set _ _) => True
  | some (.ins _ _ _) => True
  | some (.ext _) => True
  | _ => False
section
variable {P : Program} {w : World} {H : Hp} {h h' : Heap} {x e : Addr} {o' : HO}
theorem HOk.write (ok : HOk P w H h) (mu : Mut (H x)) (he : e = x ∨ H e = some (.own x)) (k : ∀ b u, b ≠ e → h.get? b = some u → h'.get? b = some u) (heo : ∃ u, h'.get? e = some u)
    (new : yO P w (upd H x o') h' x o') : HOk P w (upd H x o') h' := fun b u q => by
  have nown : ∀ c y, H c = some (.own y) → c ≠ x := fun c y r z => by subst z; rw [r] at mu; exact mu
  have ntup : ∀ c xs, H c = some (.tup xs) → c ≠ x := fun c xs r z => by subst z; rw [r] at mu; exact mu
  by_cases hb : b = x
  · subst hb; rw [Ja] at q; cases q; exact new
  · rw [Zc hb] at q
    by_cases hbe : b = e
    · have q' : H b = some (.own x) := by
        rcases he with z | z
        · exact absurd (hbe.trans z) hb
        · rw [hbe]; exact z
      rw [q] at q'; cases q'
      obtain ⟨v, hv⟩ := heo
      exact ⟨v, by rw [hbe]; exact hv⟩
    · refine (ok b u q).stay (fun c v hc r => k c v ?_ r) (fun c r => by rw [Zc (nown c b r)]; exact r) fun c xs r => by rw [Zc (ntup c xs r)]; exact r
      rcases hc with rfl | hc
      · exact hbe
      · rintro rfl
        rcases he with z | z
        · exact nown c b hc z
        · rw [hc] at z; cases z; exact hb rfl
end
structure Un (fs ex : List Addr) (H H' : Hp) (h h' : Heap) : Prop where
  keep : ∀ b o, h.get? b = some o → H b = none → b ∉ fs → b ∉ ex → h'.get? b = some o
  slot : ∀ b o, h.get? b = some o → H b = none → b ∈ fs → b ∉ ex → ∃ sl, h'.get? b = some { o with slots := sl }
  free : ∀ b o, h.get? b = some o → H b = none → b ∉ ex → H' b = none
  there : ∀ b o, h.get? b = some o → b ∉ ex → ∃ o', h'.get? b = some o'
  tups : ∀ b xs, H b = some (.tup xs) → H' b = some (.tup xs)
  frzs : ∀ b o u, H b = some (.frz o u) → H' b = some (.frz o u)
  tbls : ∀ b ps, H b = some (.tbl ps) → ∃ more, H' b = some (.tbl (ps ++ more))
section
variable {fs fs' ex ex' : List Addr} {H H1 H2 : Hp} {h h1 h2 h' : Heap} {a x e : Addr} {o : HO}
theorem Un.any (u : Un fs ex H H1 h h1) {b : Addr} {ob : Obj} (q : h.get? b = some ob) (n : H b = none) (hx : b ∉ ex) : ∃ sl, h1.get? b = some { ob with slots := sl } := by
  by_cases hb : b ∈ fs
  · exact u.slot b ob q n hb hx
  · exact ⟨ob.slots, u.keep b ob q n hb hx⟩
theorem Un.kept (k : ∀ b u, h.get? b = some u → h'.get? b = some u) : Un fs ex H H h h' :=
  ⟨fun b ob q _ _ _ => k b ob q, fun b ob q _ _ _ => ⟨ob.slots, k b ob q⟩, fun _ _ _ n _ => n, fun b ob q _ => ⟨ob, k b ob q⟩, fun _ _ q => q, fun _ _ _ q => q, fun _ ps q => ⟨#[], by rw [q]; simp⟩⟩
theorem Un.refl : Un fs ex H H h h := Un.kept fun _ _ q => q
theorem Un.laid (k : ∀ b u, h.get? b = some u → h'.get? b = some u) (hp : h.objs.size ≤ a) (hn : H a = none) : Un fs ex H (upd H a o) h h' where
  keep := fun b u q _ _ _ => k b u q
  slot := fun b u q _ _ _ => ⟨u.slots, k b u q⟩
  free := fun b u q n _ => by rw [Zc (Nat.ne_of_lt (Nat.lt_of_lt_of_le (Heap.lt_size q) hp))]; exact n
  there := fun b u q _ => ⟨u, k b u q⟩
  tups := fun b xs q => by rw [Zc (yd q hn)]; exact q
  frzs := fun b u xs q => by rw [Zc (yd q hn)]; exact q
  tbls := fun b ps q => ⟨#[], by rw [Zc (yd q hn), q]; simp⟩
theorem Un.write (mu : Mut (H x)) (he : e = x ∨ H e = some (.own x)) (k : ∀ b u, b ≠ e → h.get? b = some u → h'.get? b = some u) (heo : ∃ u, h'.get? e = some u) : Un fs ex H (upd H x o) h h' := by
  have hx : ∀ b, H b = none → b ≠ x := fun b n z => by subst z; rw [n] at mu; exact mu
  have hb : ∀ b, H b = none → b ≠ e := fun b n z => by
    subst z
    rcases he with r | r
    · exact hx b n r
    · rw [n] at r; cases r
  have hm : ∀ b u, H b = some u → ¬ Mut (some u) → b ≠ x := fun b u q nm z => by subst z; rw [q] at mu; exact nm mu
  refine ⟨fun b u q n _ _ => k b u (hb b n) q, fun b u q n _ _ => ⟨u.slots, k b u (hb b n) q⟩, fun b u q n _ => by rw [Zc (hx b n)]; exact n, fun b u q _ => ?_,
    fun b xs q => by rw [Zc (hm b _ q fun z => z)]; exact q, fun b u xs q => by rw [Zc (hm b _ q fun z => z)]; exact q, fun b ps q => ⟨#[], by rw [Zc (hm b _ q fun z => z), q]; simp⟩⟩
  by_cases hbe : b = e
  · subst hbe; exact heo
  · exact ⟨u, k b u hbe q⟩
end
def trk (h : Heap) (H : Hp) : List Addr := (List.range h.objs.size).filter fun a => (H a).isSome
def Jgd (h : Heap) (H : Hp) : Heap := PySem.W.hideAll h (trk h H)
theorem Jg0 (h : Heap) (H : Hp) : (Jgd h H).objs.size = h.objs.size := PySem.W.hideAll_size _ _
theorem Jg9 {h : Heap} {H : Hp} {b : Addr} {o : Obj} (e : h.get? b = some o) (n : H b = none) : (Jgd h H).get? b = some o :=
  PySem.W.hideAll_get _ e fun hm => by
    have q : (H b).isSome = true := (List.mem_filter.mp hm).2
    rw [n] at q; simp at q
theorem Zho {h : Heap} {H : Hp} {b : Addr} {o : Obj} (e : (Jgd h H).get? b = some o) : h.get? b = some o ∧ H b = none := by
  have e' : h.get? b = some o := PySem.W.of_hideAll (trk h H) e
  refine ⟨e', ?_⟩
  cases q : H b with
  | none => rfl
  | some x =>
    have hm : b ∈ trk h H := List.mem_filter.mpr ⟨List.mem_range.mpr (Heap.lt_size e'), by simp [q]⟩
    have z : (Jgd h H).get? b = none := PySem.W.hideAll_none (trk h H) hm
    rw [z] at e; cases e
end L2
namespace L2
open PySem PySem.Spec PyProof.Rows
structure Mod (K : PySem.W.Frag) (mg : Str → Option Value) (base : Heap) : Prop where
  kin : K.In base
  glob : base.Ns mainGlobals mg
  blt : ∃ mb, base.Ns builtinsNs mb ∧ ∀ x : Str, x ≠ "__name__" → mb x = bootBuiltins x
  nolimit : base.NoLimit
structure Cx where
  prog : Program
  w : World
  K : PySem.W.Frag
  mg : Str → Option Value
  base : Heap
  A : Around
  N : List Str
  s_0 : Shared
  H_0 : Hp
  env : Env
  outer : List Env
  stack : List Env
  ex : List Addr
  fn : Str → Bool
  calm : Bool
  pn : List (Addr × Obj)
  xe : Value → Shared → Prop
def frs (l : List Env) : List Addr := l.filterMap (·.frame)
abbrev Cx.fs (X : Cx) : List Addr := frs X.outer
def Vis (sc : Scope) (x : Str) : Prop := sc.names.lookup x = some .local ∨ sc.names.lookup x = some .cell ∨ sc.names.lookup x = some .free
def Loc (sc : Scope) (x : Str) : Prop := sc.names.lookup x = some .local ∨ sc.names.lookup x = some .cell
def Look (env : Env) (h : Heap) (m : Str → Option Value) (x : Str) (u : Value) : Prop :=
  (env.kindOf x = some .local ∧ m x = some u) ∨ ((env.kindOf x = some .cell ∨ env.kindOf x = some .free) ∧ ∃ c, env.cells.lookup x = some c ∧ h.IsCell c (some u))
structure Cx.Ok (X : Cx) : Prop where
  mod : Mod X.K X.mg X.base
  kind : X.env.scope.kind = .function
  glob : X.env.globals = mainGlobals
  blt : X.env.builtins = builtinsNs
  above : X.s_0.heap.objs.size ≤ X.env.locals
  inj : ∀ x y c, X.env.cells.lookup x = some c → X.env.cells.lookup y = some c → x = y
  has : ∀ x, (X.env.kindOf x = some .cell ∨ X.env.kindOf x = some .free) → ∃ c, X.env.cells.lookup x = some c
  cab : ∀ x c, X.fn x = true → X.env.cells.lookup x = some c → X.s_0.heap.objs.size ≤ c
  hd : X.calm = true → X.A.handled = none
  frames : X.A.frames = some X.stack
  stk : X.stack = X.outer ∨ (X.stack = X.env :: X.outer ∧ X.env.frame = some X.env.locals)
  exf : ∀ b ∈ X.ex, b ≠ X.env.locals ∧ ∀ x c, X.env.cells.lookup x = some c → c ≠ b
  bs : ∀ b o, X.base.get? b = some o → X.s_0.heap.get? b = some o ∧ X.H_0 b = none
  bsz : X.base.objs.size ≤ X.s_0.heap.objs.size
  noex : ∀ b o, X.base.get? b = some o → b ∉ X.ex
  exfs : ∀ b ∈ X.ex, b ∉ X.fs
  yfo : X.s_0.heap.FunFrames X.base X.outer
  frf : ∀ b ∈ X.fs, X.H_0 b = none
structure Inv (X : Cx) (pins : List (Addr × Obj)) (σ : List (Option V)) (H : Hp) (s : Shared) : Prop where
  ok : X.Ok
  os : s.os = X.s_0.os
  bare : AllBare s.gens
  base : Un X.fs X.ex X.H_0 H X.s_0.heap s.heap
  loc : ∃ m, s.heap.Ns X.env.locals m ∧ ∀ (i : Nat) (x : Str) (v : V), X.N[i]? = some x → σ[i]? = some (some v) → Vis X.env.scope x → ∃ u, RelV v u ∧ Look X.env s.heap m x u
  cell : ∀ x c, X.env.cells.lookup x = some c → ∃ v, s.heap.IsCell c v
  free : H X.env.locals = none
  freeC : ∀ x c, X.env.cells.lookup x = some c → H c = none
  pin : ∀ p ∈ X.pn ++ pins, s.heap.get? p.1 = some p.2 ∧ H p.1 = none ∧ p.1 ≠ X.env.locals ∧ p.1 ∉ X.fs ∧ ∀ v, p.2.data ≠ .cell v
  hok : HOk X.prog X.w H s.heap
  len : σ.length = X.N.length
section
variable {X : Cx} {pins : List (Addr × Obj)} {σ : List (Option V)} {H H' : Hp} {s : Shared} {h' : Heap}
theorem Cx.Ok.JhK (ok : X.Ok) {b : Addr} {o : Obj} (e : X.base.get? b = some o) : b ∉ X.fs := fun hb => by
  have := (ok.yfo.mem hb).1
  rw [e] at this; cases this
theorem Inv.bs (I : Inv X pins σ H s) : ∀ b o, X.base.get? b = some o → s.heap.get? b = some o ∧ H b = none := fun b o e =>
  ⟨I.base.keep b o (I.ok.bs b o e).1 (I.ok.bs b o e).2 (I.ok.JhK e) (I.ok.noex b o e), I.base.free b o (I.ok.bs b o e).1 (I.ok.bs b o e).2 (I.ok.noex b o e)⟩
theorem Inv.bk (I : Inv X pins σ H s) : ∀ b o, X.base.get? b = some o → s.heap.get? b = some o := fun b o e => (I.bs b o e).1
theorem Inv.mod (I : Inv X pins σ H s) : Mod X.K X.mg X.base := I.ok.mod
theorem Inv.kIn (I : Inv X pins σ H s) : X.K.In s.heap := I.ok.mod.kin.keeps I.bk
theorem Inv.fr (I : Inv X pins σ H s) : ∃ m, Fr X.base X.env.locals s.heap m :=
  let ⟨m, hn, _⟩ := I.loc
  ⟨m, hn, I.bk, Nat.le_trans I.ok.bsz I.ok.above⟩
theorem Inv.lt (I : Inv X pins σ H s) : X.env.locals < s.heap.objs.size := let ⟨_, hn, _⟩ := I.loc; hn.lt
theorem Inv.sz (I : Inv X pins σ H s) : X.s_0.heap.objs.size ≤ s.heap.objs.size := Nat.le_trans I.ok.above (Nat.le_of_lt I.lt)
theorem Inv.zhL (I : Inv X pins σ H s) {a : Addr} (h : s.heap.objs.size ≤ a) : a ∉ X.fs := fun hb => by
  obtain ⟨_, o, ho, _⟩ := I.ok.yfo.mem hb
  exact absurd (Nat.lt_of_lt_of_le (Heap.lt_size ho) (Nat.le_trans I.sz h)) (Nat.lt_irrefl _)
theorem Inv.cne (I : Inv X pins σ H s) : ∀ x c, X.env.cells.lookup x = some c → c ≠ X.env.locals := fun x c e z => by
  obtain ⟨v, o, ho, hd⟩ := I.cell x c e
  obtain ⟨m, ⟨o', es, ep, ho', hd', _⟩, _⟩ := I.loc
  rw [z, ho'] at ho; cases ho; rw [hd'] at hd; cases hd
theorem Inv.yfo (I : Inv X pins σ H s) : s.heap.FunFrames X.base X.outer := by
  have all : ∀ (l : List Env), (∀ b ∈ frs l, b ∈ X.fs) → X.s_0.heap.FunFrames X.base l → s.heap.FunFrames X.base l := by
    intro l
    induction l with
    | nil => intro _ _; trivial
    | cons env r ih =>
      intro hs hl
      obtain ⟨hk, ⟨L, o, hf, hn, ho, hd⟩, hr⟩ := hl
      have hL : L ∈ X.fs := hs L (by unfold frs; rw [List.filterMap_cons, hf]; exact List.mem_cons_self)
      obtain ⟨sl, e⟩ := I.base.slot L o ho (I.ok.frf L hL) hL fun z => I.ok.exfs L z hL
      exact ⟨hk, ⟨L, _, hf, hn, e, hd⟩, ih (fun b hb => hs b (by unfold frs; rw [List.filterMap_cons, hf]; exact List.mem_cons_of_mem _ hb)) hr⟩
  exact all X.outer (fun _ hb => hb) I.ok.yfo
theorem Inv.stack (I : Inv X pins σ H s) : s.heap.FunFrames X.base X.stack := by
  rcases I.ok.stk with e | ⟨e, hf⟩
  · rw [e]; exact I.yfo
  · rw [e]
    obtain ⟨m, hn, _⟩ := I.loc
    refine .cons (by rw [I.ok.kind]; decide) hf hn ?_ I.yfo
    exact Heap.get?_none_of_le (Nat.le_trans I.ok.bsz I.ok.above)
theorem Inv.ZgJ (I : Inv X pins σ H s) : ∀ b ∈ frs X.stack, b ∈ X.env.locals :: X.fs := fun b hb => by
  rcases I.ok.stk with e | ⟨e, hf⟩
  · rw [e] at hb; exact List.mem_cons_of_mem _ hb
  · rw [e] at hb
    unfold frs at hb
    rw [List.filterMap_cons, hf] at hb
    exact hb
theorem Inv.ygS (I : Inv X pins σ H s) : ∀ b ∈ frs X.stack, H b = none := fun b hb => by
  rcases List.mem_cons.mp (I.ZgJ b hb) with e | hb
  · rw [e]; exact I.free
  · obtain ⟨_, o, ho, _⟩ := I.ok.yfo.mem hb
    exact I.base.free b o ho (I.ok.frf b hb) fun z => I.ok.exfs b z hb
theorem Inv.step {g' : Array GenState} {t' : Nat} {d' : Drawn} {ch : List Addr} (I : Inv X pins σ H s)
    (hch : ∀ b ∈ ch, (b ∈ X.ex ∨ X.s_0.heap.objs.size ≤ b) ∧ b ≠ X.env.locals ∧ (∀ x c, X.env.cells.lookup x = some c → c ≠ b) ∧ ∀ p ∈ X.pn ++ pins, p.1 ≠ b)
    (keep : ∀ b o, b ≠ X.env.locals → b ∉ X.fs → b ∉ ch → s.heap.get? b = some o → H b = none → h'.get? b = some o)
    (slot : ∀ b o, b ≠ X.env.locals → b ∈ X.fs → b ∉ ch → s.heap.get? b = some o → H b = none → ∃ sl, h'.get? b = some { o with slots := sl }) (free : ∀ b o, b ∉ ch → s.heap.get? b = some o → H b = none → H' b = none)
    (there : ∀ b o, b ∉ ch → s.heap.get? b = some o → ∃ o', h'.get? b = some o')
    (tups : ∀ b xs, H b = some (.tup xs) → H' b = some (.tup xs)) (frzs : ∀ b o u, H b = some (.frz o u) → H' b = some (.frz o u)) (tbls : ∀ b ps, H b = some (.tbl ps) → ∃ more, H' b = some (.tbl (ps ++ more)))
    (ns : ∀ m, s.heap.Ns X.env.locals m → h'.Ns X.env.locals m) (hok : HOk X.prog X.w H' h') (hg : AllBare g') :
    Inv X pins σ H' { s with heap := h', gens := g', drawn := d', toks := t' } := by
  have neL : ∀ b o, X.s_0.heap.get? b = some o → b ≠ X.env.locals := fun b o e => Nat.ne_of_lt (Nat.lt_of_lt_of_le (Heap.lt_size e) I.ok.above)
  have neC : ∀ b o, X.s_0.heap.get? b = some o → b ∉ X.ex → b ∉ ch := fun b o e hx hb => by
    rcases (hch b hb).1 with z | z
    · exact hx z
    · exact absurd (Nat.lt_of_lt_of_le (Heap.lt_size e) z) (Nat.lt_irrefl _)
  have cellK : ∀ x c, X.env.cells.lookup x = some c → ∀ v, s.heap.IsCell c v → h'.IsCell c v := fun x c e v ⟨o, ho, hd⟩ => by
    have nch : c ∉ ch := fun z => (hch c z).2.2.1 x c e rfl
    by_cases hc : c ∈ X.fs
    · obtain ⟨sl, q⟩ := slot c o (I.cne x c e) hc nch ho (I.freeC x c e)
      exact ⟨_, q, hd⟩
    · exact ⟨o, keep c o (I.cne x c e) hc nch ho (I.freeC x c e), hd⟩
  refine ⟨I.ok, I.os, hg, ⟨fun b o e n hb hx => ?_, fun b o e n hb hx => ?_, fun b o e n hx => ?_, fun b o e hx => ?_, fun b xs e => tups b xs (I.base.tups b xs e), fun b o xs e => frzs b o xs (I.base.frzs b o xs e), fun b ps e => ?_⟩, ?_, fun x c e => ?_, ?_, fun x c e => ?_, fun p hp => ?_, hok, I.len⟩
  · exact keep b o (neL b o e) hb (neC b o e hx) (I.base.keep b o e n hb hx) (I.base.free b o e n hx)
  · obtain ⟨sl, e1⟩ := I.base.slot b o e n hb hx
    obtain ⟨sl', e2⟩ := slot b _ (neL b o e) hb (neC b o e hx) e1 (I.base.free b o e n hx)
    exact ⟨sl', e2⟩
  · obtain ⟨o', e1⟩ := I.base.there b o e hx
    exact free b o' (neC b o e hx) e1 (I.base.free b o e n hx)
  · obtain ⟨o', e1⟩ := I.base.there b o e hx
    exact there b o' (neC b o e hx) e1
  · obtain ⟨m1, e1⟩ := I.base.tbls b ps e
    obtain ⟨m2, e2⟩ := tbls b _ e1
    exact ⟨m1 ++ m2, by rw [e2, Array.append_assoc]⟩
  · obtain ⟨m, hn, hl⟩ := I.loc
    refine ⟨m, ns m hn, fun i x v e1 e2 e3 => ?_⟩
    obtain ⟨u, r, l⟩ := hl i x v e1 e2 e3
    refine ⟨u, r, ?_⟩
    rcases l with l | ⟨k, c, e, z⟩
    · exact .inl l
    · exact .inr ⟨k, c, e, cellK x c e _ z⟩
  · obtain ⟨v, z⟩ := I.cell x c e
    exact ⟨v, cellK x c e v z⟩
  · obtain ⟨m, ⟨o, _, _, ho, _⟩, _⟩ := I.loc
    exact free _ o (fun z => (hch _ z).2.1 rfl) ho I.free
  · obtain ⟨v, o, ho, hd⟩ := I.cell x c e
    exact free c o (fun z => (hch c z).2.2.1 x c e rfl) ho (I.freeC x c e)
  · obtain ⟨e, n, ne, nf, d⟩ := I.pin p hp
    have nch : p.1 ∉ ch := fun z => (hch p.1 z).2.2.2 p hp rfl
    exact ⟨keep p.1 p.2 ne nf nch e n, free p.1 p.2 nch e n, ne, nf, d⟩
theorem Inv.un {t' : Nat} (I : Inv X pins σ H s) (u : Un X.fs [] H H' s.heap h') (hok : HOk X.prog X.w H' h') : Inv X pins σ H' { s with heap := h', toks := t' } := by
  obtain ⟨m, ⟨o, es, ep, ho, r⟩, _⟩ := id I.loc
  obtain ⟨sl, hL⟩ := u.any ho I.free (by simp)
  exact I.step (g' := s.gens) (d' := s.drawn) (ch := []) (fun _ z => nomatch z) (fun b o _ hb _ e n => u.keep b o e n hb (by simp)) (fun b o _ hb _ e n => u.slot b o e n hb (by simp)) (fun b o _ e n => u.free b o e n (by simp)) (fun b o _ e => u.there b o e (by simp)) u.tups u.frzs u.tbls (fun m' hm => by
    obtain ⟨o', es', ep', ho', r'⟩ := hm
    rw [ho] at ho'; cases ho'
    exact ⟨_, es', ep', hL, r'⟩) hok I.bare
theorem Inv.call {g' : Array GenState} {t' : Nat} {d' : Drawn} {ch : List Addr} (I : Inv X pins σ H s) (u : Un (frs X.stack) ch H H' s.heap h') (hok : HOk X.prog X.w H' h') (hg : AllBare g')
    (hch : ∀ b ∈ ch, (b ∈ X.ex ∨ X.s_0.heap.objs.size ≤ b) ∧ b ≠ X.env.locals ∧ (∀ x c, X.env.cells.lookup x = some c → c ≠ b) ∧ ∀ p ∈ X.pn ++ pins, p.1 ≠ b) :
    Inv X pins σ H' { s with heap := h', gens := g', drawn := d', toks := t' } := by
  obtain ⟨m, ⟨o, es, ep, ho, r⟩, _⟩ := id I.loc
  obtain ⟨sl, hL⟩ := u.any ho I.free fun z => (hch _ z).2.1 rfl
  exact I.step (ch := ch) hch (fun b o hL hb hc e n => u.keep b o e n (fun z => (List.mem_cons.mp (I.ZgJ b z)).elim hL hb) hc) (fun b o _ _ hc e n => u.any e n hc) (fun b o hc e n => u.free b o e n hc) (fun b o hc e => u.there b o e hc) u.tups u.frzs u.tbls (fun m' hm => by
    obtain ⟨o', es', ep', ho', r'⟩ := hm
    rw [ho] at ho'; cases ho'
    exact ⟨_, es', ep', hL, r'⟩) hok hg
theorem Inv.turned {t' : Nat} {it : Addr} (I : Inv X pins σ H s) (k : ∀ b o, b ≠ it → s.heap.get? b = some o → h'.get? b = some o) (hn : H it = none) (hL : it ≠ X.env.locals)
    (h1 : it ∈ X.ex ∨ X.s_0.heap.objs.size ≤ it) (h2 : ∀ x c, X.env.cells.lookup x = some c → c ≠ it) (h3 : ∀ p ∈ X.pn ++ pins, p.1 ≠ it) : Inv X pins σ H { s with heap := h', toks := t' } := by
  have nit : ∀ b u, H b = some u → b ≠ it := fun b u e z => by rw [z, hn] at e; cases e
  refine I.step (g' := s.gens) (d' := s.drawn) (ch := [it]) (fun b hb => ?_) (fun b o _ _ hc e _ => k b o (fun z => hc (by simp [z])) e) (fun b o _ _ hc e _ => ⟨o.slots, k b o (fun z => hc (by simp [z])) e⟩) (fun _ _ _ _ n => n)
    (fun b o hc e => ⟨o, k b o (fun z => hc (by simp [z])) e⟩) (fun _ _ e => e) (fun _ _ _ e => e) (fun b ps e => ⟨#[], by rw [e]; simp⟩) (fun m hm => ?_) (fun b u e => ?_) I.bare
  · have e : b = it := by simpa using hb
    subst e
    exact ⟨h1, hL, h2, h3⟩
  · obtain ⟨o, es, ep, ho, r⟩ := hm
    exact ⟨o, es, ep, k _ o (Ne.symm hL) ho, r⟩
  · refine (I.hok b u e).stay (fun c v hc q => k c v ?_ q) (fun _ q => q) fun _ _ q => q
    rcases hc with z | z
    · rw [z]; exact nit b u e
    · exact nit c _ z
theorem Inv.tok (I : Inv X pins σ H s) (t : Nat) : Inv X pins σ H { s with toks := t } := I.un (h' := s.heap) (t' := t) Un.refl I.hok
theorem Inv.kept {t' : Nat} (I : Inv X pins σ H s) (k : ∀ b u, s.heap.get? b = some u → h'.get? b = some u) : Inv X pins σ H { s with heap := h', toks := t' } := I.un (Un.kept k) (I.hok.kept k)
theorem Inv.laid {a : Addr} {o : HO} {t' : Nat} (I : Inv X pins σ H s) (k : ∀ b u, s.heap.get? b = some u → h'.get? b = some u) (hp : s.heap.objs.size ≤ a) (new : yO X.prog X.w (upd H a o) h' a o) :
    Inv X pins σ (upd H a o) { s with heap := h', toks := t' } := I.un (Un.laid k hp (I.hok.fresh hp)) (I.hok.laid k hp new)
theorem Inv.write {x e : Addr} {o : HO} {t' : Nat} (I : Inv X pins σ H s) (mu : Mut (H x)) (he : e = x ∨ H e = some (.own x)) (k : ∀ b u, b ≠ e → s.heap.get? b = some u → h'.get? b = some u) (heo : ∃ u, h'.get? e = some u)
    (new : yO X.prog X.w (upd H x o) h' x o) : Inv X pins σ (upd H x o) { s with heap := h', toks := t' } := I.un (Un.write mu he k heo) (I.hok.write mu he k heo new)
theorem Inv.weak {σ' : List (Option V)} (I : Inv X pins σ H s) (hl : σ'.length = σ.length) (w : ∀ (i : Nat) v, σ'[i]? = some (some v) → σ[i]? = some (some v)) : Inv X pins σ' H s :=
  ⟨I.ok, I.os, I.bare, I.base, let ⟨m, hn, hl'⟩ := I.loc; ⟨m, hn, fun i x v e1 e2 e3 => hl' i x v e1 (w i v e2) e3⟩, I.cell, I.free, I.freeC, I.pin, I.hok, hl.trans I.len⟩
theorem Inv.YgS {pins' : List (Addr × Obj)} (I : Inv X pins σ H s) (h : ∀ p ∈ pins', s.heap.get? p.1 = some p.2 ∧ H p.1 = none ∧ p.1 ≠ X.env.locals ∧ p.1 ∉ X.fs ∧ ∀ v, p.2.data ≠ .cell v) : Inv X pins' σ H s :=
  ⟨I.ok, I.os, I.bare, I.base, I.loc, I.cell, I.free, I.freeC, fun p hp => (List.mem_append.mp hp).elim (fun z => I.pin p (List.mem_append_left _ z)) (h p), I.hok, I.len⟩
theorem Zfz {N : List Str} (hN : N.Nodup) {i j : Nat} {x : Str} (a : N[i]? = some x) (b : N[j]? = some x) : i = j := by
  obtain ⟨h1, e1⟩ := List.getElem?_eq_some_iff.mp a
  obtain ⟨h2, e2⟩ := List.getElem?_eq_some_iff.mp b
  exact (List.getElem_inj hN).mp (e1.trans e2.symm)
theorem jf2 {M : Model} {A : Around} {E : Value → Shared → Prop} {i : Nat} {x : Str} {v : V} {u : Value} {Q : Unit → Shared → Prop} (I : Inv X pins σ H s) (hN : X.N.Nodup) (hi : X.N[i]? = some x) (hx : Loc X.env.scope x) (r : RelV v u)
    (h : ∀ s', Inv X pins (σ.set i (some v)) H s' → (∃ a, Heap.SameBut a s.heap s'.heap ∧ (a = X.env.locals ∨ X.env.cells.lookup x = some a)) → Q () s') (hf : X.fn x = true ∨ X.env.scope.names.lookup x = some .local := by first | exact .inl rfl | exact .inr rfl | assumption) : wpAny M A (storeName X.env x u) Q E s := by
  obtain ⟨m, hn, hl⟩ := id I.loc
  have hcls : (X.env.scope.kind == .class || (X.env.scope.kind == .module && X.env.locals != X.env.globals)) = false := by rw [I.ok.kind]; rfl
  have hiσ : i < σ.length := by rw [I.len]; exact (List.getElem?_eq_some_iff.mp hi).1
  have cne := I.cne
  have tracked : ∀ {a : Addr} {h' : Heap}, (∃ o, s.heap.get? a = some o ∧ H a = none) → Heap.SameBut a s.heap h' → HOk X.prog X.w H h' := fun {a h'} ha hs b ob e => by
    obtain ⟨_, _, hfree⟩ := ha
    refine (I.hok b ob e).stay (fun c w' hc q => (hs.2 c ?_).trans q) (fun _ q => q) fun _ _ q => q
    rintro rfl
    rcases hc with rfl | hc
    · rw [hfree] at e; cases e
    · rw [hfree] at hc; cases hc
  rcases hx with hk | hk
  · refine wpAny_storeName_local hk hn (fun h' hn' hs => ?_) hcls
    obtain ⟨oL, _, _, hoL, _⟩ := id hn
    refine h _ ⟨I.ok, I.os, I.bare, ⟨fun b o e n hb hx => ?_, fun b o e n hb hx => ?_, I.base.free, fun b o e hx => ?_, I.base.tups, I.base.frzs, I.base.tbls⟩, ⟨_, hn', fun j y v' e1 e2 e3 => ?_⟩, fun y c e => ?_, I.free, I.freeC, fun p hp => ?_, tracked ⟨oL, hoL, I.free⟩ hs, by simpa using I.len⟩ ⟨_, hs, .inl rfl⟩
    · exact (hs.2 b (Nat.ne_of_lt (Nat.lt_of_lt_of_le (Heap.lt_size e) I.ok.above))).trans (I.base.keep b o e n hb hx)
    · obtain ⟨sl, e1⟩ := I.base.slot b o e n hb hx
      exact ⟨sl, (hs.2 b (Nat.ne_of_lt (Nat.lt_of_lt_of_le (Heap.lt_size e) I.ok.above))).trans e1⟩
    · obtain ⟨o', e1⟩ := I.base.there b o e hx
      exact ⟨o', (hs.2 b (Nat.ne_of_lt (Nat.lt_of_lt_of_le (Heap.lt_size e) I.ok.above))).trans e1⟩
    · by_cases hj : j = i
      · subst hj
        rw [hi] at e1; cases e1
        rw [List.getElem?_set_self hiσ] at e2
        cases e2
        exact ⟨u, r, .inl ⟨hk, by simp⟩⟩
      · rw [List.getElem?_set_ne (Ne.symm hj)] at e2
        obtain ⟨u', r', q⟩ := hl j y v' e1 e2 e3
        refine ⟨u', r', ?_⟩
        rcases q with ⟨k, e⟩ | ⟨k, c, e, z⟩
        · refine .inl ⟨k, ?_⟩
          have : y ≠ x := fun e => hj (Zfz hN e1 (e ▸ hi))
          simp [this, e]
        · exact .inr ⟨k, c, e, z.sameBut hs (cne y c e)⟩
    · obtain ⟨w', z⟩ := I.cell y c e
      exact ⟨w', z.sameBut hs (cne y c e)⟩
    · obtain ⟨e, n, ne, nf, d⟩ := I.pin p hp
      exact ⟨(hs.2 p.1 ne).trans e, n, ne, nf, d⟩
  · have hfn : X.fn x = true := by
      rcases hf with z | z
      · exact z
      · rw [z] at hk; cases hk
    obtain ⟨c, hc⟩ := I.ok.has x (.inl hk)
    obtain ⟨w', z⟩ := I.cell x c hc
    refine wpAny_storeName_cell I.ok.kind hk hc z (fun h' hc' hs => ?_)
    obtain ⟨oc, hoc, hocd⟩ := id z
    refine h { s with heap := h' } ⟨I.ok, I.os, I.bare, ⟨fun b o e n hb hx => ?_, fun b o e n hb hx => ?_, I.base.free, fun b o e hx => ?_, I.base.tups, I.base.frzs, I.base.tbls⟩, ⟨m, hn.sameBut hs (Ne.symm (cne x c hc)), fun j y v' e1 e2 e3 => ?_⟩, fun y c' e => ?_, I.free, I.freeC, fun p hp => ?_, tracked ⟨oc, hoc, I.freeC x c hc⟩ hs, by simpa using I.len⟩ ⟨c, hs, .inr hc⟩
    · exact (hs.2 b (Nat.ne_of_lt (Nat.lt_of_lt_of_le (Heap.lt_size e) (I.ok.cab x c hfn hc)))).trans (I.base.keep b o e n hb hx)
    · obtain ⟨sl, e1⟩ := I.base.slot b o e n hb hx
      exact ⟨sl, (hs.2 b (Nat.ne_of_lt (Nat.lt_of_lt_of_le (Heap.lt_size e) (I.ok.cab x c hfn hc)))).trans e1⟩
    · obtain ⟨o', e1⟩ := I.base.there b o e hx
      exact ⟨o', (hs.2 b (Nat.ne_of_lt (Nat.lt_of_lt_of_le (Heap.lt_size e) (I.ok.cab x c hfn hc)))).trans e1⟩
    · by_cases hj : j = i
      · subst hj
        rw [hi] at e1; cases e1
        rw [List.getElem?_set_self hiσ] at e2
        cases e2
        exact ⟨u, r, .inr ⟨.inl hk, c, hc, hc'⟩⟩
      · rw [List.getElem?_set_ne (Ne.symm hj)] at e2
        obtain ⟨u', r', q⟩ := hl j y v' e1 e2 e3
        refine ⟨u', r', ?_⟩
        rcases q with q | ⟨k, c', e, z'⟩
        · exact .inl q
        · refine .inr ⟨k, c', e, z'.sameBut hs ?_⟩
          rintro rfl
          exact hj (Zfz hN e1 (I.ok.inj _ _ _ e hc ▸ hi))
    · by_cases hcc : c' = c
      · subst hcc; exact ⟨_, hc'⟩
      · obtain ⟨w2, z2⟩ := I.cell y c' e
        exact ⟨w2, z2.sameBut hs hcc⟩
    · obtain ⟨e, n, ne, nf, d⟩ := I.pin p hp
      refine ⟨(hs.2 p.1 ?_).trans e, n, ne, nf, d⟩
      intro q
      rw [q, hoc] at e
      have q' : oc = p.2 := Option.some.inj e
      exact d w' (by rw [← q']; exact hocd)
theorem yfz {M : Model} {A : Around} {E : Value → Shared → Prop} {i : Nat} {x : Str} {v : V} {u : Value} {Q : Unit → Shared → Prop} (I : Inv X pins σ H s) (hN : X.N.Nodup) (hi : X.N[i]? = some x) (hx : Loc X.env.scope x) (r : RelV v u)
    (h : ∀ s', Inv X pins (σ.set i (some v)) H s' → Q () s') (hf : X.fn x = true ∨ X.env.scope.names.lookup x = some .local := by first | exact .inl rfl | exact .inr rfl | assumption) : wpAny M A (storeName X.env x u) Q E s :=
  jf2 I hN hi hx r (fun s' I' _ => h s' I') hf
theorem Inv.call' {s' : Shared} {ch : List Addr} (I : Inv X pins σ H s) (ho : s'.os = s.os) (u : Un (frs X.stack) ch H H' s.heap s'.heap) (hok : HOk X.prog X.w H' s'.heap) (hg : AllBare s'.gens)
    (hch : ∀ b ∈ ch, (b ∈ X.ex ∨ X.s_0.heap.objs.size ≤ b) ∧ b ≠ X.env.locals ∧ (∀ x c, X.env.cells.lookup x = some c → c ≠ b) ∧ ∀ p ∈ X.pn ++ pins, p.1 ≠ b) : Inv X pins σ H' s' := by
  obtain ⟨h', g', d', t', o'⟩ := s'
  have e : o' = s.os := ho
  subst e
  exact I.call (g' := g') (t' := t') (d' := d') u hok hg hch
end
abbrev XK := Value → Option Addr → Hp → Prop
abbrev St := List (Option V)
abbrev VK := V → Hp → Prop
abbrev TE := St → Hp → VK → Prop
abbrev TT := St → Hp → (Bool → Hp → Prop) → Prop
abbrev TA := St → Hp → (List V → Hp → Prop) → Prop
structure Ends where
  nx : St → Hp → Prop
  rt : VK
  bk : St → Hp → Prop := fun _ _ => False
  ct : St → Hp → Prop := fun _ _ => False
abbrev TS := Ends → St → Hp → Prop
def EP (X : Cx) (pins : List (Addr × Obj)) (σ : St) (Q : VK) (u : Value) (s' : Shared) : Prop := ∃ v H', Inv X pins σ H' s' ∧ RelV v u ∧ Q v H'
def TP (X : Cx) (pins : List (Addr × Obj)) (σ : St) (Q : Bool → Hp → Prop) (b : Bool) (s' : Shared) : Prop := ∃ H', Inv X pins σ H' s' ∧ Q b H'
def AP (X : Cx) (pins : List (Addr × Obj)) (σ : St) (Q : List V → Hp → Prop) (us : List Value) (s' : Shared) : Prop := ∃ vs H', Inv X pins σ H' s' ∧ Vals vs us ∧ Q vs H'
def SP (X : Cx) (pins : List (Addr × Obj)) (D : Ends) (f : Flow) (s' : Shared) : Prop :=
  match f with
  | .next => ∃ σ' H', Inv X pins σ' H' s' ∧ D.nx σ' H'
  | .brk => ∃ σ' H', Inv X pins σ' H' s' ∧ D.bk σ' H'
  | .cont => ∃ σ' H', Inv X pins σ' H' s' ∧ D.ct σ' H'
  | .ret u => ∃ v σ' H', Inv X pins σ' H' s' ∧ RelV v u ∧ D.rt v H'
def PE (X : Cx) (e : Expr) (t : TE) : Prop :=
  ∀ (pins : List (Addr × Obj)) (s : Shared) (σ : St) (H : Hp) (Q : VK), Inv X pins σ H s → t σ H Q → wpAny (model X.prog X.w) X.A (eval e X.env) (EP X pins σ Q) X.xe s
def PT (X : Cx) (e : Expr) (t : TT) : Prop :=
  ∀ (pins : List (Addr × Obj)) (s : Shared) (σ : St) (H : Hp) (Q : Bool → Hp → Prop), Inv X pins σ H s → t σ H Q → wpAny (model X.prog X.w) X.A (isTrue e X.env (eval e X.env)) (TP X pins σ Q) X.xe s
def PW (X : Cx) (e : Expr) (t : TT) : Prop :=
  ∀ (whole : Sem Value) (pins : List (Addr × Obj)) (s : Shared) (σ : St) (H : Hp) (Q : Bool → Hp → Prop), Inv X pins σ H s → t σ H Q → wpAny (model X.prog X.w) X.A (isTrue e X.env whole) (TP X pins σ Q) X.xe s
theorem PW.pt {X : Cx} {e : Expr} {t : TT} (h : PW X e t) : PT X e t := h _
def PA (X : Cx) (es : List Expr) (t : TA) : Prop :=
  ∀ (pos : Pos) (pins : List (Addr × Obj)) (s : Shared) (σ : St) (H : Hp) (Q : List V → Hp → Prop), Inv X pins σ H s → t σ H Q → wpAny (model X.prog X.w) X.A (spliced (backTo pos (starEach es X.env))) (AP X pins σ Q) X.xe s
def PS (X : Cx) (st : Stmt) (t : TS) : Prop :=
  ∀ (pins : List (Addr × Obj)) (s : Shared) (σ : St) (H : Hp) (D : Ends), Inv X pins σ H s → t D σ H → wpAny (model X.prog X.w) X.A (exec st X.env) (SP X pins D) X.xe s
def PSs (X : Cx) (st : List Stmt) (t : TS) : Prop :=
  ∀ (pins : List (Addr × Obj)) (s : Shared) (σ : St) (H : Hp) (D : Ends), Inv X pins σ H s → t D σ H → wpAny (model X.prog X.w) X.A (execs st X.env) (SP X pins D) X.xe s
theorem thn {α : Type} {t : Sem α} {Q Q' : α → Shared → Prop} {M : Model} {A : Around} {E : Value → Shared → Prop} {s : Shared} (h : wpAny M A t Q E s) (hQ : ∀ a s, Q a s → Q' a s) : wpAny M A t Q' E s := wpAny_mono h hQ fun _ _ x => x
end L2
namespace L2
open PySem PySem.Spec PyProof.Rows
section
variable {X : Cx}
theorem bin {a b : Expr} {ta tb : TE} (ha : PE X a ta) (hb : PE X b tb) {pins : List (Addr × Obj)} {s : Shared} {σ : St} {H : Hp} {R : V → V → Hp → Prop} (I : Inv X pins σ H s) (h : ta σ H fun x H1 => tb σ H1 fun y H2 => R x y H2)
    {α : Type} {Q : α → Shared → Prop} {f : Value → Value → Sem α}
    (hf : ∀ v u s2 x y H2, Inv X pins σ H2 s2 → RelV x v → RelV y u → R x y H2 → wpAny (model X.prog X.w) X.A (f v u) Q X.xe s2) :
    wpAny (model X.prog X.w) X.A (eval a X.env) (fun v s₁ => wpAny (model X.prog X.w) X.A (eval b X.env) (fun u s₂ => wpAny (model X.prog X.w) X.A (f v u) Q X.xe s₂) X.xe s₁) X.xe s := by
  refine thn (ha pins s σ H _ I h) fun v s1 ⟨x, H1, I1, r1, q1⟩ => ?_
  refine thn (hb pins s1 σ H1 _ I1 q1) fun u s2 ⟨y, H2, I2, r2, q2⟩ => ?_
  exact hf v u s2 x y H2 I2 r1 r2 q2
def zha (i : Nat) : TE := fun σ H Q => ∃ v, σ[i]? = some (some v) ∧ Q v H
def tC (v : V) : TE := fun _ H Q => Q v H
theorem Yhy {i : Nat} {x : Str} {pos : Pos} (hN : X.N[i]? = some x) (hv : Vis X.env.scope x) (hd : (x == ("__debug__" : Str)) = false := by decide) (hcd : (x == ("__classdict__" : Str)) = false := by decide) : PE X (.Name x pos) (zha i) := by
  intro pins s σ H Q I h
  obtain ⟨v, e, h⟩ := h
  obtain ⟨m, hn, hl⟩ := I.loc
  obtain ⟨u, r, l⟩ := hl i x v hN e hv
  have fin : EP X pins σ Q u s := ⟨v, H, I, r, h⟩
  rcases l with ⟨hk, hm⟩ | ⟨hk, c, hc, hcell⟩
  · exact wpAny_Name (wpAny_loadName_local I.ok.kind hk hn hm fin) hd
  · rcases hk with hk | hk
    · exact wpAny_Name (wpAny_loadName_cell I.ok.kind hk hc hcell fin) hd
    · exact wpAny_Name (wpAny_loadName_free I.ok.kind hk hc hcell fin hcd) hd
theorem je {i j pos} : PE X (.Constant (.int i) j pos) (tC (.int i)) := fun _ _ _ H _ I h => wpAny_Constant_int ⟨.int i, H, I.tok _, ⟨_, rfl⟩, h⟩
theorem JdN {b j pos} : PE X (.Constant (.bool b) j pos) (tC (.bl b)) := fun _ _ _ H _ I h => Constant_bool ⟨.bl b, H, I, rfl, h⟩
theorem Zha {j pos} : PE X (.Constant .none j pos) (tC .non) := fun _ _ _ H _ I h => Constant_none ⟨.non, H, I, rfl, h⟩
def Gl (X : Cx) (x : Str) : Prop := X.env.kindOf x = some .globalImplicit
theorem YeG {E : Value → Shared → Prop} {pins : List (Addr × Obj)} {s : Shared} {σ : St} {H : Hp} {x : Str} {u : Value} {pos : Pos} {Q : Value → Shared → Prop} (I : Inv X pins σ H s) (hg : Gl X x) (hm : X.mg x = some u) (h : Q u s)
    (hd : (x == ("__debug__" : Str)) = false := by decide) : wpAny (model X.prog X.w) X.A (eval (.Name x pos) X.env) Q E s :=
  Calls.Name_function_global I.ok.kind hg (Calls.loadGlobal_global (by rw [I.ok.glob]; exact I.mod.glob.keeps I.bk) hm h) hd
theorem zge {E : Value → Shared → Prop} {pins : List (Addr × Obj)} {s : Shared} {σ : St} {H : Hp} {x : Str} {u : Value} {pos : Pos} {Q : Value → Shared → Prop} (I : Inv X pins σ H s) (hg : Gl X x) (hm : X.mg x = none) (hv : bootBuiltins x = some u) (h : Q u s)
    (hn : x ≠ "__name__" := by decide) (hd : (x == ("__debug__" : Str)) = false := by decide) : wpAny (model X.prog X.w) X.A (eval (.Name x pos) X.env) Q E s := by
  obtain ⟨mb, h1, h2⟩ := I.mod.blt
  exact Calls.Name_function_global I.ok.kind hg (Calls.loadGlobal_builtin (by rw [I.ok.glob]; exact I.mod.glob.keeps I.bk) hm (by rw [I.ok.blt]; exact h1.keeps I.bk) ((h2 x hn).trans hv) h) hd
theorem jg {x : Str} {v : V} {u : Value} {pos : Pos} (hg : Gl X x) (hm : X.mg x = some u) (r : RelV v u) (hd : (x == ("__debug__" : Str)) = false := by decide) : PE X (.Name x pos) (tC v) :=
  fun _ _ _ H _ I h => YeG I hg hm ⟨v, H, I, r, h⟩ hd
variable {a b : Expr} {ta tb : TE} {pos : Pos}
def PC (X : Cx) (op : CmpOp) (a b : Expr) (t : TE) : Prop :=
  ∀ (pins : List (Addr × Obj)) (s : Shared) (σ : St) (H : Hp) (Q : VK), Inv X pins σ H s → t σ H Q →
    wpAny (model X.prog X.w) X.A (eval a X.env) (fun v s₁ => wpAny (model X.prog X.w) X.A (eval b X.env) (fun u s₂ => wpAny (model X.prog X.w) X.A (compareOp op v u) (EP X pins σ Q) X.xe s₂) X.xe s₁) X.xe s
def tB (t : TE) : TT := fun σ H Q => t σ H fun x H1 => ∃ c, x = .bl c ∧ Q c H1
theorem ygJ {op : CmpOp} {t : TE} (h : PC X op a b t) (h1 : behindInMarks op b = false := by first | exact nobehind _ (by decide) (by decide) | rfl) : PE X (.Compare a [op] [b] pos) t := fun pins s σ H Q I hw => wpAny_Compare1 (h pins s σ H Q I hw) h1
theorem je2 {op : CmpOp} {t : TE} (h : PC X op a b t) (h1 : behindInMarks op b = false := by first | exact nobehind _ (by decide) (by decide) | rfl) : PT X (.Compare a [op] [b] pos) (tB t) := by
  intro pins s σ H Q I hw
  refine wpAny_isTrue_Compare1 (thn (h pins s σ H _ I hw) fun v s1 h1 => thn h1 fun u s2 h2 => thn h2 fun c s3 ⟨x, H1, I1, r1, q1⟩ => ?_) h1
  obtain ⟨d, rfl, q⟩ := q1
  cases r1
  exact wpAny_truthy_bool ⟨H1, I1, q⟩
theorem Yby {e : Expr} {t : TE} (h : PE X e t) (he : ∀ whole, isTrue e X.env whole = (do let v ← whole; standAt e.pos; holding [v] (truthy v)) := by intro _; rfl) : PT X e (tB t) := by
  intro pins s σ H Q I hw
  refine isTrue_plain (thn (h pins s σ H _ I hw) fun v s1 ⟨x, H1, I1, r1, q1⟩ => ?_) (he _)
  obtain ⟨d, rfl, q⟩ := q1
  cases r1
  exact wpAny_truthy_bool ⟨H1, I1, q⟩
variable {tA tB' : TT} {rest : List Expr}
def jhD (t u : TT) : TT := fun σ H Q => t σ H fun c H1 => if c = true then u σ H1 Q else Q false H1
def tOr (t u : TT) : TT := fun σ H Q => t σ H fun c H1 => if c = true then Q true H1 else u σ H1 Q
def ZhL (t : TT) : TT := fun σ H Q => t σ H fun c H1 => Q (!c) H1
theorem pw_and1 (ha : PT X a tA) : PW X (.BoolOp .And [a] pos) tA := by
  intro wh pins s σ H Q I h
  refine isTrue_and (thn (ha pins s σ H Q I h) fun c s1 e => ?_)
  cases c with
  | true => exact isTrue_and_nil e
  | false => exact e
theorem pw_or1 (ha : PT X a tA) : PW X (.BoolOp .Or [a] pos) tA := by
  intro wh pins s σ H Q I h
  refine isTrue_or (thn (ha pins s σ H Q I h) fun c s1 e => ?_)
  cases c with
  | false => exact isTrue_or_nil e
  | true => exact e
theorem pw_and (ha : PT X a tA) (hb : PW X (.BoolOp .And (b :: rest) pos) tB') : PW X (.BoolOp .And (a :: b :: rest) pos) (jhD tA tB') := by
  intro wh pins s σ H Q I h
  refine isTrue_and (thn (ha pins s σ H _ I h) fun c s1 ⟨H1, I1, q1⟩ => ?_)
  cases c with
  | true => exact hb wh pins s1 σ H1 Q I1 q1
  | false => exact ⟨H1, I1, q1⟩
theorem pw_or (ha : PT X a tA) (hb : PW X (.BoolOp .Or (b :: rest) pos) tB') : PW X (.BoolOp .Or (a :: b :: rest) pos) (tOr tA tB') := by
  intro wh pins s σ H Q I h
  refine isTrue_or (thn (ha pins s σ H _ I h) fun c s1 ⟨H1, I1, q1⟩ => ?_)
  cases c with
  | true => exact ⟨H1, I1, q1⟩
  | false => exact hb wh pins s1 σ H1 Q I1 q1
theorem Jdm (ha : PT X a tA) : PT X (.UnaryOp .Not a pos) (ZhL tA) := by
  intro pins s σ H Q I h
  exact isTrue_not (ha pins s σ H (fun c H1 => Q (!c) H1) I h)
def Yhv (ta tb : TE) : TE := fun σ H Q => ta σ H fun x H1 => ∃ c, x = .bl c ∧ if c = true then tb σ H1 Q else Q (.bl false) H1
def JhD (ta tb : TE) : TE := fun σ H Q => ta σ H fun x H1 => ∃ c, x = .bl c ∧ if c = true then Q (.bl true) H1 else tb σ H1 Q
def zhE (ta : TE) : TE := fun σ H Q => ta σ H fun x H1 => ∃ c, x = .bl c ∧ Q (.bl (!c)) H1
theorem zdn {op} {t : TE} (h : PE X a t) : PE X (.BoolOp op [a] pos) t := fun pins s σ H Q I hw => BoolOp_one (h pins s σ H Q I hw)
theorem Yey (ha : PE X a ta) (hb : PE X (.BoolOp .And (b :: rest) pos) tb) : PE X (.BoolOp .And (a :: b :: rest) pos) (Yhv ta tb) := by
  intro pins s σ H Q I h
  refine BoolOp_and (thn (ha pins s σ H _ I h) fun v s1 ⟨x, H1, I1, r1, q1⟩ => ?_)
  obtain ⟨c, rfl, q1⟩ := q1
  cases r1
  refine wpAny_truthy_bool ?_
  cases c with
  | true => exact hb pins s1 σ H1 Q I1 q1
  | false => exact ⟨.bl false, H1, I1, rfl, q1⟩
theorem jhv (ha : PE X a ta) (hb : PE X (.BoolOp .Or (b :: rest) pos) tb) : PE X (.BoolOp .Or (a :: b :: rest) pos) (JhD ta tb) := by
  intro pins s σ H Q I h
  refine BoolOp_or (thn (ha pins s σ H _ I h) fun v s1 ⟨x, H1, I1, r1, q1⟩ => ?_)
  obtain ⟨c, rfl, q1⟩ := q1
  cases r1
  refine wpAny_truthy_bool ?_
  cases c with
  | false => exact hb pins s1 σ H1 Q I1 q1
  | true => exact ⟨.bl true, H1, I1, rfl, q1⟩
theorem jhy (ha : PE X a ta) : PE X (.UnaryOp .Not a pos) (zhE ta) := by
  intro pins s σ H Q I h
  refine UnaryOp_ (thn (ha pins s σ H _ I h) fun v s1 ⟨x, H1, I1, r1, q1⟩ => ?_)
  obtain ⟨c, rfl, q1⟩ := q1
  cases r1
  exact not_of (wpAny_truthy_bool ⟨.bl (!c), H1, I1, rfl, q1⟩)
def tIf (t : TT) (ta tb : TE) : TE := fun σ H Q => t σ H fun c H1 => if c = true then ta σ H1 Q else tb σ H1 Q
theorem jeG {c : Expr} (hc : PT X c tA) (ha : PE X a ta) (hb : PE X b tb) : PE X (.IfExp c a b pos) (tIf tA ta tb) := by
  intro pins s σ H Q I h
  refine wpAny_IfExp (thn (hc pins s σ H _ I h) fun d s1 ⟨H1, I1, q1⟩ => ?_)
  cases d with
  | true => exact ha pins s1 σ H1 Q I1 q1
  | false => exact hb pins s1 σ H1 Q I1 q1
end
end L2
namespace L2
open PySem PySem.Spec PyProof.Rows
def SqL (K : PySem.W.Frag) (H : Hp) (a : Addr) (xs : List V) : Prop :=
  Rd H a (.lst xs) ∨
    ∃ (o : Obj) (its : Array Value) (n : Nat), K.lookup a = some o ∧ o.cls = .type "list" ∧ o.dict = none ∧ o.data = .seq its n ∧ its.size ≤ sizeLine ∧ Vals xs its.toList
def SqT (K : PySem.W.Frag) (H : Hp) (a : Addr) (xs : List V) : Prop :=
  Rd H a (.tup xs) ∨
    ∃ (o : Obj) (its : Array Value) (n : Nat), K.lookup a = some o ∧ o.cls = .type "tuple" ∧ o.data = .seq its n ∧ its.size ≤ sizeLine ∧ Vals xs its.toList
def yhL : Value → Option V
  | .none => some .non
  | .bool b => some (.bl b)
  | .int i _ => some (.int i)
  | .str x _ => some (.str x)
  | .bytes b _ => some (.byt b)
  | .float b _ => some (.flt b)
  | .ref a => some (.ref a)
  | .type n => some (.ty n)
  | _ => none
theorem RelV.abs {x : V} {u : Value} (r : RelV x u) : yhL u = some x := by
  cases x with
  | non => cases r; rfl
  | bl _ => cases r; rfl
  | int _ => obtain ⟨t, rfl⟩ := r; rfl
  | str _ => obtain ⟨t, rfl⟩ := r; rfl
  | byt _ => obtain ⟨t, rfl⟩ := r; rfl
  | flt _ => obtain ⟨t, rfl⟩ := r; rfl
  | ref _ => cases r; rfl
  | ty _ => cases r; rfl
theorem RelV.inj {x y : V} {u : Value} (r : RelV x u) (q : RelV y u) : x = y := Option.some.inj (r.abs.symm.trans q.abs)
theorem Vals.inj : ∀ {xs ys : List V} {us : List Value}, Vals xs us → Vals ys us → xs = ys
  | _, _, _, .nil, .nil => rfl
  | _, _, _, .cons r t, .cons r' t' => by rw [r.inj r', Vals.inj t t']
section
variable {X : Cx} {pins : List (Addr × Obj)} {σ : St} {H : Hp} {s : Shared} {a : Addr} {xs ys : List V}
theorem SqL.of {K : PySem.W.Frag} (h : H a = some (.lst xs)) : SqL K H a xs := .inl (.inl h)
theorem SqT.of {K : PySem.W.Frag} (h : H a = some (.tup xs)) : SqT K H a xs := .inl (.inl h)
theorem Inv.list (I : Inv X pins σ H s) (h : SqL X.K H a xs) : ∃ its : List Value, Vals xs its ∧ PlainL s.heap a its.toArray ∧ xs.length ≤ sizeLine := by
  rcases h with h | ⟨o, its, n, hk, hc, hd, hs, hz, r⟩
  · obtain ⟨z, its, n, r, e⟩ := h.ok I.hok
    exact ⟨its, r, ⟨_, n, e, rfl, rfl, rfl⟩, z⟩
  · refine ⟨its.toList, r, ⟨o, n, I.kIn a o hk, hc, hd, by simpa using hs⟩, ?_⟩
    have e := r.length
    simp only [Array.length_toList] at e
    omega
theorem Inv.tuple (I : Inv X pins σ H s) (h : SqT X.K H a xs) : ∃ its : List Value, Vals xs its ∧ IsTup s.heap a its.toArray ∧ xs.length ≤ sizeLine := by
  rcases h with h | ⟨o, its, n, hk, hc, hs, hz, r⟩
  · obtain ⟨z, its, r, p⟩ := h.ok I.hok
    exact ⟨its, r, p, z⟩
  · refine ⟨its.toList, r, ⟨o, I.kIn a o hk, hc, n, by simpa using hs⟩, ?_⟩
    have e := r.length
    simp only [Array.length_toList] at e
    omega
theorem Inv.Jgt (I : Inv X pins σ H s) (h : SqL X.K H a xs) (h' : SqL X.K H a ys) : xs = ys := by
  obtain ⟨its, r, ⟨o, n, e, _, _, d⟩, _⟩ := I.list h
  obtain ⟨its', r', ⟨o', n', e', _, _, d'⟩, _⟩ := I.list h'
  rw [e] at e'; cases e'
  rw [d] at d'
  injection d' with d1 _
  have : its = its' := by simpa using congrArg Array.toList d1
  subst this
  exact r.inj r'
end
abbrev Cx.wish (X : Cx) (E : Value → Shared → Prop) : Cx := { X with xe := E }
abbrev Cx.nox (X : Cx) : Cx := X.wish fun _ _ => False
theorem Cx.Ok.wish {X : Cx} (ok : X.Ok) (E : Value → Shared → Prop) : (X.wish E).Ok :=
  ⟨ok.mod, ok.kind, ok.glob, ok.blt, ok.above, ok.inj, ok.has, ok.cab, ok.hd, ok.frames, ok.stk, ok.exf, ok.bs, ok.bsz, ok.noex, ok.exfs, ok.yfo, ok.frf⟩
theorem Cx.Ok.zdO {X : Cx} {E : Value → Shared → Prop} (ok : (X.wish E).Ok) : X.Ok :=
  ⟨ok.mod, ok.kind, ok.glob, ok.blt, ok.above, ok.inj, ok.has, ok.cab, ok.hd, ok.frames, ok.stk, ok.exf, ok.bs, ok.bsz, ok.noex, ok.exfs, ok.yfo, ok.frf⟩
section
variable {X : Cx} {pins : List (Addr × Obj)} {σ : St} {H : Hp} {s : Shared} {E : Value → Shared → Prop}
theorem Inv.wish (I : Inv X pins σ H s) (E : Value → Shared → Prop) : Inv (X.wish E) pins σ H s := ⟨I.ok.wish E, I.os, I.bare, I.base, I.loc, I.cell, I.free, I.freeC, I.pin, I.hok, I.len⟩
theorem Inv.zdO (I : Inv (X.wish E) pins σ H s) : Inv X pins σ H s := ⟨I.ok.zdO, I.os, I.bare, I.base, I.loc, I.cell, I.free, I.freeC, I.pin, I.hok, I.len⟩
theorem SP.zdO {D : Ends} {f : Flow} {s' : Shared} (h : SP (X.wish E) pins D f s') : SP X pins D f s' := by
  cases f with
  | next => obtain ⟨σ', H', I, q⟩ := h; exact ⟨σ', H', I.zdO, q⟩
  | brk => obtain ⟨σ', H', I, q⟩ := h; exact ⟨σ', H', I.zdO, q⟩
  | cont => obtain ⟨σ', H', I, q⟩ := h; exact ⟨σ', H', I.zdO, q⟩
  | ret u => obtain ⟨v, σ', H', I, r, q⟩ := h; exact ⟨v, σ', H', I.zdO, r, q⟩
theorem PSs.nox {st : List Stmt} {t : TS} (h : PSs X.nox st t) : PSs X st t := fun pins s σ H D I hw =>
  wpAny_mono (h pins s σ H D (I.wish _) hw) (fun _ _ q => q.zdO) fun _ _ z => False.elim z
end
section
variable {X : Cx} {st : Stmt} {rest : List Stmt} {t u : TS} {e : Expr} {te : TE} {pos : Pos}
def jgS : TS := fun D σ H => D.nx σ H
def ZhE (t u : TS) : TS := fun D σ H => t { D with nx := u D } σ H
theorem Zo : PSs X [] jgS := fun _ _ σ H _ I h => wpAny_execs_nil ⟨σ, H, I, h⟩
theorem Yc (h1 : PS X st t) (h2 : PSs X rest u) : PSs X (st :: rest) (ZhE t u) := by
  intro pins s σ H D I h
  refine wpAny_execs_cons (thn (h1 pins s σ H { D with nx := u D } I h) fun f s1 q => ?_)
  cases f with
  | next =>
    obtain ⟨σ', H', I', q⟩ := q
    exact h2 pins s1 σ' H' D I' q
  | ret v => exact q
  | brk => exact q
  | cont => exact q
theorem jb (h1 : PS X st t) : PSs X [st] t := by
  intro pins s σ H D I h
  refine wpAny_execs_cons (thn (h1 pins s σ H D I h) fun f s1 q => ?_)
  cases f with
  | next => exact wpAny_execs_nil q
  | ret v => exact q
  | brk => exact q
  | cont => exact q
theorem Zge : PS X (.Pass pos) jgS := fun _ _ σ H _ I h => wpAny_Pass ⟨σ, H, I, h⟩
theorem Inv.quiet {pins : List (Addr × Obj)} {σ : St} {H : Hp} {s : Shared} (I : Inv X pins σ H s) : interactive X.env = false := by simp [interactive, I.ok.kind]
def yhE (te : TE) : TS := fun D σ H => te σ H fun _ H1 => D.nx σ H1
theorem yD (he : PE X e te) (hs : swapsWith e none pos.line X.env = pure false := by rfl) : PS X (.Expr e pos) (yhE te) := by
  intro pins s σ H D I h
  exact wpAny_Expr_any (thn (he pins s σ H _ I h) fun v s1 ⟨x, H1, I1, r1, q1⟩ => ⟨σ, H1, I1, q1⟩) I.quiet hs
def YhE (te : TE) : TS := fun D σ H => te σ H D.rt
theorem yf (he : PE X e te) : PS X (.Return (some e) pos) (YhE te) := by
  intro pins s σ H D I h
  exact wpAny_Return_some (thn (he pins s σ H _ I h) fun v s1 ⟨x, H1, I1, r1, q1⟩ => ⟨x, σ, H1, I1, r1, q1⟩)
def jhE (c : TT) (t u : TS) : TS := fun D σ H => c σ H fun b H1 => if b = true then t D σ H1 else u D σ H1
theorem JN {c : Expr} {a b : List Stmt} {tc : TT} (hc : PT X c tc) (ha : PSs X a t) (hb : PSs X b u) : PS X (.If c a b pos) (jhE tc t u) := by
  intro pins s σ H D I h
  refine wpAny_If (thn (hc pins s σ H _ I h) fun d s1 ⟨H1, I1, q1⟩ => ?_)
  cases d with
  | true => exact ha pins s1 σ H1 D I1 q1
  | false => exact hb pins s1 σ H1 D I1 q1
end
abbrev TG := V → St → Hp → (St → Hp → Prop) → Prop
abbrev TGs := List V → St → Hp → (St → Hp → Prop) → Prop
def PG (X : Cx) (target : Expr) (t : TG) : Prop :=
  ∀ (pins : List (Addr × Obj)) (s : Shared) (σ : St) (H : Hp) (v : V) (u : Value) (Q : St → Hp → Prop), Inv X pins σ H s → RelV v u → t v σ H Q →
    wpAny (model X.prog X.w) X.A (assign target X.env u) (fun _ s' => ∃ σ' H', Inv X pins σ' H' s' ∧ Q σ' H') X.xe s
def PGs (X : Cx) (ts : List Expr) (t : TGs) : Prop :=
  ∀ (pins : List (Addr × Obj)) (s : Shared) (σ : St) (H : Hp) (vs : List V) (us : List Value) (Q : St → Hp → Prop), Inv X pins σ H s → Vals vs us → t vs σ H Q →
    wpAny (model X.prog X.w) X.A (assignInOrder ((assignEach ts X.env).map (·.2)) us) (fun _ s' => ∃ σ' H', Inv X pins σ' H' s' ∧ Q σ' H') X.xe s
abbrev TIp := V → V → Hp → VK → Prop
def PIp (X : Cx) (op : Operator) (t : TIp) : Prop :=
  ∀ (pins : List (Addr × Obj)) (s : Shared) (σ : St) (H : Hp) (x y : V) (v u : Value) (Q : VK), Inv X pins σ H s → RelV x v → RelV y u → t x y H Q →
    wpAny (model X.prog X.w) X.A (inplaceOp op v u) (EP X pins σ Q) X.xe s
section
variable {X : Cx} {pos : Pos}
def Jf2 (i : Nat) : TG := fun v σ H Q => Q (σ.set i (some v)) H
theorem jai {i : Nat} {x : Str} (hN : X.N.Nodup) (hi : X.N[i]? = some x) (hx : Loc X.env.scope x) (hf : X.fn x = true ∨ X.env.scope.names.lookup x = some .local := by first | exact .inl rfl | exact .inr rfl | assumption) : PG X (.Name x pos) (Jf2 i) := by
  intro pins s σ H v u Q I r h
  exact wpAny_assign_Name (yfz I hN hi hx r (fun s' I' => ⟨_, H, I', h⟩) hf)
def YhL : TGs := fun vs σ H Q => vs = [] ∧ Q σ H
def JhE (t : TG) (u : TGs) : TGs := fun vs σ H Q => ∃ v r, vs = v :: r ∧ t v σ H fun σ' H' => u r σ' H' Q
theorem JgS : PGs X [] YhL := by
  intro pins s σ H vs us Q I r h
  obtain ⟨e, h⟩ := h
  subst e
  cases r
  exact assignInOrder_nil ⟨σ, H, I, h⟩
theorem JeG {e : Expr} {es : List Expr} {t : TG} {u : TGs} (h1 : PG X e t) (h2 : PGs X es u)
    (hs : (assignEach (e :: es) X.env).map (·.2) = assign e X.env :: (assignEach es X.env).map (·.2) := by rfl) : PGs X (e :: es) (JhE t u) := by
  intro pins s σ H vs us Q I r h
  obtain ⟨v, vr, e1, h⟩ := h
  subst e1
  cases r with
  | cons r rr =>
    rw [hs]
    refine assignInOrder_cons (thn (h1 pins s σ H _ _ _ I r h) fun _ s1 ⟨σ1, H1, I1, q1⟩ => ?_)
    exact h2 pins s1 σ1 H1 _ _ Q I1 rr q1
def jhL (K : PySem.W.Frag) (n : Nat) (t : TGs) : TG := fun v σ H Q => ∃ a xs, v = .ref a ∧ SqT K H a xs ∧ xs.length = n ∧ t xs σ H Q
theorem yha {es : List Expr} {k : Nat} {t : TGs} {n : Nat} (hc : X.calm = true) (h : PGs X es t)
    (hn : (assignEach es X.env).length = n := by rfl) (hst : (assignEach es X.env).findIdx? (·.1) = none := by rfl) : PG X (.Tuple es k pos) (jhL X.K n t) := by
  intro pins s σ H v u Q I r hw
  obtain ⟨a, xs, e1, hq, hl, hw⟩ := hw
  subst e1
  cases r
  obtain ⟨its, rv, ht, hz⟩ := I.tuple hq
  refine assign_Tuple_tuple (I.ok.hd hc) ht (by simp [hn, ← hl, rv.length]) hst fun h' hx => ?_
  have I1 : Inv X pins σ H { s with heap := h' } := I.kept (t' := s.toks) fun b o e => hx b o (Nat.ne_of_lt (Heap.lt_size e)) e
  exact h pins _ σ H xs _ Q I1 (by simpa using rv) hw
def zhF (te : TE) (g : TG) : TS := fun D σ H => te σ H fun x H1 => g x σ H1 D.nx
theorem jab {i : Nat} {x : Str} {e : Expr} {te : TE} {pos' : Pos} (hN : X.N.Nodup) (hi : X.N[i]? = some x) (hx : Loc X.env.scope x) (he : PE X e te) (hs : swapsWith e (some (.Name x pos')) pos.line X.env = pure false := by rfl) (hf : X.fn x = true ∨ X.env.scope.names.lookup x = some .local := by first | exact .inl rfl | exact .inr rfl | assumption) :
    PS X (.Assign [.Name x pos'] e pos) (zhF te (Jf2 i)) := by
  intro pins s σ H D I h
  refine wpAny_Assign_Name (thn (he pins s σ H _ I h) fun v s1 ⟨y, H1, I1, r1, q1⟩ => ?_) hs
  exact yfz I1 hN hi hx r1 (fun s2 I2 => ⟨_, H1, I2, q1⟩) hf
def JhL (i : Nat) (te : TE) (ti : TIp) : TS := fun D σ H => ∃ x, σ[i]? = some (some x) ∧ te σ H fun y H1 => ti x y H1 fun z H2 => D.nx (σ.set i (some z)) H2
theorem Yha {i : Nat} {x : Str} {e : Expr} {te : TE} {op : Operator} {ti : TIp} {pos' : Pos} (hN : X.N.Nodup) (hi : X.N[i]? = some x) (hx : Loc X.env.scope x) (he : PE X e te) (ho : PIp X op ti) (hf : X.fn x = true ∨ X.env.scope.names.lookup x = some .local := by first | exact .inl rfl | exact .inr rfl | assumption) :
    PS X (.AugAssign (.Name x pos') op e pos) (JhL i te ti) := by
  intro pins s σ H D I h
  obtain ⟨v, e1, h⟩ := h
  obtain ⟨m, hn, hl⟩ := I.loc
  have vis : Vis X.env.scope x := by rcases hx with k | k; exact .inl k; exact .inr (.inl k)
  obtain ⟨u, r, l⟩ := hl i x v hi e1 vis
  refine wpAny_AugAssign_Name ?_
  have go : wpAny (model X.prog X.w) X.A (eval e X.env) (fun w s₂ => wpAny (model X.prog X.w) X.A (inplaceOp op u w) (fun r s₃ => wpAny (model X.prog X.w) X.A (storeName X.env x r) (fun _ => SP X pins D .next) X.xe s₃) X.xe s₂) X.xe s := by
    refine thn (he pins s σ H _ I h) fun w s1 ⟨y, H1, I1, r1, q1⟩ => ?_
    refine thn (ho pins s1 σ H1 v y u w _ I1 r r1 q1) fun z s2 ⟨zv, H2, I2, r2, q2⟩ => ?_
    exact yfz I2 hN hi hx r2 (fun s3 I3 => ⟨_, H2, I3, q2⟩) hf
  rcases l with ⟨hk, hm⟩ | ⟨hk, c, hc, hcell⟩
  · exact wpAny_loadName_local I.ok.kind hk hn hm go
  · rcases hk with hk | hk
    · exact wpAny_loadName_cell I.ok.kind hk hc hcell go
    · rcases hx with k | k
      · have : X.env.scope.names.lookup x = some .free := hk
        rw [k] at this; cases this
      · have : X.env.scope.names.lookup x = some .free := hk
        rw [k] at this; cases this
def ipI (f : Int → Int → Int) : TIp := fun x y H Q => ∃ i j, x = .int i ∧ y = .int j ∧ Q (.int (f i j)) H
theorem jha : PIp X .Sub (ipI fun i j => i - j) := by
  intro pins s σ H x y v u Q I r1 r2 h
  obtain ⟨i, j, e1, e2, q⟩ := h
  subst e1; subst e2
  obtain ⟨t, rfl⟩ := r1
  obtain ⟨t', rfl⟩ := r2
  exact isub_int ⟨.int _, H, I.tok _, ⟨_, rfl⟩, q⟩
end
section
variable {X : Cx} {pos : Pos}
def Jha (c : TT) (tb : TS) : TS := fun D σ H => ∃ W : Nat → St → Hp → Prop, (∃ m, W m σ H) ∧ ∀ m σ H, W m σ H →
  c σ H fun b H1 => if b = true then ∃ N : St → Hp → Prop, (∀ σ' H', N σ' H' → ∃ m', m' < m ∧ W m' σ' H') ∧ tb { D with nx := N, ct := N, bk := D.nx } σ H1 else D.nx σ H1
theorem zhb {c : Expr} {body : List Stmt} {tc : TT} {tb : TS} (hp : PassesOwn (model X.prog X.w) X.A X.env X.xe) (hc : PT X c tc) (hb : PSs X body tb) : PS X (.While c body [] pos) (Jha tc tb) := by
  intro pins s σ H D I h
  obtain ⟨W, ⟨m0, w0⟩, turn⟩ := h
  refine wpAny_While (codeAny_whileLoop (fun n s' => ∃ σ' H', Inv X pins σ' H' s' ∧ W n σ' H') ?_ m0 ⟨σ, H, I, w0⟩)
  rintro n s1 ⟨σ1, H1, I1, w1⟩
  refine wpAny_passesOwn hp (thn (hc pins s1 σ1 H1 _ I1 (turn n σ1 H1 w1)) fun b s2 ⟨H2, I2, q2⟩ => ?_)
  cases b with
  | true =>
    obtain ⟨N, hN, q2⟩ := q2
    rw [if_pos rfl]
    refine wpAny_passesOwn hp (thn (hb pins s2 σ1 H2 _ I2 q2) fun f s3 q3 => ?_)
    cases f with
    | next =>
      obtain ⟨σ3, H3, I3, n3⟩ := q3
      obtain ⟨m', hm, w3⟩ := hN σ3 H3 n3
      exact ⟨m', hm, σ3, H3, I3, w3⟩
    | cont =>
      obtain ⟨σ3, H3, I3, n3⟩ := q3
      obtain ⟨m', hm, w3⟩ := hN σ3 H3 n3
      exact ⟨m', hm, σ3, H3, I3, w3⟩
    | brk => exact q3
    | ret v => exact q3
  | false =>
    rw [if_neg Bool.false_ne_true]
    exact wpAny_execs_nil ⟨σ1, H2, I2, q2⟩
end
structure It where
  go : Nat → Hp → Prop
  yld : Nat → Hp → V → Hp → Prop
  stop : Nat → Hp → Prop
def Yfz (X : Cx) (pins : List (Addr × Obj)) (H : Hp) (b : Addr) : Prop :=
  H b = none ∧ b ≠ X.env.locals ∧ b ∉ X.fs ∧ (b ∈ X.ex ∨ X.s_0.heap.objs.size ≤ b) ∧ (∀ x c, X.env.cells.lookup x = some c → c ≠ b) ∧ ∀ p ∈ X.pn ++ pins, p.1 ≠ b
theorem Inv.yho {X : Cx} {pins : List (Addr × Obj)} {σ : St} {H H' : Hp} {s : Shared} {b : Addr} (I : Inv X pins σ H s) (hb : s.heap.objs.size ≤ b) (hn : H' b = none) : Yfz X pins H' b := by
  refine ⟨hn, Nat.ne_of_gt (Nat.lt_of_lt_of_le I.lt hb), I.zhL hb, .inr (Nat.le_trans I.sz hb), fun x c e z => ?_, fun p hp z => ?_⟩
  · obtain ⟨v, q⟩ := I.cell x c e
    exact absurd (Nat.lt_of_lt_of_le q.lt (by rw [z]; exact hb)) (Nat.lt_irrefl _)
  · exact absurd (Nat.lt_of_lt_of_le (Heap.lt_size (I.pin p hp).1) (by rw [z]; exact hb)) (Nat.lt_irrefl _)
structure Turn (P : Program) (w : World) (K : PySem.W.Frag) (tg : Expr) (J : It) (fp : List Addr) (it : Addr) (tn : Nat → Heap → Prop) : Prop where
  mem : it ∈ fp
  obj : ∀ i h, tn i h → ∀ b ∈ fp, ∃ o, h.get? b = some o ∧ ∀ v, o.data ≠ .cell v
  keep : ∀ i h h', tn i h → (∀ b ∈ fp, ∀ o, h.get? b = some o → h'.get? b = some o) → tn i h'
  item : ∀ (X : Cx), X.prog = P → X.w = w → X.K = K → X.calm = true → ∀ (i : Nat) (pins : List (Addr × Obj)) (s : Shared) (σ : St) (H : Hp) (E : Value → Shared → Prop), Inv X pins σ H s → (∀ b ∈ fp, Yfz X pins H b) → tn i s.heap → J.go i H →
    wpAny (model P w) X.A (pyNext (.ref it)) (fun r s1 => ∃ u, r = some u ∧
      wpAny (model P w) X.A (letOwnedTupleGo tg (.ref it) u) (fun _ s2 => ∃ x H', Inv X pins σ H' s2 ∧ RelV x u ∧ J.yld i H x H' ∧ tn (i + 1) s2.heap ∧ ∀ b ∈ fp, H' b = none) E s1) E s
  done : ∀ (X : Cx), X.prog = P → X.w = w → X.K = K → X.calm = true → ∀ (i : Nat) (pins : List (Addr × Obj)) (s : Shared) (σ : St) (H : Hp) (E : Value → Shared → Prop), Inv X pins σ H s → (∀ b ∈ fp, Yfz X pins H b) → tn i s.heap → J.stop i H →
    wpAny (model P w) X.A (pyNext (.ref it)) (fun r s1 => r = none ∧ Inv X pins σ H s1) E s
  self : ∀ (A : Around) (i : Nat) (s : Shared) (Q : Value → Shared → Prop) (E : Value → Shared → Prop), tn i s.heap → Q (.ref it) s → wpAny (model P w) A (pyIter (.ref it)) Q E s
abbrev TI := St → Hp → (It → Hp → Prop) → Prop
def PIE (X : Cx) (pins : List (Addr × Obj)) (σ : St) (tg : Expr) (R : It → Hp → Prop) (itv : Value) (s2 : Shared) : Prop :=
  ∃ (it : Addr) (fp : List Addr) (tn : Nat → Heap → Prop) (J : It) (H' : Hp), itv = .ref it ∧ Inv X pins σ H' s2 ∧ Turn X.prog X.w X.K tg J fp it tn ∧ tn 0 s2.heap ∧ (∀ b ∈ fp, Yfz X pins H' b) ∧ R J H'
def PI (X : Cx) (tg iter : Expr) (wi : TI) : Prop :=
  ∀ (pins : List (Addr × Obj)) (s : Shared) (σ : St) (H : Hp) (R : It → Hp → Prop), Inv X pins σ H s → wi σ H R →
    wpAny (model X.prog X.w) X.A (eval iter X.env) (fun v s1 => wpAny (model X.prog X.w) X.A (pyIter v) (PIE X pins σ tg R) X.xe s1) X.xe s
theorem zgT {M : Model} {A : Around} {E : Value → Shared → Prop} {s : Shared} {tg : Expr} {it : Addr} {u : Value} {o : Obj} {n : String} {vs : Array Value} {Q : Unit → Shared → Prop} (ho : s.heap.get? it = some o) (hc : o.cls = .type n) (hd : o.data = .fields vs)
    (hn : ["enumerate", "zip", "dict_itemiterator", "dict_reverseitemiterator", "odict_iterator", "itertools.zip_longest", "itertools.pairwise"].contains n = false) (hQ : Q () s) : wpAny M A (letOwnedTupleGo tg (.ref it) u) Q E s := by
  unfold letOwnedTupleGo
  cases tg <;> first
    | exact wpAny_pure hQ
    | (cases u <;> first
        | exact wpAny_pure hQ
        | (refine wpAny_bind (wpAny_load ho ?_)
           rw [hc, hd]
           show wpAny M A (if (["enumerate", "zip", "dict_itemiterator", "dict_reverseitemiterator", "odict_iterator", "itertools.zip_longest", "itertools.pairwise"].contains n && vs[0]? == some (rawInt _)) = true then _ else _) Q E s
           rw [if_neg (by intro h; rw [hn, Bool.false_and] at h; cases h)]
           exact wpAny_pure hQ))
def Itl (K : PySem.W.Frag) (a : Addr) : It :=
  ⟨fun i H => ∃ xs x, SqL K H a xs ∧ xs[i]? = some x, fun i H x H' => H' = H ∧ ∀ xs, SqL K H a xs → xs[i]? = some x, fun i H => ∃ xs, SqL K H a xs ∧ xs.length ≤ i⟩
theorem zg1 {P : Program} {w : World} {K : PySem.W.Frag} {tg : Expr} (a it : Addr) : Turn P w K tg (Itl K a) [it] it (fun i h => h.IsListIter it a i) where
  mem := by simp
  obj := fun i h st b hb => by
    have e : b = it := by simpa using hb
    subst e
    obtain ⟨o, e, c, d⟩ := st
    exact ⟨o, e, fun v z => by rw [d] at z; cases z⟩
  keep := fun i h h' st k => st.at fun o e => k it (by simp) o e
  item := by
    intro X hP hw hK hc i pins s σ H E I hf st hg
    subst hP hw hK
    obtain ⟨xs, x, hq, hx⟩ := hg
    obtain ⟨its, rv, p, hz⟩ := I.list hq
    obtain ⟨u, hu, ru⟩ := rv.get hx
    obtain ⟨f0, f1, f2, f3, f4, f5⟩ := hf it (by simp)
    refine wpAny_pyNext_list_item st p.isList (x := u) (by simpa using hu) fun h' st' sb => ?_
    have I1 : Inv X pins σ H { s with heap := h' } := I.turned (t' := s.toks) (fun b o hb e => (sb.2 b hb).trans e) f0 f1 f3 f4 f5
    obtain ⟨o, e, c, d⟩ := id st'
    exact ⟨u, rfl, zgT (s := { s with heap := h' }) e c d (by decide) ⟨x, H, I1, ru, ⟨rfl, fun ys hy => by rw [I.Jgt hy hq]; exact hx⟩, st', fun b hb => (hf b hb).1⟩⟩
  done := by
    intro X hP hw hK hc i pins s σ H E I hf st hg
    subst hP hw hK
    obtain ⟨xs, hq, hx⟩ := hg
    obtain ⟨its, rv, p, hz⟩ := I.list hq
    obtain ⟨f0, f1, f2, f3, f4, f5⟩ := hf it (by simp)
    have hl := rv.length
    exact wpAny_pyNext_list_end (I.ok.hd hc) st p.isList (by simp; omega) fun h' eb => ⟨rfl, I.turned (t' := s.toks) (fun b o hb e => eb b o hb e) f0 f1 f3 f4 f5⟩
  self := fun _ _ _ _ _ st h => wpAny_pyIter_listiter st h
end L2
namespace L2
open PySem PySem.Spec PyProof.Rows
section
variable {X : Cx} {tg : Expr}
def Jhv (K : PySem.W.Frag) (tl : TE) : TI := fun σ H R => tl σ H fun x H1 => ∃ a, x = .ref a ∧ (∃ xs, SqL K H1 a xs) ∧ R (Itl K a) H1
theorem Yho {l : Expr} {tl : TE} (hl : PE X l tl) : PI X tg l (Jhv X.K tl) := by
  intro pins s σ H R I h
  refine thn (hl pins s σ H _ I h) fun v s1 ⟨x, H1, I1, r1, q1⟩ => ?_
  obtain ⟨a, e, ⟨xs, hq⟩, q⟩ := q1
  subst e
  cases r1
  obtain ⟨its, rv, p, hz⟩ := I1.list hq
  refine wpAny_pyIter_list p.isList ?_
  refine ⟨s1.heap.objs.size, [s1.heap.objs.size], _, _, H1, rfl, I1.kept (t' := s1.toks) fun b o e => Heap.get?_push_of_some _ e, zg1 a _, ⟨_, Heap.get?_push_size _ rfl, rfl, rfl⟩, fun b hb => ?_, q⟩
  have e : b = s1.heap.objs.size := by simpa using hb
  subst e
  exact I1.yho (Nat.le_refl _) (I1.hok.fresh (Nat.le_refl _))
def zhM (wi : TI) (g : TG) (tb : TS) : TS := fun D σ H => wi σ H fun J H1 => ∃ W : Nat → Nat → St → Hp → Prop, (∃ m, W 0 m σ H1) ∧ ∀ i m σ H, W i m σ H →
  (J.stop i H ∧ D.nx σ H) ∨ (J.go i H ∧ ∃ N : St → Hp → Prop, (∀ σ' H', N σ' H' → ∃ m', m' < m ∧ W (i + 1) m' σ' H') ∧ ∀ x H', J.yld i H x H' → g x σ H' fun σ2 H2 => tb { D with nx := N, ct := N, bk := D.nx } σ2 H2)
def jfz (fp : List Addr) (h : Heap) : List (Addr × Obj) := fp.filterMap fun b => (h.get? b).map fun o => (b, o)
theorem jey {fp : List Addr} {h : Heap} {b : Addr} {o : Obj} (hb : b ∈ fp) (e : h.get? b = some o) : (b, o) ∈ jfz fp h := List.mem_filterMap.mpr ⟨b, hb, by rw [e]; rfl⟩
theorem Zg1 {fp : List Addr} {h : Heap} {p : Addr × Obj} (hp : p ∈ jfz fp h) : p.1 ∈ fp ∧ h.get? p.1 = some p.2 := by
  obtain ⟨b, hb, e⟩ := List.mem_filterMap.mp hp
  cases q : h.get? b with
  | none => rw [q] at e; cases e
  | some o =>
    rw [q] at e
    have e' : (b, o) = p := Option.some.inj e
    subst e'
    exact ⟨hb, q⟩
theorem Inv.pinned {pins : List (Addr × Obj)} {σ : St} {H : Hp} {s : Shared} {fp : List Addr} (I : Inv X pins σ H s) (hf : ∀ b ∈ fp, Yfz X pins H b) (ho : ∀ b ∈ fp, ∃ o, s.heap.get? b = some o ∧ ∀ v, o.data ≠ .cell v) : Inv X (pins ++ jfz fp s.heap) σ H s :=
  I.YgS fun p hp => (List.mem_append.mp hp).elim (fun z => I.pin p (List.mem_append_right _ z)) fun z => by
    obtain ⟨hb, e⟩ := Zg1 z
    obtain ⟨f0, f1, f2, _⟩ := hf p.1 hb
    obtain ⟨o, e', d⟩ := ho p.1 hb
    rw [e] at e'; cases e'
    exact ⟨e, f0, f1, f2, d⟩
theorem Inv.zeH {pins pl : List (Addr × Obj)} {σ : St} {H : Hp} {s : Shared} (I : Inv X (pins ++ pl) σ H s) : Inv X pins σ H s := I.YgS fun p hp => I.pin p (List.mem_append_right _ (List.mem_append_left _ hp))
theorem Zdn {iter : Expr} {body : List Stmt} {wi : TI} {g : TG} {tb : TS} {pos : Pos} (hp : PassesOwn (model X.prog X.w) X.A X.env X.xe) (hc : X.calm = true) (hi : PI X tg iter wi) (hg : PG X tg g) (hb : PSs X body tb)
    (hs : ∀ x, foldedSetIterable iter X.env x = pure x := by intro _; rfl) : PS X (.For tg iter body [] pos) (zhM wi g tb) := by
  intro pins s σ H D I h
  refine wpAny_For (thn (hi pins s σ H _ I h) fun v s1 h1 => thn h1 fun itv s2 h2 => ?_) hs
  obtain ⟨it, fp, tn, J, H2, e, I2, T, st2, f2, W, ⟨m0, w0⟩, turn⟩ := h2
  subst e
  have stat : ∀ {H' : Hp}, (∀ b ∈ fp, H' b = none) → ∀ b ∈ fp, Yfz X pins H' b := fun hn b hb => ⟨hn b hb, (f2 b hb).2⟩
  refine codeAny_forLoop_any (fun n s' => ∃ i σ' H', Inv X pins σ' H' s' ∧ tn i s'.heap ∧ (∀ b ∈ fp, H' b = none) ∧ W i n σ' H') ?_ m0 ⟨0, σ, H2, I2, st2, fun b hb => (f2 b hb).1, w0⟩
  rintro n s3 ⟨i, σ3, H3, I3, st3, fr3, w3⟩
  rcases turn i n σ3 H3 w3 with ⟨stop, qn⟩ | ⟨go, N, hN, step⟩
  · refine wpAny_passesOwn hp (thn (T.done X rfl rfl rfl hc i pins s3 σ3 H3 X.xe I3 (stat fr3) st3 stop) fun r s4 ⟨hr, I4⟩ => ?_)
    subst hr
    exact wpAny_execs_nil ⟨σ3, H3, I4, qn⟩
  · refine wpAny_passesOwn hp (thn (T.item X rfl rfl rfl hc i pins s3 σ3 H3 X.xe I3 (stat fr3) st3 go) fun r s4 ⟨u, hr, h4⟩ => ?_)
    subst hr
    refine wpAny_passesOwn hp (thn h4 fun _ s5 ⟨x, H5, I5, r5, y5, st5, fr5⟩ => ?_)
    have I5' := I5.pinned (stat fr5) (T.obj _ _ st5)
    refine wpAny_passesOwn hp (thn (hg _ s5 σ3 H5 x u _ I5' r5 (step x H5 y5)) fun _ s6 ⟨σ6, H6, I6, q6⟩ => ?_)
    refine wpAny_passesOwn hp (thn (hb _ s6 σ6 H6 _ I6 q6) fun f s7 q7 => ?_)
    have again : ∀ {σ7 : St} {H7 : Hp}, Inv X (pins ++ jfz fp s5.heap) σ7 H7 s7 → N σ7 H7 → ∃ m, m < n ∧ ∃ i σ' H', Inv X pins σ' H' s7 ∧ tn i s7.heap ∧ (∀ b ∈ fp, H' b = none) ∧ W i m σ' H' := fun {σ7 H7} I7 n7 => by
      obtain ⟨m', hm, w7⟩ := hN σ7 H7 n7
      refine ⟨m', hm, i + 1, σ7, H7, I7.zeH, T.keep _ _ _ st5 fun b hb o e => (I7.pin (b, o) (List.mem_append_right _ (List.mem_append_right _ (jey hb e)))).1, fun b hb => ?_, w7⟩
      obtain ⟨o, e, d⟩ := T.obj _ _ st5 b hb
      exact (I7.pin (b, o) (List.mem_append_right _ (List.mem_append_right _ (jey hb e)))).2.1
    cases f with
    | next => obtain ⟨σ7, H7, I7, n7⟩ := q7; exact again I7 n7
    | cont => obtain ⟨σ7, H7, I7, n7⟩ := q7; exact again I7 n7
    | brk => obtain ⟨σ7, H7, I7, q7⟩ := q7; exact ⟨σ7, H7, I7.zeH, q7⟩
    | ret v => obtain ⟨x7, σ7, H7, I7, r7, q7⟩ := q7; exact ⟨x7, σ7, H7, I7.zeH, r7, q7⟩
end
theorem Ycz {K : PySem.W.Frag} {a : Addr} {xs : List V} {g : TG} {tb : TS} {D : Ends} {σ : St} {H : Hp} (Pv : Nat → St → Hp → Prop) (h0 : Pv 0 σ H) (hl : ∀ i σ H, i ≤ xs.length → Pv i σ H → SqL K H a xs)
    (hs : ∀ i x σ H, xs[i]? = some x → Pv i σ H → g x σ H fun σ2 H2 => tb { D with nx := Pv (i + 1), ct := Pv (i + 1), bk := D.nx } σ2 H2) (hd : ∀ σ H, Pv xs.length σ H → D.nx σ H) :
    ∃ W : Nat → Nat → St → Hp → Prop, (∃ m, W 0 m σ H) ∧ ∀ i m σ H, W i m σ H →
      ((Itl K a).stop i H ∧ D.nx σ H) ∨ ((Itl K a).go i H ∧ ∃ N : St → Hp → Prop, (∀ σ' H', N σ' H' → ∃ m', m' < m ∧ W (i + 1) m' σ' H') ∧ ∀ x H', (Itl K a).yld i H x H' → g x σ H' fun σ2 H2 => tb { D with nx := N, ct := N, bk := D.nx } σ2 H2) := by
  refine ⟨fun i m σ H => m = xs.length - i ∧ i ≤ xs.length ∧ Pv i σ H, ⟨xs.length, by simp, Nat.zero_le _, h0⟩, ?_⟩
  rintro i m σ H ⟨rfl, hi, p⟩
  have q := hl i σ H hi p
  by_cases hlt : i < xs.length
  · refine .inr ⟨⟨xs, xs[i], q, by simp [hlt]⟩, Pv (i + 1), fun σ' H' p' => ⟨xs.length - (i + 1), by omega, rfl, hlt, p'⟩, fun x H' y => ?_⟩
    obtain ⟨e, y⟩ := y
    subst e
    exact hs i x σ _ (y xs q) p
  · have e : i = xs.length := by omega
    subst e
    exact .inl ⟨⟨xs, q, Nat.le_refl _⟩, hd σ H p⟩
theorem Zhb {c : TT} {tb : TS} {D : Ends} {σ : St} {H : Hp} (Pv : St → Hp → Prop) (μ : St → Hp → Nat) (h0 : Pv σ H)
    (hs : ∀ σ H, Pv σ H → c σ H fun b H1 => if b = true then tb { D with nx := fun σ' H' => Pv σ' H' ∧ μ σ' H' < μ σ H, ct := fun σ' H' => Pv σ' H' ∧ μ σ' H' < μ σ H, bk := D.nx } σ H1 else D.nx σ H1)
    (mono : ∀ σ H Q Q', (∀ b H1, Q b H1 → Q' b H1) → c σ H Q → c σ H Q') : Jha c tb D σ H := by
  refine ⟨fun m σ H => m = μ σ H ∧ Pv σ H, ⟨_, rfl, h0⟩, ?_⟩
  rintro m σ H ⟨rfl, p⟩
  refine mono σ H _ _ (fun b H1 q => ?_) (hs σ H p)
  cases b with
  | true => exact ⟨_, fun σ' H' ⟨p', l⟩ => ⟨_, l, rfl, p'⟩, q⟩
  | false => exact q
end L2
namespace L2
open PySem PySem.Spec PyProof.Rows
abbrev R2 := V → V → Hp → VK → Prop
def OpR (X : Cx) (f : Value → Value → Sem Value) (r : R2) : Prop :=
  ∀ (pins : List (Addr × Obj)) (s : Shared) (σ : St) (H : Hp) (x y : V) (v u : Value) (Q : VK), Inv X pins σ H s → RelV x v → RelV y u → r x y H Q →
    wpAny (model X.prog X.w) X.A (f v u) (EP X pins σ Q) X.xe s
def UnR (X : Cx) (f : Value → Sem Value) (r : V → Hp → VK → Prop) : Prop :=
  ∀ (pins : List (Addr × Obj)) (s : Shared) (σ : St) (H : Hp) (x : V) (v : Value) (Q : VK), Inv X pins σ H s → RelV x v → r x H Q →
    wpAny (model X.prog X.w) X.A (f v) (EP X pins σ Q) X.xe s
def ycj (X : Cx) (f : Value) (r : List V → Hp → VK → Prop) : Prop :=
  ∀ (pins : List (Addr × Obj)) (s : Shared) (σ : St) (H : Hp) (xs : List V) (us : List Value) (Q : VK), Inv X pins σ H s → Vals xs us → r xs H Q →
    wpAny (model X.prog X.w) X.A (call f us) (EP X pins σ Q) X.xe s
def tOp (r : R2) (ta tb : TE) : TE := fun σ H Q => ta σ H fun x H1 => tb σ H1 fun y H2 => r x y H2 Q
def tUn (r : V → Hp → VK → Prop) (ta : TE) : TE := fun σ H Q => ta σ H fun x H1 => r x H1 Q
def rI0 (g : Int → Int → V) : R2 := fun x y H Q => ∃ i j, x = .int i ∧ y = .int j ∧ Q (g i j) H
def rU (g : Int → V) : V → Hp → VK → Prop := fun x H Q => ∃ i, x = .int i ∧ Q (g i) H
section
variable {X : Cx} {a b c : Expr} {ta tb tc : TE} {pos : Pos}
theorem Jhy (ha : PE X a ta) (hb : PE X b tb) {pins : List (Addr × Obj)} {s : Shared} {σ : St} {H : Hp} {R : V → V → Hp → Prop} (I : Inv X pins σ H s)
    (h : ta σ H fun x H1 => tb σ H1 fun y H2 => R x y H2) {Q : Value → Shared → Prop} {f : Value → Value → Sem Value}
    (hf : ∀ v u s2 x y H2, Inv X pins σ H2 s2 → RelV x v → RelV y u → R x y H2 → wpAny (model X.prog X.w) X.A (f v u) Q X.xe s2) :
    wpAny (model X.prog X.w) X.A (eval a X.env) (fun v s₁ => wpAny (model X.prog X.w) X.A (eval b X.env) (fun u s₂ => wpAny (model X.prog X.w) X.A (f v u) Q X.xe s₂) X.xe s₁) X.xe s := by
  refine thn (ha pins s σ H _ I h) fun v s1 ⟨x, H1, I1, r1, q1⟩ => ?_
  refine thn (hb pins s1 σ H1 _ I1 q1) fun u s2 ⟨y, H2, I2, r2, q2⟩ => ?_
  exact hf v u s2 x y H2 I2 r1 r2 q2
theorem ZeH {op : Operator} {r : R2} (ho : OpR X (binaryOp op) r) (ha : PE X a ta) (hb : PE X b tb) : PE X (.BinOp a op b pos) (tOp r ta tb) := by
  intro pins s σ H Q I h
  exact wpAny_BinOp (Jhy ha hb I h fun v u s2 x y H2 I2 rx ry q => ho pins s2 σ H2 x y v u Q I2 rx ry q)
theorem zhw {op : UnaryOp} {r : V → Hp → VK → Prop} (ho : UnR X (unaryOp op) r) (ha : PE X a ta) : PE X (.UnaryOp op a pos) (tUn r ta) := by
  intro pins s σ H Q I h
  exact UnaryOp_ (thn (ha pins s σ H _ I h) fun v s1 ⟨x, H1, I1, r1, q1⟩ => ho pins s1 σ H1 x v Q I1 r1 q1)
theorem ZhF {f : Value → Value → Sem Value} {g : Int → Int → Int}
    (rule : ∀ (i j : Int) (t u : Tok) (s : Shared) (Q : Value → Shared → Prop) (E : Value → Shared → Prop), Q (.int (g i j) s.toks) { s with toks := s.toks + 1 } → wpAny (model X.prog X.w) X.A (f (.int i t) (.int j u)) Q E s) :
    OpR X f (rI0 fun i j => .int (g i j)) := by
  intro pins s σ H x y v u Q I rx ry h
  obtain ⟨i, j, rfl, rfl, q⟩ := h
  obtain ⟨t, rfl⟩ := rx
  obtain ⟨t', rfl⟩ := ry
  exact rule i j t t' s _ _ ⟨.int (g i j), H, I.tok _, ⟨_, rfl⟩, q⟩
theorem jho {f : Value → Value → Sem Value} {g : Int → Int → Bool}
    (rule : ∀ (i j : Int) (t u : Tok) (s : Shared) (Q : Value → Shared → Prop) (E : Value → Shared → Prop), Q (.bool (g i j)) s → wpAny (model X.prog X.w) X.A (f (.int i t) (.int j u)) Q E s) :
    OpR X f (rI0 fun i j => .bl (g i j)) := by
  intro pins s σ H x y v u Q I rx ry h
  obtain ⟨i, j, rfl, rfl, q⟩ := h
  obtain ⟨t, rfl⟩ := rx
  obtain ⟨t', rfl⟩ := ry
  exact rule i j t t' s _ _ ⟨.bl (g i j), H, I, rfl, q⟩
theorem yge : OpR X (binaryOp .Add) (rI0 fun i j => .int (i + j)) := ZhF fun _ _ _ _ _ _ _ q => add_int q
theorem YgJ : OpR X (binaryOp .Sub) (rI0 fun i j => .int (i - j)) := ZhF fun _ _ _ _ _ _ _ q => sub_int q
theorem unI {f : Value → Sem Value} {g : Int → Int}
    (rule : ∀ (i : Int) (t : Tok) (s : Shared) (Q : Value → Shared → Prop) (E : Value → Shared → Prop), Q (.int (g i) s.toks) { s with toks := s.toks + 1 } → wpAny (model X.prog X.w) X.A (f (.int i t)) Q E s) :
    UnR X f (rU fun i => .int (g i)) := by
  intro pins s σ H x v Q I rx h
  obtain ⟨i, rfl, q⟩ := h
  obtain ⟨t, rfl⟩ := rx
  exact rule i t s _ _ ⟨.int (g i), H, I.tok _, ⟨_, rfl⟩, q⟩
theorem yhb : UnR X (unaryOp .USub) (rU fun i => .int (-i)) := unI fun _ _ _ _ _ q => neg_int q
end
def yhF : V → V → Bool
  | .non, .non => true | .non, .int _ => true | .int _, .non => true | .non, .bl _ => true | .bl _, .non => true | .non, .str _ => true | .str _, .non => true
  | .int _, .int _ => true | .bl _, .bl _ => true | .str _, .str _ => true | .byt _, .byt _ => true
  | .int _, .str _ => true | .str _, .int _ => true | .bl _, .str _ => true | .str _, .bl _ => true
  | _, _ => false
def rEq : R2 := fun x y H Q => yhF x y = true ∧ Q (.bl (decide (x = y))) H
def rNe : R2 := fun x y H Q => yhF x y = true ∧ Q (.bl (!decide (x = y))) H
theorem ZgT {i j : Int} : decide (V.int i = V.int j) = (i == j) := by
  rw [Bool.eq_iff_iff]
  simp
theorem Yhb {i j : Bool} : decide (V.bl i = V.bl j) = (i == j) := by
  rw [Bool.eq_iff_iff]
  simp
theorem ygT {i j : Str} : decide (V.str i = V.str j) = (i == j) := by
  rw [Bool.eq_iff_iff]
  simp
theorem YgT {i j : Array UInt8} : decide (V.byt i = V.byt j) = (i.toList == j.toList) := by
  rw [Bool.eq_iff_iff]
  cases i
  cases j
  simp
section
variable {X : Cx} {a b c : Expr} {ta tb tc : TE} {pos : Pos}
theorem zQ {pins : List (Addr × Obj)} {σ : St} {H : Hp} {s : Shared} {Q : VK} {k k' : Bool} (I : Inv X pins σ H s) (q : Q (.bl k) H) (e : k = k') : EP X pins σ Q (.bool k') s := by
  subst e
  exact ⟨.bl k, H, I, rfl, q⟩
theorem ZaL : OpR X (compareOp .Eq) rEq := by
  intro pins s σ H x y v u Q I rx ry h
  obtain ⟨hs, q⟩ := h
  cases x with
  | non =>
    cases rx
    cases y with
    | non => cases ry; exact PySem.EqNone.eq_none_none (zQ I q (by simp))
    | bl j => cases ry; exact PySem.EqNone.eq_none_bool (zQ I q (by simp))
    | int j => obtain ⟨t', rfl⟩ := ry; exact PySem.EqNone.eq_none_int (zQ I q (by simp))
    | str j => obtain ⟨t', rfl⟩ := ry; exact PySem.EqNone.eq_none_str (zQ I q (by simp))
    | _ => exact absurd (show false = true from hs) Bool.false_ne_true
  | bl i =>
    cases rx
    cases y with
    | non => cases ry; exact PySem.EqNone.eq_bool_none (zQ I q (by simp))
    | bl j => cases ry; exact eq_bool (zQ I q Yhb)
    | str j => obtain ⟨t', rfl⟩ := ry; exact PySem.EqMixed.eq_bool_str (zQ I q (by simp))
    | _ => exact absurd (show false = true from hs) Bool.false_ne_true
  | int i =>
    obtain ⟨t, rfl⟩ := rx
    cases y with
    | non => cases ry; exact PySem.EqNone.eq_int_none (zQ I q (by simp))
    | int j => obtain ⟨t', rfl⟩ := ry; exact eq_int (zQ I q ZgT)
    | str j => obtain ⟨t', rfl⟩ := ry; exact PySem.EqMixed.eq_int_str (zQ I q (by simp))
    | _ => exact absurd (show false = true from hs) Bool.false_ne_true
  | str i =>
    obtain ⟨t, rfl⟩ := rx
    cases y with
    | non => cases ry; exact PySem.EqNone.eq_str_none (zQ I q (by simp))
    | bl j => cases ry; exact PySem.EqMixed.eq_str_bool (zQ I q (by simp))
    | int j => obtain ⟨t', rfl⟩ := ry; exact PySem.EqMixed.eq_str_int (zQ I q (by simp))
    | str j => obtain ⟨t', rfl⟩ := ry; exact eq_str (zQ I q ygT)
    | _ => exact absurd (show false = true from hs) Bool.false_ne_true
  | byt i =>
    obtain ⟨t, rfl⟩ := rx
    cases y with
    | byt j => obtain ⟨t', rfl⟩ := ry; exact PySem.W.eq_bytes (zQ I q YgT)
    | _ => exact absurd (show false = true from hs) Bool.false_ne_true
  | _ => cases y <;> exact absurd (show false = true from hs) Bool.false_ne_true
theorem zf3 : OpR X (compareOp .NotEq) rNe := by
  intro pins s σ H x y v u Q I rx ry h
  obtain ⟨hs, q⟩ := h
  cases x with
  | non =>
    cases rx
    cases y with
    | non => cases ry; exact PySem.EqNone.ne_none_none (zQ I q (by simp))
    | bl j => cases ry; exact PySem.EqNone.ne_none_bool (zQ I q (by simp))
    | int j => obtain ⟨t', rfl⟩ := ry; exact PySem.EqNone.ne_none_int (zQ I q (by simp))
    | str j => obtain ⟨t', rfl⟩ := ry; exact PySem.EqNone.ne_none_str (zQ I q (by simp))
    | _ => exact absurd (show false = true from hs) Bool.false_ne_true
  | bl i =>
    cases rx
    cases y with
    | non => cases ry; exact PySem.EqNone.ne_bool_none (zQ I q (by simp))
    | bl j => cases ry; exact ne_bool (zQ I q (congrArg not Yhb))
    | str j => obtain ⟨t', rfl⟩ := ry; exact PySem.EqMixed.ne_bool_str (zQ I q (by simp))
    | _ => exact absurd (show false = true from hs) Bool.false_ne_true
  | int i =>
    obtain ⟨t, rfl⟩ := rx
    cases y with
    | non => cases ry; exact PySem.EqNone.ne_int_none (zQ I q (by simp))
    | int j => obtain ⟨t', rfl⟩ := ry; exact ne_int (zQ I q (congrArg not ZgT))
    | str j => obtain ⟨t', rfl⟩ := ry; exact PySem.EqMixed.ne_int_str (zQ I q (by simp))
    | _ => exact absurd (show false = true from hs) Bool.false_ne_true
  | str i =>
    obtain ⟨t, rfl⟩ := rx
    cases y with
    | non => cases ry; exact PySem.EqNone.ne_str_none (zQ I q (by simp))
    | bl j => cases ry; exact PySem.EqMixed.ne_str_bool (zQ I q (by simp))
    | int j => obtain ⟨t', rfl⟩ := ry; exact PySem.EqMixed.ne_str_int (zQ I q (by simp))
    | str j => obtain ⟨t', rfl⟩ := ry; exact ne_str (zQ I q (congrArg not ygT))
    | _ => exact absurd (show false = true from hs) Bool.false_ne_true
  | byt i =>
    obtain ⟨t, rfl⟩ := rx
    cases y with
    | byt j => obtain ⟨t', rfl⟩ := ry; exact PySem.W.ne_bytes (zQ I q (congrArg not YgT))
    | _ => exact absurd (show false = true from hs) Bool.false_ne_true
  | _ => cases y <;> exact absurd (show false = true from hs) Bool.false_ne_true
theorem Yff : OpR X (compareOp .Lt) (rI0 fun i j => .bl (decide (i < j))) := jho fun _ _ _ _ _ _ _ q => lt_int q
theorem yem : OpR X (compareOp .LtE) (rI0 fun i j => .bl (decide (i ≤ j))) := jho fun _ _ _ _ _ _ _ q => le_int q
theorem jgT : OpR X (compareOp .Gt) (rI0 fun i j => .bl (decide (j < i))) := jho fun _ _ _ _ _ _ _ q => gt_int q
theorem jhb : OpR X (compareOp .GtE) (rI0 fun i j => .bl (decide (j ≤ i))) := jho fun _ _ _ _ _ _ _ q => ge_int q
theorem jm (b : Expr) {op : CmpOp} (h : op ≠ .In := by decide) (h2 : op ≠ .NotIn := by decide) : behindInMarks op b = false := by
  have e1 : (op == CmpOp.In) = false := by cases op <;> first | rfl | exact absurd rfl h
  have e2 : (op == CmpOp.NotIn) = false := by cases op <;> first | rfl | exact absurd rfl h2
  cases b <;> simp [behindInMarks, e1, e2]
theorem ZaW {op : CmpOp} {r : R2} (ho : OpR X (compareOp op) r) (ha : PE X a ta) (hb : PE X b tb) (hm : behindInMarks op b = false) : PE X (.Compare a [op] [b] pos) (tOp r ta tb) := by
  intro pins s σ H Q I h
  exact wpAny_Compare1 (Jhy ha hb I h fun v u s2 x y H2 I2 rx ry q => ho pins s2 σ H2 x y v u Q I2 rx ry q) hm
def Zhw (t : TE) : TT := fun σ H Q => t σ H fun x H' => ∃ k, x = .bl k ∧ Q k H'
theorem Yq {op : CmpOp} {r : R2} (ho : OpR X (compareOp op) r) (ha : PE X a ta) (hb : PE X b tb) (hm : behindInMarks op b = false) : PT X (.Compare a [op] [b] pos) (Zhw (tOp r ta tb)) := by
  intro pins s σ H Q I h
  refine wpAny_isTrue_Compare1 (thn (ha pins s σ H _ I h) fun v s1 ⟨x, H1, I1, r1, q1⟩ => thn (hb pins s1 σ H1 _ I1 q1) fun u s2 ⟨y, H2, I2, r2, q2⟩ =>
    thn (ho pins s2 σ H2 x y v u _ I2 r1 r2 q2) fun c s3 ⟨z, H3, I3, r3, k, e, q3⟩ => ?_) hm
  subst e
  cases r3
  exact wpAny_truthy_bool ⟨H3, I3, q3⟩
def zhz (r r' : R2) (ta tb tc : TE) : TE := fun σ H Q => ta σ H fun x H1 => tb σ H1 fun y H2 => r x y H2 fun z H3 => ∃ k, z = .bl k ∧
  (if k = true then tc σ H3 fun w' H4 => r' y w' H4 Q else Q (.bl false) H3)
theorem Jfz {op op' : CmpOp} {r r' : R2} (ho : OpR X (compareOp op) r) (ho' : OpR X (compareOp op') r') (ha : PE X a ta) (hb : PE X b tb) (hc : PE X c tc)
    (hm : lastMarks [op, op'] [b, c] = false := by with_unfolding_all rfl) : PT X (.Compare a [op, op'] [b, c] pos) (Zhw (zhz r r' ta tb tc)) := by
  intro pins s σ H Q I h
  refine isTrue_chain (thn (ha pins s σ H _ I h) fun v s1 ⟨x, H1, I1, r1, q1⟩ => test_link (thn (hb pins s1 σ H1 _ I1 q1) fun u s2 ⟨y, H2, I2, r2, q2⟩ =>
    thn (ho pins s2 σ H2 x y v u _ I2 r1 r2 q2) fun d s3 ⟨z, H3, I3, r3, k, e, q3⟩ => ?_)) hm
  subst e
  cases r3
  refine wpAny_truthy_bool ?_
  cases k with
  | false =>
    obtain ⟨k', e', q'⟩ := q3
    cases e'
    exact ite_ff ⟨H3, I3, q'⟩
  | true =>
    refine ite_tt (test_last (thn (hc pins s3 σ H3 _ I3 q3) fun w' s4 ⟨z', H4, I4, r4, q4⟩ => thn (ho' pins s4 σ H4 y z' u w' _ I4 r2 r4 q4) fun d' s5 ⟨z2, H5, I5, r5, k2, e2, q5⟩ => ?_))
    subst e2
    cases r5
    exact wpAny_truthy_bool ⟨H5, I5, q5⟩
theorem Yge : (sizeLine : Nat) < 2 ^ 63 := by rw [sizeLine_eq]; decide
theorem vals1 {x : V} {us : List Value} (r : Vals [x] us) : ∃ u, us = [u] ∧ RelV x u := by
  cases r with
  | cons r1 r2 => cases r2; exact ⟨_, rfl, r1⟩
theorem vals2 {x y : V} {us : List Value} (r : Vals [x, y] us) : ∃ u w', us = [u, w'] ∧ RelV x u ∧ RelV y w' := by
  cases r with
  | cons r1 r2 =>
    cases r2 with
    | cons r3 r4 => cases r4; exact ⟨_, _, rfl, r1, r3⟩
theorem Zf3 (hc : X.calm = true) : ycj X (.builtin "min") (fun xs H Q => ∃ i j, xs = [.int i, .int j] ∧ Q (.int (if j < i then j else i)) H) := by
  intro pins s σ H xs us Q I r h
  obtain ⟨i, j, rfl, q⟩ := h
  obtain ⟨u, w', rfl, ⟨t, rfl⟩, ⟨t', rfl⟩⟩ := vals2 r
  refine min_two_ints (I.ok.hd hc) fun h' tk k => ⟨_, H, I.kept k, ?_, q⟩
  by_cases hj : j < i
  · rw [if_pos hj, if_pos hj]; exact ⟨_, rfl⟩
  · rw [if_neg hj, if_neg hj]; exact ⟨_, rfl⟩
end
end L2
namespace L2
open PySem PySem.Spec PyProof.Rows
structure jgJ (h : Heap) (x dx C : Addr) (mA : Str → Option Value) : Prop where
  obj : h.get? x = some (PySem.W.instObj C dx)
  ns : h.Ns1 dx mA
  ne : dx ≠ x
theorem yg1 {h : Heap} {dx : Addr} {mA : Str → Option Value} (n : h.Ns1 dx mA) : ∃ od, h.get? dx = some od ∧ ∀ name, PySem.W.lookIn name od = some (mA name) := by
  obtain ⟨o, es, ep, ho, hd, hk, _, hm⟩ := n
  refine ⟨o, ho, fun name => ?_⟩
  have e := hm name
  unfold nsFind findBy at e
  rw [← Array.find?_toList] at e
  unfold PySem.W.lookIn
  rw [hd]
  dsimp only
  split
  · rename_i y q
    rw [q] at e
    exact congrArg some e
  · rename_i q
    rw [q] at e
    have a : es.toList.any (·.refKey) = false := by
      rw [List.any_eq_false]
      intro y hy
      obtain ⟨z, t, hkey⟩ := hk y (Array.mem_toList_iff.mp hy)
      simp [DictEntry.refKey, hkey]
    have a' : ¬ es.toList.any (·.refKey) = true := by rw [a]; exact Bool.false_ne_true
    rw [if_neg a']
    exact congrArg some e
theorem jgJ.look {h : Heap} {x dx C : Addr} {mA : Str → Option Value} (I : jgJ h x dx C mA) : ∃ od, PySem.W.InstAt h x (PySem.W.instObj C dx) C (some od) ∧ ∀ name, PySem.W.lookIn name od = some (mA name) :=
  let ⟨od, ho, hl⟩ := yg1 I.ns
  ⟨od, ⟨I.obj, rfl, rfl, ho⟩, hl⟩
section
variable {prog : Program} {w : World} {A : Around} {E : Value → Shared → Prop} {s : Shared} {K : PySem.W.Frag} {x dx C f : Addr} {mA : Str → Option Value} {name : Str} {v : Value}
theorem Jho {expr : Bool} {Q : Value → Shared → Prop} (X : K.In s.heap) (I : jgJ s.heap x dx C mA) (hg : PySem.W.plainGet K C name = true) (hh : PySem.W.hasDictIn K C = true)
    (ha : PySem.W.findIn K (.ref C) name = some none) (hv : mA name = some v) (hv' : PySem.W.handedIn v = true) (h : Q v { s with toks := s.toks + 1 }) :
    wpAny (model prog w) A (getAttr (.ref x) name expr) Q E s := by
  obtain ⟨od, J, hl⟩ := I.look
  exact PySem.W.get_value X J (PySem.W.plainGet_of hg).1 (PySem.W.findObj_own hh ha rfl (by rw [hl, hv])) hv' h
theorem Jhb {pl : Sem Bool} {Q : Value × List Value → Shared → Prop} (X : K.In s.heap) (I : jgJ s.heap x dx C mA) (hg : PySem.W.plainGet K C name = true)
    (hf : PySem.W.findIn K (.ref C) name = some (some (.ref f))) (ht : PySem.W.isFn K (.ref f) = true) (hv : mA name = none) (h : Q (.ref f, [.ref x]) s) :
    wpAny (model prog w) A (getMethod (.ref x) name pl) Q E s := by
  obtain ⟨od, J, hl⟩ := I.look
  exact PySem.W.method_fn X J (PySem.W.plainGet_of hg).1 (PySem.W.plainGet_of hg).2 hf (beq_iff_eq.mp ht) (by show (PySem.W.lookIn name od).map (·.isSome) = some false; rw [hl, hv]; rfl) h
theorem zhp {ns : List Str} {Q : Unit → Shared → Prop} (X : K.In s.heap) (I : jgJ s.heap x dx C mA)
    (hs : PySem.W.findIn K (.ref C) "__setattr__" = some (some (.builtin "object.__setattr__"))) (hp : PySem.W.plainOver K C = true) (ht : PySem.W.takerIn K C name = some none) (hh : PySem.W.hasDictIn K C = true)
    (hw : PySem.Within mA ns) (hsz : ns.length ≤ sizeLine)
    (h : ∀ h', jgJ h' x dx C (fun y => if y = name then some v else mA y) → Heap.SameBut dx s.heap h' → Q () { s with heap := h', toks := s.toks + 2 }) :
    wpAny (model prog w) A (setAttr (.ref x) name v) Q E s := by
  obtain ⟨od, J, hl⟩ := I.look
  refine PySem.W.set_plain X J hs (PySem.W.osa_open (s := { s with toks := s.toks + 1 }) (r := none) X J hp ht fun b => ?_)
  obtain ⟨cd, hc, hd'⟩ := PySem.W.any_some hh
  have hx : s.heap.get? x = some ⟨.ref C, some dx, .plain, #[]⟩ := I.obj
  refine wpAny_bind (wpAny_pure (wpAny_bind (wpAny_bind (wpAny_loadPart hx (wpAny_bind (PySem.W.Looks.here (s := { s with toks := s.toks + 1 }) (PySem.W.looks_clsIn X hc) ?_))))))
  rw [hd']
  refine wpAny_pure (a := some dx) (wpAny_bind (wpAny_pure (wpAny_bind ?_)))
  refine wpAny_nsSet1 (s := { s with toks := s.toks + 1 }) I.ns fun h' hn2 hs2 => ?_
  obtain ⟨oD, esD, epD, hoD, hdD, hcD⟩ := hn2.count (PySem.Within.cons name v hw)
  refine wpAny_bind (wpAny_lookBehind hoD (by rw [hdD]; exact pastItsLine_dict (Nat.le_trans hcD (by rw [List.length_cons]; omega))) ?_)
  exact wpAny_pure (h _ ⟨(hs2.2 _ (Ne.symm I.ne)).trans I.obj, hn2, I.ne⟩ hs2)
theorem zhc {R : Result → Shared → Prop} {vs : List Value} {kw : List (Str × Value)} (X : K.In s.heap) (hm : PySem.W.makesIn K C = true)
    (hi : PySem.W.findIn K (.ref C) "__init__" = some (some (.ref f))) (hf : PySem.W.typeIn K (.ref f) = some (.type "function"))
    (h : codeAny (model prog w) (A.under (.builtin "type.__call__" ⟨.ref C :: vs, kw⟩)) (.call (.ref f) ⟨.ref (s.heap.objs.size + 1) :: vs, kw⟩) (PySem.W.InitBack (s.heap.objs.size + 1) R)
      { s with heap := (s.heap.push PySem.W.emptyDict).push (PySem.W.instObj C s.heap.objs.size) }) :
    codeAny (model prog w) A (.call (.ref C) ⟨vs, kw⟩) R s := by
  obtain ⟨hh, g, d, t, os⟩ := s
  exact PySem.W.make_core (PySem.W.makes_of X hm) (PySem.W.looks_findIn X hi) (fun self => PySem.W.bind_fn X self hf) (.inl rfl) h
end
def jei (f : Str) (v : V) : List (Str × V) → List (Str × V)
  | [] => [(f, v)]
  | (g, x) :: r => if g = f then (g, v) :: r else (g, x) :: jei f v r
theorem jff (f g : Str) (v : V) : ∀ fs : List (Str × V), (jei f v fs).lookup g = if g = f then some v else fs.lookup g
  | [] => by
    show List.lookup g [(f, v)] = _
    by_cases h : g = f
    · have hb : (g == f) = true := beq_iff_eq.mpr h
      simp only [List.lookup, hb, if_pos h]
    · have hb : (g == f) = false := beq_eq_false_iff_ne.mpr h
      simp only [List.lookup, hb, if_neg h]
  | (k, x) :: r => by
    have ih := jff f g v r
    rw [show jei f v ((k, x) :: r) = (if k = f then (k, v) :: r else (k, x) :: jei f v r) from rfl]
    by_cases hk : k = f
    · rw [if_pos hk]
      by_cases h : g = k
      · have hb : (g == k) = true := beq_iff_eq.mpr h
        simp only [List.lookup, hb, if_pos (h.trans hk)]
      · have hb : (g == k) = false := beq_eq_false_iff_ne.mpr h
        simp only [List.lookup, hb, if_neg (fun e : g = f => h (e.trans hk.symm))]
    · rw [if_neg hk]
      by_cases h : g = k
      · have hb : (g == k) = true := beq_iff_eq.mpr h
        simp only [List.lookup, hb, if_neg (fun e : g = f => hk (h.symm.trans e))]
      · have hb : (g == k) = false := beq_eq_false_iff_ne.mpr h
        simp only [List.lookup, hb]
        exact ih
theorem Je2 (f : Str) (v : V) : ∀ fs : List (Str × V), f ∈ (jei f v fs).map (·.1) ∧ ∀ g, g ∈ fs.map (·.1) → g ∈ (jei f v fs).map (·.1)
  | [] => ⟨by simp [jei], fun g h => by simp at h⟩
  | (k, x) :: r => by
    obtain ⟨i1, i2⟩ := Je2 f v r
    rw [show jei f v ((k, x) :: r) = (if k = f then (k, v) :: r else (k, x) :: jei f v r) from rfl]
    by_cases hk : k = f
    · rw [if_pos hk]
      subst hk
      exact ⟨by simp, fun g h => by simpa using h⟩
    · rw [if_neg hk]
      refine ⟨?_, fun g h => ?_⟩
      · rw [List.map_cons]
        exact List.mem_cons_of_mem _ i1
      · rw [List.map_cons] at h ⊢
        rcases List.mem_cons.mp h with e | e
        · exact List.mem_cons.mpr (.inl e)
        · exact List.mem_cons_of_mem _ (i2 g e)
theorem Jff (f : Str) (v : V) : ∀ fs : List (Str × V), (jei f v fs).length ≤ fs.length + 1
  | [] => by simp [jei]
  | (k, x) :: r => by
    have ih := Jff f v r
    rw [show jei f v ((k, x) :: r) = (if k = f then (k, v) :: r else (k, x) :: jei f v r) from rfl]
    by_cases hk : k = f
    · rw [if_pos hk, List.length_cons, List.length_cons]; omega
    · rw [if_neg hk, List.length_cons, List.length_cons]; omega
theorem jdm.some_of {v : V} {o : Option Value} (r : jdm (some v) o) : ∃ u, o = some u ∧ RelV v u := by
  cases o with
  | none => exact (show False from r).elim
  | some u => exact ⟨u, rfl, r⟩
theorem jdm.none_of {o : Option Value} (r : jdm none o) : o = none := by
  cases o with
  | none => rfl
  | some u => exact (show False from r).elim
theorem Yg1 {v : V} {u : Value} (r : RelV v u) : PySem.W.handedIn u = true := by
  cases v with
  | non => cases (show u = Value.none from r); rfl
  | bl b => cases (show u = Value.bool b from r); rfl
  | int i => obtain ⟨t, e⟩ := (show ∃ t, u = Value.int i t from r); cases e; rfl
  | str x => obtain ⟨t, e⟩ := (show ∃ t, u = Value.str x t from r); cases e; rfl
  | byt b => obtain ⟨t, e⟩ := (show ∃ t, u = Value.bytes b t from r); cases e; rfl
  | flt b => obtain ⟨t, e⟩ := (show ∃ t, u = Value.float b t from r); cases e; rfl
  | ref a => cases (show u = Value.ref a from r); rfl
  | ty n => cases (show u = Value.type n from r); rfl
section
variable {P : Program} {w : World} {H H' : Hp} {h h' : Heap} {a C dx : Addr} {fs fs' : List (Str × V)}
theorem yeH (hok : HOk P w H h) (e : H a = some (.ins C dx fs)) : ∃ mA, jgJ h a dx C mA ∧ (∀ f, jdm (fs.lookup f) (mA f)) ∧ PySem.Within mA (fs.map (·.1)) ∧ fs.length ≤ 1000 ∧ H dx = some (.own a) := by
  obtain ⟨d, z, ne, ob, mA, n, r, q⟩ := (show yO P w H h a (.ins C dx fs) from hok a _ e)
  exact ⟨mA, ⟨ob, n, ne⟩, r, q, z, d⟩
end
structure Cls (K : PySem.W.Frag) (C : Addr) : Prop where
  pg : PySem.W.plainGet K C Str.empty = true
  hd : PySem.W.hasDictIn K C = true
  po : PySem.W.plainOver K C = true
  sa : PySem.W.findIn K (.ref C) "__setattr__" = some (some (.builtin "object.__setattr__"))
theorem Cls.get {K : PySem.W.Frag} {C : Addr} (c : Cls K C) (f : Str) : PySem.W.plainGet K C f = true := c.pg
def Jm (K : PySem.W.Frag) (C : Addr) (f : Str) : Prop := PySem.W.findIn K (.ref C) f = some none
theorem Jm.taker {K : PySem.W.Frag} {C : Addr} {f : Str} (n : Jm K C f) : PySem.W.takerIn K C f = some none := by
  unfold PySem.W.takerIn
  rw [show PySem.W.findIn K (.ref C) f = some none from n]
  rfl
structure Meth (K : PySem.W.Frag) (C : Addr) (m : Str) (f : Addr) : Prop where
  at_ : PySem.W.findIn K (.ref C) m = some (some (.ref f))
  fn : PySem.W.isFn K (.ref f) = true
  kp : PySem.W.keepIn K (.ref f) = true
section
variable {X : Cx} {pins : List (Addr × Obj)} {σ : St} {H : Hp} {s : Shared} {a C dx : Addr} {fs : List (Str × V)} {f : Str} {v : V} {A : Around} {E : Value → Shared → Prop}
theorem JgJ {b : Bool} {Q : Value → Shared → Prop} (I : Inv X pins σ H s) (e : H a = some (.ins C dx fs)) (c : Cls X.K C) (n : Jm X.K C f) (l : fs.lookup f = some v)
    (h : ∀ u s', Inv X pins σ H s' → RelV v u → Q u s') : wpAny (model X.prog X.w) A (getAttr (.ref a) f b) Q E s := by
  obtain ⟨mA, O, r, _, _, _⟩ := yeH I.hok e
  obtain ⟨u, hu, ru⟩ := jdm.some_of (v := v) (o := mA f) (by rw [← l]; exact r f)
  exact Jho I.kIn O (c.get f) c.hd n hu (Yg1 ru) (h u _ (I.tok _) ru)
theorem ydn {m : Str} {g : Addr} {pl : Sem Bool} {Q : Value × List Value → Shared → Prop} (I : Inv X pins σ H s) (e : H a = some (.ins C dx fs)) (c : Cls X.K C) (k : Meth X.K C m g) (l : fs.lookup m = none)
    (h : Q (.ref g, [.ref a]) s) : wpAny (model X.prog X.w) A (getMethod (.ref a) m pl) Q E s := by
  obtain ⟨mA, O, r, _, _, _⟩ := yeH I.hok e
  have hn : mA m = none := jdm.none_of (by rw [← l]; exact r m)
  exact Jhb I.kIn O (c.get m) k.at_ k.fn hn h
theorem zgK {y : V} {u : Value} {Q : Unit → Shared → Prop} (I : Inv X pins σ H s) (e : H a = some (.ins C dx fs)) (c : Cls X.K C) (n : Jm X.K C f) (hl : fs.length < 1000) (ry : RelV y u)
    (h : ∀ s', Inv X pins σ (upd H a (.ins C dx (jei f y fs))) s' → Q () s') : wpAny (model X.prog X.w) A (setAttr (.ref a) f u) Q E s := by
  obtain ⟨mA, O, r, wi, _, ho⟩ := yeH I.hok e
  have hz : (fs.map (·.1)).length ≤ sizeLine := by rw [List.length_map, sizeLine_eq]; omega
  refine zhp I.kIn O c.sa c.po n.taker c.hd wi hz fun h' O' sb => h _ ?_
  have hd : ∃ o, h'.get? dx = some o := let ⟨o, _, _, e', _⟩ := O'.ns; ⟨o, e'⟩
  refine I.write (x := a) (e := dx) (by rw [e]; exact True.intro) (.inr ho) (fun b q hb z => (sb.2 b hb).trans z) hd ?_
  refine ⟨by rw [Zc O.ne]; exact ho, ?_, O.ne, O'.obj, _, O'.ns, fun g => ?_, fun g hg => ?_⟩
  · have := Jff f y fs; omega
  · show jdm ((jei f y fs).lookup g) (if g = f then some u else mA g)
    rw [jff]
    by_cases q : g = f
    · rw [if_pos q, if_pos q]; exact ry
    · rw [if_neg q, if_neg q]; exact r g
  · by_cases q : g = f
    · rw [q]; exact (Je2 f y fs).1
    · refine (Je2 f y fs).2 g (wi g fun z => hg ?_)
      show (if g = f then some u else mA g) = none
      rw [if_neg q]; exact z
theorem Inv.made (I : Inv X pins σ H s) : Inv X pins σ (upd (upd H s.heap.objs.size (.own (s.heap.objs.size + 1))) (s.heap.objs.size + 1) (.ins C s.heap.objs.size []))
    { s with heap := (s.heap.push PySem.W.emptyDict).push (PySem.W.instObj C s.heap.objs.size) } := by
  have e1 : (s.heap.push PySem.W.emptyDict).get? s.heap.objs.size = some PySem.W.emptyDict := Heap.get?_push_size s.heap rfl
  have e2 : ((s.heap.push PySem.W.emptyDict).push (PySem.W.instObj C s.heap.objs.size)).get? (s.heap.objs.size + 1) = some (PySem.W.instObj C s.heap.objs.size) := by
    have := Heap.get?_push_size (s.heap.push PySem.W.emptyDict) (o := PySem.W.instObj C s.heap.objs.size) rfl
    rwa [Heap.size_push] at this
  have e3 : (s.heap.push PySem.W.emptyDict).Ns s.heap.objs.size (fun _ => none) := ⟨PySem.W.emptyDict, #[], _, e1, rfl, (fun e he => absurd he (by simp)), fun _ => rfl⟩
  have I1 := I.laid (a := s.heap.objs.size) (o := .own (s.heap.objs.size + 1)) (h' := s.heap.push PySem.W.emptyDict) (t' := s.toks) (fun b u q => Heap.get?_push_of_some _ q) (Nat.le_refl _) ⟨_, e1⟩
  refine I1.laid (a := s.heap.objs.size + 1) (o := .ins C s.heap.objs.size []) (t' := s.toks) (fun b u q => Heap.get?_push_of_some _ q) (Nat.le_of_eq (Heap.size_push _ _)) ?_
  have ne : s.heap.objs.size ≠ s.heap.objs.size + 1 := Nat.ne_of_lt (Nat.lt_succ_self _)
  refine ⟨by rw [Zc ne, Ja], Nat.zero_le _, ne, e2, fun _ => none, (Heap.Ns1.of_empty e3).at fun o q => Heap.get?_push_of_some _ q, fun _ => True.intro, fun y hy => absurd rfl hy⟩
theorem Zhp {prog : Program} {w : World} {env : Env} {e : Expr} {f : Str} {pos : Pos} {s : Shared} {Q : Value → Shared → Prop} (hb : attributeBase e f env (eval e env) = eval e env)
    (h : wpAny (model prog w) A (eval e env) (fun o s₁ => wpAny (model prog w) A (getAttr o f true) Q E s₁) E s) : wpAny (model prog w) A (eval (.Attribute e f pos) env) Q E s :=
  Attribute_any_ h (by rw [arm_eval_Attribute, hb])
end
def YhF (K : PySem.W.Frag) (ta : TE) (f : Str) : TE := fun σ H Q => ta σ H fun x H1 => ∃ a C dx fs v, x = .ref a ∧ H1 a = some (.ins C dx fs) ∧ Cls K C ∧ Jm K C f ∧ fs.lookup f = some v ∧ Q v H1
def jhF (K : PySem.W.Frag) (ta tv : TE) (f : Str) : TS := fun D σ H => tv σ H fun y H1 => ta σ H1 fun x H2 => ∃ a C dx fs, x = .ref a ∧ H2 a = some (.ins C dx fs) ∧ Cls K C ∧ Jm K C f ∧ fs.length < 1000 ∧
  D.nx σ (upd H2 a (.ins C dx (jei f y fs)))
section
variable {X : Cx} {o e value : Expr} {f : Str} {pos pos' tpos : Pos} {ta tv : TE}
theorem Zhz (he : PE X e ta) (hb : attributeBase e f X.env (eval e X.env) = eval e X.env) : PE X (.Attribute e f pos) (YhF X.K ta f) := by
  intro pins s σ H Q I h
  refine Zhp hb (thn (he pins s σ H _ I h) fun u s1 ⟨x, H1, I1, rx, a, C, dx, fs, v, ex, ea, c, n, l, q⟩ => ?_)
  subst ex
  obtain rfl : u = Value.ref a := rx
  exact JgJ I1 ea c n l fun u' s2 I2 ru => ⟨v, H1, I2, ru, q⟩
theorem yhz (ha : PE X o ta) (hv : PE X value tv) (hs : swapsWith value (some (.Attribute o f pos')) pos.line X.env = pure false) : PS X (.Assign [.Attribute o f pos'] value pos) (jhF X.K ta tv f) := by
  intro pins s σ H D I h
  refine plainObj_wpAny_Assign_Attribute (thn (hv pins s σ H _ I h) fun u s1 ⟨y, H1, I1, ry, q⟩ => thn (ha pins s1 σ H1 _ I1 q) fun ov s2 ⟨x, H2, I2, rx, a, C, dx, fs, ex, ea, c, n, l, q2⟩ => ?_) hs
  subst ex
  obtain rfl : ov = Value.ref a := rx
  exact zgK I2 ea c n l ry fun s3 I3 => ⟨σ, _, I3, q2⟩
theorem yhw {pl : Sem Bool} {m : Str} {apos : Pos} {args : List Expr} {pins : List (Addr × Obj)} {s : Shared} {σ : St} {H : Hp} {Q : Value → Shared → Prop} {te : TE} (he : PE X e te) (I : Inv X pins σ H s)
    (h : te σ H fun x H1 => ∃ a C dx fs g, x = .ref a ∧ H1 a = some (.ins C dx fs) ∧ Cls X.K C ∧ Meth X.K C m g ∧ fs.lookup m = none ∧
      ∀ s1, Inv X pins σ H1 s1 → wpAny (model X.prog X.w) X.A (callWith pos (.ref g) [.ref a] (backTo pos (starEach args X.env)) (backToKw pos (keywordEach [] X.env))) Q X.xe s1)
    (ht : eval (.Call (.Attribute e m apos) args [] pos) X.env = (do
      let ov ← eval e X.env
      standAt apos.atName
      let (f, first) ← holding [ov] (getMethod ov m pl)
      callWith pos f first (backTo pos (starEach args X.env)) (backToKw pos (keywordEach [] X.env)))) :
    wpAny (model X.prog X.w) X.A (eval (.Call (.Attribute e m apos) args [] pos) X.env) Q X.xe s := by
  refine PySem.W.methodCall_KW (pl := pl) (thn (he pins s σ H _ I h) fun u s1 ⟨x, H1, I1, rx, a, C, dx, fs, g, ex, ea, c, k, l, q⟩ => ?_) ht
  subst ex
  obtain rfl : u = Value.ref a := rx
  exact ydn I1 ea c k l (q s1 I1)
end
section
variable {X : Cx} {pins : List (Addr × Obj)} {σ : St} {H : Hp} {s : Shared} {A : Around} {E : Value → Shared → Prop} {Q : Value → Shared → Prop} {c : Value} {b : Bool}
inductive jby (K : PySem.W.Frag) (H : Hp) : V → Value → Prop where
  | non : jby K H .non (.type "NoneType")
  | bl (x : Bool) : jby K H (.bl x) (.type "bool")
  | int (i : Int) : jby K H (.int i) (.type "int")
  | str (x : Str) : jby K H (.str x) (.type "str")
  | flt (x : UInt64) : jby K H (.flt x) (.type "float")
  | lst {a : Addr} {xs : List V} (e : H a = some (.lst xs)) : jby K H (.ref a) (.type "list")
  | frz {a : Addr} {o : Obj} {xs : List V} (e : H a = some (.frz o (.lst xs))) : jby K H (.ref a) (.type "list")
  | tup {a : Addr} {xs : List V} (e : H a = some (.tup xs)) : jby K H (.ref a) (.type "tuple")
  | dK {a : Addr} {kvs : List (Key × V)} (e : H a = some (.dK kvs)) : jby K H (.ref a) (.type "dict")
  | dT {a : Addr} {kvs : List (List Key × V)} (e : H a = some (.dT kvs)) : jby K H (.ref a) (.type "dict")
  | ins {a C dx : Addr} {fs : List (Str × V)} (e : H a = some (.ins C dx fs)) (cl : Cls K C) (ha : PySem.W.findIn K (.ref C) "__class__" = some (some (.builtin "object.__class__")))
      (hn : PySem.W.specialIn K (.builtin "object.__class__") "__get__" = some (some (.builtin "getset_descriptor.__get__"))) (htk : PySem.W.takesIn K (.builtin "object.__class__") = some true)
      (hm : PySem.W.mroIn K C (.type "object") = some true) : jby K H (.ref a) (.ref C)
theorem jg1 {x : V} {u t : Value} (I : Inv X pins σ H s) (rx : RelV x u) (ty : jby X.K H x t) (e : PySem.W.kitOne X.K t c = some b) (h : ∀ tk, Q (.bool b) { s with toks := tk }) :
    wpAny (model X.prog X.w) A (call (.builtin "isinstance") [u, c]) Q E s := by
  cases ty with
  | non => cases (show u = Value.none from rx); exact PySem.W.kia_one PySem.W.kitx_none I.kIn True.intro e (fun z => nomatch z) h
  | bl y => cases (show u = Value.bool y from rx); exact PySem.W.kia_one PySem.W.kitx_bool I.kIn True.intro e (fun z => nomatch z) h
  | int i => obtain ⟨t, q⟩ := (show ∃ t, u = Value.int i t from rx); cases q; exact PySem.W.kia_one PySem.W.kitx_int I.kIn True.intro e (fun z => nomatch z) h
  | str y => obtain ⟨t, q⟩ := (show ∃ t, u = Value.str y t from rx); cases q; exact PySem.W.kia_one PySem.W.kitx_str I.kIn True.intro e (fun z => nomatch z) h
  | flt y => obtain ⟨t, q⟩ := (show ∃ t, u = Value.float y t from rx); cases q; exact PySem.W.kia_one PySem.W.kitx_float I.kIn True.intro e (fun z => nomatch z) h
  | @lst a xs ea =>
    cases (show u = Value.ref a from rx)
    obtain ⟨_, _, n, _, h1⟩ := (show yO X.prog X.w H s.heap a (.lst xs) from I.hok a _ ea)
    exact PySem.W.kia_one PySem.W.kitx_list I.kIn ⟨_, h1, rfl⟩ e (fun z => nomatch z) h
  | @frz a ob xs ea =>
    cases (show u = Value.ref a from rx)
    obtain ⟨_, _, _, n, _, h1⟩ := (show yO X.prog X.w H s.heap a (.frz ob (.lst xs)) from I.hok a _ ea)
    exact PySem.W.kia_one PySem.W.kitx_list I.kIn ⟨_, h1, rfl⟩ e (fun z => nomatch z) h
  | @tup a xs ea =>
    cases (show u = Value.ref a from rx)
    obtain ⟨_, _, _, p⟩ := (show yO X.prog X.w H s.heap a (.tup xs) from I.hok a _ ea)
    obtain ⟨o, h1, h2, _⟩ := p
    exact PySem.W.kia_one PySem.W.kitx_tuple I.kIn ⟨o, h1, h2⟩ e (fun z => nomatch z) h
  | @dK a kvs ea =>
    cases (show u = Value.ref a from rx)
    obtain ⟨_, _, vs, _, p⟩ := (show yO X.prog X.w H s.heap a (.dK kvs) from I.hok a _ ea)
    obtain ⟨o, es, ep, h1, h2, _⟩ := p
    exact PySem.W.kia_one PySem.W.kitx_dict I.kIn ⟨o, h1, h2.1⟩ e (fun z => nomatch z) h
  | @dT a kvs ea =>
    cases (show u = Value.ref a from rx)
    obtain ⟨_, _, xs, _, o, es, ep, h1, h2, _⟩ := (show yO X.prog X.w H s.heap a (.dT kvs) from I.hok a _ ea)
    exact PySem.W.kia_one PySem.W.kitx_dict I.kIn ⟨o, h1, h2.1⟩ e (fun z => nomatch z) h
  | @ins a C dx fs ea cl ha hn htk hm =>
    cases (show u = Value.ref a from rx)
    obtain ⟨mA, O, _⟩ := yeH I.hok ea
    obtain ⟨od, J, _⟩ := O.look
    exact PySem.W.kia_one (PySem.W.kitx_own (cl.get _) cl.hd ha hn htk hm) I.kIn J e (fun z => nomatch z) h
end
end L2
namespace L2
open PySem PySem.Spec PyProof.Rows
structure yby (k : Nat) (A : Around) : Prop where
  hd : A.handled = none
  dp : A.depth + 3 * k + 5 < recursionLimit
  un : A.units + 16 * k + 200 < cLine
theorem yby.mono {j k : Nat} {A : Around} (r : yby k A) (h : j ≤ k) : yby j A := ⟨r.hd, by have := r.dp; omega, by have := r.un; omega⟩
theorem yby.deeper {k : Nat} {A : Around} (r : yby (k + 1) A) (env : Env) : yby k (A.deeper env) :=
  ⟨r.hd, by have := r.dp; show A.depth + 1 + 3 * k + 5 < _; omega, by have := r.un; show A.units + 3 + 16 * k + 200 < _; omega⟩
theorem ZgK {A : Around} {C : Addr} {us : List Value} {kw : List (Str × Value)} : (A.under (.builtin "type.__call__" ⟨.ref C :: us, kw⟩)).depth = A.depth + 1 := by
  first | rfl | simp [Around.under, Code.weight, Code.isCreation, Code.isGuard, Code.isCaller, Code.frames, Code.isFrame, guardIds]
theorem ygK {A : Around} {C : Addr} {us : List Value} {kw : List (Str × Value)} : (A.under (.builtin "type.__call__" ⟨.ref C :: us, kw⟩)).units = A.units + 1 := by
  first | rfl | simp [Around.under, Code.cUnits, Code.frames, Code.isFrame]
theorem yby.make {k : Nat} {A : Around} (r : yby (k + 1) A) (C : Addr) (us : List Value) (kw : List (Str × Value)) : yby k (A.under (.builtin "type.__call__" ⟨.ref C :: us, kw⟩)) :=
  ⟨r.hd, by have := r.dp; rw [ZgK]; omega, by have := r.un; rw [ygK]; omega⟩
theorem yby.depth {k : Nat} {A : Around} (r : yby k A) : A.depth < recursionLimit := by have := r.dp; omega
theorem yby.units {k : Nat} {A : Around} (r : yby k A) : A.units + 64 < cLine := by have := r.un; omega
def yhp : TA := fun _ H Q => Q [] H
def Zhc (ta : TE) (tr : TA) : TA := fun σ H Q => ta σ H fun x H1 => tr σ H1 fun xs H2 => Q (x :: xs) H2
section
variable {X : Cx} {e : Expr} {es : List Expr} {te : TE} {t : TA} {pos : Pos}
theorem yc : PA X [] yhp := fun _ _ _ _ H Q I h => Calls.spliced_nil ⟨[], H, I, .nil, h⟩
theorem Za (ha : PE X e te) (hr : PA X es t) (hs : starEach (e :: es) X.env = (false, eval e X.env) :: starEach es X.env := by rfl) : PA X (e :: es) (Zhc te t) := by
  intro pos pins s σ H Q I h
  rw [hs]
  show wpAny _ _ (spliced ((false, eval e X.env) :: backTo pos (starEach es X.env))) _ _ s
  refine Calls.spliced_cons (thn (ha pins s σ H _ I h) fun u s1 ⟨x, H1, I1, r1, q1⟩ => ?_)
  exact thn (hr pos pins s1 σ H1 _ I1 q1) fun us s2 ⟨xs, H2, I2, r2, q2⟩ => ⟨x :: xs, H2, I2, .cons r1 r2, q2⟩
def ZhM (t : TA) : TE := fun σ H Q => t σ H fun xs H1 => xs.length ≤ sizeLine ∧ ∀ p, H1 p = none → Q (.ref p) (upd H1 p (.tup xs))
def yhM (t : TA) : TE := fun σ H Q => t σ H fun xs H1 => xs.length ≤ sizeLine ∧ ∀ p, H1 p = none → Q (.ref p) (upd H1 p (.lst xs))
theorem ze3 {x1} (h : PA X es t) : PE X (.Tuple es x1 pos) (ZhM t) := by
  intro pins s σ H Q I hq
  refine wpAny_Tuple_spliced (thn (h pos pins s σ H _ I hq) fun us s1 ⟨xs, H1, I1, r, z, q⟩ => ⟨by rw [← r.length]; exact z, ?_⟩)
  have hf : H1 s1.heap.objs.size = none := I1.hok.fresh (Nat.le_refl _)
  refine ⟨.ref s1.heap.objs.size, upd H1 s1.heap.objs.size (.tup xs), I1.laid (t' := s1.toks) (fun b u e => Heap.get?_push_of_some _ e) (Nat.le_refl _) ?_, rfl, q _ hf⟩
  exact ⟨z, us, r, ⟨_, Heap.get?_push_size _ rfl, rfl, _, rfl⟩⟩
theorem zaw (h : PA X es t) : PE X (.List es pos) (yhM t) := by
  intro pins s σ H Q I hq
  refine wpAny_List_spliced (thn (h pos pins s σ H _ I hq) fun us s1 ⟨xs, H1, I1, r, z, q⟩ => ⟨by rw [← r.length]; exact z, ?_⟩)
  have hf : H1 s1.heap.objs.size = none := I1.hok.fresh (Nat.le_refl _)
  refine ⟨.ref s1.heap.objs.size, upd H1 s1.heap.objs.size (.lst xs), I1.laid (t' := s1.toks) (fun b u e => Heap.get?_push_of_some _ e) (Nat.le_refl _) ?_, rfl, q _ hf⟩
  exact ⟨z, us, 0, r, Heap.get?_push_size _ rfl⟩
end
abbrev Sp := List V → Hp → VK → XK → Prop
abbrev CXT := List Env → Hp → Shared → XK → Value → Shared → Prop
structure YgK (P : Program) (w : World) (K : PySem.W.Frag) (mg : Str → Option Value) (base : Heap) (A : Around) (outer : List Env) (s : Shared) (H : Hp) : Prop where
  frames : A.frames = some outer
  mod : Mod K mg base
  bs : ∀ b o, base.get? b = some o → s.heap.get? b = some o ∧ H b = none
  bsz : base.objs.size ≤ s.heap.objs.size
  yfo : s.heap.FunFrames base outer
  frf : ∀ b ∈ frs outer, H b = none
  hok : HOk P w H s.heap
  bare : AllBare s.gens
def CE (outer : List Env) (P : Program) (w : World) (H : Hp) (s : Shared) (Q : VK) (u : Value) (s' : Shared) : Prop :=
  ∃ v H', s'.os = s.os ∧ AllBare s'.gens ∧ Un (frs outer) [] H H' s.heap s'.heap ∧ HOk P w H' s'.heap ∧ RelV v u ∧ Q v H'
def CR (CX : CXT) (outer : List Env) (P : Program) (w : World) (H : Hp) (s : Shared) (Q : VK) (E : XK) (r : Result) (s' : Shared) : Prop :=
  match r with
  | .ok (.ret u) => CE outer P w H s Q u s'
  | .ok _ => False
  | .error e => CX outer H s E e s'
structure Zf (P : Program) (w : World) (K : PySem.W.Frag) (mg : Str → Option Value) (base : Heap) (CX : CXT) (k : Nat) (f : Addr) (fd : FuncData) (ps : List Str) (sp : Sp) : Prop where
  len : ∀ vs H Q E, sp vs H Q E → vs.length = ps.length
  run : ∀ (A : Around) (outer : List Env) (s : Shared) (H : Hp) (args : Args) (us : List Value) (vs : List V) (Q : VK) (E : XK), yby k A → YgK P w K mg base A outer s H → BindsTo s fd args (ps.zip us) → Vals vs us → sp vs H Q E →
    codeAny (model P w) A (.call (.ref f) args) (CR CX outer P w H s Q E) s
theorem Zf.mono {P : Program} {w : World} {K : PySem.W.Frag} {mg : Str → Option Value} {base : Heap} {CX : CXT} {j k : Nat} {f : Addr} {fd : FuncData} {ps : List Str} {sp : Sp} (F : Zf P w K mg base CX j f fd ps sp) (h : j ≤ k) :
    Zf P w K mg base CX k f fd ps sp := ⟨F.len, fun A outer s H args us vs Q E hr => F.run A outer s H args us vs Q E (hr.mono h)⟩
theorem Zf.imp {P : Program} {w : World} {K : PySem.W.Frag} {mg : Str → Option Value} {base : Heap} {CX : CXT} {k : Nat} {f : Addr} {fd : FuncData} {ps : List Str} {sp sp' : Sp} (F : Zf P w K mg base CX k f fd ps sp)
    (h : ∀ vs H Q E, sp' vs H Q E → sp vs H Q E) : Zf P w K mg base CX k f fd ps sp' :=
  ⟨fun vs H Q E q => F.len vs H Q E (h _ _ _ _ q), fun A outer s H args us vs Q E hr he hb hv hs => F.run A outer s H args us vs Q E hr he hb hv (h _ _ _ _ hs)⟩
theorem YgK.make {P : Program} {w : World} {K : PySem.W.Frag} {mg : Str → Option Value} {base : Heap} {A : Around} {outer : List Env} {s : Shared} {H : Hp} (e : YgK P w K mg base A outer s H) (C : Addr) (us : List Value) (kw : List (Str × Value)) :
    YgK P w K mg base (A.under (.builtin "type.__call__" ⟨.ref C :: us, kw⟩)) outer s H := ⟨by first | exact e.frames | (simpa [Around.under, Code.envs, Code.isFrame, pushEnvs] using e.frames), e.mod, e.bs, e.bsz, e.yfo, e.frf, e.hok, e.bare⟩
section
variable {X : Cx} {pins : List (Addr × Obj)} {σ : St} {H : Hp} {s s' : Shared}
theorem Inv.env0 (I : Inv X pins σ H s) : YgK X.prog X.w X.K X.mg X.base X.A X.stack s H :=
  ⟨I.ok.frames, I.ok.mod, I.bs, Nat.le_trans I.ok.bsz I.sz, I.stack, I.ygS, I.hok, I.bare⟩
theorem Inv.after {Q : VK} {u : Value} (I : Inv X pins σ H s) (h : CE X.stack X.prog X.w H s Q u s') : EP X pins σ Q u s' := by
  obtain ⟨v, H', os, bare, un, hok, r, q⟩ := h
  obtain ⟨hh, g, d, t, os'⟩ := s'
  obtain rfl : os' = s.os := os
  exact ⟨v, H', I.call (h' := hh) (g' := g) (d' := d) (t' := t) (ch := []) un hok bare (fun b z => absurd z (by simp)), r, q⟩
end
def Yhw (sp : Sp) (dvs : List V) (E : XK) (t : TA) : TE := fun σ H Q => t σ H fun vs H1 => sp (vs ++ dvs) H1 Q E
def jhw (C : Addr) (m : Str) (sp : Sp) (dvs : List V) (E : XK) (ta : TE) (t : TA) : TE := fun σ H Q => ta σ H fun x H1 => ∃ a dx fs, x = .ref a ∧ H1 a = some (.ins C dx fs) ∧ fs.lookup m = none ∧
  t σ H1 fun vs H2 => sp (x :: (vs ++ dvs)) H2 Q E
def Jhw (C : Addr) (sp : Sp) (dvs : List V) (E : XK) (t : TA) : TE := fun σ H Q => t σ H fun vs H1 => ∀ x dx, H1 x = none → H1 dx = none → dx ≠ x →
  sp (.ref x :: (vs ++ dvs)) (upd (upd H1 dx (.own x)) x (.ins C dx [])) (fun v H2 => v = .non ∧ Q (.ref x) H2) E
def Binds (K : PySem.W.Frag) (fd : FuncData) (ps : List Str) (ds : List Value) : Prop :=
  ∀ (s : Shared) (us : List Value), K.In s.heap → (us ++ ds).length = ps.length → BindsTo s fd ⟨us, []⟩ (ps.zip (us ++ ds))
theorem Binds.all {K : PySem.W.Frag} {fd : FuncData} {ps : List Str} (h : ∀ us : List Value, us.length = ps.length → bindArgs fd ⟨us, []⟩ = pure (ps.zip us)) : Binds K fd ps [] := fun s us _ hl => by
  rw [List.append_nil] at hl ⊢
  exact .of_eq (h us hl)
def zc3 (CX : CXT) (X : Cx) (E : XK) : Prop := ∀ (pins : List (Addr × Obj)) (σ : St) (H : Hp) (s : Shared) (e : Value) (s' : Shared), Inv X pins σ H s → CX X.stack H s E e s' → X.xe e s'
section
variable {X : Cx} {CX : CXT} {k : Nat} {f C : Addr} {fd : FuncData} {ps : List Str} {sp : Sp} {dvs : List V} {ds : List Value} {E : XK} {x m : Str} {p pos apos : Pos} {e o : Expr} {es : List Expr} {ta : TE} {t : TA}
theorem zfA {pins : List (Addr × Obj)} {σ : St} {H : Hp} {s : Shared} {Q : VK} {us : List Value} {vs : List V} (F : Zf X.prog X.w X.K X.mg X.base CX k f fd ps sp) (hr : yby k X.A) (hb : Binds X.K fd ps ds) (hd : Vals dvs ds) (hx : zc3 CX X E)
    (I : Inv X pins σ H s) (r : Vals vs us) (h : sp (vs ++ dvs) H Q E) : wpAny (model X.prog X.w) X.A (call (.ref f) us) (EP X pins σ Q) X.xe s := by
  have r2 : Vals (vs ++ dvs) (us ++ ds) := r.append hd
  have hl : (us ++ ds).length = ps.length := by rw [← r2.length]; exact F.len _ _ _ _ h
  refine wpAny_call (codeAny_mono (F.run X.A X.stack s H ⟨us, []⟩ (us ++ ds) (vs ++ dvs) Q E hr I.env0 (hb s us I.kIn hl) r2 h) fun r s' hq => ?_)
  cases r with
  | error e => exact hx pins σ H s e s' I hq
  | ok fl =>
    cases fl with
    | ret u => exact I.after hq
    | next => exact False.elim hq
    | brk => exact False.elim hq
    | cont => exact False.elim hq
theorem jD (F : Zf X.prog X.w X.K X.mg X.base CX k f fd ps sp) (hr : yby k X.A) (hg : Gl X x) (hm : X.mg x = some (.ref f)) (hk : PySem.W.keepIn X.K (.ref f) = true) (hb : Binds X.K fd ps ds) (hd : Vals dvs ds) (hx : zc3 CX X E)
    (ha : PA X (e :: es) t) (hdb : (x == ("__debug__" : Str)) = false := by decide) (he : starEach (e :: es) X.env = (false, eval e X.env) :: starEach es X.env := by rfl) (hpl : (backTo pos (starEach es X.env)).any (·.1) = false := by rfl) :
    PE X (.Call (.Name x p) (e :: es) [] pos) (Yhw sp dvs E t) := by
  intro pins s σ H Q I h
  refine wpAny_Call_Name_kw (YeG I hg hm ?_ hdb)
  refine PySem.W.callWith_K (h₀ := X.base) I.ok.mod.kin hk (thn (ha pos pins s σ H _ I h) fun us s1 ⟨vs, H1, I1, r, q⟩ => ⟨I1.kIn, ?_⟩) he hpl
  exact zfA F hr hb hd hx I1 r q
theorem j8 {pl : Sem Bool} (he : PE X o ta) (c : Cls X.K C) (hm : Meth X.K C m f) (F : Zf X.prog X.w X.K X.mg X.base CX k f fd ps sp) (hr : yby k X.A) (hb : Binds X.K fd ps ds) (hd : Vals dvs ds) (hx : zc3 CX X E) (ha : PA X (e :: es) t)
    (hst : starEach (e :: es) X.env = (false, eval e X.env) :: starEach es X.env := by rfl) (hpl : (backTo pos (starEach es X.env)).any (·.1) = false := by rfl)
    (ht : eval (.Call (.Attribute o m apos) (e :: es) [] pos) X.env = (do
      let ov ← eval o X.env
      standAt apos.atName
      let (f, first) ← holding [ov] (getMethod ov m pl)
      callWith pos f first (backTo pos (starEach (e :: es) X.env)) (backToKw pos (keywordEach [] X.env))) := by rfl) :
    PE X (.Call (.Attribute o m apos) (e :: es) [] pos) (jhw C m sp dvs E ta t) := by
  intro pins s σ H Q I h
  refine PySem.W.methodCall_KW (pl := pl) (thn (he pins s σ H _ I h) fun u s1 ⟨x, H1, I1, rx, a, dx, fs, ex, ea, l, q⟩ => ?_) ht
  subst ex
  obtain rfl : u = Value.ref a := rx
  refine ydn I1 ea c hm l ?_
  refine PySem.W.callWith_K (first := [.ref a]) (h₀ := X.base) I.ok.mod.kin hm.kp (thn (ha pos pins s1 σ H1 _ I1 q) fun us s2 ⟨vs, H2, I2, r, q2⟩ => ⟨I2.kIn, ?_⟩) hst hpl
  exact zfA (us := .ref a :: us) (vs := .ref a :: vs) F hr hb hd hx I2 (.cons rfl r) q2
theorem yhc {pl : Sem Bool} (he : PE X o ta) (c : Cls X.K C) (hm : Meth X.K C m f) (F : Zf X.prog X.w X.K X.mg X.base CX k f fd ps sp) (hr : yby k X.A) (hb : Binds X.K fd ps ds) (hd : Vals dvs ds) (hx : zc3 CX X E)
    (ht : eval (.Call (.Attribute o m apos) [] [] pos) X.env = (do
      let ov ← eval o X.env
      standAt apos.atName
      let (f, first) ← holding [ov] (getMethod ov m pl)
      callWith pos f first (backTo pos (starEach [] X.env)) (backToKw pos (keywordEach [] X.env))) := by rfl) :
    PE X (.Call (.Attribute o m apos) [] [] pos) (jhw C m sp dvs E ta yhp) := by
  intro pins s σ H Q I h
  refine PySem.W.methodCall_KW (pl := pl) (thn (he pins s σ H _ I h) fun u s1 ⟨x, H1, I1, rx, a, dx, fs, ex, ea, l, q⟩ => ?_) ht
  subst ex
  obtain rfl : u = Value.ref a := rx
  refine ydn I1 ea c hm l ?_
  exact PySem.W.callWith_K0 (first := [.ref a]) I1.kIn hm.kp (zfA (us := [.ref a]) (vs := [.ref a]) F hr hb hd hx I1 (.cons rfl .nil) q)
structure Mk (K : PySem.W.Frag) (C f : Addr) : Prop where
  makes : PySem.W.makesIn K C = true
  init : PySem.W.findIn K (.ref C) "__init__" = some (some (.ref f))
  fn : PySem.W.isFn K (.ref f) = true
  kp : PySem.W.keepIn K (.ref C) = true
theorem zgu {pins : List (Addr × Obj)} {σ : St} {H : Hp} {s : Shared} {Q : VK} {us : List Value} {vs : List V} (M : Mk X.K C f) (F : Zf X.prog X.w X.K X.mg X.base CX k f fd ps sp) (hr : yby (k + 1) X.A) (hb : Binds X.K fd ps ds) (hd : Vals dvs ds)
    (hx : zc3 CX X E) (I : Inv X pins σ H s) (r : Vals vs us)
    (h : ∀ x dx, H x = none → H dx = none → dx ≠ x → sp (.ref x :: (vs ++ dvs)) (upd (upd H dx (.own x)) x (.ins C dx [])) (fun v H2 => v = .non ∧ Q (.ref x) H2) E) :
    wpAny (model X.prog X.w) X.A (call (.ref C) us) (EP X pins σ Q) X.xe s := by
  have hq := h (s.heap.objs.size + 1) s.heap.objs.size (I.hok.fresh (Nat.le_succ _)) (I.hok.fresh (Nat.le_refl _)) (Nat.ne_of_lt (Nat.lt_succ_self _))
  have I2 := Inv.made (C := C) I
  have r2 : Vals (V.ref (s.heap.objs.size + 1) :: (vs ++ dvs)) (Value.ref (s.heap.objs.size + 1) :: (us ++ ds)) := .cons rfl (r.append hd)
  have hl : (Value.ref (s.heap.objs.size + 1) :: us ++ ds).length = ps.length := by
    have e := r2.length
    rw [F.len _ _ _ _ hq] at e
    exact e.symm
  refine wpAny_call (zhc (f := f) I.kIn M.makes M.init (beq_iff_eq.mp M.fn) (codeAny_mono (F.run _ X.stack _ _ ⟨Value.ref (s.heap.objs.size + 1) :: us, []⟩ (Value.ref (s.heap.objs.size + 1) :: (us ++ ds)) _ _ E (hr.make C us [])
    (I2.env0.make C us []) (hb _ (Value.ref (s.heap.objs.size + 1) :: us) I2.kIn hl) r2 hq) fun r s' hq' => ?_))
  cases r with
  | error e => exact hx pins σ _ _ e s' I2 hq'
  | ok fl =>
    cases fl with
    | ret u =>
      obtain ⟨v, H', I3, rv, ev, q3⟩ := I2.after hq'
      subst ev
      exact ⟨rv, ⟨V.ref (s.heap.objs.size + 1), H', I3, rfl, q3⟩⟩
    | next => exact False.elim hq'
    | brk => exact False.elim hq'
    | cont => exact False.elim hq'
theorem YbX (M : Mk X.K C f) (F : Zf X.prog X.w X.K X.mg X.base CX k f fd ps sp) (hr : yby (k + 1) X.A) (hg : Gl X x) (hm : X.mg x = some (.ref C)) (hb : Binds X.K fd ps ds) (hd : Vals dvs ds) (hx : zc3 CX X E)
    (ha : PA X (e :: es) t) (hdb : (x == ("__debug__" : Str)) = false := by decide) (he : starEach (e :: es) X.env = (false, eval e X.env) :: starEach es X.env := by rfl) (hpl : (backTo pos (starEach es X.env)).any (·.1) = false := by rfl) :
    PE X (.Call (.Name x p) (e :: es) [] pos) (Jhw C sp dvs E t) := by
  intro pins s σ H Q I h
  refine wpAny_Call_Name_kw (YeG I hg hm ?_ hdb)
  refine PySem.W.callWith_K (h₀ := X.base) I.ok.mod.kin M.kp (thn (ha pos pins s σ H _ I h) fun us s1 ⟨vs, H1, I1, r, q⟩ => ⟨I1.kIn, ?_⟩) he hpl
  exact zgu M F hr hb hd hx I1 r q
theorem Yhc (M : Mk X.K C f) (F : Zf X.prog X.w X.K X.mg X.base CX k f fd ps sp) (hr : yby (k + 1) X.A) (hg : Gl X x) (hm : X.mg x = some (.ref C)) (hb : Binds X.K fd ps ds) (hd : Vals dvs ds) (hx : zc3 CX X E)
    (hdb : (x == ("__debug__" : Str)) = false := by decide) : PE X (.Call (.Name x p) [] [] pos) (Jhw C sp dvs E yhp) := by
  intro pins s σ H Q I h
  refine wpAny_Call_Name_kw (YeG I hg hm ?_ hdb)
  exact PySem.W.callWith_K0 I.kIn M.kp (zgu (us := []) M F hr hb hd hx I .nil h)
end
section
variable {X : Cx} {CX : CXT} {k : Nat} {f C : Addr} {fd : FuncData} {ps ks : List Str} {sp : Sp} {E : XK} {x m : Str} {p pos apos kpos : Pos} {e o : Expr} {es : List Expr} {kws : List Keyword} {te ta : TE} {t tk : TA} {nm : Option Str}
variable {g : List Value → List Value → List Value} {gV : List V → List V → List V}
end
structure Ze (N P : List Str) (sc : Scope) : Prop where
  kind : sc.kind = .function
  co : sc.isCoroutine = false
  gen : sc.isGenerator = false
  nd : N.Nodup
  pre : N.take P.length = P
  par : ∀ x ∈ P, sc.names.lookup x = some .local ∨ sc.names.lookup x = some .cell
  nofree : ∀ y ∈ sc.names, y.2 ≠ .free
theorem yf3 {kindOf : Str → Option NameKind} {x : Str} : ∀ {binds : List (Str × Value)} {m : Str → Option Value}, (∀ v, (x, v) ∉ binds) → bindL kindOf binds m x = m x
  | [], _, _ => rfl
  | (n, v) :: r, m, h => by
    unfold bindL
    rw [yf3 fun w hw => h w (List.mem_cons_of_mem _ hw)]
    split
    · have : x ≠ n := by rintro rfl; exact h v List.mem_cons_self
      simp [this]
    · rfl
theorem Yf3 {kindOf : Str → Option NameKind} {x : Str} : ∀ {binds : List (Str × Value)} {m : Str → Option Value}, (∀ v, (x, v) ∉ binds) → bindC kindOf binds m x = m x
  | [], _, _ => rfl
  | (n, v) :: r, m, h => by
    unfold bindC
    rw [Yf3 fun w hw => h w (List.mem_cons_of_mem _ hw)]
    split
    · rfl
    · have : x ≠ n := by rintro rfl; exact h v List.mem_cons_self
      simp [this]
theorem jf3 {kindOf : Str → Option NameKind} {x : Str} {v : Value} : ∀ {P : List Str} {vs : List Value} {i : Nat} {m : Str → Option Value}, P.Nodup → P[i]? = some x → vs[i]? = some v → kindOf x = some .local →
    bindL kindOf (P.zip vs) m x = some v
  | [], _, _, _, _, h, _, _ => by simp at h
  | _ :: _, [], _, _, _, _, h, _ => by simp at h
  | p :: P, w :: vs, 0, m, nd, h1, h2, hk => by
    simp at h1 h2; subst h1; subst h2
    show bindL kindOf ((p, w) :: P.zip vs) m p = _
    unfold bindL
    rw [yf3 fun v hv => (List.nodup_cons.mp nd).1 (List.of_mem_zip hv).1, if_pos hk]
    simp
  | p :: P, w :: vs, i + 1, m, nd, h1, h2, hk => by
    show bindL kindOf ((p, w) :: P.zip vs) m x = _
    unfold bindL
    exact jf3 (i := i) (List.nodup_cons.mp nd).2 (by simpa using h1) (by simpa using h2) hk
theorem Jf3 {kindOf : Str → Option NameKind} {x : Str} {v : Value} : ∀ {P : List Str} {vs : List Value} {i : Nat} {m : Str → Option Value}, P.Nodup → P[i]? = some x → vs[i]? = some v → kindOf x ≠ some .local →
    bindC kindOf (P.zip vs) m x = some v
  | [], _, _, _, _, h, _, _ => by simp at h
  | _ :: _, [], _, _, _, _, h, _ => by simp at h
  | p :: P, w :: vs, 0, m, nd, h1, h2, hk => by
    simp at h1 h2; subst h1; subst h2
    show bindC kindOf ((p, w) :: P.zip vs) m p = _
    unfold bindC
    rw [Yf3 fun v hv => (List.nodup_cons.mp nd).1 (List.of_mem_zip hv).1, if_neg hk]
    simp
  | p :: P, w :: vs, i + 1, m, nd, h1, h2, hk => by
    show bindC kindOf ((p, w) :: P.zip vs) m x = _
    unfold bindC
    exact Jf3 (i := i) (List.nodup_cons.mp nd).2 (by simpa using h1) (by simpa using h2) hk
def start (N : List Str) (vs : List V) : St := vs.map some ++ List.replicate (N.length - vs.length) none
def Jg1 (CX : CXT) (P : Program) (w : World) (K : PySem.W.Frag) (mg : Str → Option Value) (base : Heap) (N : List Str) (qual : Str) (scope : Scope) (f : Addr) (cd : Value) (A : Around) (outer : List Env) (s : Shared) (H : Hp) (E : XK) : Cx where
  prog := P
  w := w
  K := K
  mg := mg
  base := base
  A := A.deeper (envOfC qual scope s.heap.objs.size f cd)
  N := N
  s_0 := s
  H_0 := H
  env := envOfC qual scope s.heap.objs.size f cd
  outer := outer
  stack := envOfC qual scope s.heap.objs.size f cd :: outer
  ex := []
  calm := true
  fn := fun _ => true
  pn := []
  xe := fun e s' => wpAny (model P w) (A.deeper (envOfC qual scope s.heap.objs.size f cd)) (leaving (envOfC qual scope s.heap.objs.size f cd) e) (fun _ s'' => CX outer H s E e s'') (fun e' s'' => CX outer H s E e' s'') s'
theorem Zgu {sc : Scope} {n : Nat} {x : Str} (h : sc.names.lookup x = some .cell) : ∃ c, (cellsFrom n sc.names []).lookup x = some c := by
  have q := PySem.W.cellsFrom_some sc.names n [] (.inl h)
  exact Option.isSome_iff_exists.mp q
theorem zg2 {CX : CXT} {P : Program} {w : World} {K : PySem.W.Frag} {mg : Str → Option Value} {base : Heap} {N ps : List Str} {qual : Str} {scope : Scope} {f : Addr} {cd : Value} {A : Around} {outer : List Env} {s s1 : Shared} {H : Hp} {E : XK} {us : List Value} {vs : List V}
    (S : Ze N ps scope) (hd : A.handled = none) (e0 : YgK P w K mg base A outer s H) (hl : vs.length = ps.length) (r : Vals vs us)
    (x : InCallC s s.heap.objs.size (bindL (envOfC qual scope s.heap.objs.size f cd).kindOf (ps.zip us) fun _ => none) (cellsFrom (s.heap.objs.size + 1) scope.names []) (bindC (envOfC qual scope s.heap.objs.size f cd).kindOf (ps.zip us) fun _ => none) s1) :
    Inv (Jg1 CX P w K mg base N qual scope f cd A outer s H E) [] (start N vs) H s1 := by
  have hpl : ps.length ≤ N.length := by have := congrArg List.length S.pre; rw [List.length_take] at this; omega
  obtain ⟨h1, tk, rfl, hk⟩ := x.done
  have noA : ∀ b : Addr, b ∉ (Jg1 CX P w K mg base N qual scope f cd A outer s H E).ex := fun b z => absurd (show b ∈ ([] : List Addr) from z) (by simp)
  refine ⟨⟨e0.mod, S.kind, rfl, rfl, Nat.le_refl _, fun y z c h1 h2 => ?_, fun y hy => ?_, fun y c _ h => ?_, fun _ => hd, Around.frames_deeper e0.frames, .inr ⟨rfl, rfl⟩, fun b z => absurd z (noA b), e0.bs, e0.bsz, fun b _ _ => noA b, fun b z => absurd z (noA b), e0.yfo, e0.frf⟩,
    rfl, e0.bare, Un.kept hk, ⟨_, x.toInCall.ns, fun i y v h1 h2 h3 => ?_⟩, fun y c h => ⟨_, x.cell y c h⟩, e0.hok.fresh (Nat.le_refl _), fun y c h => ?_, fun p hp => absurd (show p ∈ ([] : List (Addr × Obj)) from hp) (by simp), e0.hok.kept hk, ?_⟩
  · exact name_of_addr x.apart (PySem.mem_of_lookup h1) (PySem.mem_of_lookup h2)
  · have hy : scope.names.lookup y = some .cell ∨ scope.names.lookup y = some .free := hy
    rcases hy with hy | hy
    · exact Zgu hy
    · exact absurd rfl (S.nofree _ (PySem.mem_of_lookup hy))
  · exact Nat.le_of_lt (x.above y c (PySem.mem_of_lookup h))
  · have hi : i < vs.length := by
      unfold start at h2
      by_cases hi : i < vs.length
      · exact hi
      · rw [List.getElem?_append_right (by simpa using hi)] at h2
        rw [List.getElem?_replicate] at h2
        split at h2 <;> cases h2
    have ha : vs[i]? = some v := by
      unfold start at h2
      rw [List.getElem?_append_left (by simpa using hi), List.getElem?_map] at h2
      cases e : vs[i]? with
      | none => rw [e] at h2; cases h2
      | some a => rw [e] at h2; cases h2; rfl
    obtain ⟨u, hu, rv⟩ := r.get ha
    have hp : ps[i]? = some y := by
      rw [← S.pre, List.getElem?_take_of_lt (by omega)]; exact h1
    have ndP : ps.Nodup := by rw [← S.pre]; exact S.nd.sublist (List.take_sublist _ _)
    refine ⟨u, rv, ?_⟩
    rcases S.par y (List.mem_of_getElem? hp) with k | k
    · exact .inl ⟨k, jf3 ndP hp hu k⟩
    · obtain ⟨c, e⟩ := Zgu (n := s.heap.objs.size + 1) k
      refine .inr ⟨.inl k, c, e, ?_⟩
      have q := x.cell y c e
      rw [Jf3 ndP hp hu (by show scope.names.lookup y ≠ _; rw [k]; decide)] at q
      exact q
  · exact e0.hok.fresh (Nat.le_of_lt (x.above y c (PySem.mem_of_lookup h)))
  · unfold start
    show _ = N.length
    rw [List.length_append, List.length_map, List.length_replicate]
    omega
theorem JhF {CX : CXT} {P : Program} {w : World} {K : PySem.W.Frag} {mg : Str → Option Value} {base : Heap} {k : Nat} {f : Addr} {name qual : Str} {params : Arguments} {body : List Stmt} {scope : Scope} {dV kV doc pm cdv ct oc : Value} {an od : Option Addr}
    {osl : Array (Option Value)} {N ps : List Str} {sp : Sp} (lk : K.lookup f = some ⟨oc, od, .func (PySem.W.fnOf name qual params body scope dV kV doc pm an cdv ct), osl⟩) (hcd : PySem.W.codeIn K cdv qual = true) (S : Ze N ps scope)
    (len : ∀ vs H Q E, sp vs H Q E → vs.length = ps.length)
    (hbody : ∀ (A : Around) (outer : List Env) (s : Shared) (H : Hp) (vs : List V) (Q : VK) (E : XK), yby k (A.deeper (envOfC qual scope s.heap.objs.size f cdv)) → sp vs H Q E →
      ∃ t, PSs (Jg1 CX P w K mg base N qual scope f cdv A outer s H E) body t ∧ t { nx := fun _ H' => Q .non H', rt := Q } (start N vs) H) :
    Zf P w K mg base CX (k + 1) f (PySem.W.fnOf name qual params body scope dV kV doc pm an cdv ct) ps sp := by
  refine ⟨len, fun A outer s H args us vs Q E hr e0 hb r hsp => ?_⟩
  have hl := len _ _ _ _ hsp
  have KX : K.In s.heap := e0.mod.kin.keeps fun b o e => (e0.bs b o e).1
  have lim : s.heap.NoLimit := e0.mod.nolimit.keeps fun b o e => (e0.bs b o e).1
  have hkind : ∀ y ∈ ps.zip us, scope.names.lookup y.1 = some .local ∨ (scope.names.lookup y.1 = some .cell ∧ ((cellsFrom (s.heap.objs.size + 1) scope.names []).lookup y.1).isSome = true) := fun ⟨n, v⟩ hy => by
    rcases S.par n (List.of_mem_zip hy).1 with q | q
    · exact .inl q
    · exact .inr ⟨q, PySem.W.cellsFrom_some _ _ _ (.inl q)⟩
  refine codeAny_call_function hr.depth (KX _ _ lk) rfl S.co S.gen rfl (PySem.W.codeRec_of KX hcd) (hb _ _ _ _ ?_)
  refine wpAny_newFunctionEnv_cells S.kind hkind fun env he s1 x => ?_
  subst he
  refine ⟨lim.keeps x.toInCall.keep, codeAny_func ?_⟩
  obtain ⟨t, ht, hq⟩ := hbody A outer s H vs Q E (hr.deeper _) hsp
  have I : Inv (Jg1 CX P w K mg base N qual scope f cdv A outer s H E) [] (start N vs) H s1 := zg2 S hr.hd e0 hl r x
  refine wpAny_mono (ht [] s1 (start N vs) H _ I hq) (fun fl s' hs => ?_) fun e s' hs => hs
  have fin : ∀ {σ' : St} {H' : Hp} {v : V} {u : Value}, Inv (Jg1 CX P w K mg base N qual scope f cdv A outer s H E) [] σ' H' s' → RelV v u → Q v H' → CE outer P w H s Q u s' :=
    fun {σ' H' v u} J rv q => ⟨v, H', J.os, J.bare, J.base, J.hok, rv, q⟩
  cases fl with
  | ret u =>
    obtain ⟨v, σ', H', J, rv, q⟩ := hs
    exact fin J rv q
  | next =>
    obtain ⟨σ', H', J, q⟩ := hs
    exact fin (v := V.non) (u := Value.none) J rfl q
  | brk =>
    obtain ⟨_, _, _, q⟩ := hs
    exact False.elim q
  | cont =>
    obtain ⟨_, _, _, q⟩ := hs
    exact False.elim q
end L2
namespace L2
open PySem PySem.Spec PyProof.Rows
section
variable {X : Cx} {x : Str} {p pos : Pos} {e : Expr} {es : List Expr} {t : TA} {id T : String} {r : List V → Hp → VK → Prop}
def tCB (r : List V → Hp → VK → Prop) (t : TA) : TE := fun σ H Q => t σ H fun vs H1 => r vs H1 Q
theorem zu (hc : ycj X (.builtin id) r) (hg : Gl X x) (hm : X.mg x = none) (hv : bootBuiltins x = some (.builtin id)) (ha : PA X (e :: es) t) (hn : x ≠ "__name__" := by decide) (hdb : (x == ("__debug__" : Str)) = false := by decide)
    (he : starEach (e :: es) X.env = (false, eval e X.env) :: starEach es X.env := by rfl) (hpl : (backTo pos (starEach es X.env)).any (·.1) = false := by rfl) : PE X (.Call (.Name x p) (e :: es) [] pos) (tCB r t) := by
  intro pins s σ H Q I h
  refine wpAny_Call_Name_kw (zge I hg hm hv ?_ hn hdb)
  exact PyProof.Rows.callWith_builtin1 (thn (ha pos pins s σ H _ I h) fun us s1 ⟨vs, H1, I1, r1, q1⟩ => hc pins s1 σ H1 vs us Q I1 r1 q1) he hpl
theorem zf4 (hc : ycj X (.type T) r) (hg : Gl X x) (hm : X.mg x = none) (hv : bootBuiltins x = some (.type T)) (ha : PA X (e :: es) t) (hn : x ≠ "__name__" := by decide) (hdb : (x == ("__debug__" : Str)) = false := by decide)
    (he : starEach (e :: es) X.env = (false, eval e X.env) :: starEach es X.env := by rfl) (hpl : (backTo pos (starEach es X.env)).any (·.1) = false := by rfl) : PE X (.Call (.Name x p) (e :: es) [] pos) (tCB r t) := by
  intro pins s σ H Q I h
  refine wpAny_Call_Name_kw (zge I hg hm hv ?_ hn hdb)
  exact PyProof.Rows.callWith_type1 (thn (ha pos pins s σ H _ I h) fun us s1 ⟨vs, H1, I1, r1, q1⟩ => hc pins s1 σ H1 vs us Q I1 r1 q1) he hpl
end
end L2
namespace HT
open PySem PyProof.Rows
section
open PySem.SeqAt
open PySem.AutoSeq1 (wpAny_loadPart')
open PySem.MeetsSeq PySem.MeetsSeq2 PySem.MeetsSeq3
end
section
variable {prog : Program} {w : World} {A : Around} {E : Value → Shared → Prop} {s : Shared}
def sIx (n d : Nat) : Option Int → Nat
  | none => d
  | some v => if v < 0 then (v + (n : Int)).toNat else min v.toNat n
theorem jge (n d k : Nat) : sIx n d (some (k : Int)) = min k n := by
  show (if (k : Int) < 0 then ((k : Int) + (n : Int)).toNat else min (k : Int).toNat n) = min k n
  rw [if_neg (by omega), Int.toNat_natCast]
end
end HT
namespace L2
open PySem PySem.Spec PyProof.Rows
abbrev TO := St → Hp → (Option Int → Hp → Prop) → Prop
def PO (X : Cx) (e : Option Expr) (t : TO) : Prop :=
  ∀ (pins : List (Addr × Obj)) (s : Shared) (σ : St) (H : Hp) (Q : Option Int → Hp → Prop), Inv X pins σ H s → t σ H Q →
    wpAny (model X.prog X.w) X.A (evalPart e X.env) (fun u s' => ∃ o H', Inv X pins σ H' s' ∧ IsPart u o ∧ Q o H') X.xe s
def Yhp : TO := fun _ H Q => Q none H
def zhG (t : TE) : TO := fun σ H Q => t σ H fun x H1 => ∃ i, x = .int i ∧ Q (some i) H1
section
variable {X : Cx} {e : Expr} {te : TE} {lo hi : Option Expr} {tl th : TO} {pos p2 : Pos}
theorem JgT : PO X none Yhp := by
  intro pins s σ H Q I h
  rw [evalPart_none]
  exact wpAny_pure ⟨none, H, I, .none, h⟩
theorem Jfw (h : PE X e te) : PO X (some e) (zhG te) := by
  intro pins s σ H Q I hw
  rw [evalPart_some]
  refine thn (h pins s σ H _ I hw) fun u s1 ⟨x, H1, I1, r1, q1⟩ => ?_
  obtain ⟨i, rfl, q⟩ := q1
  obtain ⟨t, rfl⟩ := r1
  exact ⟨some i, H1, I1, .int i t, q⟩
def SlR (X : Cx) (r : V → Option Int → Option Int → Hp → VK → Prop) : Prop :=
  ∀ (pins : List (Addr × Obj)) (s : Shared) (σ : St) (H : Hp) (x : V) (v vl vu : Value) (lo hi : Option Int) (sl : Addr) (Q : VK), Inv X pins σ H s → RelV x v → s.heap.IsSliceOf sl vl vu .none → IsPart vl lo → IsPart vu hi → r x lo hi H Q →
    ∃ T id, typeLookup (.type T) "__getitem__" = pure (some (.builtin id)) ∧ s.TypeIs v T ∧ wpAny (model X.prog X.w) X.A (getItem v (.ref sl)) (EP X pins σ Q) X.xe s
def tSl (r : V → Option Int → Option Int → Hp → VK → Prop) (te : TE) (tl th : TO) : TE := fun σ H Q => te σ H fun x H1 => tl σ H1 fun l H2 => th σ H2 fun u H3 => r x l u H3 Q
theorem ZfA {r : V → Option Int → Option Int → Hp → VK → Prop} (hr : SlR X r) (he : PE X e te) (hl : PO X lo tl) (hu : PO X hi th) : PE X (.Subscript e (.Slice lo hi none p2) pos) (tSl r te tl th) := by
  intro pins s σ H Q I h
  refine Subscript_ (thn (he pins s σ H _ I h) fun v s1 ⟨x, H1, I1, r1, q1⟩ => ?_)
  refine wpAny_Slice (thn (hl pins s1 σ H1 _ I1 q1) fun vl s2 ⟨l, H2, I2, pl, q2⟩ => thn (hu pins s2 σ H2 _ I2 q2) fun vu s3 ⟨u, H3, I3, pu, q3⟩ => ?_)
  rw [evalPart_none]
  refine wpAny_pure ?_
  have I4 : Inv X pins σ H3 { s3 with heap := s3.heap.push { cls := .type "slice", data := .fields #[vl, vu, .none] } } := I3.kept (t' := s3.toks) fun b ob q => Heap.get?_push_of_some _ q
  obtain ⟨T, id, hT, ht, hg⟩ := hr pins { s3 with heap := s3.heap.push { cls := .type "slice", data := .fields #[vl, vu, .none] } } σ H3 x v vl vu l u s3.heap.objs.size Q I4 r1 (Heap.IsSliceOf.new ..) pl pu q3
  show wpAny (model X.prog X.w) X.A (subscriptTail e (.Slice lo hi none p2) v (.ref s3.heap.objs.size)) (EP X pins σ Q) X.xe { s3 with heap := s3.heap.push { cls := .type "slice", data := .fields #[vl, vu, .none] } }
  exact tail_any (ops := [.ref s3.heap.objs.size, v]) ht hT hg (by with_unfolding_all rfl)
def yfA (xs : List V) (lo hi : Option Int) : List V := (xs.drop (HT.sIx xs.length 0 lo)).take (HT.sIx xs.length xs.length hi - HT.sIx xs.length 0 lo)
theorem ygu (xs : List V) (lo hi : Option Int) : (yfA xs lo hi).length ≤ xs.length := by
  unfold yfA
  rw [List.length_take, List.length_drop]
  omega
end
end L2
namespace L2
open PySem PySem.Spec PyProof.Rows
def ixN (n : Nat) (i : Int) : Option Nat := if 0 ≤ i then (if i < n then some i.toNat else none) else if -(n : Int) ≤ i then some (i + n).toNat else none
def atI {α : Type} (xs : List α) (i : Int) : Option α := (ixN xs.length i).bind fun j => xs[j]?
theorem jhp {n : Nat} {i : Int} {j : Nat} (h : ixN n i = some j) : seqIndex? i n = some j ∧ j < n ∧ -(n : Int) ≤ i ∧ i < n := by
  unfold ixN at h
  by_cases h0 : 0 ≤ i
  · rw [if_pos h0] at h
    by_cases h1 : i < n
    · rw [if_pos h1] at h
      have e : i.toNat = j := Option.some.inj h
      exact ⟨by rw [seqIndex_of h0 h1, e], by omega, by omega, h1⟩
    · rw [if_neg h1] at h; cases h
  · rw [if_neg h0] at h
    by_cases h1 : -(n : Int) ≤ i
    · rw [if_pos h1] at h
      have e : (i + n).toNat = j := Option.some.inj h
      exact ⟨by rw [seqIndex_neg (by omega) h1, e], by omega, h1, by omega⟩
    · rw [if_neg h1] at h; cases h
theorem Jge {α : Type} {xs : List α} {i : Int} {v : α} (h : atI xs i = some v) : ∃ j, seqIndex? i xs.length = some j ∧ xs[j]? = some v ∧ j < xs.length ∧ -(xs.length : Int) ≤ i ∧ i < xs.length := by
  unfold atI at h
  cases e : ixN xs.length i with
  | none => rw [e] at h; cases h
  | some j =>
    rw [e] at h
    obtain ⟨h1, h2, h3, h4⟩ := jhp e
    exact ⟨j, h1, h, h2, h3, h4⟩
theorem Ydn {α : Type} {xs : List α} {j : Nat} {v : α} (h : xs[j]? = some v) : atI xs (j : Int) = some v := by
  have hj : j < xs.length := (List.getElem?_eq_some_iff.mp h).1
  have e : ixN xs.length (j : Int) = some j := by
    unfold ixN
    rw [if_pos (by omega), if_pos (by omega)]; simp
  unfold atI; rw [e]; exact h
def Jhp (b : Expr) : Prop := ∀ o i, subscripted b false o i = operate [o, i] (getItem o i)
def IxR (X : Cx) (r : R2) : Prop :=
  ∀ (value slice : Expr) (pins : List (Addr × Obj)) (s : Shared) (σ : St) (H : Hp) (x y : V) (v u : Value) (Q : VK), Inv X pins σ H s → RelV x v → RelV y u → r x y H Q →
    subscripted slice false v u = operate [v, u] (getItem v u) → wpAny (model X.prog X.w) X.A (subscriptTail value slice v u) (EP X pins σ Q) X.xe s
def MtR (X : Cx) (id : String) (r : V → List V → Hp → VK → Prop) : Prop :=
  ∀ (pins : List (Addr × Obj)) (s : Shared) (σ : St) (H : Hp) (x : V) (xs : List V) (v : Value) (us : List Value) (Q : VK), Inv X pins σ H s → RelV x v → Vals xs us → r x xs H Q →
    wpAny (model X.prog X.w) X.A (call (.builtin id) (v :: us)) (EP X pins σ Q) X.xe s
section
variable {X : Cx} {a b : Expr} {ta tb : TE} {pos : Pos}
theorem IxR.or {r r' : R2} (h : IxR X r) (h' : IxR X r') : IxR X (fun x y H Q => r x y H Q ∨ r' x y H Q) := by
  intro value slice pins s σ H x y v u Q I rx ry q hs
  rcases q with q | q
  · exact h value slice pins s σ H x y v u Q I rx ry q hs
  · exact h' value slice pins s σ H x y v u Q I rx ry q hs
theorem Jj {r : R2} (hr : IxR X r) (ha : PE X a ta) (hb : PE X b tb) (hs : Jhp b) : PE X (.Subscript a b pos) (tOp r ta tb) := by
  intro pins s σ H Q I h
  exact Subscript_ (Jhy ha hb I h fun v u s2 x y H2 I2 rx ry q => hr a b pins s2 σ H2 x y v u Q I2 rx ry q (hs _ _))
def ZhG (K : PySem.W.Frag) : R2 := fun x y H Q => ∃ p xs i v, x = .ref p ∧ y = .int i ∧ SqL K H p xs ∧ atI xs i = some v ∧ Q v H
def yhG (K : PySem.W.Frag) : R2 := fun x y H Q => ∃ p xs i v, x = .ref p ∧ y = .int i ∧ SqT K H p xs ∧ atI xs i = some v ∧ Q v H
def YhG : R2 := fun x y H Q => ∃ z i c, x = .str z ∧ y = .int i ∧ z.length ≤ sizeLine ∧ atI z.cps.toList i = some c ∧ Q (.str ⟨#[c]⟩) H
theorem zhq : IxR X (ZhG X.K) := by
  intro value slice pins s σ H x y v u Q I rx ry h hs
  obtain ⟨p, xs, i, z, rfl, rfl, hq, he, q⟩ := h
  cases rx
  obtain ⟨t, rfl⟩ := ry
  obtain ⟨its, r, pl, hz⟩ := I.list hq
  obtain ⟨j, h1, h2, h3, h4, h5⟩ := Jge he
  obtain ⟨w, ew, rw'⟩ := r.get h2
  have hl := r.length
  have hn := Yge
  have fin : EP X pins σ Q w s := ⟨z, H, I, rw', q⟩
  by_cases h0 : 0 ≤ i
  · have hj : i.toNat = j := by
      rw [seqIndex_of h0 h5] at h1
      exact Option.some.inj h1
    exact item_listR pl.isList h0 (by omega) (by rw [hj]; simpa using ew) fin hs
  · have hj : (i + (its.toArray.size : Int)).toNat = j := by
      rw [seqIndex_neg (by omega) h4] at h1
      rw [List.size_toArray, ← hl]
      exact Option.some.inj h1
    exact subscriptTail_builtinR (x := w) pl.isList.typeIs slot_list_getitem.lookup
      (wpAny_getItem_list_neg (Q := fun r s' => r = w ∧ EP X pins σ Q r s') pl.isList (by omega) (by rw [List.size_toArray] <;> omega) (by omega) (by rw [hj]; simpa using ew) ⟨rfl, fin⟩) hs
theorem Yhz : IxR X (yhG X.K) := by
  intro value slice pins s σ H x y v u Q I rx ry h hs
  obtain ⟨p, xs, i, z, rfl, rfl, hq, he, q⟩ := h
  cases rx
  obtain ⟨t, rfl⟩ := ry
  obtain ⟨its, r, pl, hz⟩ := I.tuple hq
  obtain ⟨j, h1, h2, h3, h4, h5⟩ := Jge he
  obtain ⟨w, ew, rw'⟩ := r.get h2
  have hl := r.length
  have hn := Yge
  have fin : EP X pins σ Q w s := ⟨z, H, I, rw', q⟩
  exact subscriptTail_builtinR (x := w) pl.typeIs slot_tuple_getitem.lookup
    (getItem_tuple (j := j) (Q := fun r s' => r = w ∧ EP X pins σ Q r s') pl (by omega) (by omega) (by rw [List.size_toArray, ← hl]; exact h1) (by simpa using ew) ⟨rfl, fin⟩) hs
theorem jhz : IxR X YhG := by
  intro value slice pins s σ H x y v u Q I rx ry h hs
  obtain ⟨z, i, c, rfl, rfl, hz, he, q⟩ := h
  obtain ⟨t, rfl⟩ := rx
  obtain ⟨t', rfl⟩ := ry
  obtain ⟨j, h1, h2, h3, h4, h5⟩ := Jge he
  have hl : z.cps.toList.length = z.length := by simp [Str.length]
  rw [hl] at h1 h4 h5
  have hn := Yge
  exact tail_any (typeIs_str s z t) slot_str_getitem.lookup (getItem_str (c := c) (by
    have e1 : decide (i < -(2 ^ 63 : Int)) = false := decide_eq_false (by omega)
    have e2 : decide (i ≥ 2 ^ 63) = false := decide_eq_false (by omega)
    rw [e1, e2, Bool.or_false]) (by rw [h1]; simpa using h2) ⟨.str ⟨#[c]⟩, H, I.tok _, ⟨_, rfl⟩, q⟩) hs
def rIx (K : PySem.W.Frag) : R2 := fun x y H Q => ZhG K x y H Q ∨ yhG K x y H Q ∨ YhG x y H Q
theorem Jhz : IxR X (rIx X.K) := zhq.or (Yhz.or jhz)
theorem zgf (lo hi : Option Int) (n : Nat) : (sliceBounds lo hi none n).1 = ((HT.sIx n 0 lo : Nat) : Int) ∧ (sliceBounds lo hi none n).2.1 = ((HT.sIx n n hi : Nat) : Int) ∧ (sliceBounds lo hi none n).2.2 = 1 := by
  refine ⟨?_, ?_, rfl⟩
  · cases lo with
    | none => simp [sliceBounds, HT.sIx]
    | some i =>
      simp only [sliceBounds, HT.sIx, Option.getD_none, show (1 : Int) > 0 by decide, if_true]
      by_cases h : i < 0
      · simp only [h, if_true] <;> omega
      · simp only [h, if_false] <;> omega
  · cases hi with
    | none => simp [sliceBounds, HT.sIx]
    | some i =>
      simp only [sliceBounds, HT.sIx, Option.getD_none, show (1 : Int) > 0 by decide, if_true]
      by_cases h : i < 0
      · simp only [h, if_true] <;> omega
      · simp only [h, if_false] <;> omega
theorem jfU (its : List Value) (lo hi : Option Int) : slicePick its.toArray lo hi none = ((its.drop (HT.sIx its.length 0 lo)).take (HT.sIx its.length its.length hi - HT.sIx its.length 0 lo)).toArray := by
  obtain ⟨h1, h2, h3⟩ := zgf lo hi its.toArray.size
  unfold slicePick
  rw [h1, h2, h3]
  simp only [sliceRange_one, pick_run, List.size_toArray] <;> rfl
def jhG (K : PySem.W.Frag) : V → Option Int → Option Int → Hp → VK → Prop := fun x lo hi H Q => ∃ a xs, x = .ref a ∧ SqL K H a xs ∧ ∀ p, H p = none → Q (.ref p) (upd H p (.lst (yfA xs lo hi)))
theorem Zhq : SlR X (jhG X.K) := by
  intro pins s σ H x v vl vu lo hi sl Q I rx hs pl pu h
  obtain ⟨a, xs, rfl, hx, q⟩ := h
  cases rx
  obtain ⟨its, r, ht, hz⟩ := I.list hx
  have hlen := r.length
  refine ⟨"list", _, slot_list_getitem.lookup, ht.isList.typeIs, ?_⟩
  refine wpAny_getItem_list_slice ht.isList hs pl pu .none (by simp) ?_ (by rw [List.size_toArray] <;> omega)
  rw [jfU, ← hlen]
  refine ⟨.ref s.heap.objs.size, _, I.laid (t' := s.toks) (o := .lst (yfA xs lo hi)) (fun b ob q => Heap.get?_push_of_some _ q) (Nat.le_refl _) ?_, rfl, q _ (I.hok.fresh (Nat.le_refl _))⟩
  exact ⟨Nat.le_trans (ygu xs lo hi) hz, _, 0, (r.drop (HT.sIx xs.length 0 lo)).take (HT.sIx xs.length xs.length hi - HT.sIx xs.length 0 lo), Heap.get?_push_size _ rfl⟩
theorem Zgf : ycj X (.builtin "len") (fun xs H Q => ∃ p ys, xs = [.ref p] ∧ (SqL X.K H p ys ∨ SqT X.K H p ys) ∧ Q (.int ys.length) H) := by
  intro pins s σ H xs us Q I r h
  obtain ⟨p, ys, rfl, hq, q⟩ := h
  obtain ⟨u, rfl, rx⟩ := vals1 r
  cases rx
  have hn := Yge
  rcases hq with hq | hq
  · obtain ⟨its, r', pl, hz⟩ := I.list hq
    have hlen := r'.length
    exact Calls.call_len_list pl.isList (by simp only [List.size_toArray] <;> omega) ⟨.int ys.length, H, I.tok _, ⟨s.toks + 1, by rw [List.size_toArray, hlen]⟩, q⟩
  · obtain ⟨its, r', pl, hz⟩ := I.tuple hq
    have hlen := r'.length
    exact len_tuple pl (by simp only [List.size_toArray] <;> omega) ⟨.int ys.length, H, I.tok _, ⟨s.toks + 1, by rw [List.size_toArray, hlen]⟩, q⟩
theorem ygf : ycj X (.type "list") (fun xs H Q => ∃ p ys, xs = [.ref p] ∧ (SqL X.K H p ys ∨ SqT X.K H p ys) ∧ ∀ l, H l = none → Q (.ref l) (upd H l (.lst ys))) := by
  intro pins s σ H xs us Q I r h
  obtain ⟨p, ys, rfl, hq, q⟩ := h
  obtain ⟨u, rfl, rx⟩ := vals1 r
  cases rx
  have fin : ∀ (its : List Value), Vals ys its → ys.length ≤ sizeLine → ∀ (h' : Heap) (c' : Nat), (∀ b o', s.heap.get? b = some o' → h'.get? b = some o') →
      h'.get? s.heap.objs.size = some { cls := .type "list", dict := none, data := .seq its.toArray c', slots := #[] } → EP X pins σ Q (.ref s.heap.objs.size) { s with heap := h' } := fun its r' hz h' c' kp e =>
    ⟨.ref s.heap.objs.size, _, I.laid (t' := s.toks) kp (Nat.le_refl _) (show yO X.prog X.w _ h' _ (.lst ys) from ⟨hz, its, c', r', e⟩), rfl, q _ (I.hok.fresh (Nat.le_refl _))⟩
  rcases hq with hq | hq
  · obtain ⟨its, r', pl, hz⟩ := I.list hq
    have hlen := r'.length
    obtain ⟨o, ho, hc, n, hd⟩ := pl.isList
    exact call_list_seq p (.inl rfl) ho hc hd (fun h' c' kp e => fin its r' hz h' c' kp e) (by simp only [List.size_toArray] <;> omega)
  · obtain ⟨its, r', pl, hz⟩ := I.tuple hq
    have hlen := r'.length
    obtain ⟨o, ho, hc, n, hd⟩ := pl
    exact call_list_seq p (.inr rfl) ho hc hd (fun h' c' kp e => fin its r' hz h' c' kp e) (by simp only [List.size_toArray] <;> omega)
def tyV (K : PySem.W.Frag) (T : String) (x : V) (H : Hp) : Prop := match x with
  | .str _ => T = "str"
  | .int _ => T = "int"
  | .ref p => (T = "list" ∧ ∃ xs, SqL K H p xs) ∨ (T = "tuple" ∧ ∃ o, K.lookup p = some o ∧ o.cls = .type "tuple" ∧ o.dict = none) ∨
      (T = "dict" ∧ ((∃ kvs, H p = some (.dK kvs)) ∨ ∃ kvs, H p = some (.dT kvs))) ∨ (T = "set" ∧ ∃ S n, H p = some (.set S n))
  | _ => False
theorem zhA {pins : List (Addr × Obj)} {σ : St} {H : Hp} {s : Shared} {T : String} {x : V} {v : Value} (I : Inv X pins σ H s) (r : RelV x v) (ty : tyV X.K T x H) :
    s.TypeIs v T ∧ ∀ a, v = .ref a → ∃ ob, s.heap.get? a = some ob ∧ ob.dict = none := by
  cases x with
  | str z =>
    obtain ⟨t, rfl⟩ := r
    cases (show T = "str" from ty)
    exact ⟨typeIs_str s z t, fun _ e => nomatch e⟩
  | int i =>
    obtain ⟨t, rfl⟩ := r
    cases (show T = "int" from ty)
    exact ⟨typeIs_int s i t, fun _ e => nomatch e⟩
  | ref p =>
    cases r
    rcases ty with ⟨rfl, xs, hq⟩ | ⟨rfl, o, hk, hc, hd⟩ | ⟨rfl, hk⟩ | ⟨rfl, S, n, hk⟩
    · obtain ⟨its, _, pl, _⟩ := I.list hq
      refine ⟨pl.isList.typeIs, fun a e => ?_⟩
      cases e
      obtain ⟨o, n, e, c, hd, _⟩ := pl
      exact ⟨o, e, hd⟩
    · refine ⟨⟨o, I.kIn p o hk, hc⟩, fun a e => ?_⟩
      cases e
      exact ⟨o, I.kIn _ o hk, hd⟩
    · have z : ∃ o, s.heap.get? p = some o ∧ o.ExactDict := by
        rcases hk with ⟨kvs, hk⟩ | ⟨kvs, hk⟩
        · obtain ⟨_, _, _, _, o, _, _, e, ex, _⟩ := I.hok p _ hk
          exact ⟨o, e, ex⟩
        · obtain ⟨_, _, _, _, o, _, _, e, ex, _⟩ := I.hok p _ hk
          exact ⟨o, e, ex⟩
      obtain ⟨o, e, ex⟩ := z
      refine ⟨⟨o, e, ex.1⟩, fun a e2 => ?_⟩
      cases e2
      exact ⟨o, e, ex.2.1⟩
    · obtain ⟨o, _, _, _, e, ex, _⟩ := I.hok p _ hk
      refine ⟨⟨o, e, ex.1⟩, fun a e2 => ?_⟩
      cases e2
      exact ⟨o, e, ex.2.1⟩
  | _ => exact False.elim ty
def tBM (K : PySem.W.Frag) (T : String) (r : V → List V → Hp → VK → Prop) (to : TE) (t : TA) : TE := fun σ H Q => to σ H fun x H1 => tyV K T x H1 ∧ t σ H1 fun xs H2 => r x xs H2 Q
variable {o e : Expr} {es : List Expr} {to : TE} {t : TA} {name : Str} {apos cpos : Pos} {T id : String} {r : V → List V → Hp → VK → Prop}
theorem Yem (pa : PlainAttrs T) (slot : Slot T name id) (hty : typeOf (.builtin id) = pure (.type "method_descriptor")) (hm : MtR X id r) (ho : PE X o to) (ha : PA X (e :: es) t)
    (hbase : attributeBase o name X.env (eval o X.env) = eval o X.env := by rfl)
    (hfew : ((backTo cpos (starEach (e :: es) X.env)).all (fun x => !x.1) && (backToKw cpos (keywordEach [] X.env)).all (fun x => x.1.isSome)
      && decide ((e :: es).length + ([] : List Keyword).length + (if ([] : List Keyword).isEmpty then 0 else 1) < 30)) = true := by rfl)
    (hline : (apos.endLine == cpos.line) = true := by rfl) (hs : starEach (e :: es) X.env = (false, eval e X.env) :: starEach es X.env := by rfl) (hplain : (backTo cpos (starEach es X.env)).any (·.1) = false := by rfl) :
    PE X (.Call (.Attribute o name apos) (e :: es) [] cpos) (tBM X.K T r to t) := by
  intro pins s σ H Q I h
  refine wpAny_Call_method_late hbase hfew hline rfl (thn (ho pins s σ H _ I h) fun v s1 ⟨x, H1, I1, r1, ty, q1⟩ => ?_)
  obtain ⟨h1, h2⟩ := zhA I1 r1 ty
  refine ⟨T, id, pa, slot, hty, h1, h2, ?_⟩
  have hA := ha cpos pins s1 σ H1 _ I1 q1
  rw [hs] at hA ⊢
  refine Calls.callWith_builtin (by show (false || (backTo cpos (starEach es X.env)).any (·.1)) = false; rw [hplain] <;> rfl) (Calls.evalArgs_plain ?_)
  exact thn hA fun us s2 ⟨vs, H2, I2, r2, q2⟩ => hm pins s2 σ H2 x vs v us Q I2 r1 r2 q2
end
end L2
namespace L2
open PySem PySem.Spec PyProof.Rows
def MtM (X : Cx) (id : String) (r : V → List V → Hp → VK → Prop) : Prop :=
  ∀ (pins : List (Addr × Obj)) (s : Shared) (σ : St) (H : Hp) (x : V) (xs : List V) (v : Value) (us : List Value) (Q : VK), Inv X pins σ H s → RelV x v → Vals xs us → r x xs H Q →
    wpAny (model X.prog X.w) X.A (call (.builtin id) (v :: us)) (EP X pins σ Q) X.xe s
theorem Vals.one : ∀ {x : V} {us : List Value}, Vals [x] us → ∃ u, us = [u] ∧ RelV x u
  | _, _, .cons r .nil => ⟨_, rfl, r⟩
section
variable {X : Cx} {pins : List (Addr × Obj)} {σ : St} {H : Hp} {s : Shared} {l b : Addr} {xs ys zs : List V}
theorem Inv.JhG {its its' : List Value} {n : Nat} {f : Array Value → Array Value} {t' : Nat} (I : Inv X pins σ H s) (hH : H l = some (.lst xs))
    (e : s.heap.get? l = some { cls := .type "list", data := .seq its.toArray n }) (hf : f its.toArray = its'.toArray) (hv : Vals ys its') (hz : ys.length ≤ sizeLine) :
    Inv X pins σ (upd H l (.lst ys)) { s with heap := s.heap.update l (Obj.mapSeq f), toks := t' } := by
  have q := PySem.IsL.update e f
  rw [hf] at q
  refine I.write (x := l) (e := l) (by rw [hH]; exact trivial) (.inl rfl) (fun b' u hb hu => (Heap.get?_update_other s.heap (Obj.mapSeq f) (Ne.symm hb)).trans hu) ⟨_, q⟩ ?_
  exact ⟨hz, its', _, hv, q⟩
theorem Inv.YhM {its : List Value} {t' : Nat} (I : Inv X pins σ H s) (hv : Vals ys its) (hz : ys.length ≤ sizeLine) :
    Inv X pins σ (upd H s.heap.objs.size (.lst ys)) { s with heap := s.heap.push { cls := .type "list", data := .seq its.toArray }, toks := t' } :=
  I.laid (fun _ _ q => Heap.get?_push_of_some _ q) (Nat.le_refl _) ⟨hz, its, 0, hv, Heap.get?_push_size _ rfl⟩
theorem Inv.fresh (I : Inv X pins σ H s) : H s.heap.objs.size = none := I.hok.fresh (Nat.le_refl _)
theorem Inv.jhc (I : Inv X pins σ H s) (hH : H l = some (.lst xs)) : xs.length ≤ sizeLine ∧ ∃ (its : List Value) (n : Nat), Vals xs its ∧ xs.length = its.length ∧ s.heap.get? l = some { cls := .type "list", data := .seq its.toArray n } := by
  obtain ⟨z, its, n, r, e⟩ := I.hok l _ hH
  exact ⟨z, its, n, r, r.length, e⟩
theorem Jhc {n : Nat} (h : n ≤ sizeLine) : Builtin.List.listTooLong n = false := by
  unfold Builtin.List.listTooLong
  exact decide_eq_false (by omega)
end
section
variable {X : Cx}
def yhq : V → List V → Hp → VK → Prop := fun x vs H Q => ∃ l xs y, x = .ref l ∧ vs = [y] ∧ H l = some (.lst xs) ∧ xs.length < sizeLine ∧ Q .non (upd H l (.lst (xs ++ [y])))
theorem zbU : MtM X "list.append" yhq := by
  intro pins s σ H x vs v us Q I rx rv h
  obtain ⟨l, xs, y, rfl, rfl, hH, hz, q⟩ := h
  cases rx
  obtain ⟨u, rfl, ru⟩ := rv.one
  obtain ⟨z, its, n, r, hl, e⟩ := I.jhc hH
  refine call_meets F.slot_list_append ⟨_, e, rfl⟩ F.entry_list_append (F.args_list_append_2 _ _) (PySem.list_append l its.toArray n u (by rw [List.size_toArray]; omega)) ⟨e, ?_⟩
  refine ⟨.non, _, I.JhG (its' := its ++ [u]) hH e (by simp) (r.append (.cons ru .nil)) ?_, rfl, q⟩
  rw [List.length_append, List.length_singleton]
  omega
def Yhq : V → List V → Hp → VK → Prop := fun x vs H Q => ∃ l b xs zs, x = .ref l ∧ vs = [.ref b] ∧ H l = some (.lst xs) ∧ H b = some (.lst zs) ∧ xs.length + zs.length ≤ sizeLine ∧ Q .non (upd H l (.lst (xs ++ zs)))
theorem Ze3 : MtM X "list.extend" Yhq := by
  intro pins s σ H x vs v us Q I rx rv h
  obtain ⟨l, b, xs, zs, rfl, rfl, hH, hB, hz, q⟩ := h
  cases rx
  obtain ⟨u, rfl, ru⟩ := rv.one
  cases ru
  obtain ⟨z, its, n, r, hl, e⟩ := I.jhc hH
  obtain ⟨z2, its2, n2, r2, hl2, e2⟩ := I.jhc hB
  have hsz : its.toArray.size + its2.toArray.size ≤ sizeLine := by rw [List.size_toArray, List.size_toArray]; omega
  have hlong : ¬ (!its.toArray.isEmpty && Builtin.List.listTooLong (its.toArray.size + its2.toArray.size)) = true := by
    rw [Jhc hsz, Bool.and_false]
    exact Bool.false_ne_true
  refine call_meets F.slot_list_extend ⟨_, e, rfl⟩ F.entry_list_extend (F.args_list_extend_2 _ _)
    (AutoSeq1.list_extend_list_list_0 l its.toArray n b its2.toArray n2 hlong (by rw [List.size_toArray]; omega) (by omega)) ⟨e, e2, ?_⟩
  refine ⟨.non, _, I.JhG (its' := its ++ its2) hH e (by simp) (r.append r2) ?_, rfl, q⟩
  rw [List.length_append]
  omega
def jhM : R2 := fun x y H Q => ∃ l b xs zs, x = .ref l ∧ y = .ref b ∧ H l = some (.lst xs) ∧ H b = some (.lst zs) ∧ xs.length + zs.length ≤ sizeLine ∧ ∀ p, H p = none → Q (.ref p) (upd H p (.lst (xs ++ zs)))
theorem zhd : OpR X (binaryOp .Add) jhM := by
  intro pins s σ H x y v u Q I rx ry h
  obtain ⟨l, b, xs, zs, rfl, rfl, hH, hB, hz, q⟩ := h
  cases rx
  cases ry
  obtain ⟨z, its, n, r, hl, e⟩ := I.jhc hH
  obtain ⟨z2, its2, n2, r2, hl2, e2⟩ := I.jhc hB
  refine PySem.P.add_list e e2 ?_ (by rw [List.size_toArray, List.size_toArray]; omega)
  have ea : its.toArray ++ its2.toArray = (its ++ its2).toArray := by simp
  rw [ea]
  exact ⟨.ref _, _, I.YhM (t' := s.toks) (r.append r2) (by rw [List.length_append]; omega), rfl, q _ I.fresh⟩
end
section
variable {prog : Program} {w : World} {A : Around} {E : Value → Shared → Prop} {s : Shared}
set_option maxRecDepth 100000 in
end
section
variable {X : Cx}
end
end L2
namespace L2
open PySem PySem.Spec PyProof.Rows
theorem Vals.ints : ∀ {ns : List Int} {us : List Value}, Vals (ns.map V.int) us → IntsAre us ns
  | [], us, h => by
    rw [List.map_nil] at h
    cases h
    exact IntsAre.nil
  | n :: ns, us, h => by
    rw [List.map_cons] at h
    cases h with
    | cons r t =>
      obtain ⟨k, rfl⟩ := r
      exact IntsAre.cons n k (Vals.ints t)
theorem Vals.bls : ∀ {bs : List Bool} {us : List Value}, Vals (bs.map V.bl) us → us = bs.map Value.bool
  | [], us, h => by
    rw [List.map_nil] at h
    cases h
    rfl
  | b :: bs, us, h => by
    rw [List.map_cons] at h
    cases h with
    | cons r t =>
      cases r
      rw [Vals.bls t, List.map_cons]
theorem Vals.zhH {a : Addr} {us : List Value} (r : Vals [V.ref a] us) : us = [Value.ref a] := by
  cases r with
  | cons r t =>
    cases t
    cases r
    rfl
section
variable {prog : Program} {w : World} {A : Around} {E : Value → Shared → Prop} {s : Shared} {l : Addr} {its : List Value} {ns : List Int} {Q : Value → Shared → Prop}
theorem jhq (hh : A.handled = none) (hl : s.heap.IsList l its.toArray) (hi : IntsAre its ns)
    (h : ∀ h' tk t', (∀ b o, s.heap.get? b = some o → h'.get? b = some o) → Q (.int ns.sum t') { s with heap := h', toks := tk }) : wpAny (model prog w) A (call (.builtin "sum") [.ref l]) Q E s := by
  obtain ⟨xs, e⟩ := hi.allInts.items
  have hn : numsOf (intItems xs).toList = ns := by rw [← e]; exact hi.numsOf
  rw [nums_intItems] at hn
  rw [e] at hl
  refine PySem.sum_intListG hh hl fun h' tk t' hk => ?_
  have := h h' tk t' hk
  rw [preSum_eq, List.take_of_length_le (by simp), hn]; exact this
end
section
variable {X : Cx}
def ZhH (K : PySem.W.Frag) : List V → Hp → VK → Prop := fun vs H Q => ∃ (a : Addr) (ns : List Int), vs = [V.ref a] ∧ SqL K H a (ns.map V.int) ∧ Q (.int ns.sum) H
theorem ZhA (hc : X.calm = true) : ycj X (.builtin "sum") (ZhH X.K) := by
  intro pins s σ H vs us Q I r h
  obtain ⟨a, ns, rfl, hs, q⟩ := h
  obtain ⟨its, rv, hl, _⟩ := I.list hs
  rw [Vals.zhH r]
  exact jhq (I.ok.hd hc) hl.isList rv.ints fun h' tk t' hk => ⟨.int _, H, I.kept hk, ⟨_, rfl⟩, q⟩
end
section
variable {X : Cx}
end
section
variable {X : Cx}
end
theorem Zhd {prog : Program} {w : World} {A : Around} {E : Value → Shared → Prop} {s : Shared} {l : Addr} {items : Array Value} {Q : Value → Shared → Prop} (hl : s.heap.IsList l items)
    (h : ∀ s₂ : Shared, s₂ = { s with heap := s.heap.push { cls := .type "list_iterator", data := .fields #[.ref l, .int 0 0] } } →
      (s₂.heap.IsListIter s.heap.objs.size l 0 ∧ s₂.heap.IsList l items) → l ≠ s.heap.objs.size → Q (.ref s.heap.objs.size) s₂) : wpAny (model prog w) A (pyIter (.ref l)) Q E s := by
  have hlt : l < s.heap.objs.size := by obtain ⟨_, e, _⟩ := hl; exact Heap.lt_size e
  exact wpAny_pyIter_list hl (h _ rfl ⟨⟨_, Heap.get?_push_size _ rfl, rfl, rfl⟩, hl.push _⟩ (Nat.ne_of_lt hlt))
theorem Ygu {prog : Program} {w : World} {A : Around} {bs : List Bool} {its : List Value} (e : its = bs.map Value.bool) :
    TruthOf prog w A (fun i v => its.toArray[i]? = some v) (fun i => bs.getD i false) := fun i v s Q E hv hq => by
  have hv' : its[i]? = some v := by simpa using hv
  rw [e, List.getElem?_map] at hv'
  obtain ⟨b, hb, rfl⟩ := Option.map_eq_some_iff.mp hv'
  have hg : bs.getD i false = b := by rw [List.getD_eq_getElem?_getD, hb] <;> rfl
  have hq' : Q (bs.getD i false) s := hq
  rw [hg] at hq'
  exact wpAny_truthy_bool hq'
theorem any_range : ∀ bs : List Bool, (List.range bs.length).any (fun i => bs.getD i false) = bs.any id
  | [] => rfl
  | b :: bs => by
    rw [List.length_cons, List.range_succ_eq_map, List.any_cons, List.any_map, List.any_cons, ← any_range bs]
    all_goals rfl
section
variable {X : Cx}
def yhH (K : PySem.W.Frag) : List V → Hp → VK → Prop := fun vs H Q => ∃ (a : Addr) (bs : List Bool), vs = [V.ref a] ∧ SqL K H a (bs.map V.bl) ∧ Q (.bl (bs.any id)) H
theorem yhA (hc : X.calm = true) : ycj X (.builtin "any") (yhH X.K) := by
  intro pins s σ H vs us Q I r h
  obtain ⟨a, bs, rfl, hs, q⟩ := h
  obtain ⟨its, rv, hl, _⟩ := I.list hs
  rw [Vals.zhH r]
  have hb := rv.bls
  refine call_any_walk (Zhd hl.isList fun s₂ e2 st hne => ?_)
  subst e2
  refine ⟨_, _, _, _, _, _, _, rfl, Walks.list (A := X.A.in1) (I.ok.hd hc) _ a hne its.toArray, st, Ygu hb, fun h' tk hk => ?_⟩
  refine ⟨.bl _, H, I.kept fun b o eo => hk b o (fun hmem => ?_) (Heap.get?_push_of_some _ eo), ?_, q⟩
  · rcases List.mem_cons.mp hmem with e1 | hmem
    · exact absurd (e1 ▸ Heap.lt_size eo) (Nat.lt_irrefl _)
    · cases hmem
  · show Value.bool _ = Value.bool _
    rw [← any_range, hb, List.size_toArray, List.length_map]
end
mutual
inductive Dp (K : PySem.W.Frag) (H : Hp) : V → PyData → Prop
  | non : Dp K H .non .none
  | bl (b : Bool) : Dp K H (.bl b) (.bool b)
  | int (i : Int) : Dp K H (.int i) (.int i)
  | str (x : Str) : Dp K H (.str x) (.str x)
  | lst {a : Addr} {xs : List V} {ds : List PyData} : SqL K H a xs → Zf4 K H xs ds → Dp K H (.ref a) (.list ds)
  | tup {a : Addr} {xs : List V} {ds : List PyData} : SqT K H a xs → Zf4 K H xs ds → Dp K H (.ref a) (.tuple ds)
inductive Zf4 (K : PySem.W.Frag) (H : Hp) : List V → List PyData → Prop
  | nil : Zf4 K H [] []
  | cons {v : V} {vs : List V} {d : PyData} {ds : List PyData} : Dp K H v d → Zf4 K H vs ds → Zf4 K H (v :: vs) (d :: ds)
end
section
variable {X : Cx} {pins : List (Addr × Obj)} {σ : St} {H : Hp} {s : Shared}
mutual
theorem Dp.reads (I : Inv X pins σ H s) : ∀ (d : PyData) (v : V) (u : Value), Dp X.K H v d → RelV v u → ∃ as, Reads s.heap u d as
  | .none, _, _, h, r => by
    cases h
    cases r
    exact ⟨_, Reads.none⟩
  | .bool b, _, _, h, r => by
    cases h
    cases r
    exact ⟨_, Reads.bool b⟩
  | .int i, _, _, h, r => by
    cases h
    obtain ⟨t, rfl⟩ := r
    exact ⟨_, Reads.int i t⟩
  | .str x, _, _, h, r => by
    cases h
    obtain ⟨t, rfl⟩ := r
    exact ⟨_, Reads.str x t⟩
  | .list ds, _, _, h, r => by
    cases h with
    | lst hs ha =>
      cases r
      obtain ⟨its, rv, ⟨o, n, ho, hc, _, hd⟩, _⟩ := I.list hs
      obtain ⟨as, hr⟩ := Dp.readsAll I ds _ its ha rv
      exact ⟨_, Reads.list ho hc hd hr⟩
  | .tuple ds, _, _, h, r => by
    cases h with
    | tup hs ha =>
      cases r
      obtain ⟨its, rv, ⟨o, ho, hc, n, hd⟩, _⟩ := I.tuple hs
      obtain ⟨as, hr⟩ := Dp.readsAll I ds _ its ha rv
      exact ⟨_, Reads.tuple ho hc hd hr⟩
  | .dict _, _, _, h, _ => by cases h
theorem Dp.readsAll (I : Inv X pins σ H s) : ∀ (ds : List PyData) (vs : List V) (us : List Value), Zf4 X.K H vs ds → Vals vs us → ∃ as, ReadsAll s.heap us ds as
  | [], _, _, h, r => by
    cases h
    cases r
    exact ⟨_, ReadsAll.nil⟩
  | d :: ds, _, _, h, r => by
    cases h with
    | cons h1 h2 =>
      cases r with
      | cons r1 r2 =>
        obtain ⟨as, q1⟩ := Dp.reads I d _ _ h1 r1
        obtain ⟨bs, q2⟩ := Dp.readsAll I ds _ _ h2 r2
        exact ⟨_, ReadsAll.cons q1 q2⟩
end
end
section
variable {X : Cx}
def YhH (K : PySem.W.Frag) : R2 := fun x y H Q => ∃ d e, Dp K H x d ∧ Dp K H y e ∧ SeqAt.shaped d = true ∧ SeqAt.shaped e = true ∧ Q (.bl (!PyData.eqv d e)) H
theorem YhA (hu : X.A.units + 64 < cLine) : OpR X (compareOp .NotEq) (YhH X.K) := by
  intro pins s σ H x y v u Q I rx ry h
  obtain ⟨d, e, hd, he, sd, se, q⟩ := h
  obtain ⟨as, r1⟩ := Dp.reads I d x v hd rx
  obtain ⟨bs, r2⟩ := Dp.reads I e y u he ry
  exact SeqAt.compareNe_shaped r1 r2 sd se hu ⟨.bl _, H, I, rfl, q⟩
end
end L2
namespace L2
open PySem PySem.Spec PyProof.Rows
abbrev yhd (h : Heap) (c : Addr) (v : Option Value) : Prop := h.IsCell c v
def JhM (scope sc : Scope) : Scope :=
  { scope with names := scope.names.map fun (n, k) => if (k == .free && sc.kind == .function && sc.names.lookup n == some .cell) then (n, .cell) else (n, k) }
def J8 (cells : List (Str × Addr)) : List (Str × NameKind) → List (Str × Addr) → List (Str × Addr)
  | [], acc => acc
  | (n, k) :: r, acc => if k == .free then J8 cells r ((n, (cells.lookup n).getD 0) :: acc) else J8 cells r acc
theorem YeH (env : Env) (f : Str × NameKind → List (Str × Addr) → Sem (ForInStep (List (Str × Addr))))
    (hf : ∀ n k c, f (n, k) c = if k == .free then (do let a ← cellOf env n; pure (.yield ((n, a) :: c))) else pure (.yield c)) :
    ∀ (names : List (Str × NameKind)) (acc : List (Str × Addr)), (∀ y ∈ names, y.2 = .free → ∃ c, env.cells.lookup y.1 = some c) → forIn names acc f = pure (J8 env.cells names acc)
  | [], acc, _ => by rw [List.forIn_nil]; rfl
  | (n, k) :: r, acc, h => by
    rw [List.forIn_cons, hf]
    have ih := fun acc => YeH env f hf r acc fun y hy => h y (List.mem_cons_of_mem _ hy)
    unfold J8
    by_cases hk : (k == NameKind.free) = true
    · rw [if_pos hk, if_pos hk]
      obtain ⟨c, hc⟩ := h (n, k) List.mem_cons_self (by simpa using hk)
      have e : cellOf env n = pure c := by unfold cellOf; rw [hc]
      rw [e]
      have e2 : (env.cells.lookup n).getD 0 = c := by rw [hc]; rfl
      rw [e2]
      exact ih _
    · rw [if_neg hk, if_neg hk]
      exact ih _
theorem jgK {scope : Scope} {env : Env} (h : ∀ y ∈ scope.names, y.2 = .free → ∃ c, env.cells.lookup y.1 = some c) : closureFor scope env = pure (J8 env.cells scope.names []) := by
  simp only [closureFor]
  rw [YeH env _ (fun n k c => rfl) scope.names [] h]
  rfl
theorem mem_lookup {α : Type} : ∀ {l : List (Str × α)} {n : Str} {c : α}, (n, c) ∈ l → ∃ c', l.lookup n = some c'
  | (k, v) :: r, n, c, h => by
    rw [List.lookup_cons]
    cases hb : n == k with
    | true => exact ⟨_, rfl⟩
    | false =>
      rcases List.mem_cons.mp h with e | h
      · cases e; simp at hb
      · exact mem_lookup h
theorem YcO {cells : List (Str × Addr)} : ∀ {names : List (Str × NameKind)} {acc : List (Str × Addr)} {n : Str} {c : Addr}, (n, c) ∈ J8 cells names acc → (n, c) ∈ acc ∨ ((n, .free) ∈ names ∧ c = (cells.lookup n).getD 0)
  | [], _, _, _, h => .inl h
  | (m, k) :: r, acc, n, c, h => by
    unfold J8 at h
    split at h
    · rename_i hk
      have hk : k = .free := by simpa using hk
      rcases YcO h with h | ⟨h1, h2⟩
      · rcases List.mem_cons.mp h with e | h
        · cases e; exact .inr ⟨hk ▸ List.mem_cons_self, rfl⟩
        · exact .inl h
      · exact .inr ⟨List.mem_cons_of_mem _ h1, h2⟩
    · rcases YcO h with h | ⟨h1, h2⟩
      · exact .inl h
      · exact .inr ⟨List.mem_cons_of_mem _ h1, h2⟩
theorem ZdO {cells : List (Str × Addr)} : ∀ {names : List (Str × NameKind)} {acc : List (Str × Addr)} {p : Str × Addr}, p ∈ acc → p ∈ J8 cells names acc
  | [], _, _, h => h
  | (m, k) :: r, acc, p, h => by
    unfold J8
    split
    · exact ZdO (List.mem_cons_of_mem _ h)
    · exact ZdO h
theorem ydO {cells : List (Str × Addr)} : ∀ {names : List (Str × NameKind)} {acc : List (Str × Addr)} {n : Str}, (n, .free) ∈ names → (n, (cells.lookup n).getD 0) ∈ J8 cells names acc
  | (m, k) :: r, acc, n, h => by
    unfold J8
    rcases List.mem_cons.mp h with e | h
    · cases e
      exact ZdO List.mem_cons_self
    · split
      · exact ydO h
      · exact ydO h
theorem Yda : ∀ {names : List (Str × NameKind)} {h : Heap} {acc : List (Str × Addr)} {x : Str} {c : Addr}, (x, c) ∈ cellsFrom h.objs.size names acc →
    (x, c) ∈ acc ∨ ((x, .cell) ∈ names ∧ h.objs.size ≤ c ∧ yhd (pushCells h names) c none)
  | [], _, _, _, _, h => .inl h
  | (n, k) :: r, h, acc, x, c, hm => by
    unfold cellsFrom at hm
    unfold pushCells
    split at hm
    · rename_i hk
      rw [if_pos hk]
      have hk : k = .cell := by simpa using hk
      rw [← Heap.size_push h { cls := .type "cell", data := .cell none }] at hm
      rcases Yda hm with hm | ⟨h1, h2, h3⟩
      · rcases List.mem_cons.mp hm with e | hm
        · cases e
          exact .inr ⟨hk ▸ List.mem_cons_self, Nat.le_refl _, _, pushCells_keeps r _ _ _ (Heap.get?_push_size _ rfl), rfl⟩
        · exact .inl hm
      · rw [Heap.size_push] at h2
        exact .inr ⟨List.mem_cons_of_mem _ h1, Nat.le_of_succ_le h2, h3⟩
    · rename_i hk
      rw [if_neg hk]
      rcases Yda hm with hm | ⟨h1, h2, h3⟩
      · exact .inl hm
      · exact .inr ⟨List.mem_cons_of_mem _ h1, h2, h3⟩
theorem Yed : ∀ {names : List (Str × NameKind)} {n : Nat} {acc : List (Str × Addr)} {p : Str × Addr}, p ∈ acc → p ∈ cellsFrom n names acc
  | [], _, _, _, h => h
  | (m, k) :: r, n, acc, p, h => by
    unfold cellsFrom
    split
    · exact Yed (List.mem_cons_of_mem _ h)
    · exact Yed h
theorem ye3 : ∀ {names : List (Str × NameKind)} {n : Nat} {acc : List (Str × Addr)} {x : Str}, (x, .cell) ∈ names → ∃ c, (x, c) ∈ cellsFrom n names acc
  | (m, k) :: r, n, acc, x, h => by
    unfold cellsFrom
    rcases List.mem_cons.mp h with e | h
    · cases e
      exact ⟨n, Yed List.mem_cons_self⟩
    · split
      · exact ye3 h
      · exact ye3 h
theorem Ye3 : ∀ {names : List (Str × NameKind)} {h : Heap} {acc : List (Str × Addr)} {x y : Str} {c : Addr}, (∀ p ∈ acc, p.2 < h.objs.size) → (∀ x y c, (x, c) ∈ acc → (y, c) ∈ acc → x = y) →
    (x, c) ∈ cellsFrom h.objs.size names acc → (y, c) ∈ cellsFrom h.objs.size names acc → x = y
  | [], _, _, _, _, _, _, hi, h1, h2 => hi _ _ _ h1 h2
  | (n, k) :: r, h, acc, x, y, c, hl, hi, h1, h2 => by
    unfold cellsFrom at h1 h2
    split at h1
    · rename_i hk
      rw [if_pos hk] at h2
      rw [← Heap.size_push h { cls := .type "cell", data := .cell none }] at h1 h2
      refine Ye3 (h := h.push _) (fun p hp => ?_) (fun x y c a b => ?_) h1 h2
      · rw [Heap.size_push]
        rcases List.mem_cons.mp hp with rfl | hp
        · exact Nat.lt_succ_self _
        · exact Nat.lt_succ_of_lt (hl p hp)
      · rcases List.mem_cons.mp a with e | a <;> rcases List.mem_cons.mp b with e' | b
        · cases e; cases e'; rfl
        · cases e; exact absurd (hl _ b) (Nat.lt_irrefl _)
        · cases e'; exact absurd (hl _ a) (Nat.lt_irrefl _)
        · exact hi _ _ _ a b
    · rename_i hk
      rw [if_neg hk] at h2
      exact Ye3 hl hi h1 h2
theorem jgu {M : Model} {A : Around} {E : Value → Shared → Prop} {s : Shared} {scope : Scope} {globals : Addr} {closure : List (Str × Addr)} {qual : Str} {func : Option Addr} {code : Value} {around : Env} {builtins : Addr} {Q : Env → Shared → Prop}
    (h : Q (newEnv scope s.heap.objs.size globals (cellsFrom (s.heap.objs.size + 1) scope.names closure) qual func code (some around) builtins)
      { s with heap := pushCells (s.heap.push { cls := .type "dict", data := .dict #[] }) scope.names }) :
    wpAny M A (newFunctionEnv scope globals closure [] qual func code (some around) builtins) Q E s := by
  simp only [newFunctionEnv, Option.isSome_some, if_true]
  refine wpAny_bind (wpAny_alloc ?_)
  refine wpAny_bind (wpAny_layCells _ (fun n k c => rfl) scope.names closure _ _ ?_)
  rw [show ({ s with heap := s.heap.push { cls := .type "dict", data := .dict #[] } } : Shared).heap.objs.size = s.heap.objs.size + 1 from Heap.size_push ..]
  rw [List.forIn_nil]
  exact wpAny_bind (wpAny_pure (wpAny_pure h))
theorem YdO {sc : Scope} : ∀ {names : List (Str × NameKind)} {x : Str} {k : NameKind},
    (names.map fun (n, k) => if (k == NameKind.free && sc.kind == .function && sc.names.lookup n == some .cell) then (n, NameKind.cell) else (n, k)).lookup x = some k →
    ∃ k', names.lookup x = some k' ∧ (k = k' ∨ (k' = .free ∧ k = .cell))
  | [], _, _, h => by simp at h
  | (n, k₀) :: r, x, k, h => by
    have ih := @YdO sc r x k
    have h' : List.lookup x ((if (k₀ == NameKind.free && sc.kind == .function && sc.names.lookup n == some .cell) = true then (n, NameKind.cell) else (n, k₀)) :: (r.map _)) = some k := h
    cases hx : x == n with
    | true =>
      simp only [List.lookup_cons, hx]
      by_cases hc : (k₀ == NameKind.free && sc.kind == .function && sc.names.lookup n == some .cell) = true
      · rw [if_pos hc] at h'
        simp only [List.lookup_cons, hx] at h'
        cases h'
        simp only [Bool.and_eq_true, beq_iff_eq] at hc
        exact ⟨k₀, rfl, .inr ⟨hc.1.1, rfl⟩⟩
      · rw [if_neg hc] at h'
        simp only [List.lookup_cons, hx] at h'
        cases h'
        exact ⟨_, rfl, .inl rfl⟩
    | false =>
      simp only [List.lookup_cons, hx]
      by_cases hc : (k₀ == NameKind.free && sc.kind == .function && sc.names.lookup n == some .cell) = true
      · rw [if_pos hc] at h'
        simp only [List.lookup_cons, hx] at h'
        exact ih h'
      · rw [if_neg hc] at h'
        simp only [List.lookup_cons, hx] at h'
        exact ih h'
structure Jdx (N : List Str) (sc scope : Scope) (own : List (Str × Nat)) : Prop where
  kind : scope.kind = .function
  uniq : ∀ y ∈ scope.names, scope.names.lookup y.1 = some y.2
  ix : ∀ p ∈ own, N[p.2]? = some p.1
  free : ∀ y ∈ scope.names, y.2 = .free → sc.names.lookup y.1 = some .cell ∨ sc.names.lookup y.1 = some .free
  own : ∀ y ∈ scope.names, y.2 = .local ∨ y.2 = .cell → y.1 ∈ own.map (·.1) ∨ y.1 ∉ N
def wipe (σ : St) : List Nat → St
  | [] => σ
  | v :: vs => (wipe σ vs).set v none
theorem jdO (σ : St) : ∀ vs : List Nat, (wipe σ vs).length = σ.length
  | [] => rfl
  | v :: vs => by unfold wipe; rw [List.length_set, jdO σ vs]
theorem je3 {σ : St} {i : Nat} {x : V} : ∀ {vs : List Nat}, (wipe σ vs)[i]? = some (some x) → σ[i]? = some (some x) ∧ i ∉ vs
  | [], h => ⟨h, by simp⟩
  | v :: vs, h => by
    unfold wipe at h
    by_cases hi : v = i
    · subst hi
      by_cases hv : v < (wipe σ vs).length
      · rw [List.getElem?_set_self hv] at h; cases h
      · rw [List.getElem?_eq_none (by simpa using hv)] at h; cases h
    · rw [List.getElem?_set_ne hi] at h
      obtain ⟨h1, h2⟩ := je3 h
      exact ⟨h1, by simp only [List.mem_cons, not_or]; exact ⟨fun e => hi e.symm, h2⟩⟩
abbrev Cx.blk (X : Cx) (s : Shared) (H : Hp) (scope : Scope) (cenv : Env) (fp : List Addr) : Cx := { X with s_0 := s, H_0 := H, env := cenv, outer := X.stack, ex := fp, fn := fun x => scope.names.lookup x == some .cell, pn := [], xe := fun _ _ => False }
section
variable {X : Cx} {pins : List (Addr × Obj)} {σ : St} {H : Hp} {s : Shared}
theorem Jgu {scope : Scope} {own : List (Str × Nat)} {fp : List Addr} (I : Inv X pins σ H s) (ok : Jdx X.N X.env.scope scope own) (hN : X.N.Nodup) (hfp : ∀ b ∈ fp, Yfz X pins H b ∧ b < s.heap.objs.size) :
    Inv (X.blk s H scope (compEnvC scope (cellsFrom (s.heap.objs.size + 1) scope.names (J8 X.env.cells scope.names [])) s.heap.objs.size X.env) fp) [] (wipe σ (own.map (·.2))) H { s with heap := pushCells (s.heap.push { cls := .type "dict", data := .dict #[] }) scope.names } := by
  have hfree : ∀ y ∈ scope.names, y.2 = .free → ∃ c, X.env.cells.lookup y.1 = some c := fun y hy e => by
    rcases ok.free y hy e with k | k
    · exact I.ok.has _ (.inl k)
    · exact I.ok.has _ (.inr k)
  generalize hcenv : compEnvC scope (cellsFrom (s.heap.objs.size + 1) scope.names (J8 X.env.cells scope.names [])) s.heap.objs.size X.env = cenv
  have kp : ∀ b o, s.heap.get? b = some o → (pushCells (s.heap.push { cls := .type "dict", data := .dict #[] }) scope.names).get? b = some o := fun b o e => pushCells_keeps _ _ _ _ (Heap.get?_push_of_some _ e)
  have hL : cenv.locals = s.heap.objs.size := by rw [← hcenv]; rfl
  have hcl : cenv.cells = cellsFrom (s.heap.objs.size + 1) scope.names (J8 X.env.cells scope.names []) := by rw [← hcenv]; rfl
  have hsc : cenv.scope = JhM scope X.env.scope := by rw [← hcenv]; rfl
  rw [← Heap.size_push s.heap { cls := .type "dict", data := .dict #[] }] at hcl
  have cm : ∀ {y c}, (y, c) ∈ J8 X.env.cells scope.names [] → X.env.cells.lookup y = some c ∧ c < s.heap.objs.size := fun {y c} hm => by
    rcases YcO hm with hm | ⟨h1, rfl⟩
    · cases hm
    · obtain ⟨c, hc⟩ := hfree _ h1 rfl
      rw [hc]
      obtain ⟨w, z⟩ := I.cell _ _ hc
      exact ⟨rfl, z.lt⟩
  have mem : ∀ {y c}, cenv.cells.lookup y = some c → (X.env.cells.lookup y = some c ∧ c < s.heap.objs.size) ∨ (s.heap.objs.size + 1 ≤ c ∧ yhd (pushCells (s.heap.push { cls := .type "dict", data := .dict #[] }) scope.names) c none) := fun {y c} e => by
    rw [hcl] at e
    rcases Yda (PySem.mem_of_lookup e) with hm | ⟨_, h2, h3⟩
    · exact .inl (cm hm)
    · rw [Heap.size_push] at h2; exact .inr ⟨h2, h3⟩
  have look : ∀ {y}, scope.names.lookup y = some .free → ∃ c, cenv.cells.lookup y = some c ∧ X.env.cells.lookup y = some c := fun {y} hl => by
    have hy : (y, NameKind.free) ∈ scope.names := PySem.mem_of_lookup hl
    obtain ⟨c', e'⟩ := mem_lookup (Yed (names := scope.names) (n := (s.heap.push { cls := .type "dict", data := .dict #[] }).objs.size) (ydO (cells := X.env.cells) (acc := []) hy))
    rw [← hcl] at e'
    refine ⟨c', e', ?_⟩
    rw [hcl] at e'
    rcases Yda (PySem.mem_of_lookup e') with hm | ⟨h1, _, _⟩
    · exact (cm hm).1
    · have := ok.uniq _ h1
      rw [hl] at this; cases this
  have okB : (X.blk s H scope cenv fp).Ok := by
    refine ⟨I.ok.mod, by show cenv.scope.kind = _; rw [hsc]; exact ok.kind, by show cenv.globals = _; rw [← hcenv]; exact I.ok.glob, by show cenv.builtins = _; rw [← hcenv]; exact I.ok.blt, by show s.heap.objs.size ≤ cenv.locals; rw [hL]; exact Nat.le_refl _,
      fun y z c e1 e2 => ?_, fun y hy => ?_, fun y c z e => ?_, I.ok.hd, I.ok.frames, .inl rfl, fun b hb => ⟨?_, fun y c e z => ?_⟩, I.bs, Nat.le_trans I.ok.bsz I.sz, fun b o e hb => ?_, fun b hb z => ?_, I.stack, I.ygS⟩
    · have e1 : cenv.cells.lookup y = some c := e1
      have e2 : cenv.cells.lookup z = some c := e2
      rw [hcl] at e1 e2
      refine Ye3 (fun p hp => ?_) (fun y z c a b => I.ok.inj y z c (cm a).1 (cm b).1) (PySem.mem_of_lookup e1) (PySem.mem_of_lookup e2)
      rw [Heap.size_push]
      exact Nat.lt_succ_of_lt (cm (y := p.1) (c := p.2) hp).2
    · show ∃ c, cenv.cells.lookup y = some c
      have key : ∀ k, cenv.kindOf y = some k → (k = .cell ∨ k = .free) → ∃ c, cenv.cells.lookup y = some c := fun k hk hk' => by
        unfold Env.kindOf at hk
        rw [hsc] at hk
        obtain ⟨k', e, r⟩ := YdO hk
        have : k' = .cell ∨ k' = .free := by
          rcases r with rfl | ⟨rfl, _⟩
          · exact hk'
          · exact .inr rfl
        rcases this with rfl | rfl
        · obtain ⟨c, hm⟩ := ye3 (n := (s.heap.push { cls := .type "dict", data := .dict #[] }).objs.size) (acc := J8 X.env.cells scope.names []) (PySem.mem_of_lookup e)
          obtain ⟨c', e'⟩ := mem_lookup hm
          exact ⟨c', by rw [hcl]; exact e'⟩
        · obtain ⟨c, h1, _⟩ := look e
          exact ⟨c, h1⟩
      rcases hy with hy | hy
      · exact key _ hy (.inl rfl)
      · exact key _ hy (.inr rfl)
    · have z : (scope.names.lookup y == some NameKind.cell) = true := z
      have z : scope.names.lookup y = some .cell := by simpa using z
      have e : cenv.cells.lookup y = some c := e
      rw [hcl] at e
      rcases Yda (PySem.mem_of_lookup e) with hm | ⟨_, h2, _⟩
      · rcases YcO hm with hm | ⟨h1, _⟩
        · cases hm
        · have q := ok.uniq _ h1
          rw [z] at q; cases q
      · rw [Heap.size_push] at h2
        exact Nat.le_of_succ_le h2
    · show b ≠ cenv.locals
      rw [hL]; exact Nat.ne_of_lt (hfp b hb).2
    · have e : cenv.cells.lookup y = some c := e
      rcases mem e with ⟨h1, _⟩ | ⟨h1, _⟩
      · exact (hfp b hb).1.2.2.2.2.1 y c h1 z
      · have h2 : s.heap.objs.size + 1 ≤ b := by rw [← z]; exact h1
        exact absurd (Nat.lt_of_lt_of_le (hfp b hb).2 (Nat.le_of_succ_le h2)) (Nat.lt_irrefl _)
    · rcases (hfp b hb).1.2.2.2.1 with z | z
      · exact I.ok.noex b o e z
      · exact absurd (Nat.lt_of_lt_of_le (Heap.lt_size e) (Nat.le_trans I.ok.bsz z)) (Nat.lt_irrefl _)
    · rcases List.mem_cons.mp (I.ZgJ b z) with z | z
      · exact (hfp b hb).1.2.1 z
      · exact (hfp b hb).1.2.2.1 z
  refine ⟨okB, rfl, I.bare, Un.kept kp, ⟨fun _ => none, ?_, fun i y av e1 e2 e3 => ?_⟩, fun y c e => ?_, ?_, fun y c e => ?_, fun p hp => ?_, I.hok.kept kp, by rw [jdO]; exact I.len⟩
  · show Heap.Ns _ cenv.locals _
    rw [hL]
    exact Heap.Ns.keeps (Heap.Ns.new ..) fun b o e => pushCells_keeps _ _ _ _ e
  · obtain ⟨e2, hne⟩ := je3 e2
    have hfr : scope.names.lookup y = some .free ∧ (cenv.kindOf y = some .cell ∨ cenv.kindOf y = some .free) := by
      have key : ∀ k, cenv.scope.names.lookup y = some k → k = .local ∨ k = .cell ∨ k = .free → scope.names.lookup y = some .free ∧ (cenv.kindOf y = some .cell ∨ cenv.kindOf y = some .free) := fun k hk hk' => by
        have hk0 := hk
        rw [hsc] at hk
        obtain ⟨k', e, r⟩ := YdO hk
        have no : ¬ (k' = .local ∨ k' = .cell) := fun hh => by
          rcases ok.own _ (PySem.mem_of_lookup e) hh with e' | e'
          · obtain ⟨p, hp, hpy⟩ := List.mem_map.mp e'
            have e3 := ok.ix p hp
            have : p.1 = y := hpy
            rw [this] at e3
            exact hne (List.mem_map.mpr ⟨p, hp, Zfz hN e3 e1⟩)
          · exact e' (List.mem_of_getElem? e1)
        rcases r with rfl | ⟨rfl, rfl⟩
        · rcases hk' with rfl | rfl | rfl
          · exact absurd (.inl rfl) no
          · exact absurd (.inr rfl) no
          · exact ⟨e, .inr hk0⟩
        · exact ⟨e, .inl hk0⟩
      have e3 : Vis cenv.scope y := e3
      rcases e3 with e3 | e3 | e3
      · exact key _ e3 (.inl rfl)
      · exact key _ e3 (.inr (.inl rfl))
      · exact key _ e3 (.inr (.inr rfl))
    obtain ⟨m, hn, hl⟩ := I.loc
    have hvis : Vis X.env.scope y := (ok.free _ (PySem.mem_of_lookup hfr.1) rfl).elim (fun k => .inr (.inl k)) (fun k => .inr (.inr k))
    obtain ⟨w, r, q⟩ := hl i y av e1 e2 hvis
    refine ⟨w, r, .inr ⟨hfr.2, ?_⟩⟩
    obtain ⟨c, h1, h2⟩ := look hfr.1
    rcases q with ⟨k, _⟩ | ⟨_, c', e', z⟩
    · have k : X.env.scope.names.lookup y = some .local := k
      rcases ok.free _ (PySem.mem_of_lookup hfr.1) rfl with k' | k' <;> rw [show X.env.scope.names.lookup y = _ from k'] at k <;> cases k
    · rw [h2] at e'; cases e'
      exact ⟨c, h1, z.keeps kp⟩
  · have e : cenv.cells.lookup y = some c := e
    rcases mem e with ⟨h1, _⟩ | ⟨_, z⟩
    · obtain ⟨w, z⟩ := I.cell y c h1
      exact ⟨w, z.keeps kp⟩
    · exact ⟨_, z⟩
  · show H cenv.locals = none
    rw [hL]; exact I.hok.fresh (Nat.le_refl _)
  · have e : cenv.cells.lookup y = some c := e
    rcases mem e with ⟨h1, _⟩ | ⟨h1, _⟩
    · exact I.freeC y c h1
    · exact I.hok.fresh (Nat.le_of_succ_le h1)
  · exact absurd (show p ∈ ([] : List (Addr × Obj)) ++ [] from hp) (by simp)
theorem jhA {E : Value → Shared → Prop} {D : Addr} {xs : List V} {y : V} {v : Value} {Q : Value → Shared → Prop} (I : Inv X pins σ H s) (hD : H D = some (.lst xs)) (hz : xs.length < sizeLine) (r : RelV y v)
    (h : ∀ s', Inv X pins σ (upd H D (.lst (xs ++ [y]))) s' → Q .none s') : wpAny (model X.prog X.w) X.A (call (.builtin "list.append") [.ref D, v]) Q E s := by
  obtain ⟨hz', its, n, ri, e⟩ := I.hok D _ hD
  have hl := ri.length
  refine append_at (hsz := by rw [List.size_toArray]; omega) e fun h' sb ho' => ?_
  refine h { s with heap := h' } (I.write (t' := s.toks) (by rw [hD]; trivial) (.inl rfl) (fun b u hb q => (sb.2 b hb).trans q) ⟨_, ho'⟩ ⟨by rw [List.length_append]; exact hz, its ++ [v], n + 1, ri.append (.cons r .nil), ?_⟩)
  rw [ho']
  simp
def PTs (X : Cx) (ifs : List Expr) (t : TT) : Prop :=
  ∀ (pins : List (Addr × Obj)) (s : Shared) (σ : St) (H : Hp) (Q : Bool → Hp → Prop), Inv X pins σ H s → t σ H Q →
    wpAny (model X.prog X.w) X.A (forIn ifs true fun c r => if r = true then do let ok ← isTrue c X.env (eval c X.env); pure (ForInStep.yield ok) else pure (ForInStep.yield r)) (TP X pins σ Q) X.xe s
def zhN : TT := fun _ H Q => Q true H
theorem jeH : PTs X [] zhN := fun _ _ _ H _ I h => wpAny_tests_nil ⟨H, I, h⟩
theorem Ygf {c : Expr} {t : TT} (h : PT X c t) : PTs X [c] t := fun pins s σ H Q I hw => wpAny_tests_one (h pins s σ H Q I hw)
end
theorem Zg2 {α : Type} {t : Sem α} {Q Q' : α → Shared → Prop} {M : Model} {A : Around} {E : Value → Shared → Prop} {s : Shared} (h : wpAny M A t Q (fun _ _ => False) s) (hQ : ∀ a s, Q a s → Q' a s) : wpAny M A t Q' E s := wpAny_mono h hQ fun _ _ z => False.elim z
theorem jgf {prog : Program} {w : World} {A : Around} {R : Result → Shared → Prop} {s : Shared} {elt target iter : Expr} {ifs : List Expr} {scope : Scope} {pos : Pos} {it acc : Value} {env : Env} (I : Nat → Shared → Prop)
    (turn : ∀ n s, I n s → wpAny (model prog w) A (pyNext it) (fun r s₁ => match r with
      | none => R (.ok .next) s₁
      | some v => wpAny (model prog w) A (letOwnedTupleGo target it v) (fun _ s₁' => wpAny (model prog w) A (assign target env v) (fun _ s₂ =>
          wpAny (model prog w) A (forIn ifs true fun c r => if r = true then do let ok ← isTrue c env (eval c env); pure (ForInStep.yield ok) else pure (ForInStep.yield r)) (fun ok s₃ =>
            if ok = true then wpAny (model prog w) A (eval elt env) (fun x s₄ =>
              wpAny (model prog w) A (call (.builtin "list.append") [acc, x]) (fun _ s₅ => ∃ m, m < n ∧ I m s₅) (notedBy (model prog w) A env fun e s' => R (.error e) s') s₄) (notedBy (model prog w) A env fun e s' => R (.error e) s') s₃
            else ∃ m, m < n ∧ I m s₃) (notedBy (model prog w) A env fun e s' => R (.error e) s') s₂) (notedBy (model prog w) A env fun e s' => R (.error e) s') s₁') (notedBy (model prog w) A env fun e s' => R (.error e) s') s₁) (notedBy (model prog w) A env fun e s' => R (.error e) s') s)
    (n : Nat) (h : I n s) :
    codeAny (model prog w) A (.compLoop (.ListComp elt [⟨target, iter, ifs, 0⟩] scope pos) 0 it acc env) R s := by
  refine codeAny_loop rfl I (fun n s hI => ?_) n h
  show wpAny _ A ((compTurn (.ListComp elt [⟨target, iter, ifs, 0⟩] scope pos) 0 it acc env).onRaise (fun x => do noteFrame x env; theTreesLotGoes x)) _ _ s
  refine wpAny_noted ?_
  rw [compTurn_list]
  refine wpAny_bind (wpAny_standAt (wpAny_bind (wpAny_mono (turn n s hI) (fun r s₁ h₁ => ?_) fun _ _ h' => h')))
  cases r with
  | none => exact wpAny_pure h₁
  | some v =>
    refine wpAny_bind (wpAny_mono h₁ (fun _ s₁' h₁' => ?_) fun _ _ h' => h')
    refine wpAny_bind (wpAny_mono h₁' (fun _ s₂ h₂ => wpAny_bind (wpAny_mono h₂ (fun ok s₃ h₃ => ?_) fun _ _ h' => h')) fun _ _ h' => h')
    cases ok with
    | false => exact wpAny_pure ⟨rfl, h₃⟩
    | true =>
      exact wpAny_bind (wpAny_bind (wpAny_mono h₃ (fun x s₄ h₄ => wpAny_bind (wpAny_mono h₄ (fun _ s₅ h₅ => wpAny_pure (wpAny_pure ⟨rfl, h₅⟩)) fun _ _ h' => h')) fun _ _ h' => h'))
section
variable {X : Cx}
def tLc (wi : TI) (g : TG) (tt : TT) (te : TE) (vs : List Nat) : TE := fun σ H Q => wi σ H fun J H1 => ∀ D, H1 D = none → ∃ W : Nat → Nat → Hp → Prop, (∃ m, W 0 m (upd H1 D (.lst []))) ∧ ∀ i m H, W i m H →
  (J.stop i H ∧ Q (.ref D) H) ∨ (J.go i H ∧ ∃ Nx : Hp → Prop, (∀ H', Nx H' → ∃ m', m' < m ∧ W (i + 1) m' H') ∧ ∀ x H', J.yld i H x H' → g x (wipe σ vs) H' fun σ2 H2 => wipe σ2 vs = wipe σ vs ∧ tt σ2 H2 fun b H3 =>
    if b = true then te σ2 H3 fun y H4 => ∃ acc, H4 D = some (.lst acc) ∧ acc.length < sizeLine ∧ Nx (upd H4 D (.lst (acc ++ [y]))) else Nx H3)
theorem zgU {pins : List (Addr × Obj)} {s : Shared} {σ : St} {H : Hp} {Q : VK} {elt tg iter : Expr} {ifs : List Expr} {scope : Scope} {own : List (Str × Nat)} {pos pos' : Pos} {wi : TI} {g : TG} {tt : TT} {te : TE} {use : Option (Value → Sem Unit)} {Qf : Value → Shared → Prop}
    (hc : X.calm = true) (hN : X.N.Nodup) (I : Inv X pins σ H s) (hi : PI X tg iter wi) (ok : Jdx X.N X.env.scope scope own)
    (hg : ∀ (s : Shared) (H : Hp) (C : Addr) (cl : List (Str × Addr)) (fp : List Addr), PG (X.blk s H scope (compEnvC scope cl C X.env) fp) tg g) (ht : ∀ (s : Shared) (H : Hp) (C : Addr) (cl : List (Str × Addr)) (fp : List Addr), PTs (X.blk s H scope (compEnvC scope cl C X.env) fp) ifs tt)
    (he : ∀ (s : Shared) (H : Hp) (C : Addr) (cl : List (Str × Addr)) (fp : List Addr), PE (X.blk s H scope (compEnvC scope cl C X.env) fp) elt te) (hs : ∀ x, foldedSetIterable iter X.env x = pure x)
    (h : tLc wi g tt te (own.map (·.2)) σ H Q)
    (hRR : ∀ D C s' m H', Inv X pins σ H' s' → Q (.ref D) H' → s'.heap.Ns C m → Yfz X pins H' C → compPost (model X.prog X.w) X.A X.xe use Qf (.ref D) C (.ok .next) s') :
    wpAny (model X.prog X.w) X.A (comprehension (.ListComp elt [⟨tg, iter, ifs, 0⟩] scope pos) scope X.env pos' (newList []) false (eval iter X.env) use) Qf X.xe s := by
  have hfree : ∀ y ∈ scope.names, y.2 = .free → ∃ c, X.env.cells.lookup y.1 = some c := fun y hy e => by
    rcases ok.free y hy e with k | k
    · exact I.ok.has _ (.inl k)
    · exact I.ok.has _ (.inr k)
  refine wpAny_comprehension_free (use := use) rfl hs (jgK hfree) ok.kind (fun y hy e => by rw [ok.uniq y hy, e])
    (thn (hi pins s σ H _ I h) fun xv s1 hx => thn hx fun itv s2 h2 => ?_)
  obtain ⟨it, fp, tn, J, H2, e, I2, T, st2, f2, q⟩ := h2
  subst e
  refine wpAny_newObj_type (jgu ?_) (by show 0 ≤ sizeLine; decide)
  generalize hD : s2.heap.objs.size = D
  have hDn : H2 D = none := I2.hok.fresh (Nat.le_of_eq hD)
  obtain ⟨W, ⟨m0, w0⟩, turn⟩ := q D hDn
  generalize hs3 : ({ s2 with heap := s2.heap.push { cls := .type "list", data := .seq ([] : List Value).toArray } } : Shared) = s3
  have I3 : Inv X pins σ (upd H2 D (.lst [])) s3 := by
    rw [← hs3]
    refine I2.laid (t' := s2.toks) (fun b o e => Heap.get?_push_of_some _ e) (Nat.le_of_eq hD) ⟨Nat.zero_le _, [], 0, .nil, ?_⟩
    rw [← hD]
    exact Heap.get?_push_size _ rfl
  have h3 : s3.heap = s2.heap.push { cls := .type "list", data := .seq ([] : List Value).toArray } := by rw [← hs3]
  have sz : ∀ b ∈ fp, b < s2.heap.objs.size := fun b hb => by
    obtain ⟨o, e, _⟩ := T.obj _ _ st2 b hb
    exact Heap.lt_size e
  have f3 : ∀ b ∈ fp, Yfz X pins (upd H2 D (.lst [])) b ∧ b < s3.heap.objs.size := fun b hb => by
    have hlt := sz b hb
    refine ⟨⟨?_, (f2 b hb).2⟩, by rw [h3, Heap.size_push]; exact Nat.lt_succ_of_lt hlt⟩
    rw [Zc (by rw [← hD]; exact Nat.ne_of_lt hlt)]
    exact (f2 b hb).1
  have st3 : tn 0 s3.heap := T.keep _ _ _ st2 fun b _ o e => by rw [h3]; exact Heap.get?_push_of_some _ e
  have I4 := Jgu I3 ok hN f3
  have pg := hg s3 (upd H2 D (.lst [])) s3.heap.objs.size (cellsFrom (s3.heap.objs.size + 1) scope.names (J8 X.env.cells scope.names [])) fp
  have pt := ht s3 (upd H2 D (.lst [])) s3.heap.objs.size (cellsFrom (s3.heap.objs.size + 1) scope.names (J8 X.env.cells scope.names [])) fp
  have pe := he s3 (upd H2 D (.lst [])) s3.heap.objs.size (cellsFrom (s3.heap.objs.size + 1) scope.names (J8 X.env.cells scope.names [])) fp
  show codeAny _ _ (.compStart (.ListComp elt [⟨tg, iter, ifs, 0⟩] scope pos) 0 (.ref it) (.ref D) (compEnvC scope (cellsFrom (s3.heap.objs.size + 1) scope.names (J8 X.env.cells scope.names [])) s3.heap.objs.size X.env)) (compPost (model X.prog X.w) X.A X.xe use Qf (.ref D) s3.heap.objs.size) { s3 with heap := pushCells (s3.heap.push { cls := .type "dict", data := .dict #[] }) scope.names }
  have nfp : ∀ b ∈ fp, (upd H2 D (.lst [])) b = none := fun b hb => (f3 b hb).1.1
  generalize hce : compEnvC scope (cellsFrom (s3.heap.objs.size + 1) scope.names (J8 X.env.cells scope.names [])) s3.heap.objs.size X.env = ce at I4 pg pt pe ⊢
  have cL : ce.locals = s3.heap.objs.size := by subst hce; rfl
  generalize hH3 : upd H2 D (.lst []) = H3 at I3 I4 pg pt pe w0 nfp f3
  generalize hs4 : ({ s3 with heap := pushCells (s3.heap.push { cls := .type "dict", data := .dict #[] }) scope.names } : Shared) = s4 at I4 ⊢
  have st4 : tn 0 s4.heap := T.keep _ _ _ st3 fun b _ o e => by rw [← hs4]; exact pushCells_keeps _ _ _ _ (Heap.get?_push_of_some _ e)
  have stat : ∀ {σ' : St} {H' : Hp} {s' : Shared}, Inv (X.blk s3 H3 scope ce fp) [] σ' H' s' → (∀ b ∈ fp, H' b = none) → ∀ b ∈ fp, Yfz (X.blk s3 H3 scope ce fp) [] H' b := fun {σ' H' s'} I' hn b hb =>
    ⟨hn b hb, (I'.ok.exf b hb).1, I'.ok.exfs b hb, .inl hb, fun x c e => (I'.ok.exf b hb).2 x c e, fun p hp => absurd (show p ∈ ([] : List (Addr × Obj)) ++ [] from hp) (by simp)⟩
  have loop : codeAny (model X.prog X.w) X.A (.compLoop (.ListComp elt [⟨tg, iter, ifs, 0⟩] scope pos) 0 (.ref it) (.ref D) ce) (compPost (model X.prog X.w) X.A X.xe use Qf (.ref D) s3.heap.objs.size) s4 := by
    refine jgf (fun n s' => ∃ i H', Inv (X.blk s3 H3 scope ce fp) [] (wipe σ (own.map (·.2))) H' s' ∧ tn i s'.heap ∧ (∀ b ∈ fp, H' b = none) ∧ W i n H') ?_ m0 ⟨0, H3, I4, st4, nfp, w0⟩
    rintro n s5 ⟨i, H5, I5, st5, n5, w5⟩
    rcases turn i n H5 w5 with ⟨stop, qq⟩ | ⟨go, Nx, hNx, step⟩
    · have td := T.done (X.blk s3 H3 scope ce fp) rfl rfl rfl hc i [] s5 _ H5 (fun _ _ => False) I5 (stat I5 n5) st5 stop
      refine Zg2 td fun r s6 ⟨hr, I6⟩ => ?_
      subst hr
      have I7 : Inv X pins σ H5 s6 := I3.call' (ch := fp) I6.os I6.base I6.hok I6.bare fun b hb => ⟨(f3 b hb).1.2.2.2.1, (f3 b hb).1.2.1, (f3 b hb).1.2.2.2.2.1, (f3 b hb).1.2.2.2.2.2⟩
      have nC : H5 s3.heap.objs.size = none := by
        have z : H5 ce.locals = none := I6.free
        rw [cL] at z
        exact z
      obtain ⟨m, hn, _⟩ := I6.loc
      have hn : s6.heap.Ns ce.locals m := hn
      rw [cL] at hn
      exact hRR D s3.heap.objs.size s6 m H5 I7 qq hn (I3.yho (Nat.le_refl _) nC)
    · have ti := T.item (X.blk s3 H3 scope ce fp) rfl rfl rfl hc i [] s5 _ H5 (fun _ _ => False) I5 (stat I5 n5) st5 go
      refine Zg2 ti fun r s6 ⟨u, hr, h6⟩ => ?_
      subst hr
      refine Zg2 h6 fun _ s7 ⟨x, H7, I7, r7, y7, st7, n7⟩ => ?_
      have I7' := I7.pinned (stat I7 n7) (T.obj _ _ st7)
      refine Zg2 (pg _ s7 _ H7 x u _ I7' r7 (step x H7 y7)) fun _ s8 ⟨σ8, H8, I8, hw8, q8⟩ => ?_
      refine Zg2 (pt _ s8 σ8 H8 _ I8 q8) fun b s9 ⟨H9, I9, q9⟩ => ?_
      have fin : ∀ {s' : Shared} {H' : Hp}, Inv (X.blk s3 H3 scope ce fp) ([] ++ jfz fp s7.heap) σ8 H' s' → Nx H' → ∃ m, m < n ∧ ∃ i H', Inv (X.blk s3 H3 scope ce fp) [] (wipe σ (own.map (·.2))) H' s' ∧ tn i s'.heap ∧ (∀ b ∈ fp, H' b = none) ∧ W i m H' := fun {s' H'} I' nx => by
        obtain ⟨m', hm, w'⟩ := hNx H' nx
        have pin' : ∀ b ∈ fp, ∀ o, s7.heap.get? b = some o → s'.heap.get? b = some o ∧ H' b = none := fun b hb o e =>
          let z := I'.pin (b, o) (List.mem_append_right _ (List.mem_append_right _ (jey hb e)))
          ⟨z.1, z.2.1⟩
        have hl : (wipe σ (own.map (·.2))).length = σ8.length := by rw [← hw8, jdO]
        refine ⟨m', hm, i + 1, H', (I'.zeH (pins := [])).weak hl (fun j v e => ?_), T.keep _ _ _ st7 fun b hb o e => (pin' b hb o e).1, fun b hb => ?_, w'⟩
        · rw [← hw8] at e
          exact (je3 e).1
        · obtain ⟨o, e, _⟩ := T.obj _ _ st7 b hb
          exact (pin' b hb o e).2
      cases b with
      | false =>
        simp only [Bool.false_eq_true, if_false] at q9 ⊢
        exact fin I9 q9
      | true =>
        simp only [if_true] at q9 ⊢
        refine Zg2 (pe _ s9 σ8 H9 _ I9 q9) fun z s10 ⟨yv, H10, I10, r10, acc, hD10, hz10, nx⟩ => ?_
        exact jhA (X := X.blk s3 H3 scope ce fp) I10 hD10 hz10 r10 fun s11 I11 => fin I11 nx
  exact codeAny_compStart_list loop (T.self X.A 0 _ _ _ st4 loop)
theorem yf4 {elt tg iter : Expr} {ifs : List Expr} {scope : Scope} {own : List (Str × Nat)} {pos : Pos} {wi : TI} {g : TG} {tt : TT} {te : TE} (hc : X.calm = true) (hN : X.N.Nodup) (hi : PI X tg iter wi) (ok : Jdx X.N X.env.scope scope own)
    (hg : ∀ (s : Shared) (H : Hp) (C : Addr) (cl : List (Str × Addr)) (fp : List Addr), PG (X.blk s H scope (compEnvC scope cl C X.env) fp) tg g) (ht : ∀ (s : Shared) (H : Hp) (C : Addr) (cl : List (Str × Addr)) (fp : List Addr), PTs (X.blk s H scope (compEnvC scope cl C X.env) fp) ifs tt)
    (he : ∀ (s : Shared) (H : Hp) (C : Addr) (cl : List (Str × Addr)) (fp : List Addr), PE (X.blk s H scope (compEnvC scope cl C X.env) fp) elt te) (hs : ∀ x, foldedSetIterable iter X.env x = pure x := by intro _; rfl) :
    PE X (.ListComp elt [⟨tg, iter, ifs, 0⟩] scope pos) (tLc wi g tt te (own.map (·.2))) := by
  intro pins s σ H Q I h
  rw [eval_ListComp]
  refine zgU hc hN I hi ok hg ht he hs h fun D C s' m H' I' q hn f => ⟨m, hn, fun h'' sb => ?_⟩
  obtain ⟨f0, f1, f2, f3, f4, f5⟩ := f
  exact ⟨.ref D, H', I'.turned (t' := s'.toks) (fun b o hb e => (sb.2 b hb).trans e) f0 f1 f3 f4 f5, rfl, q⟩
theorem zgv {i : Nat} {y : Str} {py : Pos} {elt tg iter : Expr} {ifs : List Expr} {scope : Scope} {own : List (Str × Nat)} {pos spos : Pos} {wi : TI} {g : TG} {tt : TT} {te : TE} (hc : X.calm = true) (hN : X.N.Nodup) (hy : X.N[i]? = some y) (hyl : X.env.scope.names.lookup y = some .local)
    (hsw : swapsWith (.ListComp elt [⟨tg, iter, ifs, 0⟩] scope pos) (some (.Name y py)) spos.line X.env = pure true) (hi : PI X tg iter wi) (ok : Jdx X.N X.env.scope scope own)
    (hg : ∀ (s : Shared) (H : Hp) (C : Addr) (cl : List (Str × Addr)) (fp : List Addr), PG (X.blk s H scope (compEnvC scope cl C X.env) fp) tg g) (ht : ∀ (s : Shared) (H : Hp) (C : Addr) (cl : List (Str × Addr)) (fp : List Addr), PTs (X.blk s H scope (compEnvC scope cl C X.env) fp) ifs tt)
    (he : ∀ (s : Shared) (H : Hp) (C : Addr) (cl : List (Str × Addr)) (fp : List Addr), PE (X.blk s H scope (compEnvC scope cl C X.env) fp) elt te) (hs : ∀ x, foldedSetIterable iter X.env x = pure x := by intro _; rfl) :
    PS X (.Assign [.Name y py] (.ListComp elt [⟨tg, iter, ifs, 0⟩] scope pos) spos) (zhF (tLc wi g tt te (own.map (·.2))) (Jf2 i)) := by
  intro pins s σ H D I h
  rw [exec_Assign_Name_used _ _ _ _ hsw]
  refine wpAny_bind (wpAny_standAt (wpAny_bind ?_))
  show wpAny _ X.A (do let _ ← comprehension (.ListComp elt [⟨tg, iter, ifs, 0⟩] scope pos) scope X.env (firstIterPos [⟨tg, iter, ifs, 0⟩] pos) (newList []) false (eval iter X.env) (some (assign (.Name y py) X.env))) _ _ s
  have h : tLc wi g tt te (own.map (·.2)) σ H (fun x H1 => Jf2 i x σ H1 D.nx) := h
  refine wpAny_bind (thn (zgU (Qf := fun _ s' => SP X pins D .next s') hc hN I hi ok hg ht he hs h fun L C s' m H' I' q hn f => ?_) fun _ s' hq => wpAny_pure (wpAny_pure hq))
  show wpAny _ _ (assign (.Name y py) X.env (.ref L)) _ _ _
  refine wpAny_assign_Name (jf2 (v := V.ref L) I' hN hy (.inl hyl) rfl (fun s2 I2 ⟨a, sb, ha⟩ => ?_) (.inr hyl))
  obtain ⟨f0, f1, f2, f3, f4, f5⟩ := f
  have haC : C ≠ a := by
    rcases ha with z | z
    · rw [z]; exact f1
    · exact fun e => f4 y a z e.symm
  refine ⟨m, hn.sameBut sb haC, fun h3 sb3 => ?_⟩
  exact ⟨_, H', I2.turned (t' := s2.toks) (fun b o hb e => (sb3.2 b hb).trans e) f0 f1 f3 f4 f5, q⟩
theorem ZgU {elt : Expr} {gs : List Comprehension} {scope : Scope} {pos py : Pos} {y : Str} {l : Nat} {env : Env} (hk : env.scope.kind = .function) (hy : env.scope.names.lookup y = some .local) (hl : (py.line == pos.line) = true)
    (ha : (scope.names.any fun (n, k) => n == y && (k == .local || k == .cell)) = false) : swapsWith (.ListComp elt gs scope pos) (some (.Name y py)) l env = pure true := by
  have ky : env.kindOf y = some .local := hy
  have hb : env.blockKind = .function := by unfold Env.blockKind; rw [hk]; rfl
  unfold swapsWith
  simp only [hb, ky, ha, Expr.pos, hl]
  rfl
end
theorem ygU {K : PySem.W.Frag} {a : Addr} {xs : List V} {g : TG} {tt : TT} {te : TE} {vs : List Nat} {σ : St} {H1 : Hp} {D : Addr} {Qd : Hp → Prop} (Pv : Nat → Hp → Prop) (h0 : Pv 0 (upd H1 D (.lst []))) (hl : ∀ i H, i ≤ xs.length → Pv i H → SqL K H a xs)
    (hs : ∀ i x H, xs[i]? = some x → Pv i H → g x (wipe σ vs) H fun σ2 H2 => wipe σ2 vs = wipe σ vs ∧ tt σ2 H2 fun b H3 =>
      if b = true then te σ2 H3 fun y H4 => ∃ acc, H4 D = some (.lst acc) ∧ acc.length < sizeLine ∧ Pv (i + 1) (upd H4 D (.lst (acc ++ [y]))) else Pv (i + 1) H3) (hd : ∀ H, Pv xs.length H → Qd H) :
    ∃ W : Nat → Nat → Hp → Prop, (∃ m, W 0 m (upd H1 D (.lst []))) ∧ ∀ i m H, W i m H →
      ((Itl K a).stop i H ∧ Qd H) ∨ ((Itl K a).go i H ∧ ∃ Nx : Hp → Prop, (∀ H', Nx H' → ∃ m', m' < m ∧ W (i + 1) m' H') ∧ ∀ x H', (Itl K a).yld i H x H' → g x (wipe σ vs) H' fun σ2 H2 => wipe σ2 vs = wipe σ vs ∧ tt σ2 H2 fun b H3 =>
        if b = true then te σ2 H3 fun y H4 => ∃ acc, H4 D = some (.lst acc) ∧ acc.length < sizeLine ∧ Nx (upd H4 D (.lst (acc ++ [y]))) else Nx H3) := by
  refine ⟨fun i m H => m = xs.length - i ∧ i ≤ xs.length ∧ Pv i H, ⟨xs.length, by simp, Nat.zero_le _, h0⟩, ?_⟩
  rintro i m H ⟨rfl, hi, p⟩
  have q := hl i H hi p
  by_cases hlt : i < xs.length
  · refine .inr ⟨⟨xs, xs[i], q, by simp [hlt]⟩, Pv (i + 1), fun H' p' => ⟨xs.length - (i + 1), by omega, rfl, hlt, p'⟩, fun x H' y => ?_⟩
    obtain ⟨e, y⟩ := y
    subst e
    exact hs i x _ (y xs q) p
  · have e : i = xs.length := by omega
    subst e
    exact .inl ⟨⟨xs, q, Nat.le_refl _⟩, hd H p⟩
end L2
namespace L2
open PySem PySem.Spec PyProof.Rows
section
variable {prog : Program} {w : World} {A : Around} {R : Result → Shared → Prop} {s : Shared} {elt t0 i0 t1 i1 : Expr} {ifs0 ifs1 : List Expr} {scope : Scope} {pos : Pos} {it acc : Value} {env : Env}
end
section
variable {X : Cx}
end
end L2
namespace L2
open PySem PySem.Spec PyProof.Rows
section
variable {κ : Type} [DecidableEq κ]
def ja0 (kvs : List (κ × V)) (k : κ) : Option V := (kvs.find? fun kv => decide (kv.1 = k)).map (·.2)
def putK (kvs : List (κ × V)) (k : κ) (v : V) : List (κ × V) :=
  if (kvs.any fun kv => decide (kv.1 = k)) = true then kvs.map (fun kv => if kv.1 = k then (kv.1, v) else kv) else kvs ++ [(k, v)]
def zfg (kvs : List (κ × V)) (k : κ) : List (κ × V) := kvs.filter fun kv => decide (kv.1 ≠ k)
theorem ZaR {p : κ × V} {r : List (κ × V)} {k : κ} (e : p.1 = k) : ja0 (p :: r) k = some p.2 := by simp [ja0, List.find?_cons, e]
theorem Ja0 {p : κ × V} {r : List (κ × V)} {k : κ} (e : ¬ p.1 = k) : ja0 (p :: r) k = ja0 r k := by simp [ja0, List.find?_cons, e]
theorem JeH (k : κ) : ∀ kvs : List (κ × V), (kvs.any fun kv => decide (kv.1 = k)) = (ja0 kvs k).isSome
  | [] => rfl
  | p :: r => by
    rw [List.any_cons]
    by_cases e : p.1 = k
    · simp only [ZaR e, decide_eq_true e, Bool.true_or, Option.isSome_some]
    · rw [Ja0 e, decide_eq_false e, Bool.false_or]; exact JeH k r
theorem Zgv (k j : κ) (y : V) : ∀ kvs : List (κ × V), ja0 (kvs.map fun kv => if kv.1 = k then (kv.1, y) else kv) j = (ja0 kvs j).map fun x => if j = k then y else x
  | [] => rfl
  | p :: r => by
    have ih := Zgv k j y r
    rw [List.map_cons]
    by_cases h : p.1 = k
    · rw [if_pos h]
      by_cases e : p.1 = j
      · rw [ZaR (p := (p.1, y)) e, ZaR e, Option.map_some, if_pos (e.symm.trans h)]
      · rw [Ja0 (p := (p.1, y)) e, Ja0 e, ih]
    · rw [if_neg h]
      by_cases e : p.1 = j
      · rw [ZaR (p := p) e, ZaR e, Option.map_some, if_neg (fun z => h (e.trans z))]
      · rw [Ja0 (p := p) e, Ja0 e, ih]
theorem Yf4 (k j : κ) (y : V) : ∀ kvs : List (κ × V), ja0 kvs k = none → ja0 (kvs ++ [(k, y)]) j = if j = k then some y else ja0 kvs j
  | [], _ => by
    by_cases e : k = j
    · rw [if_pos e.symm]; exact ZaR (p := (k, y)) e
    · rw [if_neg (fun z => e z.symm)]; exact Ja0 (p := (k, y)) e
  | p :: r, hn => by
    rw [List.cons_append]
    have hk : ¬ p.1 = k := fun z => by rw [ZaR z] at hn; cases hn
    rw [Ja0 hk] at hn
    have ih := Yf4 k j y r hn
    by_cases e : p.1 = j
    · rw [ZaR e, ZaR e, if_neg (fun z => hk (e.trans z))]
    · rw [Ja0 e, Ja0 e, ih]
theorem Yhd (kvs : List (κ × V)) (k j : κ) (y : V) : ja0 (putK kvs k y) j = if j = k then some y else ja0 kvs j := by
  unfold putK
  by_cases a : (kvs.any fun kv => decide (kv.1 = k)) = true
  · rw [if_pos a, Zgv]
    rw [JeH] at a
    by_cases e : j = k
    · obtain ⟨x, hx⟩ := Option.isSome_iff_exists.mp a
      rw [if_pos e, e, hx, Option.map_some, if_pos rfl]
    · rw [if_neg e]
      cases ja0 kvs j with
      | none => rfl
      | some x => rw [Option.map_some, if_neg e]
  · rw [if_neg a]
    refine Yf4 k j y kvs ?_
    rw [JeH] at a
    cases q : ja0 kvs k with
    | none => rfl
    | some x => rw [q] at a; exact (a rfl).elim
theorem Zfg (kvs : List (κ × V)) (k : κ) (v : V) : (putK kvs k v).length ≤ kvs.length + 1 := by
  unfold putK
  split
  · rw [List.length_map]; omega
  · rw [List.length_append, List.length_cons, List.length_nil]; omega
theorem jdm.zcy {o : Option V} {u : Option Value} (r : jdm o u) : o.isSome = u.isSome := by
  cases o with
  | none => cases u with
    | none => rfl
    | some _ => exact (show False from r).elim
  | some _ => cases u with
    | none => exact (show False from r).elim
    | some _ => rfl
theorem jdm.getD {o : Option V} {u : Option Value} {d : V} {d' : Value} (r : jdm o u) (rd : RelV d d') : RelV (o.getD d) (u.getD d') := by
  cases o with
  | none => cases u with
    | none => exact rd
    | some _ => exact (show False from r).elim
  | some _ => cases u with
    | none => exact (show False from r).elim
    | some _ => exact r
theorem KV.val {kvs : List (κ × V)} {vs : List (κ × Value)} (r : KV kvs vs) (k : κ) : jdm (ja0 kvs k) (valueAt vs k) := by
  unfold KV at r
  induction r with
  | nil => exact True.intro
  | @cons p q ps qs h t ih =>
    obtain ⟨h1, h2⟩ := h
    by_cases e : p.1 = k
    · have e' : q.1 = k := h1.symm.trans e
      have b : valueAt (q :: qs) k = some q.2 := by simp [valueAt, List.find?_cons, e']
      rw [ZaR e, b]; exact h2
    · have e' : ¬ q.1 = k := fun z => e (h1.trans z)
      have b : valueAt (q :: qs) k = valueAt qs k := by simp [valueAt, List.find?_cons, e']
      rw [Ja0 e, b]; exact ih
theorem KV.any {kvs : List (κ × V)} {vs : List (κ × Value)} (r : KV kvs vs) (k : κ) : (kvs.any fun kv => decide (kv.1 = k)) = vs.any fun kv => decide (kv.1 = k) := by
  unfold KV at r
  induction r with
  | nil => rfl
  | cons h t ih => rw [List.any_cons, List.any_cons, ih, h.1]
theorem KV.repl {kvs : List (κ × V)} {vs : List (κ × Value)} (r : KV kvs vs) (k : κ) {y : V} {u : Value} (ry : RelV y u) :
    KV (kvs.map fun kv => if kv.1 = k then (kv.1, y) else kv) (vs.map fun kv => if kv.1 = k then (kv.1, u) else kv) := by
  unfold KV at r ⊢
  induction r with
  | nil => exact .nil
  | @cons p q ps qs h t ih =>
    rw [List.map_cons, List.map_cons]
    refine .cons ?_ ih
    obtain ⟨h1, h2⟩ := h
    by_cases e : p.1 = k
    · rw [if_pos e, if_pos (h1.symm.trans e)]; exact ⟨h1, ry⟩
    · rw [if_neg e, if_neg (fun z => e (h1.trans z))]; exact ⟨h1, h2⟩
theorem KV.put {kvs : List (κ × V)} {vs : List (κ × Value)} (r : KV kvs vs) (k : κ) {y : V} {u : Value} (ry : RelV y u) : KV (putK kvs k y) (stored vs k u) := by
  unfold putK stored
  rw [r.any k]
  by_cases e : (vs.any fun kv => decide (kv.1 = k)) = true
  · rw [if_pos e, if_pos e]; exact r.repl k ry
  · rw [if_neg e, if_neg e]; exact Paired.snoc r ⟨rfl, ry⟩
theorem KV.drop {kvs : List (κ × V)} {vs : List (κ × Value)} (r : KV kvs vs) (k : κ) : KV (zfg kvs k) (without vs k) := by
  unfold KV at r ⊢
  unfold zfg without
  induction r with
  | nil => exact .nil
  | @cons p q ps qs h t ih =>
    obtain ⟨h1, h2⟩ := h
    rw [List.filter_cons, List.filter_cons]
    by_cases e : p.1 = k
    · have a : ¬ decide (p.1 ≠ k) = true := by simp [e]
      have b : ¬ decide (q.1 ≠ k) = true := by simp [h1.symm.trans e]
      rw [if_neg a, if_neg b]; exact ih
    · have e' : ¬ q.1 = k := fun z => e (h1.trans z)
      have a : decide (p.1 ≠ k) = true := by simp [e]
      have b : decide (q.1 ≠ k) = true := by simp [e']
      rw [if_pos a, if_pos b]; exact .cons ⟨h1, h2⟩ ih
theorem KV.length {kvs : List (κ × V)} {vs : List (κ × Value)} (r : KV kvs vs) : kvs.length = vs.length := Paired.length r
theorem ygv (kvs : List (κ × V)) (k : κ) : (zfg kvs k).length ≤ kvs.length := List.length_filter_le _ _
end
theorem yfg {P : Program} {w : World} {k : Key} {u : Value} (r : RelV (kV k) u) : (zN P w).is k u = true := by
  cases k with
  | inl i => obtain ⟨t, e⟩ := (show ∃ t, u = Value.int i t from r); subst e; exact Ygt P w i t
  | inr x => obtain ⟨t, e⟩ := (show ∃ t, u = Value.str x t from r); subst e; exact jgt P w x t
theorem jf4 {P : Program} {w : World} : ∀ {ks : List Key} {us : List Value}, Vals (ks.map kV) us → ItemsAre (zN P w) ks us
  | [], _, r => by rw [List.map_nil] at r; cases r; exact .nil
  | k :: ks, _, r => by
    rw [List.map_cons] at r
    cases r with
    | cons h t => exact .cons (yfg h) (jf4 t)
abbrev KT (H : Hp) : List (List Key × V) → List (List Key × Addr × Value) → Prop := Paired fun p q => p.1 = q.1 ∧ H q.2.1 = some (.tup (p.1.map kV)) ∧ RelV p.2 q.2.2
theorem KT.val {H : Hp} {kvs : List (List Key × V)} {xs : List (List Key × Addr × Value)} (r : KT H kvs xs) (k : List Key) : jdm (ja0 kvs k) ((atKey xs k).map (·.2)) := by
  induction r with
  | nil => exact True.intro
  | @cons p q ps qs h t ih =>
    obtain ⟨h1, _, h2⟩ := h
    by_cases e : p.1 = k
    · have e' : q.1 = k := h1.symm.trans e
      have b : atKey (q :: qs) k = some q.2 := by simp [atKey, List.find?_cons, e']
      rw [ZaR e, b]; exact h2
    · have e' : ¬ q.1 = k := fun z => e (h1.trans z)
      have b : atKey (q :: qs) k = atKey qs k := by simp [atKey, List.find?_cons, e']
      rw [Ja0 e, b]; exact ih
theorem KT.repl {H : Hp} {kvs : List (List Key × V)} {xs : List (List Key × Addr × Value)} (r : KT H kvs xs) (k : List Key) {y : V} {u : Value} (ry : RelV y u) :
    KT H (kvs.map fun kv => if kv.1 = k then (kv.1, y) else kv) (xs.map (putAt k u)) := by
  induction r with
  | nil => exact .nil
  | @cons p q ps qs h t ih =>
    rw [List.map_cons, List.map_cons]
    refine .cons ?_ ih
    obtain ⟨h1, h2, h3⟩ := h
    unfold putAt
    by_cases e : p.1 = k
    · rw [if_pos e, if_pos (h1.symm.trans e)]; exact ⟨h1, h2, ry⟩
    · rw [if_neg e, if_neg (fun z => e (h1.trans z))]; exact ⟨h1, h2, h3⟩
theorem KT.put {H : Hp} {kvs : List (List Key × V)} {xs : List (List Key × Addr × Value)} (r : KT H kvs xs) (k : List Key) {b : Addr} {y : V} {u : Value} (hb : H b = some (.tup (k.map kV))) (ry : RelV y u) :
    KT H (putK kvs k y) (storedH xs k b u) := by
  have e : (kvs.any fun kv => decide (kv.1 = k)) = (atKey xs k).isSome := by
    rw [JeH, (r.val k).zcy, Option.isSome_map]
  unfold putK storedH
  rw [e]
  by_cases q : (atKey xs k).isSome = true
  · rw [if_pos q, if_pos q]; exact r.repl k ry
  · rw [if_neg q, if_neg q]; exact Paired.snoc r ⟨rfl, hb, ry⟩
theorem KT.keeps {H H' : Hp} {kvs : List (List Key × V)} {xs : List (List Key × Addr × Value)} (r : KT H kvs xs) (ht : ∀ b ys, H b = some (.tup ys) → H' b = some (.tup ys)) : KT H' kvs xs :=
  Paired.Yei r fun _ _ z => ⟨z.1, ht _ _ z.2.1, z.2.2⟩
section
variable {P : Program} {w : World} {H : Hp} {h : Heap} {a : Addr}
theorem zhx {u : HO} (ok : HOk P w H h) (e : Rd H a u) : yO P w H h a u := e.ok ok
theorem YfA {kvs : List (Key × V)} (ok : HOk P w H h) (e : Rd H a (.dK kvs)) : kvs.length ≤ sizeLine ∧ (a == sysModules) = false ∧ ∃ vs, KV kvs vs ∧ h.DictOf (zN P w) a vs :=
  show yO P w H h a (.dK kvs) from zhx ok e
theorem jhd {kvs : List (Key × V)} (ok : HOk P w H h) (e : H a = some (.dK kvs)) : kvs.length ≤ sizeLine ∧ (a == sysModules) = false ∧ ∃ vs, KV kvs vs ∧ h.DictOf (zN P w) a vs := YfA ok (.inl e)
theorem Je3 {ks : List Key} (ok : HOk P w H h) (e : H a = some (.tup (ks.map kV))) : (tupleKind (zN P w)).is h ks a := by
  obtain ⟨_, its, r, o, h1, h2, n, h3⟩ := (show yO P w H h a (.tup (ks.map kV)) from ok a _ e)
  exact ⟨o, its.toArray, n, h1, h2, h3, by simpa using jf4 r⟩
theorem jfA {kvs : List (List Key × V)} (ok : HOk P w H h) (e : Rd H a (.dT kvs)) : kvs.length ≤ sizeLine ∧ (a == sysModules) = false ∧
    ∃ xs, KT H kvs xs ∧ h.DictOfH (tupleKind (zN P w)) a xs := by
  obtain ⟨z, y, xs, r, o, es, ep, h1, h2, h3, h4, h5⟩ := (show yO P w H h a (.dT kvs) from zhx ok e)
  refine ⟨z, y, xs, r, o, es, ep, h1, h2, h3, h4, fun x hx => ?_, h5⟩
  have all : ∀ {l : List (List Key × V)} {m : List (List Key × Addr × Value)}, KT H l m → ∀ x ∈ m, (tupleKind (zN P w)).is h x.1 x.2.1 := by
    intro l m q
    induction q with
    | nil => intro x hx; exact nomatch hx
    | @cons p q ps qs hq t ih =>
      intro x hx
      rcases List.mem_cons.mp hx with e | hx
      · subst e
        exact Je3 ok (by rw [← hq.1]; exact hq.2.1)
      · exact ih x hx
  exact all r x hx
theorem jhH {kvs : List (List Key × V)} (ok : HOk P w H h) (e : H a = some (.dT kvs)) : kvs.length ≤ sizeLine ∧ (a == sysModules) = false ∧
    ∃ xs, KT H kvs xs ∧ h.DictOfH (tupleKind (zN P w)) a xs := jfA ok (.inl e)
end
def Jby (H : Hp) (a : Addr) (y : V) (r : Option V) : Prop :=
  (∃ kvs k, Rd H a (.dK kvs) ∧ y = kV k ∧ r = ja0 kvs k) ∨ ∃ kvs k b, Rd H a (.dT kvs) ∧ y = .ref b ∧ H b = some (.tup (k.map kV)) ∧ r = ja0 kvs k
def Jgf (H : Hp) (a : Addr) (y v : V) (H' : Hp) : Prop :=
  (∃ kvs k, H a = some (.dK kvs) ∧ y = kV k ∧ kvs.length < sizeLine ∧ H' = upd H a (.dK (putK kvs k v))) ∨
  ∃ kvs k b, H a = some (.dT kvs) ∧ y = .ref b ∧ H b = some (.tup (k.map kV)) ∧ kvs.length < sizeLine ∧ H' = upd H a (.dT (putK kvs k v))
theorem Jby.k {H : Hp} {a : Addr} {kvs : List (Key × V)} {k : Key} (e : H a = some (.dK kvs)) : Jby H a (kV k) (ja0 kvs k) := .inl ⟨kvs, k, .inl e, rfl, rfl⟩
theorem Jgf.k {H : Hp} {a : Addr} {kvs : List (Key × V)} {k : Key} {v : V} (e : H a = some (.dK kvs)) (hl : kvs.length < sizeLine) : Jgf H a (kV k) v (upd H a (.dK (putK kvs k v))) := .inl ⟨kvs, k, e, rfl, hl, rfl⟩
section
variable {X : Cx} {pins : List (Addr × Obj)} {σ : St} {H : Hp} {s : Shared} {a : Addr} {y v : V} {u r : Value} {o : Option V} {A : Around} {E : Value → Shared → Prop}
theorem Inv.big (I : Inv X pins σ H s) : sysModules < s.heap.objs.size := by
  have h : mainGlobals < s.heap.objs.size := (I.mod.glob.keeps I.bk).lt
  exact Nat.lt_trans (by decide) h
theorem yg2 {Q : Value → Shared → Prop} (hu : A.units + 1 < cLine) (I : Inv X pins σ H s) (g : Jby H a y (some v)) (ry : RelV y u) (h : ∀ w' s', Inv X pins σ H s' → RelV v w' → Q w' s') :
    wpAny (model X.prog X.w) A (getItem (.ref a) u) Q E s := by
  rcases g with ⟨kvs, k, e, ey, l⟩ | ⟨kvs, k, b, e, ey, eb, l⟩
  · subst ey
    obtain ⟨z, hd, vs, rel, dd⟩ := YfA I.hok e
    obtain ⟨w', hw, rw'⟩ := jdm.some_of (v := v) (o := valueAt vs k) (by rw [l]; exact rel.val k)
    exact wpAny_getItem_of (yfg ry) dd.mapOf hw (h w' _ (I.tok _) rw')
  · subst ey
    cases (show u = Value.ref b from ry)
    obtain ⟨z, hd, xs, rel, dd⟩ := jfA I.hok e
    obtain ⟨w', hw, rw'⟩ := jdm.some_of (v := v) (o := (atKey xs k).map (·.2)) (by rw [l]; exact rel.val k)
    obtain ⟨p, hp, hp2⟩ := Option.map_eq_some_iff.mp hw
    refine wpAny_getItem_heap (tupleKind_room_in1 hu) (Je3 I.hok eb) dd hp ?_
    rw [hp2]
    exact h w' _ (I.tok _) rw'
theorem ZhN {Q : Value → Shared → Prop} (hu : A.units + 1 < cLine) (I : Inv X pins σ H s) (g : Jby H a y o) (ry : RelV y u) (h : ∀ s', Inv X pins σ H s' → Q (.bool o.isSome) s') :
    wpAny (model X.prog X.w) A (compareOp .In u (.ref a)) Q E s := by
  rcases g with ⟨kvs, k, e, ey, l⟩ | ⟨kvs, k, b, e, ey, eb, l⟩
  · subst ey
    obtain ⟨z, hd, vs, rel, dd⟩ := YfA I.hok e
    refine wpAny_in_of (yfg ry) hd dd.mapOf ?_
    rw [← (rel.val k).zcy, ← l]
    exact h _ (I.tok _)
  · subst ey
    cases (show u = Value.ref b from ry)
    obtain ⟨z, hd, xs, rel, dd⟩ := jfA I.hok e
    refine wpAny_in_heap (tupleKind_room_in1 hu) (Je3 I.hok eb) hd dd ?_
    have q := (rel.val k).zcy
    rw [Option.isSome_map] at q
    rw [← q, ← l]
    exact h _ (I.tok _)
theorem Jhq {Q : Value → Shared → Prop} (hu : A.units + 1 < cLine) (I : Inv X pins σ H s) (g : Jby H a y o) (ry : RelV y u) (h : ∀ s', Inv X pins σ H s' → Q (.bool (!o.isSome)) s') :
    wpAny (model X.prog X.w) A (compareOp .NotIn u (.ref a)) Q E s := by
  rcases g with ⟨kvs, k, e, ey, l⟩ | ⟨kvs, k, b, e, ey, eb, l⟩
  · subst ey
    obtain ⟨z, hd, vs, rel, dd⟩ := YfA I.hok e
    refine wpAny_notIn_of (yfg ry) hd dd.mapOf ?_
    rw [← (rel.val k).zcy, ← l]
    exact h _ (I.tok _)
  · subst ey
    cases (show u = Value.ref b from ry)
    obtain ⟨z, hd, xs, rel, dd⟩ := jfA I.hok e
    refine wpAny_notIn_heap (tupleKind_room_in1 hu) (Je3 I.hok eb) hd dd ?_
    have q := (rel.val k).zcy
    rw [Option.isSome_map] at q
    rw [← q, ← l]
    exact h _ (I.tok _)
theorem zfx {h' : Heap} {t' : Nat} {ob : HO} (I : Inv X pins σ H s) (mu : Mut (H a)) (hs : Heap.SameBut a s.heap h') (he : ∃ q, h'.get? a = some q) (new : yO X.prog X.w (upd H a ob) h' a ob) :
    Inv X pins σ (upd H a ob) { s with heap := h', toks := t' } :=
  I.write (x := a) (e := a) mu (.inl rfl) (fun b q hb z => (hs.2 b hb).trans z) he new
theorem JgK {P : Program} {w : World} {H' : Hp} {h' : Heap} {kvs : List (Key × V)} {vs : List (Key × Value)} (z : kvs.length ≤ sizeLine) (hd : (a == sysModules) = false) (rel : KV kvs vs) (dd : h'.DictOf (zN P w) a vs) :
    yO P w H' h' a (.dK kvs) := ⟨z, hd, vs, rel, dd⟩
theorem Yg2 {H' : Hp} {Q : Unit → Shared → Prop} (hu : A.units + 1 < cLine) (I : Inv X pins σ H s) (g : Jgf H a y v H') (ry : RelV y u) (rv : RelV v r) (h : ∀ s', Inv X pins σ H' s' → Q () s') :
    wpAny (model X.prog X.w) A (setItem (.ref a) u r) Q E s := by
  rcases g with ⟨kvs, k, e, ey, l, eH⟩ | ⟨kvs, k, b, e, ey, eb, l, eH⟩
  · subst ey eH
    obtain ⟨z, hd, vs, rel, dd⟩ := jhd I.hok e
    have hz : vs.length ≤ sizeLine := by rw [← rel.length]; exact z
    have hl : (putK kvs k v).length ≤ sizeLine := by have := Zfg kvs k v; omega
    refine wpAny_setItem_pairs (hsz := hz) (yfg ry) dd fun h' dd' hs => h _ ?_
    have he : ∃ q, h'.get? a = some q := let ⟨q, _, _, hq, _⟩ := dd'; ⟨q, hq⟩
    exact zfx I (by rw [e]; exact True.intro) hs he (JgK hl hd (rel.put k rv) dd')
  · subst ey eH
    cases (show u = Value.ref b from ry)
    obtain ⟨z, hd, xs, rel, dd⟩ := jhH I.hok e
    have hz : xs.length ≤ sizeLine := by rw [← Paired.length rel]; exact z
    have hl : (putK kvs k v).length ≤ sizeLine := by have := Zfg kvs k v; omega
    refine wpAny_setItem_heap (hsz := hz) (tupleKind_room_in1 hu) (Je3 I.hok eb) dd fun h' dd' hs => h _ ?_
    obtain ⟨q, es, ep, hq, h2, h3, h4, _, h5⟩ := dd'
    refine zfx I (by rw [e]; exact True.intro) hs ⟨q, hq⟩ ⟨hl, hd, _, (rel.put k eb rv).keeps fun c ys ec => ?_, q, es, ep, hq, h2, h3, h4, h5⟩
    rw [Zc (zaR ec e (fun z => nomatch z))]
    exact ec
end
section
variable {X : Cx} {pins : List (Addr × Obj)} {σ : St} {H : Hp} {s : Shared} {a : Addr} {kvs : List (Key × V)} {k : Key} {u : Value} {A : Around} {E : Value → Shared → Prop}
theorem YhD {Q : Unit → Shared → Prop} (I : Inv X pins σ H s) (e : H a = some (.dK kvs)) (ry : RelV (kV k) u) (l : (ja0 kvs k).isSome = true) (h : ∀ s', Inv X pins σ (upd H a (.dK (zfg kvs k))) s' → Q () s') :
    wpAny (model X.prog X.w) A (delItem (.ref a) u) Q E s := by
  obtain ⟨z, hd, vs, rel, dd⟩ := jhd I.hok e
  refine wpAny_delItem_slot dd.typeIs (by decide) PySem.F.slot_dict_delitem
    (call_meetsIn PySem.F.slot_dict_delitem dd.typeIs PySem.F.entry_dict_delitem (PySem.F.args_dict_delitem_2 _ _) (meets_dict_delitem_pairs (zN X.prog X.w) a (yfg ry)) ⟨vs, dd, by rw [← rel.length]; exact z, by rw [← (rel.val k).zcy]; exact l, fun h' dd' hs => h _ ?_⟩)
  have he : ∃ q, h'.get? a = some q := let ⟨q, _, _, hq, _⟩ := dd'; ⟨q, hq⟩
  exact zfx I (by rw [e]; exact True.intro) hs he (JgK (Nat.le_trans (ygv kvs k) z) hd (rel.drop k) dd')
theorem JhH {v : V} {more : List Value} {Q : Value → Shared → Prop} (I : Inv X pins σ H s) (e : H a = some (.dK kvs)) (ry : RelV (kV k) u) (l : ja0 kvs k = some v) (hm : more = [] ∨ ∃ x, more = [x])
    (h : ∀ w' s', Inv X pins σ (upd H a (.dK (zfg kvs k))) s' → RelV v w' → Q w' s') : wpAny (model X.prog X.w) A (call (.builtin "dict.pop") (.ref a :: u :: more)) Q E s := by
  obtain ⟨z, hd, vs, rel, dd⟩ := jhd I.hok e
  obtain ⟨w', hw, rw'⟩ := jdm.some_of (v := v) (o := valueAt vs k) (by rw [← l]; exact rel.val k)
  have hp : (keyPart u).isSome = true := by
    cases k with
    | inl i => obtain ⟨t, q⟩ := (show ∃ t, u = Value.int i t from ry); subst q; rfl
    | inr x => obtain ⟨t, q⟩ := (show ∃ t, u = Value.str x t from ry); subst q; rfl
  have ha : argsOk "dict.pop" ⟨.ref a :: u :: more, []⟩ := by
    rcases hm with q | ⟨x, q⟩
    · subst q; exact PySem.F.args_dict_pop_2 _ _
    · subst q; exact PySem.F.args_dict_pop_3 _ _ _
  refine call_meetsIn PySem.F.slot_dict_pop dd.typeIs PySem.F.entry_dict_pop ha (meets_dict_pop_there (zN X.prog X.w) a (yfg ry) more hm hp)
    ⟨vs, w', dd, by rw [← rel.length]; exact z, hw, fun h' dd' hs => h w' _ ?_ rw'⟩
  have he : ∃ q, h'.get? a = some q := let ⟨q, _, _, hq, _⟩ := dd'; ⟨q, hq⟩
  exact zfx I (by rw [e]; exact True.intro) hs he (JgK (Nat.le_trans (ygv kvs k) z) hd (rel.drop k) dd')
end
def zhI (i : Expr) : Prop := ∀ ov iv, subscripted i false ov iv = operate [ov, iv] (getItem ov iv)
theorem zhr {prog : Program} {w : World} {A : Around} {E : Value → Shared → Prop} {s : Shared} {env : Env} {value slice : Expr} {pos : Pos} {T id : String} {Q : Value → Shared → Prop}
    (hl : typeLookup (.type T) "__getitem__" = pure (some (.builtin id))) (hs : zhI slice)
    (h : wpAny (model prog w) A (eval value env) (fun o s₁ => wpAny (model prog w) A (eval slice env) (fun i s₂ => s₂.TypeIs o T ∧ wpAny (model prog w) A (getItem o i) Q E s₂) E s₁) E s) :
    wpAny (model prog w) A (eval (.Subscript value slice pos) env) Q E s := by
  refine Subscript_ (wpAny_mono h (fun o s₁ h₁ => wpAny_mono h₁ (fun i s₂ h₂ => ?_) fun _ _ x => x) fun _ _ x => x)
  obtain ⟨hT, h₂⟩ := h₂
  unfold subscriptTail
  refine wpAny_bind ?_
  rw [getitemInPython_of_ne hT.not_modules]
  refine wpAny_bind (wpAny_specialOf hT hl ?_)
  have fin : wpAny (model prog w) A (subscripted slice false o i) (fun r s₃ => wpAny (model prog w) A (letTemporaryGo value o r >>= fun _ => pure r) Q E s₃) E s₂ := by
    rw [hs o i]
    exact wpAny_operating (wpAny_mono h₂ (fun r s₃ h₃ => wpAny_bind (wpAny_letTemporaryGo (wpAny_pure h₃))) fun _ _ x => x)
  first
    | exact wpAny_pure (wpAny_bind fin)
    | exact wpAny_bind (wpAny_pure (wpAny_bind fin))
    | exact wpAny_bind fin
theorem Ygv {X : Cx} {pins : List (Addr × Obj)} {σ : St} {H : Hp} {s : Shared} {a : Addr} {y : V} {o : Option V} (I : Inv X pins σ H s) (g : Jby H a y o) : s.TypeIs (.ref a) "dict" := by
  rcases g with ⟨kvs, k, e, _, _⟩ | ⟨kvs, k, b, e, _, _, _⟩
  · obtain ⟨_, _, vs, _, dd⟩ := YfA I.hok e
    exact dd.typeIs
  · obtain ⟨_, _, xs, _, dd⟩ := jfA I.hok e
    exact dd.typeIs
def ZhI (td ty : TE) : TE := fun σ H Q => td σ H fun x H1 => ty σ H1 fun y H2 => ∃ a v, x = .ref a ∧ Jby H2 a y (some v) ∧ Q v H2
def yhN (ty td : TE) : TE := fun σ H Q => ty σ H fun y H1 => td σ H1 fun x H2 => ∃ a o, x = .ref a ∧ Jby H2 a y o ∧ Q (.bl o.isSome) H2
def Zhr (ty td : TE) : TE := fun σ H Q => ty σ H fun y H1 => td σ H1 fun x H2 => ∃ a o, x = .ref a ∧ Jby H2 a y o ∧ Q (.bl (!o.isSome)) H2
def yhI (td ty tv : TE) : TS := fun D σ H => tv σ H fun v H1 => td σ H1 fun x H2 => ty σ H2 fun y H3 => ∃ a H4, x = .ref a ∧ Jgf H3 a y v H4 ∧ D.nx σ H4
section
variable {X : Cx} {o i e value : Expr} {pos pos' tpos : Pos} {td ty tv : TE}
theorem jdn (hu : X.A.units + 1 < cLine) (ho : PE X o td) (hi : PE X i ty) (hs : zhI i) : PE X (.Subscript o i pos) (ZhI td ty) := by
  intro pins s σ H Q I h
  refine zhr PySem.F.slot_dict_getitem.lookup hs (thn (ho pins s σ H _ I h) fun u s1 ⟨x, H1, I1, rx, q1⟩ => thn (hi pins s1 σ H1 _ I1 q1) fun iv s2 ⟨y, H2, I2, ry, a, v, ex, g, q2⟩ => ?_)
  subst ex
  obtain rfl : u = Value.ref a := rx
  exact ⟨Ygv I2 g, yg2 hu I2 g ry fun w' s3 I3 rw' => ⟨v, H2, I3, rw', q2⟩⟩
theorem JfA (hu : X.A.units + 1 < cLine) (hi : PE X i ty) (ho : PE X o td) : PC X .In i o (yhN ty td) := by
  intro pins s σ H Q I h
  refine thn (hi pins s σ H _ I h) fun iv s1 ⟨y, H1, I1, ry, q1⟩ => thn (ho pins s1 σ H1 _ I1 q1) fun u s2 ⟨x, H2, I2, rx, a, ov, ex, g, q2⟩ => ?_
  subst ex
  obtain rfl : u = Value.ref a := rx
  exact ZhN hu I2 g ry fun s3 I3 => ⟨.bl ov.isSome, H2, I3, rfl, q2⟩
theorem jed (hu : X.A.units + 1 < cLine) (hi : PE X i ty) (ho : PE X o td) : PC X .NotIn i o (Zhr ty td) := by
  intro pins s σ H Q I h
  refine thn (hi pins s σ H _ I h) fun iv s1 ⟨y, H1, I1, ry, q1⟩ => thn (ho pins s1 σ H1 _ I1 q1) fun u s2 ⟨x, H2, I2, rx, a, ov, ex, g, q2⟩ => ?_
  subst ex
  obtain rfl : u = Value.ref a := rx
  exact Jhq hu I2 g ry fun s3 I3 => ⟨.bl (!ov.isSome), H2, I3, rfl, q2⟩
theorem Zfx (hu : X.A.units + 1 < cLine) (ho : PE X o td) (hi : PE X i ty) (hv : PE X value tv) (hs : swapsWith value (some (.Subscript o i pos')) pos.line X.env = pure false) :
    PS X (.Assign [.Subscript o i pos'] value pos) (yhI td ty tv) := by
  intro pins s σ H D I h
  refine wpAny_Assign_Subscript (thn (hv pins s σ H _ I h) fun r s1 ⟨v, H1, I1, rv, q1⟩ => thn (ho pins s1 σ H1 _ I1 q1) fun u s2 ⟨x, H2, I2, rx, q2⟩ => thn (hi pins s2 σ H2 _ I2 q2) fun iv s3 ⟨y, H3, I3, ry, a, H4, ex, g, q3⟩ => ?_) hs
  subst ex
  obtain rfl : u = Value.ref a := rx
  exact Yg2 hu I3 g ry rv fun s4 I4 => ⟨σ, H4, I4, q3⟩
end
theorem Jhd {P : Program} {w : World} {H : Hp} (h : Heap) (hb : sysModules < h.objs.size) : yO P w H (h.push { cls := .type "dict", data := .dict #[] }) h.objs.size (.dK []) :=
  ⟨Nat.zero_le _, beq_eq_false_iff_ne.mpr (Ne.symm (Nat.ne_of_lt hb)), [], .nil, Heap.DictOf.new h⟩
def JhA : TE := fun _ H Q => ∀ p, H p = none → Q (.ref p) (upd H p (.dK []))
section
variable {X : Cx} {pos : Pos}
theorem zeI : PE X (.Dict [] [] pos) JhA := fun pins s σ H Q I h =>
  wpAny_Dict_empty ⟨.ref s.heap.objs.size, _, I.laid (a := s.heap.objs.size) (o := .dK []) (t' := s.toks) (fun _ _ q => Heap.get?_push_of_some _ q) (Nat.le_refl _) (Jhd s.heap I.big), rfl, h _ (I.hok.fresh (Nat.le_refl _))⟩
end
structure M1 (X : Cx) (o : Expr) (m : Str) (apos : Pos) (e : Expr) (cpos : Pos) : Prop where
  base : attributeBase o m X.env (eval o X.env) = eval o X.env
  few : ((backTo cpos (starEach [e] X.env)).all (fun x => !x.1) && (backToKw cpos (keywordEach [] X.env)).all (fun x => x.1.isSome)
    && decide (([e] : List Expr).length + ([] : List Keyword).length + (if ([] : List Keyword).isEmpty then 0 else 1) < 30)) = true
  line : (apos.endLine == cpos.line) = true
  trees : backTo cpos (starEach [e] X.env) = [(false, eval e X.env)]
structure M2 (X : Cx) (o : Expr) (m : Str) (apos : Pos) (e f : Expr) (cpos : Pos) : Prop where
  base : attributeBase o m X.env (eval o X.env) = eval o X.env
  few : ((backTo cpos (starEach [e, f] X.env)).all (fun x => !x.1) && (backToKw cpos (keywordEach [] X.env)).all (fun x => x.1.isSome)
    && decide (([e, f] : List Expr).length + ([] : List Keyword).length + (if ([] : List Keyword).isEmpty then 0 else 1) < 30)) = true
  line : (apos.endLine == cpos.line) = true
  trees : backTo cpos (starEach [e, f] X.env) = [(false, eval e X.env), (false, eval f X.env)]
def IsD (H : Hp) (a : Addr) : Prop := (∃ kvs, Rd H a (.dK kvs)) ∨ ∃ kvs, Rd H a (.dT kvs)
theorem zhe {X : Cx} {pins : List (Addr × Obj)} {σ : St} {H : Hp} {s : Shared} {a : Addr} (I : Inv X pins σ H s) (d : IsD H a) :
    s.TypeIs (.ref a) "dict" ∧ (∀ b, Value.ref a = .ref b → ∃ ob, s.heap.get? b = some ob ∧ ob.dict = none) ∧ (a == sysModules) = false := by
  rcases d with ⟨kvs, e⟩ | ⟨kvs, e⟩
  · obtain ⟨_, hd, vs, _, dd⟩ := YfA I.hok e
    refine ⟨dd.typeIs, fun b q => ?_, hd⟩
    cases q
    obtain ⟨ob, _, _, h1, h2, _⟩ := dd
    exact ⟨ob, h1, h2.2.1⟩
  · obtain ⟨_, hd, xs, _, dd⟩ := jfA I.hok e
    refine ⟨dd.typeIs, fun b q => ?_, hd⟩
    cases q
    obtain ⟨ob, _, _, h1, h2, _⟩ := dd
    exact ⟨ob, h1, h2.2.1⟩
section
variable {X : Cx} {pins : List (Addr × Obj)} {σ : St} {H : Hp} {s : Shared} {a : Addr} {y d : V} {u r : Value} {o : Option V} {A : Around} {E : Value → Shared → Prop}
theorem zhB {Q : Value → Shared → Prop} (hu : A.units + 1 < cLine) (I : Inv X pins σ H s) (g : Jby H a y o) (ry : RelV y u) (rd : RelV d r) (h : ∀ w' s', Inv X pins σ H s' → RelV (o.getD d) w' → Q w' s') :
    wpAny (model X.prog X.w) A (call (.builtin "dict.get") [.ref a, u, r]) Q E s := by
  rcases g with ⟨kvs, k, e, ey, l⟩ | ⟨kvs, k, b, e, ey, eb, l⟩
  · subst ey
    obtain ⟨z, hd, vs, rel, dd⟩ := YfA I.hok e
    refine call_meetsIn PySem.F.slot_dict_get dd.typeIs PySem.F.entry_dict_get (PySem.F.args_dict_get_3 _ _ _) (meets_dict_get_default (zN X.prog X.w) a (yfg ry) hd r) ⟨_, dd.mapOf, h _ _ (I.tok _) ?_⟩
    rw [l]
    exact (rel.val k).getD rd
  · subst ey
    cases (show u = Value.ref b from ry)
    obtain ⟨z, hd, xs, rel, dd⟩ := jfA I.hok e
    refine call_meetsIn PySem.F.slot_dict_get dd.typeIs PySem.F.entry_dict_get (PySem.F.args_dict_get_3 _ _ _) (meetsH_dict_get_default (tupleKind (zN X.prog X.w)) a b hd r) ⟨tupleKind_room_in1 hu, k, xs, Je3 I.hok eb, dd, h _ _ (I.tok _) ?_⟩
    rw [l]
    exact (rel.val k).getD rd
end
def ZhB (td ty tx : TE) : TE := fun σ H Q => td σ H fun x H1 => ∃ a, x = .ref a ∧ IsD H1 a ∧ ty σ H1 fun y H2 => tx σ H2 fun z H3 => ∃ o, Jby H3 a y o ∧ Q (o.getD z) H3
def yhB (td ty : TE) : TE := fun σ H Q => td σ H fun x H1 => ∃ a, x = .ref a ∧ IsD H1 a ∧ ty σ H1 fun y H2 => ∃ kvs k v, H2 a = some (.dK kvs) ∧ y = kV k ∧ ja0 kvs k = some v ∧ Q v (upd H2 a (.dK (zfg kvs k)))
section
variable {X : Cx} {o e f : Expr} {apos cpos : Pos} {td ty tx : TE}
theorem Zhe (hu : X.A.units + 1 < cLine) (ho : PE X o td) (he : PE X e ty) (hf : PE X f tx) (m : M2 X o "get" apos e f cpos) : PE X (.Call (.Attribute o "get" apos) [e, f] [] cpos) (ZhB td ty tx) := by
  intro pins s σ H Q I h
  refine wpAny_Call_method m.base m.few m.line PySem.F.plainAttrs_dict PySem.F.slot_dict_get PySem.F.type_dict_get (thn (ho pins s σ H _ I h) fun u s1 ⟨x, H1, I1, rx, a, ex, d, q1⟩ => ?_)
  subst ex
  obtain rfl : u = Value.ref a := rx
  obtain ⟨t1, t2, _⟩ := zhe I1 d
  refine ⟨t1, t2, ?_⟩
  rw [m.trees]
  refine Calls.callWith_builtin rfl (Calls.evalArgs_plain (Calls.spliced_cons (thn (he pins s1 σ H1 _ I1 q1) fun iv s2 ⟨y, H2, I2, ry, q2⟩ =>
    Calls.spliced_cons (thn (hf pins s2 σ H2 _ I2 q2) fun fv s3 ⟨z, H3, I3, rz, ov, g, q3⟩ => Calls.spliced_nil ?_))))
  exact zhB hu I3 g ry rz fun w' s4 I4 rw' => ⟨_, H3, I4, rw', q3⟩
theorem yhe (ho : PE X o td) (he : PE X e ty) (m : M1 X o "pop" apos e cpos) : PE X (.Call (.Attribute o "pop" apos) [e] [] cpos) (yhB td ty) := by
  intro pins s σ H Q I h
  refine wpAny_Call_method m.base m.few m.line PySem.F.plainAttrs_dict PySem.F.slot_dict_pop PySem.F.type_dict_pop (thn (ho pins s σ H _ I h) fun u s1 ⟨x, H1, I1, rx, a, ex, d, q1⟩ => ?_)
  subst ex
  obtain rfl : u = Value.ref a := rx
  obtain ⟨t1, t2, _⟩ := zhe I1 d
  refine ⟨t1, t2, ?_⟩
  rw [m.trees]
  refine Calls.callWith_builtin rfl (Calls.evalArgs_plain (Calls.spliced_cons (thn (he pins s1 σ H1 _ I1 q1) fun iv s2 ⟨y, H2, I2, ry, kvs, k, v, ea, ey, l, q2⟩ => Calls.spliced_nil ?_)))
  subst ey
  exact JhH I2 ea ry l (.inl rfl) fun w' s3 I3 rw' => ⟨v, _, I3, rw', q2⟩
end
section
variable {X : Cx} {pins : List (Addr × Obj)} {σ : St} {H : Hp} {s : Shared} {a : Addr} {kvs : List (Key × V)} {A : Around} {E : Value → Shared → Prop}
end
section
variable {X : Cx} {pins : List (Addr × Obj)} {σ : St} {H : Hp} {s : Shared} {a : Addr} {y : V} {u : Value} {A : Around} {E : Value → Shared → Prop}
end
end L2
namespace L2
open PySem PySem.Spec PyProof.Rows
section
variable {prog : Program} {w : World} {A : Around} {E : Value → Shared → Prop}
end
section
variable {X : Cx}
end
end L2
namespace L2
open PySem PySem.Spec PyProof.Rows
section
variable {X : Cx} {pins : List (Addr × Obj)} {σ : St} {H : Hp} {s : Shared} {h' : Heap}
theorem Inv.Jf4 {t' : Nat} {ch : List Addr} {T : Addr} {ob : HO} (I : Inv X pins σ H s) (k : ∀ b o, b ∉ ch → s.heap.get? b = some o → h'.get? b = some o) (hf : ∀ b ∈ ch, Yfz X pins H b) (hT : s.heap.objs.size ≤ T)
    (new : yO X.prog X.w (upd H T ob) h' T ob) : Inv X pins σ (upd H T ob) { s with heap := h', toks := t' } := by
  have hn : H T = none := I.hok.fresh hT
  have nit : ∀ b u, H b = some u → b ∉ ch := fun b u e z => by
    have q := (hf b z).1
    rw [q] at e; cases e
  refine I.step (g' := s.gens) (d' := s.drawn) (ch := ch) (fun b hb => ⟨(hf b hb).2.2.2.1, (hf b hb).2.1, (hf b hb).2.2.2.2.1, (hf b hb).2.2.2.2.2⟩) (fun b o _ _ hc e _ => k b o hc e) (fun b o _ _ hc e _ => ⟨o.slots, k b o hc e⟩)
    (fun b o _ e n => ?_) (fun b o hc e => ⟨o, k b o hc e⟩) (fun b xs e => ?_) (fun b o u e => ?_) (fun b ps e => ⟨#[], ?_⟩) (fun m hm => ?_) (fun b u e => ?_) I.bare
  · rw [Zc (Nat.ne_of_lt (Nat.lt_of_lt_of_le (Heap.lt_size e) hT))]; exact n
  · rw [Zc (yd e hn)]; exact e
  · rw [Zc (yd e hn)]; exact e
  · rw [Zc (yd e hn), e]; simp
  · obtain ⟨o, es, ep, ho, r⟩ := hm
    exact ⟨o, es, ep, k _ o (fun z => (hf _ z).2.1 rfl) ho, r⟩
  · by_cases hb : b = T
    · subst hb
      rw [Ja] at e
      cases e
      exact new
    · rw [Zc hb] at e
      refine (I.hok b u e).stay (fun c v hc q => k c v ?_ q) (fun c q => by rw [Zc (yd q hn)]; exact q) fun c xs q => by rw [Zc (yd q hn)]; exact q
      rcases hc with z | z
      · rw [z]; exact nit b u e
      · exact nit c _ z
theorem Inv.lock {d : Addr} {u : HO} (I : Inv X pins σ H s) (h : H d = some u) (mu : Mut (some u)) : ∃ od, Inv X pins σ (upd H d (.frz od u)) s := by
  have x := I.hok d u h
  have ex : ∃ od, s.heap.get? d = some od := by
    cases u with
    | lst xs => obtain ⟨_, _, _, _, e⟩ := x; exact ⟨_, e⟩
    | dK kvs => obtain ⟨_, _, _, _, o, _, _, e, _⟩ := x; exact ⟨o, e⟩
    | dT kvs => obtain ⟨_, _, _, _, o, _, _, e, _⟩ := x; exact ⟨o, e⟩
    | set S n => obtain ⟨o, _, _, _, e, _⟩ := x; exact ⟨o, e⟩
    | ins C dx fs => obtain ⟨_, _, _, e, _⟩ := x; exact ⟨_, e⟩
    | ext φ => obtain ⟨_, ⟨_, e⟩, _⟩ := x; exact ⟨_, e⟩
    | _ => exact False.elim mu
  obtain ⟨od, e⟩ := ex
  have new : yO X.prog X.w (upd H d (.frz od u)) s.heap d (.frz od u) := by
    refine ⟨e, x.stay (fun b v _ q => q) (fun b q => ?_) fun b xs q => ?_⟩
    · rw [Zc (fun z => by rw [z, h] at q; cases q; exact mu)]; exact q
    · rw [Zc (fun z => by rw [z, h] at q; cases q; exact mu)]; exact q
  exact ⟨od, I.write (x := d) (e := d) (t' := s.toks) (h' := s.heap) (by rw [h]; exact mu) (.inl rfl) (fun b v _ q => q) ⟨od, e⟩ new⟩
theorem Inv.jgv {d : Addr} {u : HO} (I : Inv X pins σ H s) (h : H d = some u) (mu : Mut (some u)) : ∀ o' u', X.H_0 d ≠ some (.frz o' u') := fun o' u' e => by
  have q := I.base.frzs d o' u' e
  rw [h] at q
  cases q
  exact mu
theorem Inv.unlock {d : Addr} {od : Obj} {u : HO} (I : Inv X pins σ H s) (h : H d = some (.frz od u)) (hn : ∀ o' u', X.H_0 d ≠ some (.frz o' u')) : Inv X pins σ (upd H d u) s := by
  have neH : ∀ b o, H b = some o → (∀ o' u', o ≠ .frz o' u') → b ≠ d := fun b o e hne z => by
    rw [z, h] at e
    cases e
    exact hne _ _ rfl
  have neN : ∀ b, H b = none → b ≠ d := fun b e z => by rw [z, h] at e; cases e
  refine ⟨I.ok, I.os, I.bare, ⟨I.base.keep, I.base.slot, fun b o e n hx => ?_, I.base.there, fun b xs e => ?_, fun b o x e => ?_, fun b ps e => ?_⟩, I.loc, I.cell, ?_, fun x c e => ?_, fun p hp => ?_, fun b o e => ?_, I.len⟩
  · rw [Zc (neN b (I.base.free b o e n hx))]; exact I.base.free b o e n hx
  · have q := I.base.tups b xs e
    rw [Zc (neH b _ q (fun _ _ z => nomatch z))]; exact q
  · have q := I.base.frzs b o x e
    rw [Zc (fun z => by rw [z] at e; exact hn _ _ e)]; exact q
  · obtain ⟨m, q⟩ := I.base.tbls b ps e
    exact ⟨m, by rw [Zc (neH b _ q (fun _ _ z => nomatch z))]; exact q⟩
  · rw [Zc (neN _ I.free)]; exact I.free
  · rw [Zc (neN c (I.freeC x c e))]; exact I.freeC x c e
  · obtain ⟨e, n, r⟩ := I.pin p hp
    exact ⟨e, by rw [Zc (neN _ n)]; exact n, r⟩
  · by_cases hb : b = d
    · rw [hb, Ja] at e
      cases e
      rw [hb]
      obtain ⟨_, x⟩ := I.hok d _ h
      exact x.stay (fun c v _ q => q) (fun c q => by rw [Zc (neH c _ q (fun _ _ z => nomatch z))]; exact q) fun c xs q => by rw [Zc (neH c _ q (fun _ _ z => nomatch z))]; exact q
    · rw [Zc hb] at e
      exact (I.hok b o e).stay (fun c v _ q => q) (fun c q => by rw [Zc (neH c _ q (fun _ _ z => nomatch z))]; exact q) fun c xs q => by rw [Zc (neH c _ q (fun _ _ z => nomatch z))]; exact q
end
def YhI (t : TS) : TS := fun D σ H => ∃ d u, H d = some u ∧ Mut (some u) ∧ ∀ od, t ⟨fun σ' H' => H' d = some (.frz od u) ∧ D.nx σ' (upd H' d u), fun v H' => H' d = some (.frz od u) ∧ D.rt v (upd H' d u), fun σ' H' => H' d = some (.frz od u) ∧ D.bk σ' (upd H' d u), fun σ' H' => H' d = some (.frz od u) ∧ D.ct σ' (upd H' d u)⟩ σ (upd H d (.frz od u))
def YhB (t : TE) : TE := fun σ H Q => ∃ d u, H d = some u ∧ Mut (some u) ∧ ∀ od, t σ (upd H d (.frz od u)) fun v H' => H' d = some (.frz od u) ∧ Q v (upd H' d u)
section
variable {X : Cx}
theorem YgU {st : Stmt} {t : TS} (h : PS X st t) : PS X st (YhI t) := by
  intro pins s σ H D I hw
  obtain ⟨d, u, hd, mu, hw⟩ := hw
  obtain ⟨od, I1⟩ := I.lock hd mu
  refine thn (h pins s σ _ _ I1 (hw od)) fun f s1 q => ?_
  cases f with
  | next => obtain ⟨σ', H', I2, e, q⟩ := q; exact ⟨σ', _, I2.unlock e (I.jgv hd mu), q⟩
  | brk => obtain ⟨σ', H', I2, e, q⟩ := q; exact ⟨σ', _, I2.unlock e (I.jgv hd mu), q⟩
  | cont => obtain ⟨σ', H', I2, e, q⟩ := q; exact ⟨σ', _, I2.unlock e (I.jgv hd mu), q⟩
  | ret v => obtain ⟨x, σ', H', I2, r, e, q⟩ := q; exact ⟨x, σ', _, I2.unlock e (I.jgv hd mu), r, q⟩
theorem yhr {e : Expr} {t : TE} (h : PE X e t) : PE X e (YhB t) := by
  intro pins s σ H Q I hw
  obtain ⟨d, u, hd, mu, hw⟩ := hw
  obtain ⟨od, I1⟩ := I.lock hd mu
  refine thn (h pins s σ _ _ I1 (hw od)) fun v s1 ⟨x, H1, I2, r, e2, q⟩ => ?_
  exact ⟨x, _, I2.unlock e2 (I.jgv hd mu), r, q⟩
theorem zgg {tg : Expr} {pins : List (Addr × Obj)} {σ : St} {H : Hp} {s : Shared} {R : It → Hp → Prop} {J : It} {tn : Nat → Heap → Prop} {tk : Nat} (I : Inv X pins σ H s) (o : Obj)
    (T : Turn X.prog X.w X.K tg J [s.heap.objs.size] s.heap.objs.size tn) (st : tn 0 (s.heap.push o)) (q : R J H) : PIE X pins σ tg R (.ref s.heap.objs.size) { s with heap := s.heap.push o, toks := tk } := by
  refine ⟨s.heap.objs.size, [s.heap.objs.size], tn, J, H, rfl, I.kept fun b ob e => Heap.get?_push_of_some _ e, T, st, fun b hb => ?_, q⟩
  have e : b = s.heap.objs.size := by simpa using hb
  subst e
  exact I.yho (Nat.le_refl _) (I.hok.fresh (Nat.le_refl _))
end
section
variable {X : Cx} {tg : Expr}
end
section
variable {X : Cx} {tg : Expr}
end
section
variable {prog : Program} {w : World} {A : Around} {E : Value → Shared → Prop} {s : Shared}
theorem zf5 {d : Addr} {o : Obj} {es : Array DictEntry} {ep : Nat} {Q : Value → Shared → Prop} (hd : (d == sysModules) = false) (ho : s.heap.get? d = some o) (hc : o.ExactDict) (hdat : o.data = .dict es ep)
    (hQ : Q (.ref s.heap.objs.size) { s with heap := s.heap.push { cls := .type "dict_keyiterator", data := .fields #[.ref d, .int 0 0, .int es.size 0, .int ep 0] } }) :
    wpAny (model prog w) A (pyIter (.ref d)) Q E s := by
  have hT : s.TypeIs (.ref d) "dict" := ⟨o, ho, hc.1⟩
  refine wpAny_pyIter_slot hT F.slot_dict_iter (wpAny_call_entry F.slot_dict_iter hT F.entry_dict_iter ?_ (F.args_dict_iter_1 _))
  unfold Builtin.«dict.__iter__»
  refine wpAny_bind ?_
  unfold Builtin.Dict.dictSlotNone
  refine wpAny_bind (wpAny_notOrdered_dict hT ?_)
  show wpAny _ _ (pure (Value.ref d)) _ _ s
  refine wpAny_pure ?_
  show wpAny _ _ (Builtin.Dict.showsAll d >>= _) _ _ s
  unfold Builtin.Dict.showsAll
  rw [if_neg (by rw [hd]; exact Bool.false_ne_true)]
  refine wpAny_bind (wpAny_pure ?_)
  refine wpAny_bind (wpAny_dictEntries ho hdat ?_)
  refine wpAny_bind (wpAny_dictEpoch ho hdat ?_)
  refine wpAny_bind (wpAny_newObj_type (wpAny_pure ⟨_, rfl, "dict_keyiterator", _, ⟨_, Heap.get?_push_size _ rfl, rfl⟩, F.slot_dict_keyiterator_next.lookup, ?_⟩))
  simpa [rawInt] using hQ
theorem JfU {it d : Addr} {i n ep : Nat} {od : Obj} {es : Array DictEntry} {en : DictEntry} {Q : Option Value → Shared → Prop} (hit : s.heap.IsKeyIter it d i n ep) (hod : s.heap.get? d = some od) (hdd : od.data = .dict es ep)
    (hsz : es.size = n) (hx : es[i]? = some en) (hQ : ∀ h', h'.IsKeyIter it d (i + 1) n ep → Heap.SameBut it s.heap h' → Q (some en.key) { s with heap := h' }) : wpAny (model prog w) A (pyNext (.ref it)) Q E s := by
  obtain ⟨o, ho, hc, hd⟩ := id hit
  unfold pyNext
  refine wpAny_bind (wpAny_attempt (wpAny_callSpecial?_slot (name := Str.ofString "__next__") hit.typeIs F.slot_dict_keyiterator_next
    (wpAny_call_entry F.slot_dict_keyiterator_next hit.typeIs F.entry_dict_keyiterator_next ?_ (F.args_dict_keyiterator_next_1 _))))
  refine wpAny_bind (wpAny_pure ?_)
  refine wpAny_bind ?_
  refine wpAny_bind ?_
  first | refine wpAny_bind (wpAny_typeNameOfWhole_keyiter hit.typeIs (wpAny_pure ?_)) | refine wpAny_bind (wpAny_typeNameOf_keyiter hit.typeIs (wpAny_pure ?_))
  refine wpAny_bind (wpAny_fieldsOf ho hd ?_)
  have hown : Builtin.Dict_items.ownsTuple "dict_keyiterator" = false := by decide
  simp only [hown, Bool.false_eq_true, if_false]
  show wpAny _ _ (if (Value.ref d == Value.none) = true then _ else _) _ _ s
  rw [if_neg (show ¬ ((Value.ref d == Value.none) = true) from Bool.false_ne_true)]
  refine wpAny_bind (wpAny_pure ?_)
  refine wpAny_bind (wpAny_dictEntries hod hdd ?_)
  rw [if_neg (by rw [hsz]; simp)]
  refine wpAny_bind (wpAny_pure ?_)
  refine wpAny_bind (wpAny_dictEpoch hod hdd ?_)
  rw [if_neg (by simp)]
  refine wpAny_pure ?_
  obtain ⟨hlt', hen⟩ := Array.getElem?_eq_some_iff.mp hx
  simp only [show ¬ ((i : Int) < 0) from by omega, if_false, Int.toNat_natCast, Array.getElem?_eq_getElem hlt']
  refine wpAny_bind ?_
  first | refine wpAny_bind (wpAny_typeNameOfWhole_keyiter hit.typeIs (wpAny_pure ?_)) | refine wpAny_bind (wpAny_typeNameOf_keyiter hit.typeIs (wpAny_pure ?_))
  refine wpAny_bind (wpAny_isOneOf_keyiter hit.typeIs ?_)
  show wpAny _ _ (setField (.ref it) 1 (rawInt ((i : Int) + 1)) >>= _) _ _ s
  refine wpAny_bind (wpAny_setField ho hd (by simp) ?_)
  have hit' : (s.heap.update it (Obj.mapFields (·.setIfInBounds 1 (rawInt ((i : Int) + 1))))).IsKeyIter it d (i + 1) n ep :=
    ⟨_, Heap.get?_update_self _ ho (Obj.isFreed_of_fields (Obj.data_mapFields hd _)), (Obj.cls_mapFields ..).trans hc, by rw [Obj.data_mapFields hd]; simp [rawInt]⟩
  refine wpAny_bind (wpAny_holding ?_)
  refine wpAny_bind (wpAny_isOneOf_keyiter (s := { s with heap := s.heap.update it (Obj.mapFields (·.setIfInBounds 1 (rawInt ((i : Int) + 1)))) }) hit'.typeIs ?_)
  show wpAny _ _ (pure es[i].key) _ _ _
  rw [hen]
  exact wpAny_pure (wpAny_pure ⟨_, rfl, wpAny_pure (hQ _ hit' (Heap.SameBut.update ..))⟩)
theorem ZeI {it d : Addr} {i n ep : Nat} {od : Obj} {es : Array DictEntry} {Q : Option Value → Shared → Prop} (hh : A.handled = none) (hit : s.heap.IsKeyIter it d i n ep) (hod : s.heap.get? d = some od) (hdd : od.data = .dict es ep)
    (hsz : es.size = n) (hge : n ≤ i) (hQ : ∀ h', Heap.ExtBut it s.heap h' → Q none { s with heap := h' }) : wpAny (model prog w) A (pyNext (.ref it)) Q E s := by
  obtain ⟨o, ho, hc, hd⟩ := id hit
  unfold pyNext
  refine wpAny_bind (wpAny_attempt (wpAny_callSpecial?_slot (name := Str.ofString "__next__") hit.typeIs F.slot_dict_keyiterator_next
    (wpAny_call_entry F.slot_dict_keyiterator_next hit.typeIs F.entry_dict_keyiterator_next ?_ (F.args_dict_keyiterator_next_1 _))))
  refine wpAny_bind (wpAny_pure ?_)
  refine wpAny_bind ?_
  refine wpAny_bind ?_
  first | refine wpAny_bind (wpAny_typeNameOfWhole_keyiter hit.typeIs (wpAny_pure ?_)) | refine wpAny_bind (wpAny_typeNameOf_keyiter hit.typeIs (wpAny_pure ?_))
  refine wpAny_bind (wpAny_fieldsOf ho hd ?_)
  have hown : Builtin.Dict_items.ownsTuple "dict_keyiterator" = false := by decide
  simp only [hown, Bool.false_eq_true, if_false]
  show wpAny _ _ (if (Value.ref d == Value.none) = true then _ else _) _ _ s
  rw [if_neg (show ¬ ((Value.ref d == Value.none) = true) from Bool.false_ne_true)]
  refine wpAny_bind (wpAny_pure ?_)
  refine wpAny_bind (wpAny_dictEntries hod hdd ?_)
  rw [if_neg (by rw [hsz]; simp)]
  refine wpAny_bind (wpAny_pure ?_)
  refine wpAny_bind (wpAny_dictEpoch hod hdd ?_)
  rw [if_neg (by simp)]
  refine wpAny_pure ?_
  have hge' : es.size ≤ i := by rw [hsz]; exact hge
  simp only [show ¬ ((i : Int) < 0) from by omega, if_false, Int.toNat_natCast, Array.getElem?_eq_none hge']
  refine wpAny_bind ?_
  first | refine wpAny_bind (wpAny_typeNameOfWhole_keyiter hit.typeIs (wpAny_pure ?_)) | refine wpAny_bind (wpAny_typeNameOf_keyiter hit.typeIs (wpAny_pure ?_))
  show wpAny _ _ (setField (.ref it) 0 .none >>= _) _ _ s
  refine wpAny_bind (wpAny_setField ho hd (by simp) ?_)
  show wpAny _ _ (newExc (.type "StopIteration") [] >>= _) _ _ _
  refine wpAny_bind ?_
  simp only [newExc, newTuple]
  refine wpAny_bind (wpAny_newObj_type ?_ (by size_fits))
  refine wpAny_bind (m := firstArgMember _ _) (wpAny_of_eq (a := Value.none) (by first | rfl | (simp only [firstArgMember]; rfl)) ?_)
  refine wpAny_newObj_type ?_ (by size_fits)
  simp only [raiseNew]
  refine wpAny_bind (wpAny_handled ?_)
  rw [show A.in1.handled = none from hh]
  refine wpAny_bind (wpAny_pure (wpAny_throw ?_))
  refine wpAny_bind (wpAny_isInstance (T := "StopIteration") (b := true) ⟨_, Heap.get?_push_size _ rfl, rfl⟩ isSubtype_stop ?_)
  exact wpAny_pure (hQ _ (((Heap.SameBut.update ..).extBut.push _).push _))
end
theorem zfB {κ : Type} {kvs : List (κ × V)} {vs : List (κ × Value)} (h : KV kvs vs) : ∀ {i : Nat} {k : κ} {v : V}, kvs[i]? = some (k, v) → ∃ u, vs[i]? = some (k, u) ∧ RelV v u := by
  unfold KV at h
  induction h with
  | nil => intro i k v e; simp at e
  | @cons a b l₁ l₂ r t ih =>
    intro i k v e
    cases i with
    | zero =>
      simp only [List.getElem?_cons_zero, Option.some.injEq] at e
      subst e
      refine ⟨b.2, ?_, r.2⟩
      simp only [List.getElem?_cons_zero]
      exact congrArg some (Prod.ext r.1.symm rfl)
    | succ j =>
      simp only [List.getElem?_cons_succ] at e ⊢
      exact ih e
theorem zgL {α β : Type} {G : α → β → Prop} {l₁ : List α} {l₂ : List β} (h : Paired G l₁ l₂) : ∀ {i : Nat} {a : α}, l₁[i]? = some a → ∃ b, l₂[i]? = some b ∧ G a b := by
  induction h with
  | nil => intro i a e; simp at e
  | @cons a b l₁ l₂ r t ih =>
    intro i a' e
    cases i with
    | zero =>
      simp only [List.getElem?_cons_zero, Option.some.injEq] at e
      subst e
      exact ⟨b, rfl, r⟩
    | succ j =>
      simp only [List.getElem?_cons_succ] at e ⊢
      exact ih e
theorem ZfB {k : Key} {u : Value} (h : Zem k u = true) : RelV (kV k) u := by
  rcases yal h with ⟨i, t, rfl, rfl⟩ | ⟨x, t, rfl, rfl⟩
  · exact ⟨t, rfl⟩
  · exact ⟨t, rfl⟩
section
variable {X : Cx} {pins : List (Addr × Obj)} {σ : St} {H : Hp} {s : Shared} {d : Addr} {o : Obj}
theorem Inv.Zgg {kvs : List (Key × V)} (I : Inv X pins σ H s) (h : H d = some (.frz o (.dK kvs))) :
    (d == sysModules) = false ∧ s.heap.get? d = some o ∧ o.ExactDict ∧ ∃ (es : Array DictEntry) (ep : Nat) (vs : List (Key × Value)), o.data = .dict es ep ∧ es.size = kvs.length ∧ KV kvs vs ∧ s.heap.DictAt (zN X.prog X.w) d vs ep := by
  obtain ⟨hd, z, hs, vs, kv, o', es, ep, ho, hx, hdt, r⟩ := I.hok d _ h
  rw [hd] at ho
  cases ho
  refine ⟨hs, hd, hx, es, ep, vs, hdt, ?_, kv, o, es, hd, hx, hdt, r⟩
  have l1 := r.2.1.length
  have l2 : kvs.length = vs.length := Paired.length kv
  rw [Array.length_toList] at l1
  omega
theorem Inv.jhB {kvs : List (List Key × V)} (I : Inv X pins σ H s) (h : H d = some (.frz o (.dT kvs))) :
    (d == sysModules) = false ∧ s.heap.get? d = some o ∧ o.ExactDict ∧ ∃ (es : Array DictEntry) (ep : Nat), o.data = .dict es ep ∧ es.size = kvs.length ∧
      ∀ (i : Nat) (k : List Key) (v : V), kvs[i]? = some (k, v) → ∃ (en : DictEntry) (q : Addr), es[i]? = some en ∧ en.key = .ref q ∧ H q = some (.tup (k.map kV)) := by
  obtain ⟨hd, z, hs, xs, pr, o', es, ep, ho, hx, hdt, he, _⟩ := I.hok d _ h
  rw [hd] at ho
  cases ho
  refine ⟨hs, hd, hx, es, ep, hdt, ?_, fun i k v e => ?_⟩
  · have l1 : es.size = xs.length := size_of_entries he
    have l2 : kvs.length = xs.length := Paired.length pr
    omega
  · obtain ⟨b, hb, e1, e2, _⟩ := zgL pr e
    have q := entry_at he i
    rw [hb] at q
    exact ⟨_, b.2.1, q, rfl, e2⟩
end
def Itk (d : Addr) (o : Obj) (kvs : List (Key × V)) : It :=
  ⟨fun i H => H d = some (.frz o (.dK kvs)) ∧ i < kvs.length, fun i H x H' => H' = H ∧ ∃ k v, kvs[i]? = some (k, v) ∧ x = kV k, fun i H => H d = some (.frz o (.dK kvs)) ∧ kvs.length ≤ i⟩
def jhI (d : Addr) (o : Obj) (kvs : List (List Key × V)) : It :=
  ⟨fun i H => H d = some (.frz o (.dT kvs)) ∧ i < kvs.length, fun i H x H' => H' = H ∧ ∃ (k : List Key) (v : V) (q : Addr), kvs[i]? = some (k, v) ∧ x = .ref q ∧ H q = some (.tup (k.map kV)), fun i H => H d = some (.frz o (.dT kvs)) ∧ kvs.length ≤ i⟩
def Itd (d : Addr) (o : Obj) (kvs : List (Key × V)) : It :=
  ⟨fun i H => H d = some (.frz o (.dK kvs)) ∧ i < kvs.length, fun i H x H' => H' = H ∧ ∃ k, kvs[i]? = some (k, x), fun i H => H d = some (.frz o (.dK kvs)) ∧ kvs.length ≤ i⟩
def Iti (d : Addr) (o : Obj) (kvs : List (Key × V)) : It :=
  ⟨fun i H => H d = some (.frz o (.dK kvs)) ∧ i < kvs.length, fun i H x H' => ∃ T k v, kvs[i]? = some (k, v) ∧ x = .ref T ∧ H T = none ∧ H' = upd H T (.tup [kV k, v]), fun i H => H d = some (.frz o (.dK kvs)) ∧ kvs.length ≤ i⟩
theorem jcO {o : Obj} {es es' : Array DictEntry} {ep ep' : Nat} (h : o.data = .dict es ep) (h' : o.data = .dict es' ep') : es' = es ∧ ep' = ep := by
  rw [h] at h'
  cases h'
  exact ⟨rfl, rfl⟩
section
variable {P : Program} {w : World} {K : PySem.W.Frag} {tg : Expr} {d : Addr} {o : Obj} {es : Array DictEntry} {ep : Nat}
theorem jg2 {kvs : List (Key × V)} (it : Addr) (hod : o.data = .dict es ep) : Turn P w K tg (Itk d o kvs) [it] it (fun i h => h.IsKeyIter it d i kvs.length ep) where
  mem := by simp
  obj := fun i h st b hb => by
    have e : b = it := by simpa using hb
    subst e
    obtain ⟨oi, e, c, dd⟩ := st
    exact ⟨oi, e, fun v z => by rw [dd] at z; cases z⟩
  keep := fun i h h' st k => st.at fun oi e => k it (by simp) oi e
  item := by
    intro X hP hw hK hc i pins s σ H E I hf st hg
    subst hP hw hK
    obtain ⟨hd, hi⟩ := hg
    obtain ⟨f0, f1, f2, f3, f4, f5⟩ := hf it (by simp)
    obtain ⟨hs, hgd, hx, es', ep', vs, hdt, hsz, kv, hm⟩ := I.Zgg hd
    obtain ⟨rfl, rfl⟩ := jcO hod hdt
    obtain ⟨⟨k, v⟩, hkv⟩ : ∃ p, kvs[i]? = some p := ⟨kvs[i], List.getElem?_eq_getElem hi⟩
    obtain ⟨u, hu, ru⟩ := zfB kv hkv
    have hl : kvs.length = vs.length := Paired.length kv
    rw [hl] at st
    refine wpAny_pyNext_dict_item st hm hu fun key h' hkey st' sb => ?_
    have I1 : Inv X pins σ H { s with heap := h' } := I.turned (t' := s.toks) (fun b ob hb e => (sb.2 b hb).trans e) f0 f1 f3 f4 f5
    obtain ⟨oi, e, c, dd⟩ := id st'
    refine ⟨key, rfl, zgT (s := { s with heap := h' }) e c dd (by decide) ⟨kV k, H, I1, ZfB (show Zem k key = true from hkey), ⟨rfl, k, v, hkv, rfl⟩, ?_, fun b hb => (hf b hb).1⟩⟩
    show h'.IsKeyIter it d (i + 1) kvs.length _
    rw [hl]
    exact st'
  done := by
    intro X hP hw hK hc i pins s σ H E I hf st hg
    subst hP hw hK
    obtain ⟨hd, hi⟩ := hg
    obtain ⟨f0, f1, f2, f3, f4, f5⟩ := hf it (by simp)
    obtain ⟨hs, hgd, hx, es', ep', vs, hdt, hsz, kv, hm⟩ := I.Zgg hd
    obtain ⟨rfl, rfl⟩ := jcO hod hdt
    exact ZeI (I.ok.hd hc) st hgd hdt hsz hi fun h' eb => ⟨rfl, I.turned (t' := s.toks) (fun b ob hb e => eb b ob hb e) f0 f1 f3 f4 f5⟩
  self := fun A i s Q E st h => wpAny_pyIter_keyiter st h
theorem ZgL {kvs : List (List Key × V)} (it : Addr) (hod : o.data = .dict es ep) : Turn P w K tg (jhI d o kvs) [it] it (fun i h => h.IsKeyIter it d i kvs.length ep) where
  mem := by simp
  obj := fun i h st b hb => by
    have e : b = it := by simpa using hb
    subst e
    obtain ⟨oi, e, c, dd⟩ := st
    exact ⟨oi, e, fun v z => by rw [dd] at z; cases z⟩
  keep := fun i h h' st k => st.at fun oi e => k it (by simp) oi e
  item := by
    intro X hP hw hK hc i pins s σ H E I hf st hg
    subst hP hw hK
    obtain ⟨hd, hi⟩ := hg
    obtain ⟨f0, f1, f2, f3, f4, f5⟩ := hf it (by simp)
    obtain ⟨hs, hgd, hx, es', ep', hdt, hsz, ent⟩ := I.jhB hd
    obtain ⟨rfl, rfl⟩ := jcO hod hdt
    obtain ⟨⟨k, v⟩, hkv⟩ : ∃ p, kvs[i]? = some p := ⟨kvs[i], List.getElem?_eq_getElem hi⟩
    obtain ⟨en, q, hen, hkey, hq⟩ := ent i k v hkv
    refine JfU st hgd hdt hsz hen fun h' st' sb => ?_
    have I1 : Inv X pins σ H { s with heap := h' } := I.turned (t' := s.toks) (fun b ob hb e => (sb.2 b hb).trans e) f0 f1 f3 f4 f5
    obtain ⟨oi, e, c, dd⟩ := id st'
    exact ⟨en.key, rfl, zgT (s := { s with heap := h' }) e c dd (by decide) ⟨.ref q, H, I1, hkey, ⟨rfl, k, v, q, hkv, rfl, hq⟩, st', fun b hb => (hf b hb).1⟩⟩
  done := by
    intro X hP hw hK hc i pins s σ H E I hf st hg
    subst hP hw hK
    obtain ⟨hd, hi⟩ := hg
    obtain ⟨f0, f1, f2, f3, f4, f5⟩ := hf it (by simp)
    obtain ⟨hs, hgd, hx, es', ep', hdt, hsz, ent⟩ := I.jhB hd
    obtain ⟨rfl, rfl⟩ := jcO hod hdt
    exact ZeI (I.ok.hd hc) st hgd hdt hsz hi fun h' eb => ⟨rfl, I.turned (t' := s.toks) (fun b ob hb e => eb b ob hb e) f0 f1 f3 f4 f5⟩
  self := fun A i s Q E st h => by
    refine wpAny_pyIter_slot st.typeIs F.slot_dict_keyiterator_iter (wpAny_call_entry F.slot_dict_keyiterator_iter st.typeIs F.entry_dict_keyiterator_iter ?_ (F.args_dict_keyiterator_iter_1 _))
    show wpAny _ _ (ret (.ref it)) _ _ s
    exact wpAny_pure ⟨_, rfl, "dict_keyiterator", _, st.typeIs, F.slot_dict_keyiterator_next.lookup, h⟩
theorem Jg2 {kvs : List (Key × V)} (it : Addr) (hod : o.data = .dict es ep) : Turn P w K tg (Itd d o kvs) [it] it (fun i h => h.IsValIter it d i kvs.length ep) where
  mem := by simp
  obj := fun i h st b hb => by
    have e : b = it := by simpa using hb
    subst e
    obtain ⟨oi, e, c, dd⟩ := st
    exact ⟨oi, e, fun v z => by rw [dd] at z; cases z⟩
  keep := fun i h h' st k => st.at fun oi e => k it (by simp) oi e
  item := by
    intro X hP hw hK hc i pins s σ H E I hf st hg
    subst hP hw hK
    obtain ⟨hd, hi⟩ := hg
    obtain ⟨f0, f1, f2, f3, f4, f5⟩ := hf it (by simp)
    obtain ⟨hs, hgd, hx, es', ep', vs, hdt, hsz, kv, hm⟩ := I.Zgg hd
    obtain ⟨rfl, rfl⟩ := jcO hod hdt
    obtain ⟨⟨k, v⟩, hkv⟩ : ∃ p, kvs[i]? = some p := ⟨kvs[i], List.getElem?_eq_getElem hi⟩
    obtain ⟨u, hu, ru⟩ := zfB kv hkv
    have hl : kvs.length = vs.length := Paired.length kv
    rw [hl] at st
    refine wpAny_pyNext_values_item st hm hu fun h' st' sb => ?_
    have I1 : Inv X pins σ H { s with heap := h' } := I.turned (t' := s.toks) (fun b ob hb e => (sb.2 b hb).trans e) f0 f1 f3 f4 f5
    obtain ⟨oi, e, c, dd⟩ := id st'
    refine ⟨u, rfl, zgT (s := { s with heap := h' }) e c dd (by decide) ⟨v, H, I1, ru, ⟨rfl, k, hkv⟩, ?_, fun b hb => (hf b hb).1⟩⟩
    show h'.IsValIter it d (i + 1) kvs.length _
    rw [hl]
    exact st'
  done := by
    intro X hP hw hK hc i pins s σ H E I hf st hg
    subst hP hw hK
    obtain ⟨hd, hi⟩ := hg
    obtain ⟨f0, f1, f2, f3, f4, f5⟩ := hf it (by simp)
    obtain ⟨hs, hgd, hx, es', ep', vs, hdt, hsz, kv, hm⟩ := I.Zgg hd
    obtain ⟨rfl, rfl⟩ := jcO hod hdt
    have hl : kvs.length = vs.length := Paired.length kv
    rw [hl] at st
    exact wpAny_pyNext_values_end (I.ok.hd hc) st hm (List.getElem?_eq_none (by omega)) fun h' eb => ⟨rfl, I.turned (t' := s.toks) (fun b ob hb e => eb b ob hb e) f0 f1 f3 f4 f5⟩
  self := fun A i s Q E st h => wpAny_pyIter_valiter st h
theorem ygL {kvs : List (Key × V)} {elts : List Expr} {kk : Nat} {tpos : Pos} (it : Addr) (hod : o.data = .dict es ep) :
    Turn P w K (.Tuple elts kk tpos) (Iti d o kvs) [it] it (fun i h => ∃ ok ov, IsItemIter h it d i kvs.length ep ok ov) where
  mem := by simp
  obj := fun i h st b hb => by
    have e : b = it := by simpa using hb
    subst e
    obtain ⟨ok, ov, e⟩ := st
    exact ⟨_, e, fun v z => nomatch z⟩
  keep := fun i h h' st k => let ⟨ok, ov, e⟩ := st; ⟨ok, ov, k it (by simp) _ e⟩
  item := by
    intro X hP hw hK hc i pins s σ H E I hf st hg
    subst hP hw hK
    obtain ⟨hd, hi⟩ := hg
    obtain ⟨hs, hgd, hx, es', ep', vs, hdt, hsz, kv, hm⟩ := I.Zgg hd
    obtain ⟨rfl, rfl⟩ := jcO hod hdt
    obtain ⟨⟨k, v⟩, hkv⟩ : ∃ p, kvs[i]? = some p := ⟨kvs[i], List.getElem?_eq_getElem hi⟩
    obtain ⟨u, hu, ru⟩ := zfB kv hkv
    have hl : kvs.length = vs.length := Paired.length kv
    obtain ⟨ok, ov, he⟩ := st
    rw [hl] at he
    have hlt : it < s.heap.objs.size := Heap.lt_size he
    refine wpAny_pyNext_items_item he hm hu fun key h' hkey ho hT hz hk => ?_
    refine ⟨_, rfl, wpAny_letOwnedTupleGo_items (s := { s with heap := h' }) ho fun h'' he' sb => ?_⟩
    have hT2 : h''.get? s.heap.objs.size = some { cls := .type "tuple", data := .seq #[key, u] } := (sb.2 _ (Nat.ne_of_gt hlt)).trans hT
    have new : yO X.prog X.w (upd H s.heap.objs.size (.tup [kV k, v])) h'' s.heap.objs.size (.tup [kV k, v]) :=
      ⟨by show 2 ≤ sizeLine; decide, [key, u], .cons (ZfB (show Zem k key = true from hkey)) (.cons ru .nil), ⟨_, hT2, rfl, _, rfl⟩⟩
    have I1 : Inv X pins σ (upd H s.heap.objs.size (.tup [kV k, v])) { s with heap := h'' } :=
      I.Jf4 (t' := s.toks) (ch := [it]) (fun b ob hb e => (sb.2 b (by simpa using hb)).trans (hk b ob (by simpa using hb) e)) hf (Nat.le_refl _) new
    refine ⟨.ref s.heap.objs.size, _, I1, rfl, ⟨_, k, v, hkv, rfl, I.hok.fresh (Nat.le_refl _), rfl⟩, ⟨key, u, ?_⟩, fun b hb => ?_⟩
    · rw [hl]; exact he'
    · have e : b = it := by simpa using hb
      rw [e, Zc (Nat.ne_of_lt hlt)]
      exact (hf it (by simp)).1
  done := by
    intro X hP hw hK hc i pins s σ H E I hf st hg
    subst hP hw hK
    obtain ⟨hd, hi⟩ := hg
    obtain ⟨f0, f1, f2, f3, f4, f5⟩ := hf it (by simp)
    obtain ⟨hs, hgd, hx, es', ep', vs, hdt, hsz, kv, hm⟩ := I.Zgg hd
    obtain ⟨rfl, rfl⟩ := jcO hod hdt
    have hl : kvs.length = vs.length := Paired.length kv
    obtain ⟨ok, ov, he⟩ := st
    rw [hl] at he
    exact wpAny_pyNext_items_end (I.ok.hd hc) he hm (List.getElem?_eq_none (by omega)) fun h' eb => ⟨rfl, I.turned (t' := s.toks) (fun b ob hb e => eb b ob hb e) f0 f1 f3 f4 f5⟩
  self := fun A i s Q E st h => let ⟨_, _, e⟩ := st; PySem.W.kcp_self e h
end
def JhI (td : TE) : TI := fun σ H R => td σ H fun x H1 => ∃ d o, x = .ref d ∧ ((∃ kvs, H1 d = some (.frz o (.dK kvs)) ∧ R (Itk d o kvs) H1) ∨ ∃ kvs, H1 d = some (.frz o (.dT kvs)) ∧ R (jhI d o kvs) H1)
def zhJ (td : TE) : TI := fun σ H R => td σ H fun x H1 => ∃ d o kvs, x = .ref d ∧ H1 d = some (.frz o (.dK kvs)) ∧ R (Itd d o kvs) H1
def JhB (td : TE) : TI := fun σ H R => td σ H fun x H1 => ∃ d o kvs, x = .ref d ∧ H1 d = some (.frz o (.dK kvs)) ∧ R (Iti d o kvs) H1
section
variable {X : Cx} {tg e : Expr} {td : TE} {apos cpos : Pos}
theorem Yhr (he : PE X e td) : PI X tg e (JhI td) := by
  intro pins s σ H R I h
  refine thn (he pins s σ H _ I h) fun u s1 ⟨x, H1, I1, rx, d, o, ex, q⟩ => ?_
  subst ex
  obtain rfl : u = Value.ref d := rx
  rcases q with ⟨kvs, hd, q⟩ | ⟨kvs, hd, q⟩
  · obtain ⟨hs, hgd, hx, es, ep, vs, hdt, hsz, kv, hm⟩ := I1.Zgg hd
    refine zf5 hs hgd hx hdt (zgg (tk := s1.toks) I1 _ (jg2 _ hdt) ⟨_, Heap.get?_push_size _ rfl, rfl, ?_⟩ q)
    rw [hsz] <;> rfl
  · obtain ⟨hs, hgd, hx, es, ep, hdt, hsz, ent⟩ := I1.jhB hd
    refine zf5 hs hgd hx hdt (zgg (tk := s1.toks) I1 _ (ZgL _ hdt) ⟨_, Heap.get?_push_size _ rfl, rfl, ?_⟩ q)
    rw [hsz] <;> rfl
theorem zg3 (he : PE X e td) (hbase : attributeBase e "values" X.env (eval e X.env) = eval e X.env := by rfl) (hline : (apos.endLine == cpos.line) = true := by rfl) : PI X tg (.Call (.Attribute e "values" apos) [] [] cpos) (zhJ td) := by
  intro pins s σ H R I h
  refine wpAny_Call_method (T := "dict") (id := "dict.values") hbase rfl hline F.plainAttrs_dict F.slot_dict_values F.type_dict_values (thn (he pins s σ H _ I h) fun u s1 ⟨x, H1, I1, rx, d, o, kvs, ex, hd, q⟩ => ?_)
  subst ex
  obtain rfl : u = Value.ref d := rx
  obtain ⟨hs, hgd, hx, es, ep, vs, hdt, hsz, kv, hm⟩ := I1.Zgg hd
  have hl : kvs.length = vs.length := Paired.length kv
  refine ⟨hm.dictOf.typeIs, hm.dictOf.mapOf.noDict, ?_⟩
  have I2 : Inv X pins σ H1 { s1 with heap := s1.heap.push { cls := .type "dict_values", data := .fields #[.ref d] } } := I1.kept (t' := s1.toks) fun b ob q => Heap.get?_push_of_some _ q
  have fin : wpAny (model X.prog X.w) X.A (pyIter (.ref s1.heap.objs.size)) (PIE X pins σ tg R) X.xe { s1 with heap := s1.heap.push { cls := .type "dict_values", data := .fields #[.ref d] } } := by
    refine wpAny_pyIter_values (d := d) (knd := zN X.prog X.w) ⟨_, Heap.get?_push_size _ rfl, rfl, rfl⟩ (hm.push _) (zgg (tk := s1.toks) I2 _ (Jg2 _ hdt) ⟨_, Heap.get?_push_size _ rfl, rfl, ?_⟩ q)
    rw [hl] <;> rfl
  show wpAny _ _ (callWith cpos (.builtin "dict.values") [.ref d] [] []) _ X.xe s1
  exact method_meetsIn F.slot_dict_values F.entry_dict_values rfl (PySem.evalArgs_none ⟨rfl, hm.dictOf.typeIs, F.args_dict_values_1 _, _, meets_dict_values (zN X.prog X.w) d hs, ⟨vs, hm.dictOf⟩, fin⟩)
theorem Yhe {elts : List Expr} {kk : Nat} {tpos : Pos} (he : PE X e td) (hbase : attributeBase e "items" X.env (eval e X.env) = eval e X.env := by rfl) (hline : (apos.endLine == cpos.line) = true := by rfl) :
    PI X (.Tuple elts kk tpos) (.Call (.Attribute e "items" apos) [] [] cpos) (JhB td) := by
  intro pins s σ H R I h
  refine wpAny_Call_method (T := "dict") (id := "dict.items") hbase rfl hline F.plainAttrs_dict F.slot_dict_items F.type_dict_items (thn (he pins s σ H _ I h) fun u s1 ⟨x, H1, I1, rx, d, o, kvs, ex, hd, q⟩ => ?_)
  subst ex
  obtain rfl : u = Value.ref d := rx
  obtain ⟨hs, hgd, hx, es, ep, vs, hdt, hsz, kv, hm⟩ := I1.Zgg hd
  have hl : kvs.length = vs.length := Paired.length kv
  refine ⟨hm.dictOf.typeIs, hm.dictOf.mapOf.noDict, ?_⟩
  have I2 : Inv X pins σ H1 { s1 with heap := s1.heap.push { cls := .type "dict_items", data := .fields #[.ref d] } } := I1.kept (t' := s1.toks) fun b ob q => Heap.get?_push_of_some _ q
  have fin : wpAny (model X.prog X.w) X.A (pyIter (.ref s1.heap.objs.size)) (PIE X pins σ (.Tuple elts kk tpos) R) X.xe { s1 with heap := s1.heap.push { cls := .type "dict_items", data := .fields #[.ref d] } } := by
    refine wpAny_pyIter_items (d := d) (knd := zN X.prog X.w) ⟨_, Heap.get?_push_size _ rfl, rfl, rfl⟩ (hm.push _) (zgg (tk := s1.toks) I2 _ (ygL _ hdt) ⟨.none, .none, ?_⟩ q)
    rw [hl]
    exact Heap.get?_push_size _ rfl
  show wpAny _ _ (callWith cpos (.builtin "dict.items") [.ref d] [] []) _ X.xe s1
  exact method_meetsIn F.slot_dict_items F.entry_dict_items rfl (PySem.evalArgs_none ⟨rfl, hm.dictOf.typeIs, F.args_dict_items_1 _, _, meets_dict_items (zN X.prog X.w) d hs, ⟨vs, hm.dictOf⟩, fin⟩)
end
def Ite (K : PySem.W.Frag) (a : Addr) : It :=
  ⟨fun i H => ∃ (xs : List V) (x : V), SqL K H a xs ∧ xs[i]? = some x, fun i H v H' => ∃ T x, v = .ref T ∧ H T = none ∧ H' = upd H T (.tup [.int (i : Nat), x]) ∧ ∀ xs, SqL K H a xs → xs[i]? = some x, fun i H => ∃ xs : List V, SqL K H a xs ∧ xs.length ≤ i⟩
theorem Zg3 {P : Program} {w : World} {K : PySem.W.Frag} {elts : List Expr} {kk : Nat} {tpos : Pos} (a e it : Addr) :
    Turn P w K (.Tuple elts kk tpos) (Ite K a) [e, it] e (fun i h => (∃ old, IsEnum h e it ((i : Nat) : Int) old) ∧ h.IsListIter it a i ∧ e ≠ it) where
  mem := by simp
  obj := fun i h st b hb => by
    obtain ⟨⟨old, he⟩, ⟨o, ho, hc, hd⟩, _⟩ := st
    have e' : b = e ∨ b = it := by simpa using hb
    rcases e' with z | z
    · rw [z]; exact ⟨_, he, fun v q => nomatch q⟩
    · rw [z]; exact ⟨o, ho, fun v q => by rw [hd] at q; cases q⟩
  keep := fun i h h' st k => let ⟨⟨old, he⟩, hi, hne⟩ := st; ⟨⟨old, k e (by simp) _ he⟩, hi.at fun o q => k it (by simp) o q, hne⟩
  item := by
    intro X hP hw hK hc i pins s σ H E I hf st hg
    subst hP hw hK
    obtain ⟨⟨old, he⟩, hit, hne⟩ := st
    obtain ⟨xs, x, hq, hx⟩ := hg
    obtain ⟨its, rv, p, hz⟩ := I.list hq
    obtain ⟨u, hu, ru⟩ := rv.get hx
    have hel : e < s.heap.objs.size := Heap.lt_size he
    have hil : it < s.heap.objs.size := by obtain ⟨_, q, _⟩ := hit; exact Heap.lt_size q
    refine wpAny_pyNext_enum_item he hit p.isList (x := u) (by simpa using hu) hne fun h' ho hit' hT hsz hk => ?_
    refine ⟨_, rfl, wpAny_letOwnedTupleGo_enum (s := { s with heap := h', toks := s.toks + 1 }) ho fun h'' he' sb => ?_⟩
    have hT2 : h''.get? s.heap.objs.size = some { cls := .type "tuple", data := .seq #[.int i s.toks, u] } := (sb.2 _ (Nat.ne_of_gt hel)).trans hT
    have new : yO X.prog X.w (upd H s.heap.objs.size (.tup [.int (i : Nat), x])) h'' s.heap.objs.size (.tup [.int (i : Nat), x]) :=
      ⟨by show 2 ≤ sizeLine; decide, [.int i s.toks, u], .cons ⟨_, rfl⟩ (.cons ru .nil), ⟨_, hT2, rfl, _, rfl⟩⟩
    have I1 : Inv X pins σ (upd H s.heap.objs.size (.tup [.int (i : Nat), x])) { s with heap := h'', toks := s.toks + 1 } :=
      I.Jf4 (ch := [e, it]) (fun b ob hb q => (sb.2 b (fun z => hb (by simp [z]))).trans (hk b ob (fun z => hb (by simp [z])) (fun z => hb (by simp [z])) q)) hf (Nat.le_refl _) new
    refine ⟨.ref s.heap.objs.size, _, I1, rfl, ⟨_, x, rfl, I.hok.fresh (Nat.le_refl _), rfl, fun ys hy => by rw [I.Jgt hy hq]; exact hx⟩, ⟨⟨u, ?_⟩, hit'.at fun o q => (sb.2 it (Ne.symm hne)).trans q, hne⟩, fun b hb => ?_⟩
    · have e1 : ((i + 1 : Nat) : Int) = (i : Int) + 1 := by omega
      rw [e1]; exact he'
    · have hb' : b < s.heap.objs.size := by
        have e' : b = e ∨ b = it := by simpa using hb
        rcases e' with z | z
        · rw [z]; exact hel
        · rw [z]; exact hil
      rw [Zc (Nat.ne_of_lt hb')]
      exact (hf b hb).1
  done := by
    intro X hP hw hK hc i pins s σ H E I hf st hg
    subst hP hw hK
    obtain ⟨⟨old, he⟩, hit, hne⟩ := st
    obtain ⟨xs, hq, hx⟩ := hg
    obtain ⟨its, rv, p, hz⟩ := I.list hq
    obtain ⟨f0, f1, f2, f3, f4, f5⟩ := hf it (by simp)
    have hl := rv.length
    exact wpAny_pyNext_enum_end (I.ok.hd hc) he hit p.isList (by simp; omega) fun h' eb => ⟨rfl, I.turned (t' := s.toks) (fun b o hb q => eb b o hb q) f0 f1 f3 f4 f5⟩
  self := fun A i s Q E st h => let ⟨⟨_, he⟩, _⟩ := st; wpAny_pyIter_enum he h
def ZhJ (K : PySem.W.Frag) (ta : TA) : TI := fun σ H R => ta σ H fun vs H1 => ∃ a xs, vs = [.ref a] ∧ SqL K H1 a xs ∧ R (Ite K a) H1
theorem jhr {X : Cx} {e : Expr} {ta : TA} {p pos tpos : Pos} {elts : List Expr} {kk : Nat} (hg : Gl X "enumerate") (hm : X.mg "enumerate" = none) (ha : PA X [e] ta) (hs : starEach [e] X.env = [(false, eval e X.env)] := by rfl) :
    PI X (.Tuple elts kk tpos) (.Call (.Name "enumerate" p) [e] [] pos) (ZhJ X.K ta) := by
  intro pins s σ H R I h
  refine Call_ (zge I hg hm boot_enumerate (PyProof.Rows.callWith_type1 (thn (ha pos pins s σ H _ I h) fun us s1 ⟨vs, H1, I1, r1, q1⟩ => ?_) hs rfl))
  obtain ⟨a, xs, ex, hq, q⟩ := q1
  subst ex
  cases r1 with
  | cons r rr =>
    cases rr
    cases r
    obtain ⟨its, rv, p', hz⟩ := I1.list hq
    refine call_enumerate_list p'.isList fun h' he hit hsz hk => wpAny_pyIter_enum he ?_
    have I2 : Inv X pins σ H1 { s1 with heap := h' } := I1.kept (t' := s1.toks) hk
    refine ⟨s1.heap.objs.size + 1, [s1.heap.objs.size + 1, s1.heap.objs.size], _, _, H1, rfl, I2, Zg3 a (s1.heap.objs.size + 1) s1.heap.objs.size, ⟨⟨.none, he⟩, hit, Nat.succ_ne_self _⟩, fun b hb => ?_, q⟩
    have e' : b = s1.heap.objs.size + 1 ∨ b = s1.heap.objs.size := by simpa using hb
    have hle : s1.heap.objs.size ≤ b := by
      rcases e' with z | z
      · rw [z]; exact Nat.le_add_right _ _
      · rw [z]; exact Nat.le_refl _
    exact I1.yho hle (I1.hok.fresh hle)
end L2
section
namespace Bits
open PySem PyProof.Rows
end Bits
end
section
namespace TL
open PySem PySem.Builtin PySem.Builtin.Str PySem.StrLaws
end TL
end
namespace L2
open PySem PySem.Spec PyProof.Rows
section
variable {X : Cx} {pins : List (Addr × Obj)} {σ : St} {H : Hp} {s : Shared} {Q : VK}
end
section
variable {X : Cx}
end
section
variable {X : Cx} {o e : Expr} {to te : TE}
end
end L2
namespace L2
open PySem PySem.Spec PyProof.Rows
section
variable {X : Cx}
end
end L2
namespace Att
open PySem PySem.W PySem.Calls PyProof.Rows
section
variable {prog : Program} {w : World} {A : Around} {E : Value → Shared → Prop} {s : Shared} {K : Frag}
end
end Att
namespace L2
open PySem PySem.Spec PyProof.Rows
end L2
namespace L2
open PySem PySem.Spec PyProof.Rows
end L2
namespace L2
open PySem PySem.Spec PyProof.Rows
def inClass (s : Stmt) (j : Nat) : Stmt := match s with
  | .ClassDef _ _ _ body _ _ _ _ _ _ _ => body.getD j (.Pass ⟨0, 0, 0, 0⟩)
  | _ => .Pass ⟨0, 0, 0, 0⟩
def Zb (s : Stmt) : Arguments := match s with
  | .FunctionDef _ a _ _ _ _ _ _ _ _ => a
  | _ => { posonlyargs := [], args := [], vararg := none, kwonlyargs := [], kw_defaults := [], kwarg := none, defaults := [] }
def zb (s : Stmt) : List Stmt := match s with
  | .FunctionDef _ _ b _ _ _ _ _ _ _ => b
  | _ => []
def za (s : Stmt) : Scope := match s with
  | .FunctionDef _ _ _ _ _ _ sc _ _ _ => sc
  | _ => { kind := .function, names := [], isGenerator := false, isCoroutine := false }
abbrev CX0 : CXT := fun _ _ _ _ _ _ => False
abbrev E0 : XK := fun _ _ _ => False
theorem Jh {X : Cx} : zc3 CX0 X E0 := fun _ _ _ _ _ _ _ h => h.elim
structure Fun (K : PySem.W.Frag) (x qual : Str) (st : Stmt) (f : Addr) (fd : FuncData) : Prop where
  ex : ∃ (oc : Value) (od : Option Addr) (kV doc pm : Value) (an : Option Addr) (cdv ct : Value) (osl : Array (Option Value)),
    fd = PySem.W.fnOf x qual (Zb st) (zb st) (za st) .none kV doc pm an cdv ct ∧ K.lookup f = some ⟨oc, od, .func fd, osl⟩ ∧ PySem.W.codeIn K cdv qual = true
  kp : PySem.W.keepIn K (.ref f) = true
section
variable {P : Program} {w : World} {K : PySem.W.Frag} {mg : Str → Option Value} {base : Heap}
theorem Fun.ok {x qual : Str} {st : Stmt} {f : Addr} {fd : FuncData} {N ps : List Str} {k : Nat} {sp : Sp} (F : Fun K x qual st f fd) (S : Ze N ps (za st)) (len : ∀ vs H Q E, sp vs H Q E → vs.length = ps.length)
    (hbody : ∀ (cdv : Value) (A : Around) (outer : List Env) (s : Shared) (H : Hp) (vs : List V) (Q : VK) (E : XK), yby k (A.deeper (envOfC qual (za st) s.heap.objs.size f cdv)) → sp vs H Q E →
      ∃ t, PSs (Jg1 CX0 P w K mg base N qual (za st) f cdv A outer s H E).nox (zb st) t ∧ t { nx := fun _ H' => Q .non H', rt := Q } (start N vs) H) : Zf P w K mg base CX0 (k + 1) f fd ps sp := by
  obtain ⟨oc, od, kV, doc, pm, an, cdv, ct, osl, rfl, lk, hcd⟩ := F.ex
  refine JhF lk hcd S len fun A outer s H vs Q E hr hsp => ?_
  obtain ⟨t, h, q⟩ := hbody cdv A outer s H vs Q E hr hsp
  exact ⟨t, h.nox, q⟩
theorem Fun.binds {x qual : Str} {st : Stmt} {f : Addr} {fd : FuncData} {ps : List Str} (F : Fun K x qual st f fd)
    (h : ∀ (kV doc pm : Value) (an : Option Addr) (cdv ct : Value) (us : List Value), us.length = ps.length → bindArgs (PySem.W.fnOf x qual (Zb st) (zb st) (za st) .none kV doc pm an cdv ct) ⟨us, []⟩ = pure (ps.zip us)) : Binds K fd ps [] := by
  obtain ⟨oc, od, kV, doc, pm, an, cdv, ct, osl, rfl, lk, hcd⟩ := F.ex
  exact .all (h kV doc pm an cdv ct)
theorem zc {x qual : Str} {st : Stmt} {f : Addr} {oc : Value} {od an : Option Addr} {osl : Array (Option Value)} {kV doc pm cdv ct : Value} (l : K.lookup f = some ⟨oc, od, .func (PySem.W.fnOf x qual (Zb st) (zb st) (za st) .none kV doc pm an cdv ct), osl⟩)
    (c : PySem.W.codeIn K cdv qual = true) (k : PySem.W.keepIn K (.ref f) = true) : Fun K x qual st f (PySem.W.fnOf x qual (Zb st) (zb st) (za st) .none kV doc pm an cdv ct) := ⟨⟨oc, od, kV, doc, pm, an, cdv, ct, osl, rfl, l, c⟩, k⟩
end
section
variable {X : Cx}
theorem pv (i : Nat) {x : Str} {pos : Pos} (hN : X.N[i]? = some x := by rfl) (hv : Vis X.env.scope x := by first | exact Or.inl rfl | exact Or.inr (Or.inl rfl) | exact Or.inr (Or.inr rfl)) (hd : (x == ("__debug__" : Str)) = false := by decide)
    (hcd : (x == ("__classdict__" : Str)) = false := by decide) : PE X (.Name x pos) (zha i) := Yhy hN hv hd hcd
end
def Yu (H H' : Hp) : Prop := ∀ b o, H b = some o → H' b = some o
theorem Yu.refl (H : Hp) : Yu H H := fun _ _ h => h
theorem Yu.trans {H H1 H2 : Hp} (a : Yu H H1) (b : Yu H1 H2) : Yu H H2 := fun c o h => b c o (a c o h)
theorem Yu.free {H H' : Hp} (e : Yu H H') {l : Addr} (h : H' l = Option.none) : H l = Option.none := by
  cases q : H l with
  | none => rfl
  | some o =>
    rw [e l o q] at h
    cases h
theorem Yu.seq {K : PySem.W.Frag} {H H' : Hp} {a : Addr} {xs : List V} (e : Yu H H') (h : SqL K H a xs) : SqL K H' a xs := by
  rcases h with (h | ⟨o, h⟩) | h
  · exact .inl (.inl (e _ _ h))
  · exact .inl (.inr ⟨o, e _ _ h⟩)
  · exact .inr h
section
variable {κ : Type} [DecidableEq κ]
end
end L2
section
set_option Elab.async false
set_option linter.all false
set_option maxRecDepth 100000
set_option maxHeartbeats 2000000
namespace L2
open PySem PySem.Spec PyProof.Rows
open PySem.W (WData Codec OpenSpec Well WellAll ReadsW ReadsAllW)
mutual
inductive Dw (K : PySem.W.Frag) (H : Hp) : V → WData → Prop
  | non : Dw K H .non .none
  | bl (b : Bool) : Dw K H (.bl b) (.bool b)
  | int (i : Int) : Dw K H (.int i) (.int i)
  | str (x : Str) : Dw K H (.str x) (.str x)
  | byt (b : Array UInt8) : Dw K H (.byt b) (.bytes b.toList)
  | lst {a : Addr} {xs : List V} {ds : List WData} : SqL K H a xs → zdy K H xs ds → Dw K H (.ref a) (.list ds)
  | tup {a : Addr} {xs : List V} {ds : List WData} : SqT K H a xs → zdy K H xs ds → Dw K H (.ref a) (.tuple ds)
inductive zdy (K : PySem.W.Frag) (H : Hp) : List V → List WData → Prop
  | nil : zdy K H [] []
  | cons {v : V} {vs : List V} {d : WData} {ds : List WData} : Dw K H v d → zdy K H vs ds → zdy K H (v :: vs) (d :: ds)
end
theorem jgU {K : PySem.W.Frag} {H : Hp} : ∀ ns : List Int, zdy K H (ns.map V.int) (ns.map WData.int)
  | [] => .nil
  | n :: r => .cons (.int n) (jgU r)
theorem JgU {K : PySem.W.Frag} {H : Hp} : ∀ (ns : List Int) (xs : List V), zdy K H xs (ns.map WData.int) → xs = ns.map V.int
  | [], xs, h => by
    cases h
    rfl
  | n :: r, xs, h => by
    cases h with
    | cons h1 h2 =>
      cases h1
      rw [JgU r _ h2] <;> rfl
section
variable {P : Program} {w : World} {K : PySem.W.Frag} {H : Hp} {h : Heap} {R : PySem.W.WRecords} {cl : Str → Option Addr}
theorem zhC {a : Addr} {xs : List V} (hok : HOk P w H h) (KX : K.In h) (q : SqL K H a xs) : ∃ (its : List Value) (o : Obj) (n : Nat), Vals xs its ∧ h.get? a = some o ∧ o.cls = .type "list" ∧ o.data = .seq its.toArray n := by
  rcases q with q | ⟨o, its, n, e, hc, _, hd, _, hv⟩
  · obtain ⟨_, its, n, hv, e⟩ := (show yO P w H h a (.lst xs) from q.ok hok)
    exact ⟨its, _, n, hv, e, rfl, rfl⟩
  · exact ⟨its.toList, o, n, hv, KX _ _ e, hc, by simp [hd]⟩
theorem ZhC {a : Addr} {xs : List V} (hok : HOk P w H h) (KX : K.In h) (q : SqT K H a xs) : ∃ (its : List Value) (o : Obj) (n : Nat), Vals xs its ∧ h.get? a = some o ∧ o.cls = .type "tuple" ∧ o.data = .seq its.toArray n := by
  rcases q with q | ⟨o, its, n, e, hc, hd, _, hv⟩
  · obtain ⟨_, its, hv, o, e, hc, n, hd⟩ := (show yO P w H h a (.tup xs) from q.ok hok)
    exact ⟨its, o, n, hv, e, hc, hd⟩
  · exact ⟨its.toList, o, n, hv, KX _ _ e, hc, by simp [hd]⟩
mutual
theorem Dw.reads (hok : HOk P w H h) (KX : K.In h) : ∀ (d : WData) (v : V) (u : Value), Dw K H v d → RelV v u → ∃ as, ReadsW R cl h u d as
  | .none, _, _, x, r => by
    cases x
    cases r
    exact ⟨_, ReadsW.none⟩
  | .bool b, _, _, x, r => by
    cases x
    cases r
    exact ⟨_, ReadsW.bool b⟩
  | .int i, _, _, x, r => by
    cases x
    obtain ⟨t, rfl⟩ := r
    exact ⟨_, ReadsW.int i t⟩
  | .str s, _, _, x, r => by
    cases x
    obtain ⟨t, rfl⟩ := r
    exact ⟨_, ReadsW.str s t⟩
  | .bytes b, _, _, x, r => by
    cases x
    obtain ⟨t, rfl⟩ := r
    exact ⟨_, ReadsW.bytes _ t⟩
  | .list ds, _, _, x, r => by
    cases x with
    | lst hs ha =>
      cases r
      obtain ⟨its, o, n, rv, ho, hc, hd⟩ := zhC hok KX hs
      obtain ⟨as, hr⟩ := Dw.readsAll hok KX ds _ its ha rv
      exact ⟨_, ReadsW.list ho hc hd hr⟩
  | .tuple ds, _, _, x, r => by
    cases x with
    | tup hs ha =>
      cases r
      obtain ⟨its, o, n, rv, ho, hc, hd⟩ := ZhC hok KX hs
      obtain ⟨as, hr⟩ := Dw.readsAll hok KX ds _ its ha rv
      exact ⟨_, ReadsW.tuple ho hc hd hr⟩
  | .float _, _, _, x, _ => by cases x
  | .dict _, _, _, x, _ => by cases x
  | .bytearray _, _, _, x, _ => by cases x
  | .set _, _, _, x, _ => by cases x
  | .frozenset _, _, _, x, _ => by cases x
  | .obj _ _, _, _, x, _ => by cases x
theorem Dw.readsAll (hok : HOk P w H h) (KX : K.In h) : ∀ (ds : List WData) (vs : List V) (us : List Value), zdy K H vs ds → Vals vs us → ∃ as, ReadsAllW R cl h us ds as
  | [], _, _, x, r => by
    cases x
    cases r
    exact ⟨_, ReadsAllW.nil⟩
  | d :: ds, _, _, x, r => by
    cases x with
    | cons h1 h2 =>
      cases r with
      | cons r1 r2 =>
        obtain ⟨as, q1⟩ := Dw.reads hok KX d _ _ h1 r1
        obtain ⟨bs, q2⟩ := Dw.readsAll hok KX ds _ _ h2 r2
        exact ⟨_, ReadsAllW.cons q1 q2⟩
end
end
mutual
def plW : WData → Bool
  | .none => true
  | .bool _ => true
  | .int _ => true
  | .str _ => true
  | .bytes _ => true
  | .list xs => Yfo xs
  | .tuple xs => Yfo xs
  | _ => false
def Yfo : List WData → Bool
  | [] => true
  | x :: r => plW x && Yfo r
end
theorem Jgv {α : Type} {f : α → WData} (h : ∀ a, plW (f a) = true) : ∀ l : List α, Yfo (l.map f) = true
  | [] => rfl
  | x :: r => by
    show (plW (f x) && Yfo (r.map f)) = true
    rw [h x, Jgv h r] <;> rfl
theorem JdO : ∀ (c : Codec) (a : c.denote), plW (c.enc a) = true
  | .unit, _ => rfl
  | .bool, _ => rfl
  | .int _ _, _ => rfl
  | .nat _ _, _ => rfl
  | .u8, _ => rfl
  | .bytes _ _, _ => rfl
  | .text _ _ _ _, _ => rfl
  | .list _ _ c, a => Jgv (fun x => JdO c x) a
  | .pair c d, a => by
    show (plW (c.enc a.1) && (plW (d.enc a.2) && true)) = true
    rw [JdO c a.1, JdO d a.2] <;> rfl
  | .triple c d e, a => by
    show (plW (c.enc a.1) && (plW (d.enc a.2.1) && (plW (e.enc a.2.2) && true))) = true
    rw [JdO c a.1, JdO d a.2.1, JdO e a.2.2] <;> rfl
  | .option c, none => rfl
  | .option c, some x => JdO c x
theorem Zf5 : ∀ (cs : List Codec) (a : Codec.denoteAll cs), Yfo (Codec.encAll cs a) = true
  | [], _ => rfl
  | c :: cs, a => by
    show (plW (c.enc a.1) && Yfo (Codec.encAll cs a.2)) = true
    rw [JdO c a.1, Zf5 cs a.2] <;> rfl
theorem Jey : ∀ {xs : List WData} {d : WData}, d ∈ xs → d.weight ≤ WData.weightAll xs
  | [], d, h => absurd h (by simp)
  | x :: r, d, h => by
    show d.weight ≤ x.weight + 1 + WData.weightAll r
    rcases List.mem_cons.mp h with e | m
    · rw [e]
      omega
    · have z := Jey m
      omega
def toV : Value → V
  | .none => .non
  | .bool b => .bl b
  | .int i _ => .int i
  | .str x _ => .str x
  | .bytes b _ => .byt b
  | .ref a => .ref a
  | _ => .non
def OkU (A : List Addr) : Value → Prop
  | .none => True
  | .bool _ => True
  | .int _ _ => True
  | .str _ _ => True
  | .bytes _ _ => True
  | .ref a => a ∈ A
  | _ => False
theorem OkU.mono {A B : List Addr} (h : ∀ a ∈ A, a ∈ B) : ∀ {u : Value}, OkU A u → OkU B u := fun {u} x => by
  cases u with
  | ref a => exact h a x
  | none => trivial
  | bool b => trivial
  | int i t => trivial
  | str s t => trivial
  | bytes b t => trivial
  | _ => exact False.elim x
theorem jhe {A : List Addr} {u : Value} (x : OkU A u) : RelV (toV u) u := by
  cases u with
  | ref a => rfl
  | none => rfl
  | bool b => rfl
  | int i t => exact ⟨t, rfl⟩
  | str s t => exact ⟨t, rfl⟩
  | bytes b t => exact ⟨t, rfl⟩
  | _ => exact False.elim x
theorem jda {A : List Addr} : ∀ {vs : List Value}, (∀ u ∈ vs, OkU A u) → Vals (vs.map toV) vs
  | [], _ => .nil
  | u :: r, h => .cons (jhe (h u (List.mem_cons_self ..))) (jda fun x hx => h x (List.mem_cons_of_mem _ hx))
def Zdy (h : Heap) (A : List Addr) (a : Addr) : Prop := ∃ vs : List Value, vs.length ≤ sizeLine ∧ (∀ u ∈ vs, OkU A u) ∧
  (h.get? a = some { cls := .type "list", data := .seq vs.toArray } ∨ h.get? a = some { cls := .type "tuple", data := .seq vs.toArray })
theorem Zdy.mono {h : Heap} {A B : List Addr} {a : Addr} (k : ∀ a ∈ A, a ∈ B) (x : Zdy h A a) : Zdy h B a := by
  obtain ⟨vs, h1, h2, h3⟩ := x
  exact ⟨vs, h1, fun u hu => (h2 u hu).mono k, h3⟩
theorem JcO {P : Params} {h : Heap} : ∀ {vs : List Value} {ds : List WData}, WellAll P h vs ds → vs.length = ds.length
  | _, _, .nil => rfl
  | _, _, .cons _ b => by
    show _ + 1 = _ + 1
    rw [JcO b]
theorem yf5 {P : Params} {h : Heap} {v : Value} {ds : List WData} (x : Well P h v (.list ds)) : ∃ (a : Addr) (vs : List Value), v = .ref a ∧ h.get? a = some { cls := .type "list", data := .seq vs.toArray } ∧ WellAll P h vs ds := by
  cases x with
  | list ho hall => exact ⟨_, _, rfl, ho, hall⟩
theorem yfB {P : Params} {h : Heap} {v : Value} {ds : List WData} (x : Well P h v (.tuple ds)) : ∃ (a : Addr) (vs : List Value), v = .ref a ∧ h.get? a = some { cls := .type "tuple", data := .seq vs.toArray } ∧ WellAll P h vs ds := by
  cases x with
  | tuple ho hall => exact ⟨_, _, rfl, ho, hall⟩
theorem Yf5 {P : Params} {h : Heap} {us : List Value} {d : WData} {ds : List WData} (x : WellAll P h us (d :: ds)) : ∃ (v : Value) (vs : List Value), us = v :: vs ∧ Well P h v d ∧ WellAll P h vs ds := by
  cases x with
  | cons a b => exact ⟨_, _, rfl, a, b⟩
theorem zgV {n : Nat} (h : n ≤ 1048576) : n ≤ sizeLine := Nat.le_trans h (by decide)
section
variable {P : Params} {h : Heap}
mutual
theorem Jhe : ∀ (d : WData) (v : Value), Well P h v d → plW d = true → d.weight ≤ 1048576 → ∃ A : List Addr, OkU A v ∧ ∀ a ∈ A, Zdy h A a
  | .none, _, x, _, _ => by
    cases x
    exact ⟨[], trivial, fun a m => absurd m (by simp)⟩
  | .bool b, _, x, _, _ => by
    cases x
    exact ⟨[], trivial, fun a m => absurd m (by simp)⟩
  | .int i, _, x, _, _ => by
    cases x
    exact ⟨[], trivial, fun a m => absurd m (by simp)⟩
  | .str s, _, x, _, _ => by
    cases x
    exact ⟨[], trivial, fun a m => absurd m (by simp)⟩
  | .bytes b, _, x, _, _ => by
    cases x
    exact ⟨[], trivial, fun a m => absurd m (by simp)⟩
  | .list ds, _, x, p, z => by
    obtain ⟨a, vs, rfl, ho, hall⟩ := yf5 x
    have z2 : WData.weightAll ds ≤ 1048576 := z
    obtain ⟨A, h1, h2⟩ := yeI ds _ hall p fun d hd => Nat.le_trans (Jey hd) z2
    have k : ∀ b ∈ A, b ∈ a :: A := fun b hb => List.mem_cons_of_mem _ hb
    refine ⟨a :: A, List.mem_cons_self .., fun b hb => ?_⟩
    rcases List.mem_cons.mp hb with e | m
    · rw [e]
      exact ⟨vs, zgV (by rw [JcO hall]; exact Nat.le_trans (PySem.W.length_le_weightAllW ds) z2), fun u hu => (h1 u hu).mono k, .inl ho⟩
    · exact (h2 b m).mono k
  | .tuple ds, _, x, p, z => by
    obtain ⟨a, vs, rfl, ho, hall⟩ := yfB x
    have z2 : WData.weightAll ds ≤ 1048576 := z
    obtain ⟨A, h1, h2⟩ := yeI ds _ hall p fun d hd => Nat.le_trans (Jey hd) z2
    have k : ∀ b ∈ A, b ∈ a :: A := fun b hb => List.mem_cons_of_mem _ hb
    refine ⟨a :: A, List.mem_cons_self .., fun b hb => ?_⟩
    rcases List.mem_cons.mp hb with e | m
    · rw [e]
      exact ⟨vs, zgV (by rw [JcO hall]; exact Nat.le_trans (PySem.W.length_le_weightAllW ds) z2), fun u hu => (h1 u hu).mono k, .inr ho⟩
    · exact (h2 b m).mono k
  | .float _, _, _, p, _ => Bool.noConfusion (show false = true from p)
  | .dict _, _, _, p, _ => Bool.noConfusion (show false = true from p)
  | .bytearray _, _, _, p, _ => Bool.noConfusion (show false = true from p)
  | .set _, _, _, p, _ => Bool.noConfusion (show false = true from p)
  | .frozenset _, _, _, p, _ => Bool.noConfusion (show false = true from p)
  | .obj _ _, _, _, p, _ => Bool.noConfusion (show false = true from p)
theorem yeI : ∀ (ds : List WData) (vs : List Value), WellAll P h vs ds → Yfo ds = true → (∀ d ∈ ds, d.weight ≤ 1048576) → ∃ A : List Addr, (∀ u ∈ vs, OkU A u) ∧ ∀ a ∈ A, Zdy h A a
  | [], _, x, _, _ => by
    cases x
    exact ⟨[], fun u m => absurd m (by simp), fun a m => absurd m (by simp)⟩
  | d :: ds, _, x, p, z => by
    obtain ⟨v, vs, rfl, x1, x2⟩ := Yf5 x
    have q : plW d = true ∧ Yfo ds = true := Bool.and_eq_true_iff.mp p
    obtain ⟨A, a1, a2⟩ := Jhe d v x1 q.1 (z d (List.mem_cons_self ..))
    obtain ⟨B, b1, b2⟩ := yeI ds vs x2 q.2 fun e he => z e (List.mem_cons_of_mem _ he)
    have kA : ∀ b ∈ A, b ∈ A ++ B := fun b hb => List.mem_append.mpr (.inl hb)
    have kB : ∀ b ∈ B, b ∈ A ++ B := fun b hb => List.mem_append.mpr (.inr hb)
    refine ⟨A ++ B, fun u hu => ?_, fun b hb => ?_⟩
    · rcases List.mem_cons.mp hu with e | m
      · rw [e]
        exact a1.mono kA
      · exact (b1 u m).mono kB
    · rcases List.mem_append.mp hb with m | m
      · exact (a2 b m).mono kA
      · exact (b2 b m).mono kB
end
end
def Jhr (o : Obj) : Option HO := match o.data with
  | .seq vs _ => if (o.cls == Value.type "list") = true then some (.frz o (.lst (vs.toList.map toV))) else some (.frz o (.tup (vs.toList.map toV)))
  | _ => none
def Jdn (K : PySem.W.Frag) (h : Heap) (A : List Addr) : Hp := fun b => if b ∈ A then (if (K.lookup b).isNone = true then (h.get? b).bind Jhr else none) else none
def zgw (H : Hp) : Prop := ∀ b, H b = none ∨ ∃ o u, H b = some (.frz o u)
theorem Zgw (vs : List Value) : Jhr { cls := .type "list", data := .seq vs.toArray } = some (.frz { cls := .type "list", data := .seq vs.toArray } (.lst (vs.map toV))) := by
  show (if (Value.type "list" == Value.type "list") = true then some (HO.frz { cls := .type "list", data := .seq vs.toArray } (.lst (vs.toArray.toList.map toV))) else some (HO.frz { cls := .type "list", data := .seq vs.toArray } (.tup (vs.toArray.toList.map toV)))) = _
  rw [if_pos (beq_self_eq_true _)]
theorem ygw (vs : List Value) : Jhr { cls := .type "tuple", data := .seq vs.toArray } = some (.frz { cls := .type "tuple", data := .seq vs.toArray } (.tup (vs.map toV))) := by
  show (if (Value.type "tuple" == Value.type "list") = true then some (HO.frz { cls := .type "tuple", data := .seq vs.toArray } (.lst (vs.toArray.toList.map toV))) else some (HO.frz { cls := .type "tuple", data := .seq vs.toArray } (.tup (vs.toArray.toList.map toV)))) = _
  rw [if_neg (by decide)]
section
variable {P : Program} {w : World} {K : PySem.W.Frag} {h : Heap} {A : List Addr}
theorem yfx {b : Addr} {o : Obj} (hb : b ∈ A) (hk : K.lookup b = none) (e : h.get? b = some o) : Jdn K h A b = Jhr o := by
  unfold Jdn
  rw [if_pos hb, hk, if_pos (show (none : Option Obj).isNone = true from rfl), e] <;> rfl
theorem zhs {b : Addr} {u : HO} (q : Jdn K h A b = some u) : b ∈ A ∧ K.lookup b = none := by
  unfold Jdn at q
  by_cases hb : b ∈ A
  · rw [if_pos hb] at q
    cases hk : K.lookup b with
    | none => exact ⟨hb, rfl⟩
    | some o =>
      rw [hk, if_neg (by simp)] at q
      cases q
  · rw [if_neg hb] at q
    cases q
theorem Yfx (ar : ∀ a ∈ A, Zdy h A a) {b : Addr} {u : HO} (q : Jdn K h A b = some u) : K.lookup b = none ∧ ∃ vs : List Value, vs.length ≤ sizeLine ∧ (∀ u ∈ vs, OkU A u) ∧
    ((h.get? b = some { cls := .type "list", data := .seq vs.toArray } ∧ u = .frz { cls := .type "list", data := .seq vs.toArray } (.lst (vs.map toV))) ∨
     (h.get? b = some { cls := .type "tuple", data := .seq vs.toArray } ∧ u = .frz { cls := .type "tuple", data := .seq vs.toArray } (.tup (vs.map toV)))) := by
  obtain ⟨hb, hk⟩ := zhs q
  obtain ⟨vs, h1, h2, h3⟩ := ar b hb
  refine ⟨hk, vs, h1, h2, ?_⟩
  rcases h3 with e | e
  · rw [yfx hb hk e, Zgw] at q
    exact .inl ⟨e, (Option.some.inj q).symm⟩
  · rw [yfx hb hk e, ygw] at q
    exact .inr ⟨e, (Option.some.inj q).symm⟩
theorem yg3 (ar : ∀ a ∈ A, Zdy h A a) : zgw (Jdn K h A) := fun b => by
  cases q : Jdn K h A b with
  | none => exact .inl rfl
  | some u =>
    obtain ⟨_, vs, _, _, ⟨_, e⟩ | ⟨_, e⟩⟩ := Yfx ar q
    · exact .inr ⟨_, _, by rw [e]⟩
    · exact .inr ⟨_, _, by rw [e]⟩
theorem Zhs (ar : ∀ a ∈ A, Zdy h A a) : HOk P w (Jdn K h A) h := fun b u q => by
  obtain ⟨_, vs, h1, h2, ⟨e, rfl⟩ | ⟨e, rfl⟩⟩ := Yfx ar q
  · exact ⟨e, by rw [List.length_map]; exact h1, vs, _, jda h2, e⟩
  · exact ⟨e, by rw [List.length_map]; exact h1, vs, jda h2, _, e, rfl, _, rfl⟩
theorem jfx {c c' : Value} {vs us : List Value} (e : (some { cls := c, data := .seq vs.toArray } : Option Obj) = some { cls := c', data := .seq us.toArray }) : c = c' ∧ vs = us := by
  have e1 := Option.some.inj e
  have e2 : c = c' := congrArg Obj.cls e1
  have e3 : Data.seq vs.toArray = Data.seq us.toArray := congrArg Obj.data e1
  injection e3 with e4
  refine ⟨e2, ?_⟩
  have e5 := congrArg Array.toList e4
  simpa using e5
theorem YhN (KX : K.In h) (ar : ∀ a ∈ A, Zdy h A a) {a : Addr} {vs : List Value} (ha : a ∈ A) (e : h.get? a = some { cls := .type "list", data := .seq vs.toArray }) : (∀ u ∈ vs, OkU A u) ∧ SqL K (Jdn K h A) a (vs.map toV) := by
  obtain ⟨us, h1, h2, h3⟩ := ar a ha
  have hu : us = vs := by
    rcases h3 with q | q
    · rw [e] at q
      exact (jfx q).2.symm
    · rw [e] at q
      exact absurd (Value.type.inj (jfx q).1) (by decide)
  subst hu
  refine ⟨h2, ?_⟩
  cases hk : K.lookup a with
  | none => exact .inl (.inr ⟨_, by rw [yfx ha hk e, Zgw]⟩)
  | some o =>
    have e2 := KX a o hk
    rw [e] at e2
    obtain rfl := Option.some.inj e2
    exact .inr ⟨_, us.toArray, _, hk, rfl, rfl, rfl, by rw [List.size_toArray]; exact h1, by simpa using jda h2⟩
theorem jhN (KX : K.In h) (ar : ∀ a ∈ A, Zdy h A a) {a : Addr} {vs : List Value} (ha : a ∈ A) (e : h.get? a = some { cls := .type "tuple", data := .seq vs.toArray }) : (∀ u ∈ vs, OkU A u) ∧ SqT K (Jdn K h A) a (vs.map toV) := by
  obtain ⟨us, h1, h2, h3⟩ := ar a ha
  have hu : us = vs := by
    rcases h3 with q | q
    · rw [e] at q
      exact absurd (Value.type.inj (jfx q).1) (by decide)
    · rw [e] at q
      exact (jfx q).2.symm
  subst hu
  refine ⟨h2, ?_⟩
  cases hk : K.lookup a with
  | none => exact .inl (.inr ⟨_, by rw [yfx ha hk e, ygw]⟩)
  | some o =>
    have e2 := KX a o hk
    rw [e] at e2
    obtain rfl := Option.some.inj e2
    exact .inr ⟨_, us.toArray, _, hk, rfl, rfl, by rw [List.size_toArray]; exact h1, by simpa using jda h2⟩
mutual
theorem yhC {Pm : Params} (KX : K.In h) (ar : ∀ a ∈ A, Zdy h A a) : ∀ (d : WData) (v : Value), Well Pm h v d → plW d = true → OkU A v → Dw K (Jdn K h A) (toV v) d
  | .none, _, x, _, _ => by
    cases x
    exact .non
  | .bool b, _, x, _, _ => by
    cases x
    exact .bl b
  | .int i, _, x, _, _ => by
    cases x
    exact .int i
  | .str s, _, x, _, _ => by
    cases x
    exact .str s
  | .bytes b, _, x, _, _ => by
    cases x
    have z := Dw.byt (K := K) (H := Jdn K h A) b.toArray
    exact z
  | .list ds, _, x, p, hu => by
    obtain ⟨a, vs, rfl, ho, hall⟩ := yf5 x
    obtain ⟨h2, hs⟩ := YhN KX ar hu ho
    exact .lst hs (ygg KX ar ds _ hall p h2)
  | .tuple ds, _, x, p, hu => by
    obtain ⟨a, vs, rfl, ho, hall⟩ := yfB x
    obtain ⟨h2, hs⟩ := jhN KX ar hu ho
    exact .tup hs (ygg KX ar ds _ hall p h2)
  | .float _, _, _, p, _ => Bool.noConfusion (show false = true from p)
  | .dict _, _, _, p, _ => Bool.noConfusion (show false = true from p)
  | .bytearray _, _, _, p, _ => Bool.noConfusion (show false = true from p)
  | .set _, _, _, p, _ => Bool.noConfusion (show false = true from p)
  | .frozenset _, _, _, p, _ => Bool.noConfusion (show false = true from p)
  | .obj _ _, _, _, p, _ => Bool.noConfusion (show false = true from p)
theorem ygg {Pm : Params} (KX : K.In h) (ar : ∀ a ∈ A, Zdy h A a) : ∀ (ds : List WData) (vs : List Value), WellAll Pm h vs ds → Yfo ds = true → (∀ u ∈ vs, OkU A u) → zdy K (Jdn K h A) (vs.map toV) ds
  | [], _, x, _, _ => by
    cases x
    exact .nil
  | d :: ds, _, x, p, hu => by
    obtain ⟨v, vs, rfl, x1, x2⟩ := Yf5 x
    have q : plW d = true ∧ Yfo ds = true := Bool.and_eq_true_iff.mp p
    exact .cons (yhC KX ar d v x1 q.1 (hu _ (List.mem_cons_self ..))) (ygg KX ar ds vs x2 q.2 fun u m => hu u (List.mem_cons_of_mem _ m))
end
end
theorem Yg3 {P : Program} {w : World} {K : PySem.W.Frag} {mg mb : Str → Option Value} {CX : CXT} {k : Nat} {fa : Addr} {fd : FuncData} {ps : List Str} {sp : Sp} {s₁ : Shared} {vals : List Value} {ds : List WData} {R : PySem.W.WRecords} {cl : Str → Option Addr} {d0 : WData}
    (KX : K.In s₁.heap) (hns : s₁.heap.Ns mainGlobals mg) (hb : s₁.heap.Ns builtinsNs mb) (hbb : ∀ x : Str, x ≠ "__name__" → mb x = bootBuiltins x) (hlim : s₁.heap.NoLimit) (hg : s₁.gens = #[])
    (hwl : WellAll w.params s₁.heap vals ds) (hpl : Yfo ds = true) (hwt : ∀ d ∈ ds, d.weight ≤ 1048576) (hr : yby k callerA)
    (F : ∀ base : Heap, K.In base → base.Ns mainGlobals mg → Zf P w K mg base CX k fa fd ps sp) (hbind : ∀ (s : Shared) (us : List Value), us.length = ps.length → BindsTo s fd ⟨us, []⟩ (ps.zip us)) (hlen : ds.length = ps.length)
    (hsp : ∀ (H : Hp) (xs : List V), zgw H → zdy K H xs ds → sp xs H (fun v H' => Dw K H' v d0) fun _ _ _ => False)
    (hCX : ∀ H e s', CX [] H s₁ (fun _ _ _ => False) e s' → False) :
    codeAny (model P w) callerA (.call (.ref fa) ⟨vals, []⟩) (fun r s' => ∃ u as, r = .ok (.ret u) ∧ ReadsW R cl s'.heap u d0 as ∧ OldK s₁.heap s'.heap ∧ s'.os = s₁.os ∧ AllBare s'.gens) s₁ := by
  obtain ⟨A, ho, ar⟩ := yeI ds vals hwl hpl hwt
  have hO : zgw (Jdn K s₁.heap A) := yg3 ar
  have hok : HOk P w (Jdn K s₁.heap A) s₁.heap := Zhs ar
  have hS := ygg KX ar ds vals hwl hpl ho
  have hV := jda ho
  have hK : ∀ b u, Jdn K s₁.heap A b = some u → K.lookup b = none := fun b u q => (Yfx ar q).1
  have noA : ∀ {b : Addr} {o : Obj} {es : Array DictEntry} {ep : Nat}, s₁.heap.get? b = some o → o.data = .dict es ep → Jdn K s₁.heap A b = none := fun {b o es ep} e d => by
    cases q : Jdn K s₁.heap A b with
    | none => rfl
    | some u =>
      obtain ⟨_, vs, _, _, ⟨e2, _⟩ | ⟨e2, _⟩⟩ := Yfx ar q
      · rw [e2] at e
        cases e
        have d' : Data.seq vs.toArray _ = Data.dict es ep := d
        cases d'
      · rw [e2] at e
        cases e
        have d' : Data.seq vs.toArray _ = Data.dict es ep := d
        cases d'
  generalize Jdn K s₁.heap A = H at hO hok hS hK noA
  have base_of : ∀ {b : Addr} {o : Obj}, s₁.heap.get? b = some o → H b = none → (Jgd s₁.heap H).get? b = some o := fun e n => Jg9 e n
  have nsK : ∀ {b : Addr} {m : Str → Option Value}, s₁.heap.Ns b m → (Jgd s₁.heap H).Ns b m := fun {b m} ⟨o, es, ep, e, d, r⟩ => ⟨o, es, ep, base_of e (noA e d), d, r⟩
  have nK : ∀ b o, K.lookup b = some o → H b = none := fun b o e => by
    cases q : H b with
    | none => rfl
    | some u =>
      rw [hK b u q] at e
      cases e
  have hKb : K.In (Jgd s₁.heap H) := fun b o e => base_of (KX b o e) (nK b o e)
  have hM : Mod K mg (Jgd s₁.heap H) := ⟨hKb, nsK hns, ⟨mb, nsK hb, hbb⟩, let ⟨mc, h1, h2⟩ := hlim; ⟨mc, nsK h1, h2⟩⟩
  have e0 : YgK P w K mg (Jgd s₁.heap H) callerA [] s₁ H := ⟨rfl, hM, fun b o e => Zho e, Nat.le_of_eq (Jg0 _ _), trivial, fun b hb => absurd (show b ∈ ([] : List Addr) from hb) (by simp), hok, .of_eq hg⟩
  have hl : vals.length = ps.length := by rw [JcO hwl]; exact hlen
  refine codeAny_mono ((F _ hKb (nsK hns)).run callerA [] s₁ H ⟨vals, []⟩ vals (vals.map toV) _ _ hr e0 (hbind s₁ vals hl) hV (hsp H _ hO hS)) fun r s' x => ?_
  cases r with
  | error e => exact (hCX H e s' x).elim
  | ok fl =>
    cases fl with
    | next => exact False.elim x
    | brk => exact False.elim x
    | cont => exact False.elim x
    | ret u =>
      obtain ⟨v, H', os, bare, un, hok', r', q⟩ := x
      have kept : ∀ b o, s₁.heap.get? b = some o → s'.heap.get? b = some o := fun b o e => by
        cases q2 : H b with
        | none => exact un.keep b o e q2 (by intro z; exact absurd (show b ∈ ([] : List Addr) from z) (by simp)) (by simp)
        | some u2 =>
          rcases hO b with z | ⟨ob, u3, z⟩
          · rw [q2] at z
            cases z
          · have z2 := un.frzs b ob _ z
            obtain ⟨e1, _⟩ := hok b _ z
            obtain ⟨e2, _⟩ := hok' b _ z2
            rw [e] at e1
            cases e1
            exact e2
      have KX' : K.In s'.heap := fun b o e => kept b o (KX b o e)
      obtain ⟨as, hrd⟩ := Dw.reads (R := R) (cl := cl) hok' KX' d0 v u q r'
      exact ⟨u, as, rfl, hrd, OldK.of_keep kept, os, bare⟩
theorem YfB {ds : List WData} (h : WData.layableAll ds = true) : ∀ d ∈ ds, d.weight ≤ 1048576 := fun d hd =>
  (PySem.W.layableW_iff.mp (List.all_eq_true.mp h d hd)).2.2
theorem jfB : ∀ (cs : List Codec) (a : Codec.denoteAll cs), (Codec.encAll cs a).length = cs.length
  | [], _ => rfl
  | c :: cs, a => by
    show (Codec.encAll cs a.2).length + 1 = cs.length + 1
    rw [jfB cs a.2]
theorem jg3 {r : OpenSpec} {k : Nat} {q : Program} {loose : List Str} {XP : (Str → Option Value) → Heap → Prop} {YP : World → Heap → Prop} {d : DefRec} {K : Params → PySem.W.Frag} {CX : World → CXT} {ps : List Str} {sp : World → Sp}
    (hwell : r.wellSaid = true) (hdf : d.params.defaults = []) (hlen : r.args.length = ps.length) (hr : yby k callerA)
    (hY : ∀ (w : World) (h : Heap), YP w h → (K w.params).In h)
    (F : ∀ (w : World) (mg : Str → Option Value) (fa : Addr) (h : Heap), YP w h → (K w.params).In h → h.Ns mainGlobals mg → mg d.name = some (.ref fa) →
      ∃ fd : FuncData, (∀ (s : Shared) (us : List Value), us.length = ps.length → BindsTo s fd ⟨us, []⟩ (ps.zip us)) ∧
        ∀ base : Heap, (K w.params).In base → base.Ns mainGlobals mg → Zf r.prog w (K w.params) mg base (CX w) k fa fd ps (sp w))
    (hsp : ∀ (w : World) (H : Hp) (xs : List V) (a : Codec.denoteAll r.args), zgw H → Codec.withinAll r.args a = true → Codec.app r.args r.asked a = true → zdy (K w.params) H xs (Codec.encAll r.args a) →
      sp w xs H (fun v H' => Dw (K w.params) H' v (r.ret.enc (Codec.app r.args r.f a))) fun _ _ _ => False)
    (hCX : ∀ (w : World) (H : Hp) (s : Shared) (e : Value) (s' : Shared), CX w [] H s (fun _ _ _ => False) e s' → False) :
    PySem.W.WalkOS q loose XP YP r d [] (fun f vs => PySem.call f vs) := by
  intro w s_0 s₁ mg mb G Y fa o pm cd doc dV kV ho hd hcd hD hmg hg args vals as hpre hlay hrd hwl hlo
  obtain ⟨a, e1, e2⟩ := PySem.W.os_pre_some hpre
  obtain ⟨e3, hwi⟩ := Codec.encAll_of_decAll r.args args a e1
  subst e3
  have KX := hY w _ Y
  obtain ⟨fd, hb, hF⟩ := F w mg fa _ Y KX G.T.g hmg
  refine PySem.W.enter_call (codeAny_mono (Yg3 (R := []) (cl := classAt s_0.heap) (d0 := r.ret.enc (Codec.app r.args r.f a)) KX G.T.g G.T.b G.T.builtins G.T.nolimit hg hwl (Zf5 _ _) (YfB hlay) hr hF hb (by rw [jfB]; exact hlen)
    (fun H xs hO hS => hsp w H xs a hO hwi e2 hS) fun H e s' => hCX w H s₁ e s') fun r' s' hq => ?_)
  obtain ⟨u, as', rfl, h1, h2, h3, h4⟩ := hq
  exact ⟨.inl ⟨u, _, as', rfl, fun _ => rfl, h1, (OpenSpec.post_iff hwell hwi _ _).mpr rfl, fun z => Bool.noConfusion (show false = true from z)⟩, h2, h3, h4⟩
theorem YgL {r : OpenSpec} {k : Nat} {q : Program} {loose : List Str} {XP : (Str → Option Value) → Heap → Prop} {YP : World → Heap → Prop} {d : DefRec} {K : Params → PySem.W.Frag} {CX : CXT} {ps : List Str} {sp : PySem.W.Frag → Sp}
    (hwell : r.wellSaid = true) (hdf : d.params.defaults = []) (hlen : r.args.length = ps.length) (hr : yby k callerA)
    (hY : ∀ (w : World) (h : Heap), YP w h → (K w.params).In h)
    (F : ∀ (w : World) (mg : Str → Option Value) (fa : Addr) (h : Heap), YP w h → (K w.params).In h → h.Ns mainGlobals mg → mg d.name = some (.ref fa) →
      ∃ fd : FuncData, (∀ (s : Shared) (us : List Value), us.length = ps.length → BindsTo s fd ⟨us, []⟩ (ps.zip us)) ∧
        ∀ base : Heap, (K w.params).In base → base.Ns mainGlobals mg → Zf r.prog w (K w.params) mg base CX k fa fd ps (sp (K w.params)))
    (hsp : ∀ (K : PySem.W.Frag) (H : Hp) (xs : List V) (a : Codec.denoteAll r.args), zgw H → Codec.withinAll r.args a = true → Codec.app r.args r.asked a = true → zdy K H xs (Codec.encAll r.args a) →
      sp K xs H (fun v H' => Dw K H' v (r.ret.enc (Codec.app r.args r.f a))) fun _ _ _ => False)
    (hCX : ∀ (H : Hp) (s : Shared) (e : Value) (s' : Shared), CX [] H s (fun _ _ _ => False) e s' → False) :
    PySem.W.WalkOS q loose XP YP r d [] (fun f vs => PySem.call f vs) :=
  jg3 (K := K) (CX := fun _ => CX) (sp := fun w => sp (K w.params)) hwell hdf hlen hr hY F (fun w H xs a h1 h2 h3 h4 => hsp (K w.params) H xs a h1 h2 h3 h4) fun _ H s e s' => hCX H s e s'
end L2
end
set_option Elab.async false
set_option linter.all false
set_option maxRecDepth 100000
set_option maxHeartbeats 4000000
namespace L2
open PySem PySem.Spec PyProof.Rows
section
variable {X : Cx} {CX : CXT} {k : Nat} {f C : Addr} {fd : FuncData} {ps : List Str} {sp : Sp} {E : XK} {x m : Str} {p pos apos : Pos} {e o : Expr} {es : List Expr} {ta : TE} {t : TA}
structure zhf (K : PySem.W.Frag) (C : Addr) (m : Str) (f : Addr) : Prop where
  ga : PySem.W.specialIn K (.ref C) "__getattribute__" = some (some (.builtin "type.__getattribute__"))
  rd : PySem.W.readsIn K C (.type "type") = true
  fc : PySem.W.findCls K (.ref C) (.type "type") m = some (.val (.ref f))
  kp : PySem.W.keepIn K (.ref f) = true
theorem zcr {pl : Sem Bool} (hg : Gl X x) (hmg : X.mg x = some (.ref C)) (hm : zhf X.K C m f) (F : Zf X.prog X.w X.K X.mg X.base CX k f fd ps sp) (hr : yby k X.A) (hb : Binds X.K fd ps []) (hx : zc3 CX X E) (ha : PA X (e :: es) t)
    (hdb : (x == ("__debug__" : Str)) = false := by decide)
    (hst : starEach (e :: es) X.env = (false, eval e X.env) :: starEach es X.env := by rfl) (hpl : (backTo pos (starEach es X.env)).any (·.1) = false := by rfl)
    (ht : eval (.Call (.Attribute (.Name x p) m apos) (e :: es) [] pos) X.env = (do
      let ov ← eval (.Name x p) X.env
      standAt apos.atName
      let (f, first) ← holding [ov] (getMethod ov m pl)
      callWith pos f first (backTo pos (starEach (e :: es) X.env)) (backToKw pos (keywordEach [] X.env))) := by rfl) :
    PE X (.Call (.Attribute (.Name x p) m apos) (e :: es) [] pos) (Yhw sp [] E t) := by
  intro pins s σ H Q I h
  refine PySem.W.methodCall_KW (pl := pl) (YeG I hg hmg ?_ hdb) ht
  refine PySem.W.method_cls I.kIn hm.ga (PySem.W.cls_value I.kIn hm.rd hm.fc rfl ?_)
  have I' := I.tok (s.toks + 1)
  refine PySem.W.callWith_K (first := []) (h₀ := X.base) I.ok.mod.kin hm.kp (thn (ha pos pins _ σ H _ I' h) fun us s2 ⟨vs, H2, I2, r, q2⟩ => ⟨I2.kIn, ?_⟩) hst hpl
  exact zfA (us := us) (vs := vs) F hr hb .nil hx I2 r q2
structure JfB (P : Program) (w : World) (K : PySem.W.Frag) (mg : Str → Option Value) (base : Heap) (CX : CXT) (k : Nat) (m : Str) (C : Addr) (sp : Sp) : Prop where
  cl : Cls K C
  ex : ∃ (f : Addr) (fd : FuncData) (ps : List Str), Meth K C m f ∧ Zf P w K mg base CX k f fd ps sp ∧ Binds K fd ps []
def Zhf (P : Program) (w : World) (K : PySem.W.Frag) (mg : Str → Option Value) (base : Heap) (CX : CXT) (k : Nat) (m : Str) (E : XK) (ta : TE) (t : TA) : TE := fun σ H Q => ta σ H fun x H1 => ∃ a C dx fs sp, x = .ref a ∧ H1 a = some (.ins C dx fs) ∧ JfB P w K mg base CX k m C sp ∧ fs.lookup m = none ∧
  t σ H1 fun vs H2 => sp (x :: vs) H2 Q E
theorem jax {P : Program} {w : World} {K : PySem.W.Frag} {mg : Str → Option Value} {base : Heap} {pl : Sem Bool} (e0 : X.prog = P ∧ X.w = w ∧ X.K = K ∧ X.mg = mg ∧ X.base = base) (he : PE X o ta) (hr : yby k X.A) (hx : zc3 CX X E) (ha : PA X (e :: es) t)
    (hst : starEach (e :: es) X.env = (false, eval e X.env) :: starEach es X.env := by rfl) (hpl : (backTo pos (starEach es X.env)).any (·.1) = false := by rfl)
    (ht : eval (.Call (.Attribute o m apos) (e :: es) [] pos) X.env = (do
      let ov ← eval o X.env
      standAt apos.atName
      let (f, first) ← holding [ov] (getMethod ov m pl)
      callWith pos f first (backTo pos (starEach (e :: es) X.env)) (backToKw pos (keywordEach [] X.env))) := by rfl) :
    PE X (.Call (.Attribute o m apos) (e :: es) [] pos) (Zhf P w K mg base CX k m E ta t) := by
  obtain ⟨rfl, rfl, rfl, rfl, rfl⟩ := e0
  intro pins s σ H Q I h
  refine PySem.W.methodCall_KW (pl := pl) (thn (he pins s σ H _ I h) fun u s1 ⟨x, H1, I1, rx, a, C, dx, fs, sp, ex, ea, dp, l, q⟩ => ?_) ht
  subst ex
  obtain rfl : u = Value.ref a := rx
  obtain ⟨c, f, fd, ps, hm, F, hb⟩ := dp
  refine ydn I1 ea c hm l ?_
  refine PySem.W.callWith_K (first := [.ref a]) (h₀ := X.base) I.ok.mod.kin hm.kp (thn (ha pos pins s1 σ H1 _ I1 q) fun us s2 ⟨vs, H2, I2, r, q2⟩ => ⟨I2.kIn, ?_⟩) hst hpl
  refine zfA (us := .ref a :: us) (vs := .ref a :: vs) F hr hb .nil hx I2 (.cons rfl r) ?_
  rw [List.append_nil]
  exact q2
end
section
variable {X : Cx}
def yhJ (K : PySem.W.Frag) : List V → Hp → VK → Prop := fun xs H Q => ∃ x c t b, xs = [x, .ref c] ∧ jby K H x t ∧ PySem.W.kitOne K t (.ref c) = some b ∧ Q (.bl b) H
theorem yhf : ycj X (.builtin "isinstance") (yhJ X.K) := by
  intro pins s σ H xs us Q I r h
  obtain ⟨x, c, t, b, rfl, ty, ek, q⟩ := h
  obtain ⟨u, w', rfl, ru, rw'⟩ := vals2 r
  cases (show w' = Value.ref c from rw')
  exact jg1 I ru ty ek fun tk => ⟨.bl b, H, I.tok tk, rfl, q⟩
theorem jby.kit {pins : List (Addr × Obj)} {σ : St} {H : Hp} {s : Shared} {x : V} {u t : Value} (I : Inv X pins σ H s) (rx : RelV x u) (ty : jby X.K H x t) :
    ∃ P : Heap → Prop, PySem.W.KitX X.K u t P ∧ P s.heap ∧ u ≠ .builtin "__main__.__loader__#opaque" := by
  cases ty with
  | non => cases (show u = Value.none from rx); exact ⟨_, PySem.W.kitx_none, True.intro, fun z => nomatch z⟩
  | bl y => cases (show u = Value.bool y from rx); exact ⟨_, PySem.W.kitx_bool, True.intro, fun z => nomatch z⟩
  | int i => obtain ⟨t, q⟩ := (show ∃ t, u = Value.int i t from rx); cases q; exact ⟨_, PySem.W.kitx_int, True.intro, fun z => nomatch z⟩
  | str y => obtain ⟨t, q⟩ := (show ∃ t, u = Value.str y t from rx); cases q; exact ⟨_, PySem.W.kitx_str, True.intro, fun z => nomatch z⟩
  | flt y => obtain ⟨t, q⟩ := (show ∃ t, u = Value.float y t from rx); cases q; exact ⟨_, PySem.W.kitx_float, True.intro, fun z => nomatch z⟩
  | @lst a xs ea =>
    cases (show u = Value.ref a from rx)
    obtain ⟨_, _, n, _, h1⟩ := (show yO X.prog X.w H s.heap a (.lst xs) from I.hok a _ ea)
    exact ⟨_, PySem.W.kitx_list, ⟨_, h1, rfl⟩, fun z => nomatch z⟩
  | @frz a ob xs ea =>
    cases (show u = Value.ref a from rx)
    obtain ⟨_, _, _, n, _, h1⟩ := (show yO X.prog X.w H s.heap a (.frz ob (.lst xs)) from I.hok a _ ea)
    exact ⟨_, PySem.W.kitx_list, ⟨_, h1, rfl⟩, fun z => nomatch z⟩
  | @tup a xs ea =>
    cases (show u = Value.ref a from rx)
    obtain ⟨_, _, _, p⟩ := (show yO X.prog X.w H s.heap a (.tup xs) from I.hok a _ ea)
    obtain ⟨o, h1, h2, _⟩ := p
    exact ⟨_, PySem.W.kitx_tuple, ⟨o, h1, h2⟩, fun z => nomatch z⟩
  | @dK a kvs ea =>
    cases (show u = Value.ref a from rx)
    obtain ⟨_, _, vs, _, p⟩ := (show yO X.prog X.w H s.heap a (.dK kvs) from I.hok a _ ea)
    obtain ⟨o, es, ep, h1, h2, _⟩ := p
    exact ⟨_, PySem.W.kitx_dict, ⟨o, h1, h2.1⟩, fun z => nomatch z⟩
  | @dT a kvs ea =>
    cases (show u = Value.ref a from rx)
    obtain ⟨_, _, xs, _, o, es, ep, h1, h2, _⟩ := (show yO X.prog X.w H s.heap a (.dT kvs) from I.hok a _ ea)
    exact ⟨_, PySem.W.kitx_dict, ⟨o, h1, h2.1⟩, fun z => nomatch z⟩
  | @ins a C dx fs ea cl ha hn htk hm =>
    cases (show u = Value.ref a from rx)
    obtain ⟨mA, O, _⟩ := yeH I.hok ea
    obtain ⟨od, J, _⟩ := O.look
    exact ⟨_, PySem.W.kitx_own (cl.get _) cl.hd ha hn htk hm, J, fun z => nomatch z⟩
theorem jf5 : ∀ {cs : List Addr} {us : List Value}, Vals (cs.map V.ref) us → us = cs.map Value.ref
  | [], _, .nil => rfl
  | c :: cs, _, .cons r t => by rw [jf5 t, (show _ = Value.ref c from r)]; rfl
def YhJ (K : PySem.W.Frag) : List V → Hp → VK → Prop := fun xs H Q => ∃ (x : V) (tp : Addr) (cs : List Addr) (t : Value) (b : Bool), xs = [x, .ref tp] ∧ H tp = some (.tup (cs.map V.ref)) ∧ jby K H x t ∧ PySem.W.kitAny K t (cs.map Value.ref) = some b ∧ Q (.bl b) H
theorem Yhf : ycj X (.builtin "isinstance") (YhJ X.K) := by
  intro pins s σ H xs us Q I r h
  obtain ⟨x, tp, cs, t, b, rfl, htp, ty, ek, q⟩ := h
  obtain ⟨u, w', rfl, ru, rw'⟩ := vals2 r
  cases (show w' = Value.ref tp from rw')
  obtain ⟨_, its, rv, p⟩ := (show yO X.prog X.w H s.heap tp (.tup (cs.map V.ref)) from I.hok tp _ htp)
  obtain ⟨o, h1, h2, n, h3⟩ := p
  obtain ⟨cl, dd, da, sl⟩ := o
  have h2 : cl = .type "tuple" := h2
  have h3 : da = .seq its.toArray n := h3
  subst h2 h3
  rw [← jf5 rv] at ek
  obtain ⟨P, k1, k2, k3⟩ := jby.kit I ru ty
  exact PySem.W.kia_tup k1 I.kIn k2 h1 ek k3 fun tk => ⟨.bl b, H, I.tok tk, rfl, q⟩
theorem Ygw : ∀ (xs : List V) (us : List Value), xs.length = us.length → (∀ (j : Nat) (v : Value), us[j]? = some v → ∃ x, xs[j]? = some x ∧ RelV x v) → Vals xs us
  | [], [], _, _ => .nil
  | [], _ :: _, h, _ => nomatch h
  | _ :: _, [], h, _ => nomatch h
  | x :: xs, u :: us, h, g => by
    obtain ⟨x', e, r⟩ := g 0 u rfl
    have e' : x = x' := Option.some.inj e
    subst e'
    exact .cons r (Ygw xs us (Nat.succ.inj h) fun j v hv => g (j + 1) v hv)
theorem zfC (hc : X.calm = true) : ycj X (.type "list") (fun xs H Q => ∃ p kvs, xs = [.ref p] ∧ H p = some (.dK kvs) ∧ ∀ l, H l = none → Q (.ref l) (upd H l (.lst (kvs.map fun q => kV q.1)))) := by
  intro pins s σ H xs us Q I r h
  obtain ⟨p, kvs, rfl, hp, q⟩ := h
  obtain ⟨u, rfl, ru⟩ := vals1 r
  cases (show u = Value.ref p from ru)
  obtain ⟨hz, hs, vs, kv, hd⟩ := (show yO X.prog X.w H s.heap p (.dK kvs) from I.hok p _ hp)
  have hl : kvs.length = vs.length := Paired.length kv
  obtain ⟨ep, hat⟩ := hd.dictAt
  refine PySem.W.kdl_call (PySem.W.kdl_dict (knd := zN X.prog X.w) (kvs := vs) (ep := ep) hs) (I.ok.hd hc) hat (by rw [← hl]; exact hz) fun h' tk acc c kp e it => ?_
  refine ⟨.ref s.heap.objs.size, _, I.laid (t' := tk) kp (Nat.le_refl _) (show yO X.prog X.w _ h' _ (.lst (kvs.map fun q => kV q.1)) from ⟨by rw [List.length_map]; exact hz, acc.toList, c, ?_, by rw [e]⟩), rfl, q _ (I.hok.fresh (Nat.le_refl _))⟩
  refine Ygw _ _ (by have e1 := it.1; have e2 : acc.toList.length = acc.size := Array.length_toList; rw [List.length_map]; omega) fun j v hv => ?_
  obtain ⟨k, x, hk, hi⟩ := it.2 j v (by rw [← Array.getElem?_toList]; exact hv)
  have hj : j < kvs.length := by rw [hl]; exact (List.getElem?_eq_some_iff.mp hk).1
  obtain ⟨⟨k', v'⟩, hkv⟩ : ∃ z, kvs[j]? = some z := ⟨kvs[j], List.getElem?_eq_getElem hj⟩
  obtain ⟨u, hu, _⟩ := zfB kv hkv
  rw [hk] at hu
  have e3 : k = k' := congrArg Prod.fst (Option.some.inj hu)
  subst e3
  exact ⟨kV k, by rw [List.getElem?_map, hkv]; rfl, ZfB (show Zem k v = true from hi)⟩
theorem Jf5 : bootBuiltins "min" = some (.builtin "min") := by decide +kernel
theorem zf6 : bootBuiltins "sum" = some (.builtin "sum") := by decide +kernel
theorem Zf6 : bootBuiltins "any" = some (.builtin "any") := by decide +kernel
theorem zA : bootBuiltins "isinstance" = some (.builtin "isinstance") := by decide +kernel
theorem ZfC : bootBuiltins "list" = some (.type "list") := by decide +kernel
end
section
variable {X : Cx} {K : PySem.W.Frag} (hK : X.K = K)
include hK
theorem Jc {e : Expr} {ta : TE} {f : Str} {pos : Pos} (he : PE X e ta) (hb : attributeBase e f X.env (eval e X.env) = eval e X.env) : PE X (.Attribute e f pos) (YhF K ta f) := by subst hK; exact Zhz he hb
theorem Zu {o value : Expr} {ta tv : TE} {f : Str} {pos pos' : Pos} (ha : PE X o ta) (hv : PE X value tv) (hs : swapsWith value (some (.Attribute o f pos')) pos.line X.env = pure false) : PS X (.Assign [.Attribute o f pos'] value pos) (jhF K ta tv f) := by subst hK; exact yhz ha hv hs
theorem Ye : IxR X (rIx K) := by subst hK; exact Jhz
theorem yfC : SlR X (jhG K) := by subst hK; exact Zhq
theorem Yx : ycj X (.builtin "len") (fun xs H Q => ∃ p ys, xs = [.ref p] ∧ (SqL K H p ys ∨ SqT K H p ys) ∧ Q (.int ys.length) H) := by subst hK; exact Zgf
theorem zfV : ycj X (.type "list") (fun xs H Q => ∃ p ys, xs = [.ref p] ∧ (SqL K H p ys ∨ SqT K H p ys) ∧ ∀ l, H l = none → Q (.ref l) (upd H l (.lst ys))) := by subst hK; exact ygf
theorem yhs (hc : X.calm = true) : ycj X (.builtin "sum") (ZhH K) := by subst hK; exact ZhA hc
theorem ZgV (hc : X.calm = true) : ycj X (.builtin "any") (yhH K) := by subst hK; exact yhA hc
theorem ZbU : ycj X (.builtin "isinstance") (yhJ K) := by subst hK; exact yhf
theorem ze4 : ycj X (.builtin "isinstance") (YhJ K) := by subst hK; exact Yhf
theorem yaH {tg l : Expr} {tl : TE} (hl : PE X l tl) : PI X tg l (Jhv K tl) := by subst hK; exact Yho hl
end
section
variable {X : Cx} {td : TE} {e : Expr} {apos cpos p pos : Pos}
def jhJ (td : TE) : TE := fun σ H Q => td σ H fun x H1 => ∃ (d : Addr) (kvs : List (Key × V)) (ns : List Int), x = .ref d ∧ H1 d = some (.dK kvs) ∧ kvs.map (fun q => q.2) = ns.map V.int ∧ Q (.int ns.sum) H1
theorem Yfg : ∀ (ns : List Int), preSum (fun i => (ns[i]?).getD 0) ns.length = ns.sum
  | [] => rfl
  | n :: ns => by
    show preSum (fun i => ((n :: ns)[i]?).getD 0) (ns.length + 1) = _
    rw [PySem.W.kdu_shift, List.sum_cons, ← Yfg ns]
    rfl
theorem Yhs (hc : X.calm = true) (hg : Gl X "sum") (hm : X.mg "sum" = none) (he : PE X e td) (hbase : attributeBase e "values" X.env (eval e X.env) = eval e X.env := by rfl) (hline : (apos.endLine == cpos.line) = true := by rfl)
    (hst : starEach [.Call (.Attribute e "values" apos) [] [] cpos] X.env = [(false, eval (.Call (.Attribute e "values" apos) [] [] cpos) X.env)] := by rfl) :
    PE X (.Call (.Name "sum" p) [.Call (.Attribute e "values" apos) [] [] cpos] [] pos) (jhJ td) := by
  intro pins s σ H Q I h
  refine wpAny_Call_Name_kw (zge I hg hm zf6 ?_)
  refine PyProof.Rows.callWith_builtin1 ?_ hst rfl
  rw [hst]
  refine Calls.spliced_cons (wpAny_Call_method (T := "dict") (id := "dict.values") hbase rfl hline F.plainAttrs_dict F.slot_dict_values F.type_dict_values (thn (he pins s σ H _ I h) fun u s1 ⟨x, H1, I1, rx, d, kvs, ns, ex, hd, en, q⟩ => ?_))
  subst ex
  obtain rfl : u = Value.ref d := rx
  obtain ⟨hz, hs, vs, kv, hD⟩ := (show yO X.prog X.w H1 s1.heap d (.dK kvs) from I1.hok d _ hd)
  have hl : kvs.length = vs.length := Paired.length kv
  obtain ⟨ep, hat⟩ := hD.dictAt
  refine ⟨hat.dictOf.typeIs, hat.dictOf.mapOf.noDict, ?_⟩
  have I2 : Inv X pins σ H1 { s1 with heap := s1.heap.push { cls := .type "dict_values", data := .fields #[.ref d] } } := I1.kept (t' := s1.toks) fun b ob q => Heap.get?_push_of_some _ q
  have lay : ({ s1 with heap := s1.heap.push { cls := .type "dict_values", data := .fields #[.ref d] } } : Shared).heap.IsValuesView s1.heap.objs.size d := ⟨_, Heap.get?_push_size _ rfl, rfl, rfl⟩
  refine method_meetsIn F.slot_dict_values F.entry_dict_values rfl (PySem.evalArgs_none ⟨rfl, hat.dictOf.typeIs, F.args_dict_values_1 _, _, meets_dict_values (zN X.prog X.w) d hs, ⟨vs, hat.dictOf⟩, ?_⟩)
  refine Calls.spliced_nil ?_
  have src := PySem.W.kdl_values (prog := X.prog) (w := X.w) (knd := zN X.prog X.w) (d := d) (r := s1.heap.objs.size) (kvs := vs) (ep := ep)
  refine call_sum_walkAnyS ?_
  obtain ⟨oI, Sx, hit, Wk, st⟩ := src.iter X.A.in1 { s1 with heap := s1.heap.push { cls := .type "dict_values", data := .fields #[.ref d] } } (I2.ok.hd hc) ⟨lay, hat.push _⟩
  refine hit _ _ ⟨_, _, _, _, vs.length, _, _, fun i => (ns[i]?).getD 0, rfl, Wk.toS, st, fun b hb => ?_, fun i v hv => ?_, fun s' t' hmv => ?_⟩
  · rcases List.mem_cons.mp hb with z | z
    · rw [z]; exact Nat.lt_of_lt_of_le (Nat.lt_succ_self _) (Nat.le_of_eq (size_push' _ _).symm)
    · rw [List.mem_singleton.mp z]
      exact Nat.lt_of_lt_of_le (Nat.lt_succ_of_lt (src.there _ ⟨lay, hat.push _⟩).2) (Nat.le_of_eq (size_push' _ _).symm)
  · obtain ⟨k, hk⟩ := hv
    have hi : i < kvs.length := by rw [hl]; exact (List.getElem?_eq_some_iff.mp hk).1
    obtain ⟨⟨k', v'⟩, hkv⟩ : ∃ z, kvs[i]? = some z := ⟨kvs[i], List.getElem?_eq_getElem hi⟩
    obtain ⟨u, hu, ru⟩ := zfB kv hkv
    rw [hk] at hu
    have e3 : v = u := congrArg Prod.snd (Option.some.inj hu)
    subst e3
    have e4 : (kvs.map fun q => q.2)[i]? = some v' := by rw [List.getElem?_map, hkv]; rfl
    rw [en, List.getElem?_map] at e4
    obtain ⟨n, hn, e5⟩ := Option.map_eq_some_iff.mp e4
    subst e5
    show ∃ t, v = Value.int ((ns[i]?).getD 0) t
    rw [hn]
    exact ru
  · have e6 : vs.length = ns.length := by
      have e7 := congrArg List.length en
      rw [List.length_map, List.length_map] at e7
      omega
    rw [e6, Yfg]
    have hk : ∀ b o, s1.heap.get? b = some o → s'.heap.get? b = some o := fun b o z => hmv.heap b o (fun hI => absurd (Heap.lt_size z) (by
      rw [List.mem_singleton.mp hI]
      show ¬ (s1.heap.push _).objs.size < s1.heap.objs.size
      rw [size_push']
      omega)) (Heap.get?_push_of_some _ (Heap.get?_push_of_some _ z))
    rw [Moved.eq_with hmv]
    exact ⟨.int _, H1, I1.kept hk, ⟨_, rfl⟩, q⟩
end
section
variable {X : Cx} {K : PySem.W.Frag} (hK : X.K = K)
include hK
theorem jhs (hu : X.A.units + 64 < cLine) : OpR X (compareOp .NotEq) (YhH K) := by subst hK; exact YhA hu
end
theorem Jhs {k : Nat} {A : Around} (r : yby k A) : A.units + 64 < cLine := by have := r.un; omega
end L2
namespace Lr
open PySem PySem.Spec PyProof.Rows L2
def top (i : Nat) : Stmt := PySem.Challenge.pw_landregister_s01_answers.main.body.getD i (.Pass ⟨0, 0, 0, 0⟩)
abbrev za1 : Stmt := top 1
abbrev YaH : Stmt := top 2
abbrev jJ : Stmt := top 3
abbrev Yal : Stmt := top 4
abbrev JD : Stmt := top 5
abbrev Jbk : Stmt := top 6
abbrev JaB : Stmt := top 9
abbrev z9 : Stmt := inClass (top 10) 0
abbrev jA : Stmt := inClass (top 10) 1
abbrev Zi : Stmt := inClass (top 10) 2
abbrev Jq : Stmt := inClass (top 10) 3
abbrev zK : Stmt := inClass (top 10) 4
abbrev zr : Stmt := inClass (top 10) 5
abbrev ZQ : Stmt := inClass (top 10) 6
abbrev zB : Stmt := inClass (top 11) 0
abbrev Yo : Stmt := inClass (top 11) 1
abbrev Yl : Stmt := inClass (top 11) 2
abbrev ju : Stmt := inClass (top 12) 0
abbrev jl : Stmt := inClass (top 12) 1
abbrev Jl : Stmt := inClass (top 12) 2
abbrev Z9 : Stmt := inClass (top 13) 0
abbrev jn : Stmt := inClass (top 13) 1
abbrev YB : Stmt := inClass (top 13) 2
abbrev Zr : Stmt := inClass (top 13) 3
abbrev yr : Stmt := inClass (top 13) 4
abbrev zm : Stmt := inClass (top 14) 0
abbrev jB : Stmt := inClass (top 14) 1
abbrev yQ : Stmt := inClass (top 15) 0
abbrev jx : Stmt := inClass (top 15) 1
abbrev ZK : Stmt := inClass (top 15) 2
abbrev yK : Stmt := inClass (top 16) 0
abbrev Jx : Stmt := inClass (top 17) 0
abbrev YQ : Stmt := inClass (top 18) 0
abbrev Zh : Stmt := inClass (top 18) 1
abbrev Yr : Stmt := inClass (top 18) 2
abbrev jo : Stmt := inClass (top 18) 3
abbrev Jo : Stmt := inClass (top 18) 4
abbrev YK : Stmt := inClass (top 18) 5
abbrev jQ : Stmt := inClass (top 19) 0
abbrev zy : Stmt := inClass (top 19) 1
abbrev yh : Stmt := inClass (top 19) 2
abbrev jr : Stmt := inClass (top 19) 3
abbrev zp : Stmt := inClass (top 19) 4
abbrev jK : Stmt := inClass (top 19) 5
abbrev Y9 : Stmt := inClass (top 20) 0
abbrev Yi : Stmt := inClass (top 20) 1
abbrev Ju : Stmt := inClass (top 20) 2
abbrev Jr : Stmt := inClass (top 20) 3
abbrev JQ : Stmt := inClass (top 20) 4
abbrev JK : Stmt := inClass (top 21) 0
abbrev JB : Stmt := inClass (top 21) 1
abbrev YF : Stmt := inClass (top 21) 2
abbrev jal : Stmt := inClass (top 22) 0
abbrev Ji : Stmt := inClass (top 22) 1
abbrev Zy : Stmt := inClass (top 22) 2
abbrev Zv : Stmt := inClass (top 22) 3
abbrev j9 : Stmt := inClass (top 24) 0
abbrev Yv : Stmt := inClass (top 24) 1
abbrev ZC : Stmt := inClass (top 24) 2
abbrev Yk : Stmt := inClass (top 24) 3
abbrev zR : Stmt := inClass (top 24) 4
abbrev J9 : Stmt := inClass (top 24) 5
abbrev Jal : Stmt := inClass (top 35) 0
abbrev jT : Stmt := inClass (top 35) 1
abbrev zam : Stmt := inClass (top 35) 2
abbrev zL : Stmt := inClass (top 35) 3
abbrev jF : Stmt := inClass (top 35) 4
abbrev JF : Stmt := inClass (top 35) 5
abbrev zG : Stmt := inClass (top 35) 6
abbrev yp : Stmt := inClass (top 35) 7
abbrev zaa : Stmt := top 37
abbrev Zaa : Stmt := top 38
abbrev zE : Stmt := top 39
abbrev Zam : Stmt := top 40
abbrev yam : Stmt := top 41
abbrev Jab : Stmt := top 42
abbrev ZR : Stmt := top 43
abbrev zac : Stmt := top 44
abbrev yaT : Stmt := top 63
abbrev yR : Stmt := top 64
abbrev zbl : Stmt := top 65
abbrev zaC : Stmt := top 66
abbrev Ys : Stmt := top 67
abbrev Zc3 : Stmt := top 68
theorem Ze4 : Ze ["places", "charge", "place"] ["places", "charge"] (za za1) := ⟨rfl, rfl, rfl, by decide +kernel, rfl, by decide +kernel, by decide +kernel⟩
theorem zez : Ze ["places", "charge", "place"] ["places", "charge"] (za YaH) := ⟨rfl, rfl, rfl, by decide +kernel, rfl, by decide +kernel, by decide +kernel⟩
theorem ydy : Ze ["places", "one", "other", "place"] ["places", "one", "other"] (za jJ) := ⟨rfl, rfl, rfl, by decide +kernel, rfl, by decide +kernel, by decide +kernel⟩
theorem Yba : Ze ["places", "one", "other", "filled", "left", "place", "part"] ["places", "one", "other"] (za Yal) := ⟨rfl, rfl, rfl, by decide +kernel, rfl, by decide +kernel, by decide +kernel⟩
theorem Zce : Ze ["one", "part", "other", "rest", "place"] ["one", "part", "other", "rest"] (za JD) := ⟨rfl, rfl, rfl, by decide +kernel, rfl, by decide +kernel, by decide +kernel⟩
theorem Zcy : Ze ["places", "given", "amount", "parts", "left", "place", "part"] ["places", "given", "amount"] (za Jbk) := ⟨rfl, rfl, rfl, by decide +kernel, rfl, by decide +kernel, by decide +kernel⟩
theorem jgw : Ze ["entries", "number"] ["entries", "number"] (za JaB) := ⟨rfl, rfl, rfl, by decide +kernel, rfl, by decide +kernel, by decide +kernel⟩
theorem ZfV : Ze ["self", "day"] ["self", "day"] (za z9) := ⟨rfl, rfl, rfl, by decide +kernel, rfl, by decide +kernel, by decide +kernel⟩
theorem YeI : Ze ["self", "persons", "plots"] ["self", "persons", "plots"] (za jA) := ⟨rfl, rfl, rfl, by decide +kernel, rfl, by decide +kernel, by decide +kernel⟩
theorem jcz : Ze ["self", "entries"] ["self", "entries"] (za Zi) := ⟨rfl, rfl, rfl, by decide +kernel, rfl, by decide +kernel, by decide +kernel⟩
theorem zdP : Ze ["self", "sheet"] ["self", "sheet"] (za Jq) := ⟨rfl, rfl, rfl, by decide +kernel, rfl, by decide +kernel, by decide +kernel⟩
theorem jfo : Ze ["self", "sheet"] ["self", "sheet"] (za zK) := ⟨rfl, rfl, rfl, by decide +kernel, rfl, by decide +kernel, by decide +kernel⟩
theorem ZdP : Ze ["self", "number", "sheet"] ["self", "number", "sheet"] (za zr) := ⟨rfl, rfl, rfl, by decide +kernel, rfl, by decide +kernel, by decide +kernel⟩
theorem YfC : Ze ["self", "number", "sheet"] ["self", "number", "sheet"] (za ZQ) := ⟨rfl, rfl, rfl, by decide +kernel, rfl, by decide +kernel, by decide +kernel⟩
theorem jeI : Ze ["self", "day", "plot"] ["self", "day", "plot"] (za zB) := ⟨rfl, rfl, rfl, by decide +kernel, rfl, by decide +kernel, by decide +kernel⟩
theorem ydK : Ze ["self", "persons", "plots"] ["self", "persons", "plots"] (za Yo) := ⟨rfl, rfl, rfl, by decide +kernel, rfl, by decide +kernel, by decide +kernel⟩
theorem Jda : Ze ["self", "entries"] ["self", "entries"] (za Yl) := ⟨rfl, rfl, rfl, by decide +kernel, rfl, by decide +kernel, by decide +kernel⟩
theorem Jei : Ze ["self", "day", "plot", "person"] ["self", "day", "plot", "person"] (za ju) := ⟨rfl, rfl, rfl, by decide +kernel, rfl, by decide +kernel, by decide +kernel⟩
theorem zdb : Ze ["self", "persons", "plots"] ["self", "persons", "plots"] (za jl) := ⟨rfl, rfl, rfl, by decide +kernel, rfl, by decide +kernel, by decide +kernel⟩
theorem Zdb : Ze ["self", "persons", "plots"] ["self", "persons", "plots"] (za Jl) := ⟨rfl, rfl, rfl, by decide +kernel, rfl, by decide +kernel, by decide +kernel⟩
theorem yfV : Ze ["self", "day", "plot", "giver", "person", "knows"] ["self", "day", "plot", "giver", "person", "knows"] (za Z9) := ⟨rfl, rfl, rfl, by decide +kernel, rfl, by decide +kernel, by decide +kernel⟩
theorem zdo : Ze ["self", "persons"] ["self", "persons"] (za jn) := ⟨rfl, rfl, rfl, by decide +kernel, rfl, by decide +kernel, by decide +kernel⟩
theorem JeI : Ze ["self", "persons", "plots"] ["self", "persons", "plots"] (za YB) := ⟨rfl, rfl, rfl, by decide +kernel, rfl, by decide +kernel, by decide +kernel⟩
theorem ydP : Ze ["self", "sheet"] ["self", "sheet"] (za Zr) := ⟨rfl, rfl, rfl, by decide +kernel, rfl, by decide +kernel, by decide +kernel⟩
theorem YdP : Ze ["self", "number", "sheet"] ["self", "number", "sheet"] (za yr) := ⟨rfl, rfl, rfl, by decide +kernel, rfl, by decide +kernel, by decide +kernel⟩
theorem ydb : Ze ["self", "number", "sheet"] ["self", "number", "sheet"] (za zm) := ⟨rfl, rfl, rfl, by decide +kernel, rfl, by decide +kernel, by decide +kernel⟩
theorem zeJ : Ze ["self", "number", "sheet"] ["self", "number", "sheet"] (za jB) := ⟨rfl, rfl, rfl, by decide +kernel, rfl, by decide +kernel, by decide +kernel⟩
theorem jfC : Ze ["self", "day", "plot", "giver", "person", "amount", "knows"] ["self", "day", "plot", "giver", "person", "amount", "knows"] (za yQ) := ⟨rfl, rfl, rfl, by decide +kernel, rfl, by decide +kernel, by decide +kernel⟩
theorem Zez : Ze ["self", "persons", "plots"] ["self", "persons", "plots"] (za jx) := ⟨rfl, rfl, rfl, by decide +kernel, rfl, by decide +kernel, by decide +kernel⟩
theorem Jfo : Ze ["self", "number", "sheet"] ["self", "number", "sheet"] (za ZK) := ⟨rfl, rfl, rfl, by decide +kernel, rfl, by decide +kernel, by decide +kernel⟩
theorem zfp : Ze ["self", "number", "sheet"] ["self", "number", "sheet"] (za yK) := ⟨rfl, rfl, rfl, by decide +kernel, rfl, by decide +kernel, by decide +kernel⟩
theorem yez : Ze ["self", "number", "sheet"] ["self", "number", "sheet"] (za Jx) := ⟨rfl, rfl, rfl, by decide +kernel, rfl, by decide +kernel, by decide +kernel⟩
theorem JfC : Ze ["self", "day", "noted", "knows"] ["self", "day", "noted", "knows"] (za YQ) := ⟨rfl, rfl, rfl, by decide +kernel, rfl, by decide +kernel, by decide +kernel⟩
theorem Zcr : Ze ["self", "entries"] ["self", "entries"] (za Zh) := ⟨rfl, rfl, rfl, by decide +kernel, rfl, by decide +kernel, by decide +kernel⟩
theorem jdP : Ze ["self", "entries"] ["self", "entries"] (za Yr) := ⟨rfl, rfl, rfl, by decide +kernel, rfl, by decide +kernel, by decide +kernel⟩
theorem YdK : Ze ["self", "sheet"] ["self", "sheet"] (za jo) := ⟨rfl, rfl, rfl, by decide +kernel, rfl, by decide +kernel, by decide +kernel⟩
theorem ybO : Ze ["self", "number", "sheet", "noted"] ["self", "number", "sheet"] (za Jo) := ⟨rfl, rfl, rfl, by decide +kernel, rfl, by decide +kernel, by decide +kernel⟩
theorem Ydy : Ze ["self", "number", "sheet", "later"] ["self", "number", "sheet"] (za YK) := ⟨rfl, rfl, rfl, by decide +kernel, rfl, by decide +kernel, by decide +kernel⟩
theorem zfD : Ze ["self", "day", "struck", "striker"] ["self", "day", "struck", "striker"] (za jQ) := ⟨rfl, rfl, rfl, by decide +kernel, rfl, by decide +kernel, by decide +kernel⟩
theorem Yez : Ze ["self", "persons", "plots"] ["self", "persons", "plots"] (za zy) := ⟨rfl, rfl, rfl, by decide +kernel, rfl, by decide +kernel, by decide +kernel⟩
theorem ycr : Ze ["self", "entries"] ["self", "entries"] (za yh) := ⟨rfl, rfl, rfl, by decide +kernel, rfl, by decide +kernel, by decide +kernel⟩
theorem JdP : Ze ["self", "entries"] ["self", "entries"] (za jr) := ⟨rfl, rfl, rfl, by decide +kernel, rfl, by decide +kernel, by decide +kernel⟩
theorem jdK : Ze ["self", "sheet"] ["self", "sheet"] (za zp) := ⟨rfl, rfl, rfl, by decide +kernel, rfl, by decide +kernel, by decide +kernel⟩
theorem Zfp : Ze ["self", "number", "sheet"] ["self", "number", "sheet"] (za jK) := ⟨rfl, rfl, rfl, by decide +kernel, rfl, by decide +kernel, by decide +kernel⟩
theorem YfV : Ze ["self", "day", "one", "other"] ["self", "day", "one", "other"] (za Y9) := ⟨rfl, rfl, rfl, by decide +kernel, rfl, by decide +kernel, by decide +kernel⟩
theorem Jcz : Ze ["self", "entries"] ["self", "entries"] (za Yi) := ⟨rfl, rfl, rfl, by decide +kernel, rfl, by decide +kernel, by decide +kernel⟩
theorem zej : Ze ["self", "entries"] ["self", "entries"] (za Ju) := ⟨rfl, rfl, rfl, by decide +kernel, rfl, by decide +kernel, by decide +kernel⟩
theorem zdQ : Ze ["self", "sheet"] ["self", "sheet"] (za Jr) := ⟨rfl, rfl, rfl, by decide +kernel, rfl, by decide +kernel, by decide +kernel⟩
theorem ZfD : Ze ["self", "number", "sheet"] ["self", "number", "sheet"] (za JQ) := ⟨rfl, rfl, rfl, by decide +kernel, rfl, by decide +kernel, by decide +kernel⟩
theorem yfp : Ze ["self", "day", "plot"] ["self", "day", "plot"] (za JK) := ⟨rfl, rfl, rfl, by decide +kernel, rfl, by decide +kernel, by decide +kernel⟩
theorem ZeJ : Ze ["self", "sheet"] ["self", "sheet"] (za JB) := ⟨rfl, rfl, rfl, by decide +kernel, rfl, by decide +kernel, by decide +kernel⟩
theorem ye4 : Ze ["self", "number", "sheet"] ["self", "number", "sheet"] (za YF) := ⟨rfl, rfl, rfl, by decide +kernel, rfl, by decide +kernel, by decide +kernel⟩
theorem Ygg : Ze ["self", "day", "voided"] ["self", "day", "voided"] (za jal) := ⟨rfl, rfl, rfl, by decide +kernel, rfl, by decide +kernel, by decide +kernel⟩
theorem JcN : Ze ["self", "entries"] ["self", "entries"] (za Ji) := ⟨rfl, rfl, rfl, by decide +kernel, rfl, by decide +kernel, by decide +kernel⟩
theorem jez : Ze ["self", "entries"] ["self", "entries"] (za Zy) := ⟨rfl, rfl, rfl, by decide +kernel, rfl, by decide +kernel, by decide +kernel⟩
theorem Zej : Ze ["self", "sheet"] ["self", "sheet"] (za Zv) := ⟨rfl, rfl, rfl, by decide +kernel, rfl, by decide +kernel, by decide +kernel⟩
theorem jfV : Ze ["self", "owner", "void"] ["self", "owner", "void"] (za j9) := ⟨rfl, rfl, rfl, by decide +kernel, rfl, by decide +kernel, by decide +kernel⟩
theorem yej : Ze ["self", "number", "entry"] ["self", "number", "entry"] (za Yv) := ⟨rfl, rfl, rfl, by decide +kernel, rfl, by decide +kernel, by decide +kernel⟩
theorem yeJ : Ze ["self", "knows"] ["self", "knows"] (za ZC) := ⟨rfl, rfl, rfl, by decide +kernel, rfl, by decide +kernel, by decide +kernel⟩
theorem jaL : Ze ["self", "entry"] ["self"] (za Yk) := ⟨rfl, rfl, rfl, by decide +kernel, rfl, by decide +kernel, by decide +kernel⟩
theorem yfD : Ze ["self", "number", "entry"] ["self", "number", "entry"] (za zR) := ⟨rfl, rfl, rfl, by decide +kernel, rfl, by decide +kernel, by decide +kernel⟩
theorem JfV : Ze ["self", "number"] ["self", "number"] (za J9) := ⟨rfl, rfl, rfl, by decide +kernel, rfl, by decide +kernel, by decide +kernel⟩
theorem jgg : Ze ["self"] ["self"] (za Jal) := ⟨rfl, rfl, rfl, by decide +kernel, rfl, by decide +kernel, by decide +kernel⟩
theorem yc3 : Ze ["self", "persons", "owners", "owner"] ["self", "persons", "owners"] (za jT) := ⟨rfl, rfl, rfl, by decide +kernel, rfl, by decide +kernel, by decide +kernel⟩
theorem YeJ : Ze ["self", "entry", "refused"] ["self", "entry"] (za zam) := ⟨rfl, rfl, rfl, by decide +kernel, rfl, by decide +kernel, by decide +kernel⟩
theorem Yfp : Ze ["self", "entry"] ["self", "entry"] (za zL) := ⟨rfl, rfl, rfl, by decide +kernel, rfl, by decide +kernel, by decide +kernel⟩
theorem Ye4 : Ze ["self", "entry"] ["self", "entry"] (za jF) := ⟨rfl, rfl, rfl, by decide +kernel, rfl, by decide +kernel, by decide +kernel⟩
theorem je4 : Ze ["self", "plot"] ["self", "plot"] (za JF) := ⟨rfl, rfl, rfl, by decide +kernel, rfl, by decide +kernel, by decide +kernel⟩
theorem jba : Ze ["self", "plot", "day", "known", "sheet", "number", "entry"] ["self", "plot", "day", "known"] (za zG) := ⟨rfl, rfl, rfl, by decide +kernel, rfl, by decide +kernel, by decide +kernel⟩
theorem yaU : Ze ["self", "known", "void", "entry"] ["self", "known"] (za yp) := ⟨rfl, rfl, rfl, by decide +kernel, rfl, by decide +kernel, by decide +kernel⟩
theorem Yc3 : Ze ["number", "rows", "told", "row"] ["number", "rows"] (za zaa) := ⟨rfl, rfl, rfl, by decide +kernel, rfl, by decide +kernel, by decide +kernel⟩
theorem zfW : Ze ["sheet"] ["sheet"] (za Zaa) := ⟨rfl, rfl, rfl, by decide +kernel, rfl, by decide +kernel, by decide +kernel⟩
theorem yce : Ze ["sheet", "rows", "place"] ["sheet"] (za zE) := ⟨rfl, rfl, rfl, by decide +kernel, rfl, by decide +kernel, by decide +kernel⟩
theorem Jgg : Ze ["sheet", "charge", "amount"] ["sheet", "charge", "amount"] (za Zam) := ⟨rfl, rfl, rfl, by decide +kernel, rfl, by decide +kernel, by decide +kernel⟩
theorem zgh : Ze ["sheet"] ["sheet"] (za yam) := ⟨rfl, rfl, rfl, by decide +kernel, rfl, by decide +kernel, by decide +kernel⟩
theorem Ycr : Ze ["sheet", "amount", "parts", "rows", "charge"] ["sheet", "amount"] (za Jab) := ⟨rfl, rfl, rfl, by decide +kernel, rfl, by decide +kernel, by decide +kernel⟩
theorem zbz : Ze ["sheet", "rows", "number", "entry"] ["sheet"] (za ZR) := ⟨rfl, rfl, rfl, by decide +kernel, rfl, by decide +kernel, by decide +kernel⟩
theorem JaL : Ze ["book", "plot", "known", "rows", "day", "entry", "sheet", "persons"] ["book", "plot", "known"] (za zac) := ⟨rfl, rfl, rfl, by decide +kernel, rfl, by decide +kernel, by decide +kernel⟩
theorem Jbq : Ze ["calls", "book", "answered", "start", "end", "numbers"] ["calls"] (za yaT) := ⟨rfl, rfl, rfl, by decide +kernel, rfl, by decide +kernel, by decide +kernel⟩
theorem ZdQ : Ze ["calls", "start", "kind"] ["calls", "start"] (za yR) := ⟨rfl, rfl, rfl, by decide +kernel, rfl, by decide +kernel, by decide +kernel⟩
theorem Jg3 : Ze ["book", "call"] ["book", "call"] (za zbl) := ⟨rfl, rfl, rfl, by decide +kernel, rfl, by decide +kernel, by decide +kernel⟩
theorem jfg : Ze ["call", "kind"] ["call"] (za zaC) := ⟨rfl, rfl, rfl, by decide +kernel, rfl, by decide +kernel, by decide +kernel⟩
theorem ydQ : Ze ["book", "call"] ["book", "call"] (za Ys) := ⟨rfl, rfl, rfl, by decide +kernel, rfl, by decide +kernel, by decide +kernel⟩
theorem Zgh : Ze ["book", "call", "kind", "sheet"] ["book", "call"] (za Zc3) := ⟨rfl, rfl, rfl, by decide +kernel, rfl, by decide +kernel, by decide +kernel⟩
structure Adr where
  Zbl : Addr
  Ydb : FuncData
  YaT : Addr
  zcA : FuncData
  ZL : Addr
  yaR : FuncData
  Yam : Addr
  Zbz : FuncData
  yL : Addr
  YaR : FuncData
  ybl : Addr
  jdb : FuncData
  Z4 : Addr
  yaL : FuncData
  jw : Addr
  yaa : FuncData
  yl : Addr
  yaW : FuncData
  jd : Addr
  JT : FuncData
  Yj : Addr
  Jax : FuncData
  zg : Addr
  ybo : FuncData
  jf : Addr
  zay : FuncData
  YL : Addr
  ybz : FuncData
  Zq : Addr
  Zae : FuncData
  ym : Addr
  Yau : FuncData
  ye : Addr
  yae : FuncData
  Zj : Addr
  Yah : FuncData
  zf : Addr
  Yae : FuncData
  yj : Addr
  jae : FuncData
  Jw : Addr
  Ybl : FuncData
  Zg : Addr
  Jai : FuncData
  yq : Addr
  YaW : FuncData
  Yg : Addr
  Zay : FuncData
  jj : Addr
  yay : FuncData
  Zm : Addr
  Jae : FuncData
  yC : Addr
  jaW : FuncData
  jR : Addr
  Ybz : FuncData
  Yy : Addr
  zaM : FuncData
  jL : Addr
  Ybo : FuncData
  JL : Addr
  jbo : FuncData
  jy : Addr
  ZaM : FuncData
  JR : Addr
  jbz : FuncData
  Yh : Addr
  jP : FuncData
  Js : Addr
  Yay : FuncData
  Yp : Addr
  jau : FuncData
  Jp : Addr
  Jau : FuncData
  zM : Addr
  Jbo : FuncData
  ZS : Addr
  Jbz : FuncData
  Jy : Addr
  yaM : FuncData
  jh : Addr
  JP : FuncData
  Zt : Addr
  jay : FuncData
  zq : Addr
  zav : FuncData
  ZM : Addr
  zbp : FuncData
  Yaa : Addr
  jbX : FuncData
  ji : Addr
  zU : FuncData
  Jv : Addr
  YaD : FuncData
  yt : Addr
  Jay : FuncData
  yS : Addr
  zbA : FuncData
  yM : Addr
  Zbp : FuncData
  YC : Addr
  JaW : FuncData
  ZG : Addr
  Jba : FuncData
  jam : Addr
  jcr : FuncData
  zj : Addr
  j0 : FuncData
  zz : Addr
  YaM : FuncData
  Zw : Addr
  jaD : FuncData
  yU : Addr
  jbl : FuncData
  jq : Addr
  jah : FuncData
  Zn : Addr
  ZJ : FuncData
  jk : Addr
  jU : FuncData
  jC : Addr
  Jaq : FuncData
  yN : Addr
  jaT : FuncData
  Zac : Addr
  ZbA : FuncData
  zV : Addr
  Jbl : FuncData
  yac : Addr
  ybA : FuncData
  yE : Addr
  jaR : FuncData
  yx : Addr
  zao : FuncData
  Yz : Addr
  jaH : FuncData
  Jt : Addr
  Y4 : FuncData
  Ym : Addr
  J2 : FuncData
  YD : Addr
  jaa : FuncData
  Jaa : Addr
  zbm : FuncData
  YM : Addr
  JaR : FuncData
  Jam : Addr
  YbA : FuncData
  zan : Addr
  jbA : FuncData
  Zan : Addr
  JbA : FuncData
  YS : Addr
  Za1 : FuncData
  yan : Addr
  zbB : FuncData
  jaw : Addr
  zbr : FuncData
  JS : Addr
  ya1 : FuncData
  Zbm : Addr
  Jdb : FuncData
  ZaC : Addr
  Jb1 : FuncData
  Yt : Addr
  Yac : FuncData
  jc3 : Addr
  jeJ : FuncData
  JaD : Addr
  jZ : Addr
  yG : Addr
  zaX : Addr
  Jb : Addr
  jc : Addr
  Zd : Addr
  Yb : Addr
  Yd : Addr
  Jf : Addr
  Jg : Addr
  Je : Addr
  yg : Addr
  Jk : Addr
  JC : Addr
  Jc3 : Value
  ZcA : Value
  Zdo : Value
  Jez : Value
  ycA : Value
  YdQ : Value
  jdQ : Value
  JdQ : Value
  jgL : Value
  zc4 : Value
  YfD : Value
  zeA : Value
  jfD : Value
  JfD : Value
  zfE : Value
  zdR : Value
  ZfE : Value
  ygh : Value
  Je4 : Value
  JgL : Value
  Ygh : Value
  ze5 : Value
  zgM : Value
  ZgM : Value
  yfE : Value
  ygM : Value
  Ze5 : Value
  Yw : Addr
structure Txt (K : PySem.W.Frag) (mg : Str → Option Value) (A : Adr) : Prop where
  YfE : Fun K "all_of" "all_of" za1 A.Zbl A.Ydb
  Jgw : Binds K A.Ydb ["places", "charge"] []
  zgx : mg "all_of" = some (.ref A.Zbl)
  ye5 : Fun K "without" "without" YaH A.YaT A.zcA
  yf6 : Binds K A.zcA ["places", "charge"] []
  Yf6 : mg "without" = some (.ref A.YaT)
  YcA : Fun K "stands_first" "stands_first" jJ A.ZL A.yaR
  ZdR : Binds K A.yaR ["places", "one", "other"] []
  ydR : mg "stands_first" = some (.ref A.ZL)
  YdR : Fun K "put_ahead" "put_ahead" Yal A.Yam A.Zbz
  Jfg : Binds K A.Zbz ["places", "one", "other"] []
  zfh : mg "put_ahead" = some (.ref A.Yam)
  jcA : Fun K "shared_place" "shared_place" JD A.yL A.YaR
  jdR : Binds K A.YaR ["one", "part", "other", "rest"] []
  JdR : mg "shared_place" = some (.ref A.yL)
  jfE : Fun K "shares" "shares" Jbk A.ybl A.jdb
  Zgx : Binds K A.jdb ["places", "given", "amount"] []
  ygx : mg "shares" = some (.ref A.ybl)
  Zbr : Fun K "entry_at" "entry_at" JaB A.Z4 A.yaL
  ybU : Binds K A.yaL ["entries", "number"] []
  YbU : mg "entry_at" = some (.ref A.Z4)
  JeJ : Fun K "__init__" "Entry.__init__" z9 A.jw A.yaa
  zbb : Binds K A.yaa ["self", "day"] []
  zdc : Fun K "is_sound" "Entry.is_sound" jA A.yl A.yaW
  Zbb : Binds K A.yaW ["self", "persons", "plots"] []
  Zbf : Fun K "finds_its_entries" "Entry.finds_its_entries" Zi A.jd A.JT
  Zz : Binds K A.JT ["self", "entries"] []
  Ycj : Fun K "may_be_made" "Entry.may_be_made" Jq A.Yj A.Jax
  Jbg : Binds K A.Jax ["self", "sheet"] []
  zdS : Fun K "settle" "Entry.settle" zK A.zg A.ybo
  ZV : Binds K A.ybo ["self", "sheet"] []
  jcj : Fun K "take_effect" "Entry.take_effect" zr A.jf A.zay
  ZX : Binds K A.zay ["self", "number", "sheet"] []
  jem : Fun K "enter" "Entry.enter" ZQ A.YL A.ybz
  Jem : Binds K A.ybz ["self", "number", "sheet"] []
  Zdc : Fun K "__init__" "PlotEntry.__init__" zB A.Zq A.Zae
  jbU : Binds K A.Zae ["self", "day", "plot"] []
  zb2 : Fun K "is_sound" "PlotEntry.is_sound" Yo A.ym A.Yau
  Zb2 : Binds K A.Yau ["self", "persons", "plots"] []
  ZbB : Fun K "plot_among" "PlotEntry.plot_among" Yl A.ye A.yae
  JG : Binds K A.yae ["self", "entries"] []
  JcA : Fun K "__init__" "PersonEntry.__init__" ju A.Zj A.Yah
  ybr : Binds K A.Yah ["self", "day", "plot", "person"] []
  ybB : Fun K "is_there" "PersonEntry.is_there" jl A.zf A.Yae
  yV : Binds K A.Yae ["self", "persons", "plots"] []
  YbB : Fun K "is_sound" "PersonEntry.is_sound" Jl A.yj A.jae
  jbB : Binds K A.jae ["self", "persons", "plots"] []
  zeK : Fun K "__init__" "Grant.__init__" Z9 A.Jw A.Ybl
  Jcr : Binds K A.Ybl ["self", "day", "plot", "giver", "person", "knows"] []
  YbO : Fun K "has_its_giver" "Grant.has_its_giver" jn A.Zg A.Jai
  Zav : Binds K A.Jai ["self", "persons"] []
  ydc : Fun K "is_sound" "Grant.is_sound" YB A.yq A.YaW
  JbU : Binds K A.YaW ["self", "persons", "plots"] []
  Jcj : Fun K "may_be_made" "Grant.may_be_made" Zr A.Yg A.Zay
  zaE : Binds K A.Zay ["self", "sheet"] []
  zck : Fun K "take_effect" "Grant.take_effect" yr A.jj A.yay
  zbh : Binds K A.yay ["self", "number", "sheet"] []
  JbB : Fun K "take_effect" "Transfer.take_effect" zm A.Zm A.Jae
  zbC : Binds K A.Jae ["self", "number", "sheet"] []
  Ydc : Fun K "enter" "Transfer.enter" jB A.yC A.jaW
  jdc : Binds K A.jaW ["self", "number", "sheet"] []
  zen : Fun K "__init__" "Charge.__init__" yQ A.jR A.Ybz
  Zen : Binds K A.Ybz ["self", "day", "plot", "giver", "person", "amount", "knows"] []
  zcP : Fun K "is_sound" "Charge.is_sound" jx A.Yy A.zaM
  ZcP : Binds K A.zaM ["self", "persons", "plots"] []
  ZdS : Fun K "enter" "Charge.enter" ZK A.jL A.Ybo
  ydS : Binds K A.Ybo ["self", "number", "sheet"] []
  YdS : Fun K "enter" "Notice.enter" yK A.JL A.jbo
  jdS : Binds K A.jbo ["self", "number", "sheet"] []
  ycP : Fun K "enter" "Objection.enter" Jx A.jy A.ZaM
  YcP : Binds K A.ZaM ["self", "number", "sheet"] []
  yen : Fun K "__init__" "Fulfil.__init__" YQ A.JR A.jbz
  Yen : Binds K A.jbz ["self", "day", "noted", "knows"] []
  Ya1 : Fun K "finds_its_entries" "Fulfil.finds_its_entries" Zh A.Yh A.jP
  ja1 : Binds K A.jP ["self", "entries"] []
  Zck : Fun K "plot_among" "Fulfil.plot_among" Yr A.Js A.Yay
  yck : Binds K A.Yay ["self", "entries"] []
  yb2 : Fun K "may_be_made" "Fulfil.may_be_made" jo A.Yp A.jau
  Yb2 : Binds K A.jau ["self", "sheet"] []
  jb2 : Fun K "take_effect" "Fulfil.take_effect" Jo A.Jp A.Jau
  Jb2 : Binds K A.Jau ["self", "number", "sheet"] []
  JdS : Fun K "enter" "Fulfil.enter" YK A.zM A.Jbo
  zdT : Binds K A.Jbo ["self", "number", "sheet"] []
  jen : Fun K "__init__" "Strike.__init__" jQ A.ZS A.Jbz
  Jen : Binds K A.Jbz ["self", "day", "struck", "striker"] []
  jcP : Fun K "is_sound" "Strike.is_sound" zy A.Jy A.yaM
  JcP : Binds K A.yaM ["self", "persons", "plots"] []
  Ja1 : Fun K "finds_its_entries" "Strike.finds_its_entries" yh A.jh A.JP
  za2 : Binds K A.JP ["self", "entries"] []
  Yck : Fun K "plot_among" "Strike.plot_among" jr A.Zt A.jay
  jck : Binds K A.jay ["self", "entries"] []
  zb3 : Fun K "may_be_made" "Strike.may_be_made" zp A.zq A.zav
  Zb3 : Binds K A.zav ["self", "sheet"] []
  ZdT : Fun K "enter" "Strike.enter" jK A.ZM A.zbp
  ydT : Binds K A.zbp ["self", "number", "sheet"] []
  ZeK : Fun K "__init__" "Ahead.__init__" Y9 A.Yaa A.jbX
  yeK : Binds K A.jbX ["self", "day", "one", "other"] []
  ybf : Fun K "finds_its_entries" "Ahead.finds_its_entries" Yi A.ji A.zU
  Ybf : Binds K A.zU ["self", "entries"] []
  zcB : Fun K "plot_among" "Ahead.plot_among" Ju A.Jv A.YaD
  ZcB : Binds K A.YaD ["self", "entries"] []
  Jck : Fun K "may_be_made" "Ahead.may_be_made" Jr A.yt A.Jay
  zcl : Binds K A.Jay ["self", "sheet"] []
  zeo : Fun K "enter" "Ahead.enter" JQ A.yS A.zbA
  Zeo : Binds K A.zbA ["self", "number", "sheet"] []
  YdT : Fun K "__init__" "Correct.__init__" JK A.yM A.Zbp
  jdT : Binds K A.Zbp ["self", "day", "plot"] []
  Jdc : Fun K "settle" "Correct.settle" JB A.YC A.JaW
  zdd : Binds K A.JaW ["self", "sheet"] []
  jdy : Fun K "enter" "Correct.enter" YF A.ZG A.Jba
  Jdy : Binds K A.Jba ["self", "number", "sheet"] []
  Zfh : Fun K "__init__" "Void.__init__" jal A.jam A.jcr
  yfh : Binds K A.jcr ["self", "day", "voided"] []
  ybm : Fun K "finds_its_entries" "Void.finds_its_entries" Ji A.zj A.j0
  Ybm : Binds K A.j0 ["self", "entries"] []
  zcQ : Fun K "plot_among" "Void.plot_among" Zy A.zz A.YaM
  ZcQ : Binds K A.YaM ["self", "entries"] []
  ycB : Fun K "may_be_made" "Void.may_be_made" Zv A.Zw A.jaD
  YcB : Binds K A.jaD ["self", "sheet"] []
  YeK : Fun K "__init__" "Sheet.__init__" j9 A.yU A.jbl
  jeK : Binds K A.jbl ["self", "owner", "void"] []
  jcB : Fun K "go_through" "Sheet.go_through" Yv A.jq A.jah
  JcB : Binds K A.jah ["self", "number", "entry"] []
  Zdd : Fun K "acquires" "Sheet.acquires" ZC A.Zn A.ZJ
  JaH : Binds K A.ZJ ["self", "knows"] []
  jbO : Fun K "has_objection" "Sheet.has_objection" Yk A.jk A.jU
  JbO : Binds K A.jU ["self"] []
  yeo : Fun K "stand" "Sheet.stand" zR A.jC A.Jaq
  JbX : Binds K A.Jaq ["self", "number", "entry"] []
  JeK : Fun K "drop" "Sheet.drop" J9 A.yN A.jaT
  ydo : Binds K A.jaT ["self", "number"] []
  Yfh : Fun K "__init__" "Book.__init__" Jal A.Zac A.ZbA
  jfh : Binds K A.ZbA ["self"] []
  zeL : Fun K "begin" "Book.begin" jT A.zV A.Jbl
  ZeL : Binds K A.Jbl ["self", "persons", "owners"] []
  Jfh : Fun K "make" "Book.make" zam A.yac A.ybA
  zfi : Binds K A.ybA ["self", "entry"] []
  JdT : Fun K "refusal" "Book.refusal" zL A.yE A.jaR
  zdU : Binds K A.jaR ["self", "entry"] []
  zdz : Fun K "sheet_of" "Book.sheet_of" jF A.yx A.zao
  Yce : Binds K A.zao ["self", "entry"] []
  Zdz : Fun K "has_plot" "Book.has_plot" JF A.Yz A.jaH
  ydz : Binds K A.jaH ["self", "plot"] []
  Ydz : Fun K "sheet_on" "Book.sheet_on" zG A.Jt A.Y4
  zaS : Binds K A.Y4 ["self", "plot", "day", "known"] []
  yb3 : Fun K "void_as_known" "Book.void_as_known" yp A.Ym A.J2
  Yb3 : Binds K A.J2 ["self", "known"] []
  jaM : Fun K "with_lists" "with_lists" zaa A.YD A.jaa
  ybb : Binds K A.jaa ["number", "rows"] []
  Ybb : mg "with_lists" = some (.ref A.YD)
  Ydo : Fun K "tell_owner" "tell_owner" Zaa A.Jaa A.zbm
  yeL : Binds K A.zbm ["sheet"] []
  YeL : mg "tell_owner" = some (.ref A.Jaa)
  zcC : Fun K "tell_charges" "tell_charges" zE A.YM A.JaR
  ZdU : Binds K A.JaR ["sheet"] []
  ydU : mg "tell_charges" = some (.ref A.YM)
  YdU : Fun K "place_row" "place_row" Zam A.Jam A.YbA
  Zfi : Binds K A.YbA ["sheet", "charge", "amount"] []
  yfi : mg "place_row" = some (.ref A.Jam)
  jdU : Fun K "tell_rely" "tell_rely" yam A.zan A.jbA
  Yfi : Binds K A.jbA ["sheet"] []
  jfi : mg "tell_rely" = some (.ref A.zan)
  JdU : Fun K "tell_sale" "tell_sale" Jab A.Zan A.JbA
  Jfi : Binds K A.JbA ["sheet", "amount"] []
  zfj : mg "tell_sale" = some (.ref A.Zan)
  Zc4 : Fun K "tell_stands" "tell_stands" ZR A.YS A.Za1
  Yeo : Binds K A.Za1 ["sheet"] []
  jeo : mg "tell_stands" = some (.ref A.YS)
  zdV : Fun K "tell_days" "tell_days" zac A.yan A.zbB
  Zfj : Binds K A.zbB ["book", "plot", "known"] []
  yfj : mg "tell_days" = some (.ref A.yan)
  jf6 : Fun K "answers" "answers" yaT A.jaw A.zbr
  zg4 : Binds K A.zbr ["calls"] []
  Jf6 : mg "answers" = some (.ref A.jaw)
  yc4 : Fun K "call_length" "call_length" yR A.JS A.ya1
  Jeo : Binds K A.ya1 ["calls", "start"] []
  zep : mg "call_length" = some (.ref A.JS)
  JfE : Fun K "answer" "answer" zbl A.Zbm A.Jdb
  Ygx : Binds K A.Jdb ["book", "call"] []
  jgx : mg "answer" = some (.ref A.Zbm)
  ZeA : Fun K "entry_of" "entry_of" zaC A.ZaC A.Jb1
  zfF : Binds K A.Jb1 ["call"] []
  ZfF : mg "entry_of" = some (.ref A.ZaC)
  Zbh : Fun K "is_sound_question" "is_sound_question" Ys A.Yt A.Yac
  Zcl : Binds K A.Yac ["book", "call"] []
  ycl : mg "is_sound_question" = some (.ref A.Yt)
  YgM : Fun K "told" "told" Zc3 A.jc3 A.jeJ
  jhf : Binds K A.jeJ ["book", "call"] []
  Jhf : mg "told" = some (.ref A.jc3)
  Jed : mg "Entry" = some (.ref A.JaD)
  ZdV : mg "PlotEntry" = some (.ref A.jZ)
  Zep : mg "PersonEntry" = some (.ref A.yG)
  ygV : mg "Grant" = some (.ref A.zaX)
  yeA : mg "Transfer" = some (.ref A.Jb)
  ydV : Cls K A.Jb
  Zbu : Mk K A.Jb A.Jw
  ZbC : Meth K A.Jb "take_effect" A.Zm
  ydd : Meth K A.Jb "enter" A.yC
  jbm : Meth K A.Jb "has_its_giver" A.Zg
  Ycl : Meth K A.Jb "is_sound" A.yq
  ybC : Meth K A.Jb "may_be_made" A.Yg
  jcl : Meth K A.Jb "is_there" A.zf
  zbP : Meth K A.Jb "plot_among" A.ye
  ZaS : Meth K A.Jb "finds_its_entries" A.jd
  ycQ : Meth K A.Jb "settle" A.zg
  J4 : Jm K A.Jb "knows"
  jV : Jm K A.Jb "person"
  Z5 : Jm K A.Jb "giver"
  Yag : Jm K A.Jb "plot"
  zar : Jm K A.Jb "day"
  jb3 : mg "Charge" = some (.ref A.jc)
  Ydd : Cls K A.jc
  ycy : Mk K A.jc A.jR
  YcQ : Meth K A.jc "is_sound" A.Yy
  YdV : Meth K A.jc "enter" A.jL
  YbC : Meth K A.jc "has_its_giver" A.Zg
  Jb3 : Meth K A.jc "may_be_made" A.Yg
  zb4 : Meth K A.jc "take_effect" A.jj
  jcQ : Meth K A.jc "is_there" A.zf
  Jcl : Meth K A.jc "plot_among" A.ye
  Za2 : Meth K A.jc "finds_its_entries" A.jd
  jdz : Meth K A.jc "settle" A.zg
  JZ : Jm K A.jc "amount"
  Zar : Jm K A.jc "giver"
  yar : Jm K A.jc "knows"
  jag : Jm K A.jc "person"
  yaC : Jm K A.jc "plot"
  JaM : Jm K A.jc "day"
  ZcC : mg "Notice" = some (.ref A.Zd)
  Ye5 : Cls K A.Zd
  Ycy : Mk K A.Zd A.Jw
  jdV : Meth K A.Zd "enter" A.JL
  jbC : Meth K A.Zd "has_its_giver" A.Zg
  JcQ : Meth K A.Zd "is_sound" A.yq
  Zb4 : Meth K A.Zd "may_be_made" A.Yg
  yb4 : Meth K A.Zd "take_effect" A.jj
  zcR : Meth K A.Zd "is_there" A.zf
  zcm : Meth K A.Zd "plot_among" A.ye
  ya2 : Meth K A.Zd "finds_its_entries" A.jd
  Jdz : Meth K A.Zd "settle" A.zg
  Yar : Jm K A.Zd "giver"
  jar : Jm K A.Zd "knows"
  Jag : Jm K A.Zd "person"
  YaC : Jm K A.Zd "plot"
  zaN : Jm K A.Zd "day"
  ZcR : mg "Objection" = some (.ref A.Yb)
  jdo : Cls K A.Yb
  jbb : Mk K A.Yb A.Zj
  ycR : Meth K A.Yb "enter" A.jy
  Yb4 : Meth K A.Yb "is_there" A.zf
  jb4 : Meth K A.Yb "is_sound" A.yj
  JbC : Meth K A.Yb "plot_among" A.ye
  YaL : Meth K A.Yb "finds_its_entries" A.jd
  ybu : Meth K A.Yb "may_be_made" A.Yj
  ycC : Meth K A.Yb "settle" A.zg
  Ybu : Meth K A.Yb "take_effect" A.jf
  zO : Jm K A.Yb "person"
  Y5 : Jm K A.Yb "plot"
  zah : Jm K A.Yb "day"
  yfF : mg "Fulfil" = some (.ref A.Yd)
  jbu : Cls K A.Yd
  jcy : Mk K A.Yd A.JR
  Ya2 : Meth K A.Yd "finds_its_entries" A.Yh
  Zcm : Meth K A.Yd "plot_among" A.Js
  Jb4 : Meth K A.Yd "may_be_made" A.Yp
  zb5 : Meth K A.Yd "take_effect" A.Jp
  JdV : Meth K A.Yd "enter" A.zM
  YcR : Meth K A.Yd "is_sound" A.yl
  zdA : Meth K A.Yd "settle" A.zg
  jE : Jm K A.Yd "noted"
  Jar : Jm K A.Yd "knows"
  ZaN : Jm K A.Yd "day"
  Jgx : mg "Strike" = some (.ref A.Jf)
  Jbb : Cls K A.Jf
  Jcy : Mk K A.Jf A.ZS
  jcR : Meth K A.Jf "is_sound" A.Jy
  ja2 : Meth K A.Jf "finds_its_entries" A.jh
  ycm : Meth K A.Jf "plot_among" A.Zt
  Zb5 : Meth K A.Jf "may_be_made" A.zq
  zdW : Meth K A.Jf "enter" A.ZM
  ZdA : Meth K A.Jf "settle" A.zg
  yb5 : Meth K A.Jf "take_effect" A.jf
  YG : Jm K A.Jf "struck"
  jO : Jm K A.Jf "striker"
  yaN : Jm K A.Jf "day"
  YgV : mg "Ahead" = some (.ref A.Jg)
  Jbm : Cls K A.Jg
  jdd : Mk K A.Jg A.Yaa
  jbf : Meth K A.Jg "finds_its_entries" A.ji
  YcC : Meth K A.Jg "plot_among" A.Jv
  Ycm : Meth K A.Jg "may_be_made" A.yt
  yep : Meth K A.Jg "enter" A.yS
  Jdd : Meth K A.Jg "is_sound" A.yl
  ZdW : Meth K A.Jg "settle" A.zg
  jcm : Meth K A.Jg "take_effect" A.jf
  Yan : Jm K A.Jg "one"
  zab : Jm K A.Jg "other"
  Ja2 : Jm K A.Jg "day"
  zf7 : mg "Correct" = some (.ref A.Je)
  jcC : Cls K A.Je
  zbV : Mk K A.Je A.yM
  zde : Meth K A.Je "settle" A.YC
  ydA : Meth K A.Je "enter" A.ZG
  JcC : Meth K A.Je "is_sound" A.ym
  Yb5 : Meth K A.Je "plot_among" A.ye
  ZaX : Meth K A.Je "finds_its_entries" A.jd
  ZbP : Meth K A.Je "may_be_made" A.Yj
  ybP : Meth K A.Je "take_effect" A.jf
  Z0 : Jm K A.Je "owner"
  zas : Jm K A.Je "plot"
  jaC : Jm K A.Je "day"
  jgM : mg "Void" = some (.ref A.yg)
  JcR : Cls K A.yg
  zee : Mk K A.yg A.jam
  zbn : Meth K A.yg "finds_its_entries" A.zj
  zcS : Meth K A.yg "plot_among" A.zz
  zcD : Meth K A.yg "may_be_made" A.Zw
  YdA : Meth K A.yg "is_sound" A.yl
  Yep : Meth K A.yg "settle" A.zg
  ZcD : Meth K A.yg "take_effect" A.jf
  jeL : Meth K A.yg "enter" A.YL
  zT : Jm K A.yg "voided"
  Ybr : Jm K A.yg "day"
  jgV : mg "Sheet" = some (.ref A.Jk)
  Yn : Cls K A.Jk
  Zde : Mk K A.Jk A.yU
  ycD : Meth K A.Jk "go_through" A.jq
  zaI : Meth K A.Jk "acquires" A.Zn
  YbP : Meth K A.Jk "has_objection" A.jk
  zbY : Meth K A.Jk "stand" A.jC
  Jdo : Meth K A.Jk "drop" A.yN
  yw : Jm K A.Jk "registered"
  YT : Jm K A.Jk "owner"
  YaN : Jm K A.Jk "void"
  zH : Jm K A.Jk "standing"
  JV : Jm K A.Jk "places"
  JaC : Jm K A.Jk "given"
  zhg : mg "Book" = some (.ref A.JC)
  Zab : Cls K A.JC
  Zee : Mk K A.JC A.Zac
  JeL : Meth K A.JC "begin" A.zV
  Yfj : Meth K A.JC "make" A.yac
  ydW : Meth K A.JC "refusal" A.yE
  jce : Meth K A.JC "sheet_of" A.yx
  jdA : Meth K A.JC "has_plot" A.Yz
  yaS : Meth K A.JC "sheet_on" A.Jt
  jb5 : Meth K A.JC "void_as_known" A.Ym
  jac : Jm K A.JC "persons"
  jan : Jm K A.JC "owners"
  Jac : Jm K A.JC "entries"
  jN : zhf K A.JaD "__init__" A.jw
  zaz : zhf K A.zaX "__init__" A.Jw
  zF : zhf K A.yG "__init__" A.Zj
  yH : zhf K A.jZ "__init__" A.Zq
  Yc4 : mg "MOST_AMOUNT" = some A.Jc3
  jc4 : RelV (.int (1000000)) A.Jc3
  YdW : mg "MOST_PERSONS" = some A.ZcA
  jdW : RelV (.int (10)) A.ZcA
  zeM : mg "MOST_PLOTS" = some A.Zdo
  ZeM : RelV (.int (6)) A.Zdo
  zdp : mg "LAST_DAY" = some A.Jez
  Zdp : RelV (.int (1000000)) A.Jez
  JdW : mg "MOST_ENTRIES" = some A.ycA
  zdX : RelV (.int (40)) A.ycA
  Jb5 : mg "NOT_SOUND" = some A.YdQ
  zb6 : RelV (.int (-1)) A.YdQ
  jfj : mg "NOT_FOUND" = some A.jdQ
  Jfj : RelV (.int (-2)) A.jdQ
  zfk : mg "TOO_EARLY" = some A.JdQ
  Zfk : RelV (.int (-4)) A.JdQ
  Zhg : mg "FULL" = some A.jgL
  yhg : RelV (.int (-5)) A.jgL
  jep : mg "NOT_ALLOWED" = some A.zc4
  Jep : RelV (.int (-6)) A.zc4
  yeM : mg "BEGINS" = some A.YfD
  YeM : RelV (.int (0)) A.YfD
  YfF : mg "TRANSFER" = some A.zeA
  jfF : RelV (.int (1)) A.zeA
  zgy : mg "CHARGE" = some A.jfD
  Zgy : RelV (.int (2)) A.jfD
  ygy : mg "NOTICE" = some A.JfD
  Ygy : RelV (.int (3)) A.JfD
  jgy : mg "FULFIL" = some A.zfE
  Jgy : RelV (.int (4)) A.zfE
  yfk : mg "OBJECTION" = some A.zdR
  Yfk : RelV (.int (5)) A.zdR
  zgz : mg "STRIKE" = some A.ZfE
  Zgz : RelV (.int (6)) A.ZfE
  JgV : mg "AHEAD" = some A.ygh
  zgW : RelV (.int (7)) A.ygh
  Zf7 : mg "CORRECT" = some A.Je4
  yf7 : RelV (.int (8)) A.Je4
  Yhg : mg "VOID" = some A.JgL
  jhg : RelV (.int (9)) A.JgL
  ZgW : mg "OWNER" = some A.Ygh
  ygW : RelV (.int (10)) A.Ygh
  Yf7 : mg "CHARGES" = some A.ze5
  jf7 : RelV (.int (11)) A.ze5
  Jhg : mg "RELY" = some A.zgM
  zhh : RelV (.int (12)) A.zgM
  Zhh : mg "SALE" = some A.ZgM
  yhh : RelV (.int (13)) A.ZgM
  ygz : mg "STANDS" = some A.yfE
  Ygz : RelV (.int (14)) A.yfE
  Yhh : mg "DAYS" = some A.ygM
  jhh : RelV (.int (15)) A.ygM
  je5 : mg "LENGTHS" = some A.Ze5
  Je5 : RelV (.ref A.Yw) A.Ze5
  zP : ∀ H, SqT K H A.Yw [.int (3), .int (6), .int (7), .int (6), .int (4), .int (4), .int (4), .int (4), .int (3), .int (3), .int (4), .int (4), .int (4), .int (5), .int (3), .int (3)]
  Jhh : mg "any" = none
  jfk : mg "enumerate" = none
  zW : mg "isinstance" = none
  YcD : mg "len" = none
  JgM : mg "list" = none
  zhi : mg "min" = none
  Zhi : mg "sum" = none
  Jfk : ∀ {H : Hp} {a dx : Addr} {fs : List (Str × V)}, H a = some (.ins A.Jb dx fs) → jby K H (.ref a) (.ref A.Jb)
  Jf7 : ∀ {H : Hp} {a dx : Addr} {fs : List (Str × V)}, H a = some (.ins A.jc dx fs) → jby K H (.ref a) (.ref A.jc)
  zf8 : ∀ {H : Hp} {a dx : Addr} {fs : List (Str × V)}, H a = some (.ins A.Zd dx fs) → jby K H (.ref a) (.ref A.Zd)
  Zf8 : ∀ {H : Hp} {a dx : Addr} {fs : List (Str × V)}, H a = some (.ins A.Yd dx fs) → jby K H (.ref a) (.ref A.Yd)
  jeM : ∀ {H : Hp} {a dx : Addr} {fs : List (Str × V)}, H a = some (.ins A.Yb dx fs) → jby K H (.ref a) (.ref A.Yb)
  yf8 : ∀ {H : Hp} {a dx : Addr} {fs : List (Str × V)}, H a = some (.ins A.Jf dx fs) → jby K H (.ref a) (.ref A.Jf)
  jgz : ∀ {H : Hp} {a dx : Addr} {fs : List (Str × V)}, H a = some (.ins A.Jg dx fs) → jby K H (.ref a) (.ref A.Jg)
  JfF : ∀ {H : Hp} {a dx : Addr} {fs : List (Str × V)}, H a = some (.ins A.Je dx fs) → jby K H (.ref a) (.ref A.Je)
  YgW : ∀ {H : Hp} {a dx : Addr} {fs : List (Str × V)}, H a = some (.ins A.yg dx fs) → jby K H (.ref a) (.ref A.yg)
  zcz : PySem.W.kitOne K (.type "NoneType") (.ref A.Zd) = some false
  J5 : PySem.W.kitOne K (.ref A.Jb) (.ref A.Zd) = some false
  Zao : PySem.W.kitOne K (.ref A.jc) (.ref A.Zd) = some false
  yao : PySem.W.kitOne K (.ref A.Zd) (.ref A.Zd) = some true
  Yao : PySem.W.kitOne K (.ref A.Yd) (.ref A.Zd) = some false
  yX : PySem.W.kitOne K (.ref A.Yb) (.ref A.Zd) = some false
  jao : PySem.W.kitOne K (.ref A.Jf) (.ref A.Zd) = some false
  Jaw : PySem.W.kitOne K (.ref A.Jg) (.ref A.Zd) = some false
  zaf : PySem.W.kitOne K (.ref A.Je) (.ref A.Zd) = some false
  ZaI : PySem.W.kitOne K (.ref A.yg) (.ref A.Zd) = some false
  Zcz : PySem.W.kitOne K (.type "NoneType") (.ref A.jc) = some false
  Z6 : PySem.W.kitOne K (.ref A.Jb) (.ref A.jc) = some false
  Jao : PySem.W.kitOne K (.ref A.jc) (.ref A.jc) = some true
  zap : PySem.W.kitOne K (.ref A.Zd) (.ref A.jc) = some false
  Zap : PySem.W.kitOne K (.ref A.Yd) (.ref A.jc) = some false
  YX : PySem.W.kitOne K (.ref A.Yb) (.ref A.jc) = some false
  yap : PySem.W.kitOne K (.ref A.Jf) (.ref A.jc) = some false
  zax : PySem.W.kitOne K (.ref A.Jg) (.ref A.jc) = some false
  Zaf : PySem.W.kitOne K (.ref A.Je) (.ref A.jc) = some false
  yaI : PySem.W.kitOne K (.ref A.yg) (.ref A.jc) = some false
  zbc : PySem.W.kitOne K (.type "NoneType") (.ref A.Yb) = some false
  yJ : PySem.W.kitOne K (.ref A.Jb) (.ref A.Yb) = some false
  jX : PySem.W.kitOne K (.ref A.jc) (.ref A.Yb) = some false
  JX : PySem.W.kitOne K (.ref A.Zd) (.ref A.Yb) = some false
  zY : PySem.W.kitOne K (.ref A.Yd) (.ref A.Yb) = some false
  YH : PySem.W.kitOne K (.ref A.Yb) (.ref A.Yb) = some true
  jY : PySem.W.kitOne K (.ref A.Jf) (.ref A.Yb) = some false
  Y6 : PySem.W.kitOne K (.ref A.Jg) (.ref A.Yb) = some false
  ZP : PySem.W.kitOne K (.ref A.Je) (.ref A.Yb) = some false
  yaf : PySem.W.kitOne K (.ref A.yg) (.ref A.Yb) = some false
  Jbu : PySem.W.kitOne K (.type "NoneType") (.ref A.Jb) = some false
  yP : PySem.W.kitOne K (.ref A.Jb) (.ref A.Jb) = some true
  J6 : PySem.W.kitOne K (.ref A.jc) (.ref A.Jb) = some false
  Z7 : PySem.W.kitOne K (.ref A.Zd) (.ref A.Jb) = some false
  Y7 : PySem.W.kitOne K (.ref A.Yd) (.ref A.Jb) = some false
  YJ : PySem.W.kitOne K (.ref A.Yb) (.ref A.Jb) = some false
  j7 : PySem.W.kitOne K (.ref A.Jf) (.ref A.Jb) = some false
  Yaf : PySem.W.kitOne K (.ref A.Jg) (.ref A.Jb) = some false
  zZ : PySem.W.kitOne K (.ref A.Je) (.ref A.Jb) = some false
  Yap : PySem.W.kitOne K (.ref A.yg) (.ref A.Jb) = some false
  ycz : PySem.W.kitOne K (.type "NoneType") (.ref A.Yd) = some false
  J7 : PySem.W.kitOne K (.ref A.Jb) (.ref A.Yd) = some false
  jap : PySem.W.kitOne K (.ref A.jc) (.ref A.Yd) = some false
  Jap : PySem.W.kitOne K (.ref A.Zd) (.ref A.Yd) = some false
  zaq : PySem.W.kitOne K (.ref A.Yd) (.ref A.Yd) = some true
  ZZ : PySem.W.kitOne K (.ref A.Yb) (.ref A.Yd) = some false
  Zaq : PySem.W.kitOne K (.ref A.Jf) (.ref A.Yd) = some false
  Zax : PySem.W.kitOne K (.ref A.Jg) (.ref A.Yd) = some false
  jaf : PySem.W.kitOne K (.ref A.Je) (.ref A.Yd) = some false
  YaI : PySem.W.kitOne K (.ref A.yg) (.ref A.Yd) = some false
  yee : PySem.W.kitOne K (.type "NoneType") (.ref A.yg) = some false
  yaq : PySem.W.kitOne K (.ref A.Jb) (.ref A.yg) = some false
  jaI : PySem.W.kitOne K (.ref A.jc) (.ref A.yg) = some false
  JaI : PySem.W.kitOne K (.ref A.Zd) (.ref A.yg) = some false
  zaJ : PySem.W.kitOne K (.ref A.Yd) (.ref A.yg) = some false
  Jaf : PySem.W.kitOne K (.ref A.Yb) (.ref A.yg) = some false
  ZaJ : PySem.W.kitOne K (.ref A.Jf) (.ref A.yg) = some false
  JaT : PySem.W.kitOne K (.ref A.Jg) (.ref A.yg) = some false
  yax : PySem.W.kitOne K (.ref A.Je) (.ref A.yg) = some false
  Zbc : PySem.W.kitOne K (.ref A.yg) (.ref A.yg) = some true
end Lr
namespace L2
open PySem PySem.Spec PyProof.Rows
theorem br {b : Bool} {p q : Prop} (h1 : b = true → p) (h2 : b = false → q) : if b = true then p else q := by
  cases b with
  | true => exact h1 rfl
  | false => exact h2 rfl
theorem brT {b : Bool} {p q : Prop} (e : b = true) (h : p) : if b = true then p else q := by
  subst e
  exact h
theorem brF {b : Bool} {p q : Prop} (e : b = false) (h : q) : if b = true then p else q := by
  subst e
  exact h
theorem jgh {t u : TT} {σ : St} {H : Hp} {c d : Bool} {Q : Bool → Hp → Prop} (ht : ∀ R : Bool → Hp → Prop, R c H → t σ H R) (hu : c = true → ∀ R : Bool → Hp → Prop, R d H → u σ H R) (q : Q (c && d) H) : jhD t u σ H Q := by
  refine ht _ (br (fun h => ?_) fun h => ?_)
  · subst h
    exact hu rfl _ q
  · subst h
    exact q
theorem jgW {t u : TT} {σ : St} {H : Hp} {c d : Bool} {Q : Bool → Hp → Prop} (ht : ∀ R : Bool → Hp → Prop, R c H → t σ H R) (hu : c = false → ∀ R : Bool → Hp → Prop, R d H → u σ H R) (q : Q (c || d) H) : tOr t u σ H Q := by
  refine ht _ (br (fun h => ?_) fun h => ?_)
  · subst h
    exact q
  · subst h
    exact hu rfl _ q
theorem zbD {t u : TE} {σ : St} {H : Hp} {c d : Bool} {Q : VK} (ht : ∀ R : VK, R (.bl c) H → t σ H R) (hu : c = true → ∀ R : VK, R (.bl d) H → u σ H R) (q : Q (.bl (c && d)) H) : Yhv t u σ H Q := by
  refine ht _ ⟨c, rfl, br (fun h => ?_) fun h => ?_⟩
  · subst h
    exact hu rfl _ q
  · subst h
    exact q
theorem ze6 {t u : TE} {σ : St} {H : Hp} {c d : Bool} {Q : VK} (ht : ∀ R : VK, R (.bl c) H → t σ H R) (hu : c = false → ∀ R : VK, R (.bl d) H → u σ H R) (q : Q (.bl (c || d)) H) : JhD t u σ H Q := by
  refine ht _ ⟨c, rfl, br (fun h => ?_) fun h => ?_⟩
  · subst h
    exact q
  · subst h
    exact hu rfl _ q
theorem SqL.JhN {K : PySem.W.Frag} {H : Hp} {a D : Addr} {xs : List V} {o : HO} (h : SqL K H a xs) (hD : H D = Option.none) : SqL K (upd H D o) a xs := by
  refine Yu.seq (fun b u e => ?_) h
  rw [Zc (yd e hD)]
  exact e
theorem Zas {α : Type} {l : List α} {i : Nat} {x : α} (h : l[i]? = some x) : l.take (i + 1) = l.take i ++ [x] := by
  rw [List.take_add_one, h]
  rfl
theorem JeM {K : PySem.W.Frag} {a : Addr} {xs : List V} {v : Nat} {tt : TT} {te : TE} {σ : St} {H1 : Hp} {D : Addr} {Qd : Hp → Prop} (f : V → Bool) (g : V → V) (hs : SqL K H1 a xs) (hD : H1 D = Option.none) (hz : xs.length ≤ sizeLine)
    (ht : ∀ (x : V) (acc : List V) (R : Bool → Hp → Prop), x ∈ xs → R (f x) (upd H1 D (.lst acc)) → tt ((σ.set v Option.none).set v (some x)) (upd H1 D (.lst acc)) R)
    (he : ∀ (x : V) (acc : List V) (R : VK), x ∈ xs → f x = true → R (g x) (upd H1 D (.lst acc)) → te ((σ.set v Option.none).set v (some x)) (upd H1 D (.lst acc)) R)
    (hd : Qd (upd H1 D (.lst ((xs.filter f).map g)))) :
    ∃ W : Nat → Nat → Hp → Prop, (∃ m, W 0 m (upd H1 D (.lst []))) ∧ ∀ i m H, W i m H →
      ((Itl K a).stop i H ∧ Qd H) ∨ ((Itl K a).go i H ∧ ∃ Nx : Hp → Prop, (∀ H', Nx H' → ∃ m', m' < m ∧ W (i + 1) m' H') ∧ ∀ x H', (Itl K a).yld i H x H' → Jf2 v x (wipe σ [v]) H' fun σ2 H2 => wipe σ2 [v] = wipe σ [v] ∧ tt σ2 H2 fun b H3 =>
        if b = true then te σ2 H3 fun y H4 => ∃ acc, H4 D = some (.lst acc) ∧ acc.length < sizeLine ∧ Nx (upd H4 D (.lst (acc ++ [y]))) else Nx H3) := by
  refine ygU (K := K) (a := a) (xs := xs) (g := Jf2 v) (vs := [v]) (fun i H' => H' = upd H1 D (.lst (((xs.take i).filter f).map g))) rfl (fun i H' _ e => by subst e; exact hs.JhN hD) (fun i x H' hx e => ?_) (fun H' e => ?_)
  · subst e
    have hm : x ∈ xs := List.mem_of_getElem? hx
    have hi : i < xs.length := (List.getElem?_eq_some_iff.mp hx).1
    show wipe ((wipe σ [v]).set v (some x)) [v] = wipe σ [v] ∧ _
    refine ⟨by simp [wipe], ht x _ _ hm ?_⟩
    rw [Zas hx, List.filter_append, List.map_append]
    cases e : f x with
    | false =>
      rw [if_neg (by simp)]
      simp [e]
    | true =>
      rw [if_pos rfl]
      refine he x _ _ hm e ⟨_, Ja, ?_, ?_⟩
      · rw [List.length_map]
        have h1 := List.length_filter_le f (xs.take i)
        rw [List.length_take] at h1
        omega
      · rw [Yai]
        simp [e]
  · subst e
    rw [List.take_length]
    exact hd
end L2
namespace Lr
open PySem PySem.Spec PyProof.Rows L2
abbrev Pl := Sy33.Place
def ZfW (H : Hp) (v : V) (p : Pl) : Prop := ∃ a, v = .ref a ∧ H a = some (.tup [.int p.entry, .int p.amount])
abbrev zag (H : Hp) : List V → List Pl → Prop := Paired (ZfW H)
theorem jcD {k : Nat} {A : Around} (r : yby k A) : A.units + 1 < cLine := by have := r.units; omega
theorem zag.same {H H' : Hp} (s : Yu H H') {xs : List V} {ps : List Pl} (h : zag H xs ps) : zag H' xs ps := Paired.Yei h fun _ _ ⟨a, e, q⟩ => ⟨a, e, s _ _ q⟩
theorem zag.mem {H : Hp} : ∀ {xs : List V} {ps : List Pl} {x : V}, zag H xs ps → x ∈ xs → ∃ p, p ∈ ps ∧ ZfW H x p
  | _, _, x, .cons r t, h => by
    rcases List.mem_cons.mp h with e | h
    · subst e
      exact ⟨_, List.mem_cons_self, r⟩
    · obtain ⟨p, hp, q⟩ := zag.mem t h
      exact ⟨p, List.mem_cons_of_mem _ hp, q⟩
theorem zag.get {H : Hp} : ∀ {xs : List V} {ps : List Pl} {i : Nat} {x : V}, zag H xs ps → xs[i]? = some x → ∃ p, ps[i]? = some p ∧ ZfW H x p
  | _, _, 0, x, .cons r t, h => by
    have e := Option.some.inj h
    subst e
    exact ⟨_, rfl, r⟩
  | _, _, i + 1, x, .cons r t, h => zag.get (i := i) t h
theorem zag.app {H : Hp} : ∀ {xs ys : List V} {ps qs : List Pl}, zag H xs ps → zag H ys qs → zag H (xs ++ ys) (ps ++ qs)
  | _, _, _, _, .nil, h => h
  | _, _, _, _, .cons r t, h => .cons r (zag.app t h)
theorem jfp {K : PySem.W.Frag} {H : Hp} {b : Addr} {u v : V} {Q : VK} (h : H b = some (.tup [u, v])) (q : Q u H) : rIx K (.ref b) (.int 0) H Q := .inr (.inl ⟨b, _, 0, u, rfl, rfl, SqT.of h, rfl, q⟩)
theorem Zg4 {K : PySem.W.Frag} {H : Hp} {b : Addr} {u v : V} {Q : VK} (h : H b = some (.tup [u, v])) (q : Q v H) : rIx K (.ref b) (.int 1) H Q := .inr (.inl ⟨b, _, 1, v, rfl, rfl, SqT.of h, rfl, q⟩)
def yg4 (H : Hp) (v : V) : Int := match v with
  | .ref b => (match H b with
    | some (.tup [.int p, .int _]) => p
    | _ => 0)
  | _ => 0
def zgN (H : Hp) (v : V) : Int := match v with
  | .ref b => (match H b with
    | some (.tup [.int _, .int n]) => n
    | _ => 0)
  | _ => 0
theorem Jfx {H : Hp} {v : V} {p : Pl} (h : ZfW H v p) : yg4 H v = p.entry := by
  obtain ⟨a, rfl, e⟩ := h
  simp only [yg4, e]
theorem zeN {H : Hp} {v : V} {p : Pl} (h : ZfW H v p) : zgN H v = p.amount := by
  obtain ⟨a, rfl, e⟩ := h
  simp only [zgN, e]
theorem ybc {a b : Nat} : decide (V.int (a : Int) = V.int (b : Int)) = (a == b) := by
  rw [Bool.eq_iff_iff]
  simp
  omega
theorem Jd {H : Hp} {l : Addr} {o : HO} (h : H l = Option.none) : Yu H (upd H l o) := fun b u e => by
  rw [Zc (yd e h)]
  exact e
theorem JgW {n : Nat} (h : n ≤ 100000) : n ≤ sizeLine := Nat.le_trans h (by decide)
theorem zcs {H : Hp} {xs : List V} {ps : List Pl} (h : zag H xs ps) : xs.length = ps.length := Paired.length h
theorem Ze6 : ∀ (l : List Nat) (n : Nat), ((l.foldl (fun (a b : Nat) => a + b) n : Nat) : Int) = (n : Int) + (l.map fun (x : Nat) => (x : Int)).sum
  | [], n => by simp
  | a :: l, n => by
    rw [List.foldl_cons, Ze6 l (n + a), List.map_cons, List.sum_cons]
    omega
theorem Jgh (H : Hp) (e : Nat) : ∀ {xs : List V} {ps : List Pl}, zag H xs ps → (xs.filter fun v => decide (V.int (yg4 H v) = V.int (e : Int))).map (fun v => V.int (zgN H v)) = ((ps.filter fun p => p.entry == e).map fun p => (p.amount : Int)).map V.int
  | _, _, .nil => rfl
  | _, _, .cons (b := p) r t => by
    rw [List.filter_cons, List.filter_cons, Jfx r, ybc]
    cases h : p.entry == e with
    | false =>
      rw [if_neg (by simp), if_neg (by simp)]
      exact Jgh H e t
    | true =>
      rw [if_pos rfl, if_pos rfl, List.map_cons, List.map_cons, List.map_cons, zeN r, Jgh H e t]
section
variable {P : Program} {w : World} {K : PySem.W.Frag} {mg : Str → Option Value} {base : Heap} {A : Adr}
def Yf8 (K : PySem.W.Frag) : Sp := fun vs H Q _ => ∃ (a : Addr) (xs : List V) (ps : List Pl) (e : Nat), vs = [.ref a, .int e] ∧ SqL K H a xs ∧ zag H xs ps ∧ ps.length ≤ 100000 ∧ ∀ H' : Hp, Yu H H' → Q (.int (Sy33.amountOf ps e : Nat)) H'
theorem Yg4 (T : Txt K mg A) : Zf P w K mg base CX0 1 A.Zbl A.Ydb ["places", "charge"] (Yf8 K) := by
  refine T.YfE.ok Ze4 (fun vs H Q E h => ?_) (fun cdv B outer s H vs Q E hr h => ?_)
  · obtain ⟨a, xs, ps, e, rfl, _⟩ := h
    rfl
  · obtain ⟨a, xs, ps, e, rfl, hS, hP, hL, k⟩ := h
    have hl := zcs hP
    refine ⟨_, (jb (yf (zu (yhs (K := K) rfl rfl) (by rfl) T.Zhi zf6 (Za (yf4 rfl Ze4.nd (yaH (K := K) rfl (pv 0)) (own := [("place", 2)]) (by show Jdx ["places", "charge", "place"] (za za1) _ [("place", 2)]; exact ⟨rfl, by decide +kernel, by decide +kernel, by decide +kernel, by decide +kernel⟩) (fun _ _ _ _ _ => (jai (i := 2) Ze4.nd rfl (by first | exact Or.inl rfl | exact Or.inr rfl))) (fun _ _ _ _ _ => (Ygf (Yq ZaL (Jj (Ye (K := K) rfl) (pv 2) je (fun _ _ => rfl)) (pv 1) (jm _)))) (fun _ _ _ _ _ => (Jj (Ye (K := K) rfl) (pv 2) je (fun _ _ => rfl)))) yc)))), ?_⟩
    refine ⟨_, rfl, a, rfl, ⟨_, hS⟩, fun D hD => JeM (K := K) (a := a) (xs := xs) (fun v => decide (V.int (yg4 H v) = V.int (e : Int))) (fun v => V.int (zgN H v)) hS hD (JgW (by omega)) ?_ ?_ ?_⟩
    · intro x acc R hx q
      obtain ⟨p, _, r⟩ := hP.mem hx
      have e1 := Jfx r
      obtain ⟨b, rfl, hb⟩ := r
      refine ⟨_, rfl, jfp (Jd hD _ _ hb) ⟨_, rfl, rfl, _, rfl, ?_⟩⟩
      simp only [e1] at q
      exact q
    · intro x acc R hx hf q
      obtain ⟨p, _, r⟩ := hP.mem hx
      have e1 := zeN r
      obtain ⟨b, rfl, hb⟩ := r
      refine ⟨_, rfl, Zg4 (Jd hD _ _ hb) ?_⟩
      simp only [e1] at q
      exact q
    · have e2 := Jgh H e hP
      refine ⟨D, (ps.filter fun p => p.entry == e).map fun p => (p.amount : Int), rfl, SqL.of ?_, ?_⟩
      · rw [Ja, e2]
      · have e3 := Ze6 ((ps.filter fun p => p.entry == e).map fun p => p.amount) 0
        rw [List.map_map] at e3
        have e4 : (((ps.filter fun p => p.entry == e).map fun p => (p.amount : Int))).sum = (Sy33.amountOf ps e : Nat) := by
          unfold Sy33.amountOf Sy33.total
          rw [e3]
          simp only [Int.natCast_zero, Int.zero_add, Function.comp_def]
        rw [e4]
        exact k _ (Jd hD)
theorem ye6 (H : Hp) (e : Nat) : ∀ {xs : List V} {ps : List Pl}, zag H xs ps → zag H ((xs.filter fun v => !decide (V.int (yg4 H v) = V.int (e : Int))).map fun v => v) (ps.filter fun p => !(p.entry == e))
  | _, _, .nil => .nil
  | _, _, .cons (b := p) r t => by
    rw [List.filter_cons, List.filter_cons, Jfx r, ybc]
    cases h : p.entry == e with
    | true =>
      rw [if_neg (by simp), if_neg (by simp)]
      exact ye6 H e t
    | false =>
      exact .cons r (ye6 H e t)
def zfG (H : Hp) (ps : List Pl) (Q : VK) : Prop := ∀ (H' : Hp) (l : Addr) (ys : List V), Yu H H' → H l = Option.none → H' l = some (.lst ys) → zag H' ys ps → Q (.ref l) H'
def ZfG (K : PySem.W.Frag) : Sp := fun vs H Q _ => ∃ (a : Addr) (xs : List V) (ps : List Pl) (e : Nat), vs = [.ref a, .int e] ∧ SqL K H a xs ∧ zag H xs ps ∧ ps.length ≤ 100000 ∧ zfG H (ps.filter fun p => !(p.entry == e)) Q
theorem ZgN (T : Txt K mg A) : Zf P w K mg base CX0 1 A.YaT A.zcA ["places", "charge"] (ZfG K) := by
  refine T.ye5.ok zez (fun vs H Q E h => ?_) (fun cdv B outer s H vs Q E hr h => ?_)
  · obtain ⟨a, xs, ps, e, rfl, _⟩ := h
    rfl
  · obtain ⟨a, xs, ps, e, rfl, hS, hP, hL, k⟩ := h
    have hl := zcs hP
    refine ⟨_, (jb (yf (yf4 rfl zez.nd (yaH (K := K) rfl (pv 0)) (own := [("place", 2)]) (by show Jdx ["places", "charge", "place"] (za YaH) _ [("place", 2)]; exact ⟨rfl, by decide +kernel, by decide +kernel, by decide +kernel, by decide +kernel⟩) (fun _ _ _ _ _ => (jai (i := 2) zez.nd rfl (by first | exact Or.inl rfl | exact Or.inr rfl))) (fun _ _ _ _ _ => (Ygf (Yq zf3 (Jj (Ye (K := K) rfl) (pv 2) je (fun _ _ => rfl)) (pv 1) (jm _)))) (fun _ _ _ _ _ => (pv 2))))), ?_⟩
    refine ⟨_, rfl, a, rfl, ⟨_, hS⟩, fun D hD => JeM (K := K) (a := a) (xs := xs) (fun v => !decide (V.int (yg4 H v) = V.int (e : Int))) (fun v => v) hS hD (JgW (by omega)) ?_ ?_ ?_⟩
    · intro x acc R hx q
      obtain ⟨p, _, r⟩ := hP.mem hx
      have e1 := Jfx r
      obtain ⟨b, rfl, hb⟩ := r
      refine ⟨_, rfl, jfp (Jd hD _ _ hb) ⟨_, rfl, rfl, _, rfl, ?_⟩⟩
      simp only [e1] at q
      exact q
    · intro x acc R hx hf q
      exact ⟨_, rfl, q⟩
    · exact k _ D _ (Jd hD) hD Ja ((ye6 H e hP).same (Jd hD))
def ybp (a b : Nat) : List Pl → Bool
  | [] => false
  | p :: l => if p.entry = a then true else if p.entry = b then false else ybp a b l
def JdA (K : PySem.W.Frag) : Sp := fun vs H Q _ => ∃ (a : Addr) (xs : List V) (ps : List Pl) (x y : Nat), vs = [.ref a, .int x, .int y] ∧ SqL K H a xs ∧ zag H xs ps ∧ Q (.bl (ybp x y ps)) H
theorem jf8 {α : Type} {l : List α} {i : Nat} {x : α} (h : l[i]? = some x) : l.drop i = x :: l.drop (i + 1) := by
  obtain ⟨hi, e⟩ := List.getElem?_eq_some_iff.mp h
  rw [← e]
  exact List.drop_eq_getElem_cons hi
theorem Jfp (T : Txt K mg A) : Zf P w K mg base CX0 1 A.ZL A.yaR ["places", "one", "other"] (JdA K) := by
  refine T.YcA.ok ydy (fun vs H Q E h => ?_) (fun cdv B outer s H vs Q E hr h => ?_)
  · obtain ⟨a, xs, ps, x, y, rfl, _⟩ := h
    rfl
  · obtain ⟨a, xs, ps, x, y, rfl, hS, hP, k⟩ := h
    have hl := zcs hP
    refine ⟨_, (Yc (Zdn PassesOwn.never rfl (yaH (K := K) rfl (pv 0)) (jai (i := 3) ydy.nd rfl (by first | exact Or.inl rfl | exact Or.inr rfl)) (Yc (JN (Yq ZaL (Jj (Ye (K := K) rfl) (pv 3) je (fun _ _ => rfl)) (pv 1) (jm _)) (jb (yf JdN)) Zo) (jb (JN (Yq ZaL (Jj (Ye (K := K) rfl) (pv 3) je (fun _ _ => rfl)) (pv 2) (jm _)) (jb (yf JdN)) Zo)))) (jb (yf JdN))), ?_⟩
    refine ⟨_, rfl, a, rfl, ⟨_, hS⟩, Ycz (K := K) (a := a) (xs := xs) (fun i σ H' => H' = H ∧ (∃ v, σ = [some (.ref a), some (.int x), some (.int y), v]) ∧ ybp x y ps = ybp x y (ps.drop i)) ⟨rfl, ⟨_, rfl⟩, rfl⟩ (fun i σ H' _ h => h.1 ▸ hS) ?_ ?_⟩
    · rintro i v σ H' hv ⟨rfl, ⟨v0, rfl⟩, e⟩
      obtain ⟨p, hp, b, rfl, hb⟩ := hP.get hv
      rw [jf8 hp] at e
      refine ⟨_, rfl, jfp hb ⟨_, rfl, rfl, _, rfl, ?_⟩⟩
      rw [ybc]
      refine br (fun h1 => ?_) (fun h1 => ?_)
      · have h1 := eq_of_beq h1
        have e2 : ybp x y ps = true := by rw [e]; simp [ybp, h1]
        show Q (.bl true) H'
        rw [← e2]
        exact k
      · have h1 : ¬ p.entry = x := by simpa using h1
        refine ⟨_, rfl, jfp hb ⟨_, rfl, rfl, _, rfl, ?_⟩⟩
        rw [ybc]
        refine br (fun h2 => ?_) (fun h2 => ?_)
        · have h2 := eq_of_beq h2
          have e2 : ybp x y ps = false := by rw [e]; rw [h2] at h1; simp [ybp, h1, h2]
          show Q (.bl false) H'
          rw [← e2]
          exact k
        · have h2 : ¬ p.entry = y := by simpa using h2
          refine ⟨rfl, ⟨_, rfl⟩, ?_⟩
          rw [e]
          simp [ybp, h1, h2]
    · rintro σ H' ⟨rfl, ⟨v0, rfl⟩, e⟩
      rw [hl, List.drop_length] at e
      show Q (.bl false) H'
      have e2 : ybp x y ps = false := e
      rw [← e2]
      exact k
def ygN (a n b m : Nat) : List Pl := (if n = 0 then [] else [⟨a, n⟩]) ++ (if m = 0 then [] else [⟨b, m⟩])
def refl (a b : Nat) : Nat → List Pl → List Pl
  | _, [] => []
  | x, p :: l => if p.entry = a ∨ p.entry = b then ygN a (min x p.amount) b (p.amount - min x p.amount) ++ refl a b (x - min x p.amount) l else p :: refl a b x l
theorem Ye6 (a b : Nat) : ∀ (l : List Pl) (x y : Nat), Sy33.refill a b x y l = refl a b x l
  | [], _, _ => rfl
  | p :: l, x, y => by
    unfold Sy33.refill refl
    by_cases h : p.entry = a ∨ p.entry = b
    · rw [if_pos h, if_pos h]
      show _ ++ (_ ++ _) = _
      rw [Ye6 a b l, ygN, List.append_assoc]
      have e : (min x p.amount = p.amount) = (p.amount - min x p.amount = 0) := by
        apply propext
        omega
      simp only [e]
    · rw [if_neg h, if_neg h, Ye6 a b l]
theorem jg4 (a b : Nat) (l : List Pl) : Sy33.before_ a b l = refl a b (Sy33.amountOf l a) l := Ye6 a b l _ _
theorem yhi (a n b m : Nat) : (ygN a n b m).length ≤ 2 := by
  unfold ygN
  split <;> split <;> simp
def zdB : Sp := fun vs H Q _ => ∃ (a n b m : Nat), vs = [.int a, .int n, .int b, .int m] ∧ zfG H (ygN a n b m) Q
theorem zgX {n : Nat} : decide ((0 : Int) < (n : Int)) = !(decide (n = 0)) := by
  rw [Bool.eq_iff_iff]
  simp
  omega
theorem zfq (T : Txt K mg A) : Zf P w K mg base CX0 1 A.yL A.YaR ["one", "part", "other", "rest"] zdB := by
  refine T.jcA.ok Zce (fun vs H Q E h => ?_) (fun cdv B outer s H vs Q E hr h => ?_)
  · obtain ⟨a, n, b, m, rfl, _⟩ := h
    rfl
  · obtain ⟨a, n, b, m, rfl, k⟩ := h
    refine ⟨_, (jb (yf (yf4 rfl Zce.nd (yaH (K := K) rfl (zaw (Za (ze3 (Za (pv 0) (Za (pv 1) yc))) (Za (ze3 (Za (pv 2) (Za (pv 3) yc))) yc)))) (own := [("place", 4)]) (by show Jdx ["one", "part", "other", "rest", "place"] (za JD) _ [("place", 4)]; exact ⟨rfl, by decide +kernel, by decide +kernel, by decide +kernel, by decide +kernel⟩) (fun _ _ _ _ _ => (jai (i := 4) Zce.nd rfl (by first | exact Or.inl rfl | exact Or.inr rfl))) (fun _ _ _ _ _ => (Ygf (Yq jgT (Jj (Ye (K := K) rfl) (pv 4) je (fun _ _ => rfl)) je (jm _)))) (fun _ _ _ _ _ => (pv 4))))), ?_⟩
    refine ⟨_, rfl, _, rfl, (by show 2 ≤ sizeLine; decide), fun t1 h1 => ?_⟩
    refine ⟨_, rfl, _, rfl, (by show 2 ≤ sizeLine; decide), fun t2 h2 => ?_⟩
    refine ⟨(by show 2 ≤ sizeLine; decide), fun l hl => ?_⟩
    have s1 := Jd (o := .tup [.int a, .int n]) h1
    have s2 := Jd (o := .tup [.int b, .int m]) h2
    have s3 := Jd (o := .lst [.ref t1, .ref t2]) hl
    have p1 : ZfW (upd (upd (upd H t1 (.tup [.int a, .int n])) t2 (.tup [.int b, .int m])) l (.lst [.ref t1, .ref t2])) (.ref t1) ⟨a, n⟩ := ⟨t1, rfl, s3 _ _ (s2 _ _ Ja)⟩
    have p2 : ZfW (upd (upd (upd H t1 (.tup [.int a, .int n])) t2 (.tup [.int b, .int m])) l (.lst [.ref t1, .ref t2])) (.ref t2) ⟨b, m⟩ := ⟨t2, rfl, s3 _ _ Ja⟩
    have sT := (s1.trans s2).trans s3
    refine ⟨l, rfl, ⟨_, SqL.of Ja⟩, fun D hD => ?_⟩
    generalize hG : upd (upd (upd H t1 (.tup [.int a, .int n])) t2 (.tup [.int b, .int m])) l (.lst [.ref t1, .ref t2]) = G at *
    have hGl : G l = some (.lst [.ref t1, .ref t2]) := by rw [← hG]; exact Ja
    refine JeM (K := K) (a := l) (xs := [.ref t1, .ref t2]) (fun v => decide (0 < zgN G v)) (fun v => v) (SqL.of hGl) hD (by show 2 ≤ sizeLine; decide) ?_ ?_ ?_
    · intro x acc R hx q
      obtain ⟨p, hp, r⟩ : ∃ p : Pl, p ∈ ([⟨a, n⟩, ⟨b, m⟩] : List Pl) ∧ ZfW G x p := by
        rcases List.mem_cons.mp hx with e | hx
        · subst e; exact ⟨_, by simp, p1⟩
        · rcases List.mem_cons.mp hx with e | hx
          · subst e; exact ⟨_, by simp, p2⟩
          · cases hx
      have e1 := zeN r
      obtain ⟨c, rfl, hc⟩ := r
      refine ⟨_, rfl, Zg4 (Jd hD _ _ hc) ⟨_, _, rfl, rfl, _, rfl, ?_⟩⟩
      simp only [e1] at q
      exact q
    · intro x acc R hx hf q
      exact ⟨_, rfl, q⟩
    · refine k _ D _ (sT.trans (Jd hD)) (sT.free hD) Ja ?_
      have e1 := zeN p1
      have e2 := zeN p2
      have q1 : ZfW (upd G D (.lst (List.map (fun v => v) (List.filter (fun v => decide (0 < zgN G v)) [V.ref t1, V.ref t2])))) (.ref t1) ⟨a, n⟩ := let ⟨c, e, q⟩ := p1; ⟨c, e, Jd hD _ _ q⟩
      have q2 : ZfW (upd G D (.lst (List.map (fun v => v) (List.filter (fun v => decide (0 < zgN G v)) [V.ref t1, V.ref t2])))) (.ref t2) ⟨b, m⟩ := let ⟨c, e, q⟩ := p2; ⟨c, e, Jd hD _ _ q⟩
      rw [List.filter_cons, List.filter_cons, List.filter_nil, e1, e2, zgX, zgX] at *
      unfold ygN
      by_cases hn : n = 0
      · by_cases hm : m = 0
        · simp [hn, hm]; exact .nil
        · simp [hn, hm] at q2 ⊢; exact .cons q2 .nil
      · by_cases hm : m = 0
        · simp [hn, hm] at q1 ⊢; exact .cons q1 .nil
        · simp [hn, hm] at q1 q2 ⊢; exact .cons q1 (.cons q2 .nil)
def ZeN (K : PySem.W.Frag) : Sp := fun vs H Q _ => ∃ (a : Addr) (xs : List V) (ps : List Pl) (x y : Nat), vs = [.ref a, .int x, .int y] ∧ SqL K H a xs ∧ zag H xs ps ∧ ps.length ≤ 100000 ∧ zfG H (Sy33.before_ x y ps) Q
theorem zgi (T : Txt K mg A) : Zf P w K mg base CX0 2 A.Yam A.Zbz ["places", "one", "other"] (ZeN K) := by
  have Yhi : Zf P w K mg base CX0 1 A.Zbl A.Ydb ["places", "charge"] (Yf8 K) := Yg4 T
  have yfG : Zf P w K mg base CX0 1 A.yL A.YaR ["one", "part", "other", "rest"] zdB := zfq T
  refine T.YdR.ok Yba (fun vs H Q E h => ?_) (fun cdv B outer s H vs Q E hr h => ?_)
  · obtain ⟨a, xs, ps, x, y, rfl, _⟩ := h
    rfl
  · obtain ⟨a, xs, ps, x, y, rfl, hS, hP, hL, k⟩ := h
    have hl := zcs hP
    refine ⟨_, (Yc (jab (i := 3) Yba.nd rfl (by first | exact Or.inl rfl | exact Or.inr rfl) (zaw yc)) (Yc (jab (i := 4) Yba.nd rfl (by first | exact Or.inl rfl | exact Or.inr rfl) (jD Yhi (hr.mono (by decide)) (by rfl) T.zgx T.YfE.kp T.Jgw .nil Jh (Za (pv 0) (Za (pv 1) yc)))) (Yc (Zdn PassesOwn.never rfl (yaH (K := K) rfl (pv 0)) (jai (i := 5) Yba.nd rfl (by first | exact Or.inl rfl | exact Or.inr rfl)) (jb (JN (PW.pt (pw_and (Yq zf3 (Jj (Ye (K := K) rfl) (pv 5) je (fun _ _ => rfl)) (pv 1) (jm _)) (pw_and1 (Yq zf3 (Jj (Ye (K := K) rfl) (pv 5) je (fun _ _ => rfl)) (pv 2) (jm _))))) (jb (yD (Yem PySem.F.plainAttrs_list PySem.F.slot_list_append PySem.F.type_list_append zbU (pv 3) (Za (pv 5) yc)))) (Yc (jab (i := 6) Yba.nd rfl (by first | exact Or.inl rfl | exact Or.inr rfl) (zu (Zf3 rfl) (by rfl) T.zhi Jf5 (Za (pv 4) (Za (Jj (Ye (K := K) rfl) (pv 5) je (fun _ _ => rfl)) yc)))) (Yc (yD (Yem PySem.F.plainAttrs_list PySem.F.slot_list_extend PySem.F.type_list_extend Ze3 (pv 3) (Za (jD yfG (hr.mono (by decide)) (by rfl) T.JdR T.jcA.kp T.jdR .nil Jh (Za (pv 1) (Za (pv 6) (Za (pv 2) (Za (ZeH YgJ (Jj (Ye (K := K) rfl) (pv 5) je (fun _ _ => rfl)) (pv 6)) yc))))) yc))) (jb (Yha (i := 4) Yba.nd rfl (by first | exact Or.inl rfl | exact Or.inr rfl) (pv 6) jha))))))) (jb (yf (pv 3)))))), ?_⟩
    refine ⟨Nat.zero_le _, fun f hf => ?_⟩
    have s1 := Jd (o := .lst []) hf
    refine ⟨_, rfl, _, rfl, a, xs, ps, x, rfl, s1.seq hS, hP.same s1, hL, fun H1 s2 => ?_⟩
    have s12 := s1.trans s2
    rw [jg4] at k
    refine ⟨_, rfl, a, rfl, ⟨_, s12.seq hS⟩, Ycz (K := K) (a := a) (xs := xs) (fun i σ H' => ∃ (left : Nat) (v5 v6 : Option V) (ys : List V) (done : List Pl), σ = [some (.ref a), some (.int x), some (.int y), some (.ref f), some (.int left), v5, v6] ∧ Yu H H' ∧ H' f = some (.lst ys) ∧ zag H' ys done ∧ done.length ≤ 2 * i ∧
        refl x y (Sy33.amountOf ps x) ps = done ++ refl x y left (ps.drop i)) ⟨_, _, _, _, _, rfl, s12, s2 _ _ Ja, .nil, Nat.le_refl _, rfl⟩ (fun i σ H' _ ⟨_, _, _, _, _, _, s3, _⟩ => s3.seq hS) ?_ ?_⟩
    · rintro i v σ H' hv ⟨left, v5, v6, ys, done, rfl, s3, hf3, hd3, hn3, e⟩
      obtain ⟨p, hp, b, rfl, hb⟩ := hP.get hv
      have hi : i < xs.length := (List.getElem?_eq_some_iff.mp hv).1
      have hlen := zcs hd3
      rw [jf8 hp] at e
      have hb3 := s3 _ _ hb
      have hfn : f ≠ b := zaR hf3 hb3 (by intro z; cases z)
      refine jgh (c := !decide (V.int (p.entry : Int) = V.int (x : Int))) (d := !decide (V.int (p.entry : Int) = V.int (y : Int))) (fun R q => ⟨_, rfl, jfp hb3 ⟨_, rfl, rfl, _, rfl, q⟩⟩) (fun _ R q => ⟨_, rfl, jfp hb3 ⟨_, rfl, rfl, _, rfl, q⟩⟩) ?_
      rw [ybc, ybc]
      refine br (fun z => ?_) (fun z => ?_)
      · have hxy : ¬ (p.entry = x ∨ p.entry = y) := by simp at z; omega
        refine ⟨_, rfl, .inl ⟨rfl, _, SqL.of hf3⟩, _, rfl, f, ys, _, rfl, rfl, hf3, Nat.lt_of_le_of_lt (show ys.length ≤ 200000 by omega) (by decide), ?_⟩
        have s4 : Yu H (upd H' f (.lst (ys ++ [.ref b]))) := fun c o q => by
          rw [Zc (yd q hf)]
          exact s3 _ _ q
        refine ⟨left, _, _, _, done ++ [p], rfl, s4, Ja, ?_, ?_, ?_⟩
        · refine zag.app (Paired.Yei hd3 fun v q ⟨c, e1, e2⟩ => ⟨c, e1, ?_⟩) (.cons ⟨b, rfl, ?_⟩ .nil)
          · rw [Zc (zaR e2 hf3 (by intro z; cases z))]
            exact e2
          · rw [Zc (Ne.symm hfn)]
            exact hb3
        · rw [List.length_append]
          show done.length + 1 ≤ _
          omega
        · rw [e, List.append_assoc]
          show _ = done ++ (p :: _)
          rw [refl, if_neg hxy]
          rfl
      · have hxy : p.entry = x ∨ p.entry = y := by simp at z; omega
        refine ⟨_, rfl, _, rfl, Zg4 hb3 ⟨_, _, rfl, ?_⟩⟩
        have e1 : (if (p.amount : Int) < (left : Int) then (p.amount : Int) else (left : Int)) = ((min left p.amount : Nat) : Int) := by split <;> omega
        rw [e1]
        refine ⟨_, rfl, .inl ⟨rfl, _, SqL.of hf3⟩, _, rfl, _, rfl, _, rfl, _, rfl, Zg4 hb3 ⟨_, rfl, _, _, rfl, rfl, x, min left p.amount, y, p.amount - min left p.amount, ?_, ?_⟩⟩
        · have e2 : (p.amount : Int) - ((min left p.amount : Nat) : Int) = ((p.amount - min left p.amount : Nat) : Int) := by omega
          show [V.int (x : Int), V.int ((min left p.amount : Nat) : Int), V.int (y : Int), V.int ((p.amount : Int) - ((min left p.amount : Nat) : Int))] = _
          rw [e2]
        · intro H4 l zs s4 hl4 hz4 hq4
          have hf4 := s4 _ _ hf3
          have hfl : f ≠ l := yd hf3 hl4
          have hz := yhi x (min left p.amount) y (p.amount - min left p.amount)
          have hzl := zcs hq4
          refine ⟨f, l, ys, zs, rfl, rfl, hf4, hz4, Nat.le_trans (show ys.length + zs.length ≤ 200002 by omega) (by decide), ?_⟩
          refine ⟨_, rfl, _, rfl, _, _, rfl, rfl, ?_⟩
          have s5 : Yu H (upd H4 f (.lst (ys ++ zs))) := fun c o q => by
            rw [Zc (yd q hf)]
            exact s4 _ _ (s3 _ _ q)
          have e3 : (left : Int) - ((min left p.amount : Nat) : Int) = ((left - min left p.amount : Nat) : Int) := by omega
          dsimp only
          rw [e3]
          refine ⟨left - min left p.amount, _, _, _, done ++ ygN x (min left p.amount) y (p.amount - min left p.amount), rfl, s5, Ja, ?_, ?_, ?_⟩
          · refine zag.app (Paired.Yei hd3 fun v q ⟨c, e1, e2⟩ => ⟨c, e1, ?_⟩) (Paired.Yei hq4 fun v q ⟨c, e1, e2⟩ => ⟨c, e1, ?_⟩)
            · rw [Zc (zaR e2 hf3 (by intro z; cases z))]
              exact s4 _ _ e2
            · rw [Zc (zaR e2 hf4 (by intro z; cases z))]
              exact e2
          · rw [List.length_append]
            omega
          · rw [e, List.append_assoc, refl, if_pos hxy]
    · rintro σ H' ⟨left, v5, v6, ys, done, rfl, s3, hf3, hd3, hn3, e⟩
      rw [hl, List.drop_length] at e
      rw [show refl x y left [] = [] from rfl, List.append_nil] at e
      rw [e] at k
      exact ⟨_, rfl, k H' f ys s3 hf hf3 hd3⟩
end
end Lr
namespace Lr
open Sy33 (Call Act File)
abbrev casts (l : List Nat) : List Int := l.map fun (x : Nat) => (x : Int)
inductive zad : List Int → Call → Prop
  | begins (p : Nat) (o : List Nat) (hp : p < 2 ^ 32) (hl : o.length ≤ 60) (ho : ∀ x ∈ o, x < 2 ^ 32) : zad ((0 : Int) :: (p : Int) :: (o.length : Int) :: casts o) (.begins p o)
  | transfer (d q x y k : Nat) (hk : k ≤ 1) : zad [1, (d : Int), q, x, y, k] (.act d (.transfer q x y (k == 1)))
  | charge (d q x y n k : Nat) (hk : k ≤ 1) : zad [2, (d : Int), q, x, y, n, k] (.act d (.charge q x y n (k == 1)))
  | notice (d q x y k : Nat) (hk : k ≤ 1) : zad [3, (d : Int), q, x, y, k] (.act d (.notice q x y (k == 1)))
  | fulfil (d e k : Nat) (hk : k ≤ 1) : zad [4, (d : Int), e, k] (.act d (.fulfil e (k == 1)))
  | objection (d q x : Nat) : zad [5, (d : Int), q, x] (.act d (.objection q x))
  | strike (d e x : Nat) : zad [6, (d : Int), e, x] (.act d (.strike e x))
  | ahead (d x y : Nat) : zad [7, (d : Int), x, y] (.act d (.ahead x y))
  | correct (d q : Nat) : zad [8, (d : Int), q] (.act d (.correct q))
  | void_ (d e : Nat) : zad [9, (d : Int), e] (.act d (.void_ e))
  | owner (q d k : Nat) : zad [10, (q : Int), d, k] (.owner q d k)
  | charges (q d k : Nat) : zad [11, (q : Int), d, k] (.charges q d k)
  | rely (q d k : Nat) : zad [12, (q : Int), d, k] (.rely q d k)
  | sale (q d k n : Nat) : zad [13, (q : Int), d, k, n] (.sale q d k n)
  | stands (q d : Nat) : zad [14, (q : Int), d] (.stands q d)
  | days (q k : Nat) : zad [15, (q : Int), k] (.days q k)
theorem jhi {l : List Int} {x : Nat} {r : List Int} (h : Sy33Neutral.natIn l = some (x, r)) : l = (x : Int) :: r ∧ x < 2 ^ 32 := by
  cases l with
  | nil => cases h
  | cons n l =>
    have h : (if 0 ≤ n ∧ n < 2 ^ 32 then some (n.toNat, l) else none) = some (x, r) := h
    split at h
    · rename_i hn
      obtain ⟨e1, e2⟩ := Prod.mk.inj (Option.some.inj h)
      subst e1 e2
      refine ⟨?_, ?_⟩
      · congr 1
        omega
      · have := hn.2
        omega
    · cases h
theorem zfy : ∀ (k : Nat) {l : List Int} {xs : List Nat} {r : List Int}, Sy33Neutral.many_ Sy33Neutral.natIn k l = some (xs, r) → l = casts xs ++ r ∧ xs.length = k ∧ ∀ x ∈ xs, x < 2 ^ 32
  | 0, l, xs, r, h => by
    obtain ⟨e1, e2⟩ := Prod.mk.inj (Option.some.inj (show some (([] : List Nat), l) = some (xs, r) from h))
    subst e1 e2
    exact ⟨rfl, rfl, fun x hx => by cases hx⟩
  | k + 1, l, xs, r, h => by
    unfold Sy33Neutral.many_ at h
    obtain ⟨⟨x, l1⟩, h1, h2⟩ := Option.bind_eq_some_iff.mp h
    obtain ⟨⟨ys, l2⟩, h3, h4⟩ := Option.map_eq_some_iff.mp h2
    obtain ⟨e1, e2⟩ := Prod.mk.inj h4
    have e1 : x :: ys = xs := e1
    have e2 : l2 = r := e2
    subst e1 e2
    obtain ⟨a1, a2⟩ := jhi h1
    obtain ⟨b1, b2, b3⟩ := zfy k h3
    have b1 : l1 = casts ys ++ l2 := b1
    refine ⟨?_, by rw [List.length_cons, b2], fun y hy => ?_⟩
    · rw [a1, b1]
      rfl
    · rcases List.mem_cons.mp hy with e | hy
      · subst e; exact a2
      · exact b3 y hy
theorem YgN {α : Type} {o : Option (α × List Int)} {a : α} (h : Sy33Neutral.all_ o = some a) : o = some (a, []) := by
  unfold Sy33Neutral.all_ at h
  obtain ⟨⟨b, r⟩, h1, h2⟩ := Option.bind_eq_some_iff.mp h
  split at h2
  · rename_i hr
    have e := Option.some.inj h2
    subst e
    cases r with
    | nil => exact h1
    | cons _ _ => cases hr
  · cases h2
theorem zht {k : Nat} {l : List Int} {xs : List Nat} (h : Sy33Neutral.all_ (Sy33Neutral.some_ k l) = some xs) : l = casts xs ∧ xs.length = k := by
  obtain ⟨h1, h2, _⟩ := zfy k (show Sy33Neutral.many_ Sy33Neutral.natIn k l = some (xs, []) from YgN h)
  rw [List.append_nil] at h1
  exact ⟨h1, h2⟩
theorem Zht {k : Nat} {l : List Int} {x : List Nat × Bool} (h : Sy33Neutral.all_ (Sy33Neutral.flagged k l) = some x) : l = casts x.1 ∧ x.1.length = k ∧ x.1.getD (k - 1) 0 ≤ 1 ∧ x.2 = (x.1.getD (k - 1) 0 == 1) := by
  have h1 := YgN h
  unfold Sy33Neutral.flagged at h1
  obtain ⟨⟨xs, r⟩, h2, h3⟩ := Option.bind_eq_some_iff.mp h1
  split at h3
  · rename_i hk
    obtain ⟨e1, e2⟩ := Prod.mk.inj (Option.some.inj h3)
    have e2 : r = [] := e2
    subst e2
    obtain ⟨a1, a2, _⟩ := zfy k (show Sy33Neutral.many_ Sy33Neutral.natIn k l = some (xs, []) from h2)
    rw [List.append_nil] at a1
    rw [← e1]
    exact ⟨a1, a2, hk, rfl⟩
  · cases h3
theorem zhO {l : List Nat} (h : l.length = 2) : ∃ a b, l = [a, b] := by
  match l, h with
  | [a, b], _ => exact ⟨a, b, rfl⟩
theorem JhJ {l : List Nat} (h : l.length = 3) : ∃ a b c, l = [a, b, c] := by
  match l, h with
  | [a, b, c], _ => exact ⟨a, b, c, rfl⟩
theorem ZhO {l : List Nat} (h : l.length = 4) : ∃ a b c d, l = [a, b, c, d] := by
  match l, h with
  | [a, b, c, d], _ => exact ⟨a, b, c, d, rfl⟩
theorem yhO {l : List Nat} (h : l.length = 5) : ∃ a b c d e, l = [a, b, c, d, e] := by
  match l, h with
  | [a, b, c, d, e], _ => exact ⟨a, b, c, d, e, rfl⟩
theorem YhO {l : List Nat} (h : l.length = 6) : ∃ a b c d e f, l = [a, b, c, d, e, f] := by
  match l, h with
  | [a, b, c, d, e, f], _ => exact ⟨a, b, c, d, e, f, rfl⟩
theorem call_in {l : List Int} {c : Call} (h : Sy33Neutral.callOf l = some c) : zad l c := by
  unfold Sy33Neutral.callOf at h
  split at h
  · rename_i l
    have h1 := YgN h
    obtain ⟨⟨p, r⟩, h2, h3⟩ := Option.bind_eq_some_iff.mp h1
    obtain ⟨⟨o, r2⟩, h4, h5⟩ := Option.map_eq_some_iff.mp h3
    obtain ⟨e1, e2⟩ := Prod.mk.inj h5
    have e2 : r2 = [] := e2
    subst e2
    obtain ⟨a1, a2⟩ := jhi h2
    unfold Sy33Neutral.rowIn Sy33Neutral.listIn at h4
    cases r with
    | nil => cases h4
    | cons n r =>
      dsimp only at h4
      split at h4
      · rename_i hn
        obtain ⟨b1, b2, b3⟩ := zfy _ h4
        rw [List.append_nil] at b1
        subst a1 b1
        have e3 : n = (o.length : Int) := by omega
        subst e3
        rw [← e1]
        exact .begins p o a2 (by omega) b3
      · cases h4
  all_goals (first
    | (obtain ⟨x, h1, h2⟩ := Option.map_eq_some_iff.mp h
       obtain ⟨e1, e2, e3, e4⟩ := Zht h1
       obtain ⟨xs, b⟩ := x
       subst h2
       dsimp only at e1 e2 e3 e4 ⊢
       subst e4
       first
         | (obtain ⟨a, b, c, rfl⟩ := JhJ e2; subst e1; exact .fulfil _ _ _ e3)
         | (obtain ⟨a, b, c, d, e, rfl⟩ := yhO e2; subst e1; first | exact .transfer _ _ _ _ _ e3 | exact .notice _ _ _ _ _ e3)
         | (obtain ⟨a, b, c, d, e, f, rfl⟩ := YhO e2; subst e1; exact .charge _ _ _ _ _ _ e3))
    | (obtain ⟨xs, h1, h2⟩ := Option.map_eq_some_iff.mp h
       obtain ⟨e1, e2⟩ := zht h1
       subst h2
       first
         | (obtain ⟨a, b, rfl⟩ := zhO e2; subst e1; first | exact .correct _ _ | exact .void_ _ _ | exact .stands _ _ | exact .days _ _)
         | (obtain ⟨a, b, c, rfl⟩ := JhJ e2; subst e1; first | exact .objection _ _ _ | exact .strike _ _ _ | exact .ahead _ _ _ | exact .owner _ _ _ | exact .charges _ _ _ | exact .rely _ _ _)
         | (obtain ⟨a, b, c, d, rfl⟩ := ZhO e2; subst e1; exact .sale _ _ _ _))
    | cases h)
theorem JcD {α : Type} {l : List α} (h : 0 = l.length) : l = [] := by
  match l, h with
  | [], _ => rfl
theorem Zhx {α : Type} {l : List α} (h : 1 = l.length) : ∃ a, l = [a] := by
  match l, h with
  | [a], _ => exact ⟨a, rfl⟩
theorem ZgX {α : Type} {l : List α} (h : 2 = l.length) : ∃ a b, l = [a, b] := by
  match l, h with
  | [a, b], _ => exact ⟨a, b, rfl⟩
theorem YfG {α : Type} {l : List α} (h : 3 = l.length) : ∃ a b c, l = [a, b, c] := by
  match l, h with
  | [a, b, c], _ => exact ⟨a, b, c, rfl⟩
theorem zhK {α : Type} {l : List α} (h : 4 = l.length) : ∃ a b c d, l = [a, b, c, d] := by
  match l, h with
  | [a, b, c, d], _ => exact ⟨a, b, c, d, rfl⟩
theorem yhx {α : Type} {l : List α} (h : 5 = l.length) : ∃ a b c d e, l = [a, b, c, d, e] := by
  match l, h with
  | [a, b, c, d, e], _ => exact ⟨a, b, c, d, e, rfl⟩
theorem ZhK {α : Type} {l : List α} (h : 6 = l.length) : ∃ a b c d e f, l = [a, b, c, d, e, f] := by
  match l, h with
  | [a, b, c, d, e, f], _ => exact ⟨a, b, c, d, e, f, rfl⟩
theorem Jg4 {c : List (List Int)} (h : PyFlat.okCall PySy33.shape c) : (PySy33.whole c).headD [] = PyFlat.put1 c := by
  obtain ⟨p, a, xs, rfl, hs⟩ := h
  unfold PySy33.shape at hs
  by_cases e0 : p = 0
  · subst e0
    rw [if_pos rfl] at hs
    obtain ⟨h1, h2⟩ := Prod.mk.inj (Option.some.inj hs)
    obtain ⟨r0, rfl⟩ := Zhx h2
    obtain ⟨x0, rfl⟩ := Zhx h1
    show (0 : Int) :: x0 :: (r0.length : Int) :: r0 = (0 : Int) :: x0 :: (((r0.length : Int) :: r0) ++ [])
    rw [List.append_nil]
  rw [if_neg e0] at hs
  by_cases e1 : p = 1
  · subst e1
    rw [if_pos rfl] at hs
    obtain ⟨h1, h2⟩ := Prod.mk.inj (Option.some.inj hs)
    obtain rfl := JcD h2
    obtain ⟨x0, x1, x2, x3, x4, rfl⟩ := yhx h1
    rfl
  rw [if_neg e1] at hs
  by_cases e2 : p = 2
  · subst e2
    rw [if_pos rfl] at hs
    obtain ⟨h1, h2⟩ := Prod.mk.inj (Option.some.inj hs)
    obtain rfl := JcD h2
    obtain ⟨x0, x1, x2, x3, x4, x5, rfl⟩ := ZhK h1
    rfl
  rw [if_neg e2] at hs
  by_cases e3 : p = 3
  · subst e3
    rw [if_pos rfl] at hs
    obtain ⟨h1, h2⟩ := Prod.mk.inj (Option.some.inj hs)
    obtain rfl := JcD h2
    obtain ⟨x0, x1, x2, x3, x4, rfl⟩ := yhx h1
    rfl
  rw [if_neg e3] at hs
  by_cases e4 : p = 4
  · subst e4
    rw [if_pos rfl] at hs
    obtain ⟨h1, h2⟩ := Prod.mk.inj (Option.some.inj hs)
    obtain rfl := JcD h2
    obtain ⟨x0, x1, x2, rfl⟩ := YfG h1
    rfl
  rw [if_neg e4] at hs
  by_cases e5 : p = 5
  · subst e5
    rw [if_pos rfl] at hs
    obtain ⟨h1, h2⟩ := Prod.mk.inj (Option.some.inj hs)
    obtain rfl := JcD h2
    obtain ⟨x0, x1, x2, rfl⟩ := YfG h1
    rfl
  rw [if_neg e5] at hs
  by_cases e6 : p = 6
  · subst e6
    rw [if_pos rfl] at hs
    obtain ⟨h1, h2⟩ := Prod.mk.inj (Option.some.inj hs)
    obtain rfl := JcD h2
    obtain ⟨x0, x1, x2, rfl⟩ := YfG h1
    rfl
  rw [if_neg e6] at hs
  by_cases e7 : p = 7
  · subst e7
    rw [if_pos rfl] at hs
    obtain ⟨h1, h2⟩ := Prod.mk.inj (Option.some.inj hs)
    obtain rfl := JcD h2
    obtain ⟨x0, x1, x2, rfl⟩ := YfG h1
    rfl
  rw [if_neg e7] at hs
  by_cases e8 : p = 8
  · subst e8
    rw [if_pos rfl] at hs
    obtain ⟨h1, h2⟩ := Prod.mk.inj (Option.some.inj hs)
    obtain rfl := JcD h2
    obtain ⟨x0, x1, rfl⟩ := ZgX h1
    rfl
  rw [if_neg e8] at hs
  by_cases e9 : p = 9
  · subst e9
    rw [if_pos rfl] at hs
    obtain ⟨h1, h2⟩ := Prod.mk.inj (Option.some.inj hs)
    obtain rfl := JcD h2
    obtain ⟨x0, x1, rfl⟩ := ZgX h1
    rfl
  rw [if_neg e9] at hs
  by_cases e10 : p = 10
  · subst e10
    rw [if_pos rfl] at hs
    obtain ⟨h1, h2⟩ := Prod.mk.inj (Option.some.inj hs)
    obtain rfl := JcD h2
    obtain ⟨x0, x1, x2, rfl⟩ := YfG h1
    rfl
  rw [if_neg e10] at hs
  by_cases e11 : p = 11
  · subst e11
    rw [if_pos rfl] at hs
    obtain ⟨h1, h2⟩ := Prod.mk.inj (Option.some.inj hs)
    obtain rfl := JcD h2
    obtain ⟨x0, x1, x2, rfl⟩ := YfG h1
    rfl
  rw [if_neg e11] at hs
  by_cases e12 : p = 12
  · subst e12
    rw [if_pos rfl] at hs
    obtain ⟨h1, h2⟩ := Prod.mk.inj (Option.some.inj hs)
    obtain rfl := JcD h2
    obtain ⟨x0, x1, x2, rfl⟩ := YfG h1
    rfl
  rw [if_neg e12] at hs
  by_cases e13 : p = 13
  · subst e13
    rw [if_pos rfl] at hs
    obtain ⟨h1, h2⟩ := Prod.mk.inj (Option.some.inj hs)
    obtain rfl := JcD h2
    obtain ⟨x0, x1, x2, x3, rfl⟩ := zhK h1
    rfl
  rw [if_neg e13] at hs
  by_cases e14 : p = 14
  · subst e14
    rw [if_pos rfl] at hs
    obtain ⟨h1, h2⟩ := Prod.mk.inj (Option.some.inj hs)
    obtain rfl := JcD h2
    obtain ⟨x0, x1, rfl⟩ := ZgX h1
    rfl
  rw [if_neg e14] at hs
  by_cases e15 : p = 15
  · subst e15
    rw [if_pos rfl] at hs
    obtain ⟨h1, h2⟩ := Prod.mk.inj (Option.some.inj hs)
    obtain rfl := JcD h2
    obtain ⟨x0, x1, rfl⟩ := ZgX h1
    rfl
  rw [if_neg e15] at hs
  cases hs
def ZdB : File → List Call → List (List Int)
  | _, [] => []
  | f, c :: cs => Sy33Neutral.out (Sy33.step f c).2 :: ZdB (Sy33.step f c).1 cs
theorem yeN : ∀ (cs : List (List (List Int))) (ds : List Call) (f : File), cs.map (fun c => Sy33Neutral.callOf (c.headD [])) = ds.map some →
    PyFlat.played (fun s c => Sy33Neutral.step s (c.headD [])) f cs = ZdB f ds
  | [], [], _, _ => rfl
  | [], _ :: _, _, h => by cases h
  | _ :: _, [], _, h => by cases h
  | c :: cs, d :: ds, f, h => by
    obtain ⟨h1, h2⟩ := List.cons.inj (show Sy33Neutral.callOf (c.headD []) :: cs.map (fun c => Sy33Neutral.callOf (c.headD [])) = some d :: ds.map some from h)
    have e : Sy33Neutral.step f (c.headD []) = ((Sy33.step f d).1, Sy33Neutral.out (Sy33.step f d).2) := by
      unfold Sy33Neutral.step
      rw [h1]
    show (Sy33Neutral.step f (c.headD [])).2 :: PyFlat.played _ (Sy33Neutral.step f (c.headD [])).1 cs = _
    rw [e, yeN cs ds _ h2]
    rfl
theorem jfG : ∀ (cs : List (List Int)) (ds : List Call) (f : File), cs.map Sy33Neutral.callOf = ds.map some → Sy33Neutral.many f cs = (ZdB f ds).flatten.length
  | [], [], _, _ => rfl
  | [], _ :: _, _, h => by cases h
  | _ :: _, [], _, h => by cases h
  | c :: cs, d :: ds, f, h => by
    obtain ⟨h1, h2⟩ := List.cons.inj (show Sy33Neutral.callOf c :: cs.map Sy33Neutral.callOf = some d :: ds.map some from h)
    have e : Sy33Neutral.step f c = ((Sy33.step f d).1, Sy33Neutral.out (Sy33.step f d).2) := by
      unfold Sy33Neutral.step
      rw [h1]
    show (Sy33Neutral.step f c).2.length + Sy33Neutral.many (Sy33Neutral.step f c).1 cs = (Sy33Neutral.out (Sy33.step f d).2 :: ZdB (Sy33.step f d).1 ds).flatten.length
    rw [e, jfG cs ds _ h2, List.flatten_cons, List.length_append]
theorem Jgz : ∀ (cs : List (List Int)), (cs.all Sy33Neutral.asked1) = true → ∃ ds : List Call, cs.map Sy33Neutral.callOf = ds.map some ∧ ds.length = cs.length
  | [], _ => ⟨[], rfl, rfl⟩
  | c :: cs, h => by
    rw [List.all_cons, Bool.and_eq_true] at h
    obtain ⟨ds, e, hl⟩ := Jgz cs h.2
    obtain ⟨d, hd⟩ := Option.isSome_iff_exists.mp h.1
    exact ⟨d :: ds, by rw [List.map_cons, hd, e]; rfl, by rw [List.length_cons, List.length_cons, hl]⟩
inductive Both : List (List Int) → List Call → Prop
  | nil : Both [] []
  | cons {l : List Int} {c : Call} {ls : List (List Int)} {cs : List Call} (h : zad l c) (t : Both ls cs) : Both (l :: ls) (c :: cs)
theorem ygX : ∀ (cs : List (List Int)) (ds : List Call), cs.map Sy33Neutral.callOf = ds.map some → Both cs ds
  | [], [], _ => .nil
  | [], _ :: _, h => by cases h
  | _ :: _, [], h => by cases h
  | c :: cs, d :: ds, h => by
    obtain ⟨h1, h2⟩ := List.cons.inj (show Sy33Neutral.callOf c :: cs.map Sy33Neutral.callOf = some d :: ds.map some from h)
    exact .cons (call_in h1) (ygX cs ds h2)
theorem zgA : ∀ (cs : List (List (List Int))), (∀ c ∈ cs, PyFlat.okCall PySy33.shape c) → PyFlat.put cs = ((cs.map PySy33.whole).map fun c => c.headD []).flatten
  | [], _ => rfl
  | c :: cs, h => by
    show PyFlat.put1 c ++ PyFlat.put cs = (PySy33.whole c).headD [] ++ ((cs.map PySy33.whole).map fun c => c.headD []).flatten
    rw [Jg4 (h c List.mem_cons_self), zgA cs fun d hd => h d (List.mem_cons_of_mem _ hd)]
theorem decoded {ns : List Int} (h : PySy33.answers_asked ns = true) : ∃ (ls : List (List Int)) (cs : List Call), ns = ls.flatten ∧ Both ls cs ∧ cs.length ≤ 60 ∧ PySy33.answers ns = PyFlat.told (ZdB Sy33.start cs) ∧ (ZdB Sy33.start cs).flatten.length ≤ 1000000 := by
  unfold PySy33.answers_asked at h
  unfold PySy33.answers
  cases e : PySy33.calls ns with
  | none =>
    rw [e] at h
    cases h
  | some cs =>
    rw [e] at h
    dsimp only at h ⊢
    rw [Bool.and_eq_true] at h
    obtain ⟨_, h⟩ := h
    unfold Sy33Neutral.asked at h
    rw [Bool.and_eq_true, Bool.and_eq_true, Bool.and_eq_true] at h
    obtain ⟨h1, _, h3, h4⟩ := h
    have h3 := of_decide_eq_true h3
    have h4 := of_decide_eq_true h4
    obtain ⟨ds, hd, hl⟩ := Jgz _ h1
    unfold PySy33.calls at e
    cases e2 : PyFlat.calls PySy33.shape ns.length ns with
    | none =>
      rw [e2] at e
      cases e
    | some cs0 =>
      rw [e2] at e
      have e := Option.some.inj e
      subst e
      obtain ⟨p1, p2⟩ := PyFlat.put_calls _ _ _ e2
      refine ⟨_, ds, ?_, ygX _ _ hd, by rw [hl]; exact h3, ?_, ?_⟩
      · rw [p1]
        exact zgA cs0 p2
      · congr 1
        refine yeN _ ds _ ?_
        rw [← hd, List.map_map, List.map_map, List.map_map]
        rfl
      · rw [← jfG _ ds _ hd]
        exact h4
end Lr
namespace Lr
open Sy33
theorem JfG {α β : Type} (g : α × Nat → β) (l : List α) (i : Nat) : (l.zipIdx.map g)[i]? = (l[i]?).map fun x => g (x, i) := by
  rw [List.getElem?_map, List.getElem?_zipIdx]
  cases l[i]? with
  | none => rfl
  | some x => simp
theorem yde {α : Type} (l : List α) (k : Nat) (f : α → α) : (setAt l k f).length = l.length := by simp [setAt]
theorem Yaq {α : Type} (l : List α) (k : Nat) (f : α → α) (i : Nat) : (setAt l k f)[i]? = (l[i]?).map fun x => if i = k then f x else x := by
  unfold setAt
  rw [JfG]
theorem ZcS {α : Type} (l : List α) (i : Nat) (d : α) : l.getD i d = (l[i]?).getD d := by simp [List.getD]
theorem ycS (l : List Nat) (k v : Nat) (i : Nat) (hi : i < l.length) : ownerAt (setAt l k fun _ => v) i = if i = k then v else ownerAt l i := by
  unfold ownerAt
  rw [ZcS, ZcS, Yaq, List.getElem?_eq_getElem hi]
  by_cases h : i = k <;> simp [h]
theorem ZgA {α : Type} (l : List α) (k : Nat) (f g : α → α) (h : ∀ x, l[k]? = some x → f x = g x) : setAt l k f = setAt l k g := by
  apply List.ext_getElem?
  intro i
  rw [Yaq, Yaq]
  by_cases e : i = k
  · subst e
    cases q : l[i]? with
    | none => rfl
    | some x => simp [h x q]
  · cases l[i]? with
    | none => rfl
    | some x => simp [e]
theorem Jf8 (is : List Item) (v : List Nat) : ∀ (l : List Item) (i : Nat) (s : Reg × Truth) (x : Item), both is v i (l ++ [x]) s =
    ((both is v i l s).1.enters is (i + l.length) x, (both is v i l s).2.enters is (both is v i l s).1 v (i + l.length) x)
  | [], i, s, x => rfl
  | y :: l, i, s, x => by
    show both is v (i + 1) (l ++ [x]) _ = _
    rw [Jf8 is v l (i + 1)]
    have e : i + 1 + l.length = i + (y :: l).length := by rw [List.length_cons]; omega
    rw [e]
    rfl
def regs (is : List Item) : Nat → List Item → Reg → Reg
  | _, [], r => r
  | i, x :: l, r => regs is (i + 1) l (r.enters is i x)
theorem Yde (is : List Item) (v : List Nat) : ∀ (l : List Item) (i : Nat) (s : Reg × Truth), (both is v i l s).1 = regs is i l s.1
  | [], _, _ => rfl
  | x :: l, i, s => Yde is v l (i + 1) _
theorem zf9 (is : List Item) : ∀ (l : List Item) (i : Nat) (r : Reg) (x : Item), regs is i (l ++ [x]) r = (regs is i l r).enters is (i + l.length) x
  | [], _, _, _ => rfl
  | y :: l, i, r, x => by
    show regs is (i + 1) (l ++ [x]) _ = _
    rw [zf9 is l (i + 1)]
    have e : i + 1 + l.length = i + (y :: l).length := by rw [List.length_cons]; omega
    rw [e]
    rfl
theorem jde {α : Type} {p : α → Bool} {x : α} {l : List α} (h : p x = true) : (x :: l).findIdx p = 0 := by simp [List.findIdx_cons, h]
theorem Ybc {α : Type} {p : α → Bool} {x : α} {l : List α} (h : p x = false) : (x :: l).findIdx p = l.findIdx p + 1 := by simp [List.findIdx_cons, h]
def Zb6 (a b : Nat) : List Place → Bool
  | [] => false
  | p :: l => if p.entry = a then true else if p.entry = b then false else Zb6 a b l
theorem zfH {a b : Nat} (h : a ≠ b) : ∀ l : List Place, Zb6 a b l = decide (firstPlace l a < firstPlace l b)
  | [] => rfl
  | p :: l => by
    have ih := zfH h l
    unfold firstPlace at ih ⊢
    unfold Zb6
    by_cases h1 : p.entry = a
    · rw [if_pos h1, jde (by simpa using h1), Ybc (by simp; omega)]
      simp
    · rw [if_neg h1]
      by_cases h2 : p.entry = b
      · rw [if_pos h2, Ybc (by simpa using h1), jde (by simpa using h2)]
        simp
      · rw [if_neg h2, Ybc (by simpa using h1), Ybc (by simpa using h2), ih]
        simp
structure YcS (n : Nat) (r : Reg) : Prop where
  st : ∀ e ∈ r.stands, e < n
  pl : ∀ (q : Nat) (l : List Place), r.places[q]? = some l → ∀ p ∈ l, p.entry < n
theorem zg5 {is ys : List Item} {plot k e : Nat} (h : e < is.length) : later (is ++ ys) plot k e = later is plot k e := by
  unfold later
  rw [List.getElem?_append_left h]
theorem jgN {r : Reg} {plot n : Nat} {f g : Nat → Bool} (hr : YcS n r) (h : ∀ e, e < n → f e = g e) : r.gone plot f = r.gone plot g := by
  unfold Reg.gone
  congr 1
  · apply ZgA
    intro l hl
    apply List.filter_congr
    intro p hp
    rw [h _ (hr.pl plot l hl p hp)]
  · apply List.filter_congr
    intro e he
    rw [h e (hr.st e he)]
theorem JgN {is ys : List Item} {r : Reg} {i : Nat} {x : Item} (hr : YcS is.length r) : r.enters (is ++ ys) i x = r.enters is i x := by
  unfold Reg.enters
  cases x.act with
  | fulfil k b =>
    refine jgN (n := is.length) ⟨hr.st, hr.pl⟩ fun e he => ?_
    rw [zg5 he]
  | _ => rfl
theorem Zcs (a b : Nat) : ∀ (l : List Place) (x y : Nat) (p : Place), p ∈ refill a b x y l → p.entry = a ∨ p.entry = b ∨ ∃ q ∈ l, q.entry = p.entry
  | [], _, _, p, h => by cases h
  | q :: l, x, y, p, h => by
    unfold refill at h
    split at h
    · rcases List.mem_append.mp h with h | h
      · split at h
        · cases h
        · rcases List.mem_cons.mp h with h | h
          · subst h; exact .inl rfl
          · cases h
      · rcases List.mem_append.mp h with h | h
        · split at h
          · cases h
          · rcases List.mem_cons.mp h with h | h
            · subst h; exact .inr (.inl rfl)
            · cases h
        · rcases Zcs a b l _ _ p h with z | z | ⟨c, hc, z⟩
          · exact .inl z
          · exact .inr (.inl z)
          · exact .inr (.inr ⟨c, List.mem_cons_of_mem _ hc, z⟩)
    · rcases List.mem_cons.mp h with h | h
      · subst h; exact .inr (.inr ⟨p, List.mem_cons_self, rfl⟩)
      · rcases Zcs a b l _ _ p h with z | z | ⟨c, hc, z⟩
        · exact .inl z
        · exact .inr (.inl z)
        · exact .inr (.inr ⟨c, List.mem_cons_of_mem _ hc, z⟩)
theorem Zgi {a b n : Nat} {l : List Place} (h : ∀ q ∈ l, q.entry < n) (ha : a < n) (hb : b < n) : ∀ p ∈ before_ a b l, p.entry < n := fun p hp => by
  rcases Zcs a b l _ _ p hp with z | z | ⟨c, hc, z⟩
  · omega
  · omega
  · have := h c hc; omega
def names (a : Act) : List Nat := match a with
  | .ahead a b => [a, b]
  | _ => []
theorem YcS.enters {is : List Item} {r : Reg} {n i : Nat} {x : Item} (hr : YcS n r) (hi : i < n + 1) (hx : ∀ e ∈ names x.act, e < n + 1) : YcS (n + 1) (r.enters is i x) := by
  have st : ∀ e ∈ r.stands, e < n + 1 := fun e he => Nat.lt_succ_of_lt (hr.st e he)
  have pl : ∀ (q : Nat) (l : List Place), r.places[q]? = some l → ∀ p ∈ l, p.entry < n + 1 := fun q l hl p hp => Nat.lt_succ_of_lt (hr.pl q l hl p hp)
  have gn : ∀ (r' : Reg) (f : Nat → Bool), r'.stands = r.stands → r'.places = r.places → YcS (n + 1) (r'.gone x.plot f) := fun r' f e1 e2 => by
    refine ⟨fun e he => ?_, fun q l hl p hp => ?_⟩
    · have he : e ∈ r'.stands.filter fun (e : Nat) => !f e := he
      rw [e1] at he
      exact st e (List.mem_filter.mp he).1
    · have hl : (setAt r'.places x.plot fun (l : List Place) => l.filter fun (p : Place) => !f p.entry)[q]? = some l := hl
      rw [Yaq, e2] at hl
      obtain ⟨l0, h1, h2⟩ := Option.map_eq_some_iff.mp hl
      split at h2
      · subst h2
        exact pl q l0 h1 p (List.mem_filter.mp hp).1
      · subst h2
        exact pl q l0 h1 p hp
  unfold Reg.enters
  cases e : x.act with
  | transfer => exact ⟨st, pl⟩
  | charge q g c m k =>
    refine ⟨fun e he => ?_, fun q l hl p hp => ?_⟩
    · rcases List.mem_append.mp he with he | he
      · exact st e he
      · have := List.mem_singleton.mp he; omega
    · have hl : (setAt r.places x.plot fun (l : List Place) => l ++ [⟨i, m⟩])[q]? = some l := hl
      rw [Yaq] at hl
      obtain ⟨l0, h1, h2⟩ := Option.map_eq_some_iff.mp hl
      split at h2
      · subst h2
        rcases List.mem_append.mp hp with hp | hp
        · exact pl q l0 h1 p hp
        · have z := List.mem_singleton.mp hp
          subst z
          exact hi
      · subst h2
        exact pl q l0 h1 p hp
  | notice =>
    refine ⟨fun e he => ?_, pl⟩
    rcases List.mem_append.mp he with he | he
    · exact st e he
    · have := List.mem_singleton.mp he; omega
  | objection =>
    refine ⟨fun e he => ?_, pl⟩
    rcases List.mem_append.mp he with he | he
    · exact st e he
    · have := List.mem_singleton.mp he; omega
  | fulfil k b => exact gn _ _ rfl rfl
  | strike k b => exact gn _ _ rfl rfl
  | ahead a b =>
    rw [e] at hx
    have ha : a < n + 1 := hx a (by simp [names])
    have hb : b < n + 1 := hx b (by simp [names])
    refine ⟨st, fun q l hl p hp => ?_⟩
    have hl : (setAt r.places x.plot (before_ a b))[q]? = some l := hl
    rw [Yaq] at hl
    obtain ⟨l0, h1, h2⟩ := Option.map_eq_some_iff.mp hl
    split at h2
    · subst h2
      exact Zgi (pl q l0 h1) ha hb p hp
    · subst h2
      exact pl q l0 h1 p hp
  | correct => exact ⟨st, pl⟩
  | void_ => exact ⟨st, pl⟩
theorem YcS.mono {m n : Nat} {r : Reg} (h : YcS m r) (l : m ≤ n) : YcS n r := ⟨fun e he => Nat.lt_of_lt_of_le (h.st e he) l, fun q k hk p hp => Nat.lt_of_lt_of_le (h.pl q k hk p hp) l⟩
def refs (a : Act) : List Nat := match a with
  | .fulfil k _ => [k]
  | .strike k _ => [k]
  | .ahead a b => [a, b]
  | .void_ k => [k]
  | _ => []
theorem ZfH {a : Act} {e : Nat} (h : e ∈ names a) : e ∈ refs a := by
  cases a <;> first | exact h | cases h
def Back (i : Nat) (l : List Item) : Prop := ∀ (j : Nat) (x : Item), l[j]? = some x → ∀ e ∈ refs x.act, e < i + j
theorem Back.tail {i : Nat} {x : Item} {l : List Item} (h : Back i (x :: l)) : Back (i + 1) l := fun j y hy e he => by
  have := h (j + 1) y hy e he
  omega
theorem Back.take {i : Nat} {l : List Item} (h : Back i l) (n : Nat) : Back i (l.take n) := fun j x hx e he => by
  rw [List.getElem?_take] at hx
  split at hx
  · exact h j x hx e he
  · cases hx
theorem ZdX (is ys : List Item) : ∀ (l : List Item) (i : Nat) (r : Reg), Back i l → YcS i r → i + l.length ≤ is.length → regs (is ++ ys) i l r = regs is i l r
  | [], _, _, _, _, _ => rfl
  | x :: l, i, r, hb, h, hl => by
    rw [List.length_cons] at hl
    show regs (is ++ ys) (i + 1) l (r.enters (is ++ ys) i x) = regs is (i + 1) l (r.enters is i x)
    rw [JgN (h.mono (by omega))]
    refine ZdX is ys l (i + 1) _ hb.tail ?_ (by omega)
    exact h.enters (Nat.lt_succ_self i) fun e he => by
      have := hb 0 x rfl e (ZfH he)
      omega
theorem YeN {is ys : List Item} {k : Nat} (h : k < is.length) : noticeOf (is ++ ys) k = noticeOf is k := by
  unfold noticeOf
  rw [List.getElem?_append_left h]
theorem Jde (o : List Nat) : YcS 0 (begun o).1 := by
  refine ⟨fun e he => (by cases he), fun q l hl p hp => ?_⟩
  have hl : (o.map fun (_ : Nat) => ([] : List Place))[q]? = some l := hl
  rw [List.getElem?_map] at hl
  obtain ⟨x, _, e⟩ := Option.map_eq_some_iff.mp hl
  subst e
  cases hp
def YeA (f : File) (i : Nat) (x : Item) : Prop := x.plot < f.owners.length ∧ (match x.act with
  | .transfer q g t _ => x.plot = q ∧ x.was = g ∧ x.now = t ∧ g < f.persons ∧ t < f.persons ∧ g ≠ t
  | .charge q g c n _ => x.plot = q ∧ x.was = g ∧ x.now = g ∧ g < f.persons ∧ c < f.persons ∧ g ≠ c ∧ 1 ≤ n ∧ n ≤ AMOUNT
  | .notice q g p _ => x.plot = q ∧ x.was = g ∧ x.now = g ∧ g < f.persons ∧ p < f.persons ∧ g ≠ p
  | .fulfil k _ => k < i ∧ plotOf f.items k = x.plot ∧ ∃ g p, noticeOf f.items k = some (g, p) ∧ x.now = p
  | .objection q p => x.plot = q ∧ x.now = x.was ∧ p < f.persons
  | .strike k b => k < i ∧ plotOf f.items k = x.plot ∧ holder f.items k = some b ∧ x.now = x.was
  | .ahead a b => a < i ∧ b < i ∧ a ≠ b ∧ isCharge f.items a = true ∧ isCharge f.items b = true ∧ plotOf f.items a = x.plot ∧ plotOf f.items b = x.plot ∧ x.now = x.was
  | .correct q => x.plot = q
  | .void_ k => k < i ∧ plotOf f.items k = x.plot ∧ x.now = x.was)
def zfl (a : Act) : List Nat := match a with
  | .fulfil k _ => [k]
  | .strike k _ => [k]
  | .ahead a b => [a, b]
  | _ => []
structure WF (f : File) : Prop where
  p1 : 1 ≤ f.persons
  p2 : f.persons ≤ 10
  o1 : 1 ≤ f.owners.length
  o2 : f.owners.length ≤ 6
  o3 : ∀ x ∈ f.owners, x < f.persons
  n : f.items.length ≤ 40
  day : f.items.Pairwise fun x y => x.day ≤ y.day
  dmax : ∀ x ∈ f.items, x.day ≤ DAY
  ok : ∀ (i : Nat) (x : Item), f.items[i]? = some x → YeA f i x
  was : ∀ (i : Nat) (x : Item), f.items[i]? = some x → x.was = ownerAt (regs f.items 0 (f.items.take i) (begun f.owners).1).owner x.plot
  std : ∀ (i : Nat) (x : Item), f.items[i]? = some x → ∀ e ∈ zfl x.act, e ∈ (regs f.items 0 (f.items.take i) (begun f.owners).1).stands
theorem WF.back {f : File} (h : WF f) : Back 0 f.items := fun j x hx e he => by
  rw [Nat.zero_add]
  have z := (h.ok j x hx).2
  cases q : x.act with
  | fulfil k b =>
    rw [q] at z he
    rw [List.mem_singleton.mp he]
    exact z.1
  | strike k b =>
    rw [q] at z he
    rw [List.mem_singleton.mp he]
    exact z.1
  | ahead a b =>
    rw [q] at z he
    rcases List.mem_cons.mp he with he | he
    · rw [he]; exact z.1
    · rw [List.mem_singleton.mp he]; exact z.2.1
  | void_ k =>
    rw [q] at z he
    rw [List.mem_singleton.mp he]
    exact z.1
  | _ =>
    rw [q] at he
    cases he
theorem Jhi : WF start := by
  refine ⟨by decide, by decide, by decide, by decide, fun x hx => ?_, by decide, .nil, fun x hx => (by cases hx), fun i x hx => (by cases hx), fun i x hx => (by cases hx), fun i x hx => (by cases hx)⟩
  rw [List.mem_singleton.mp hx]
  decide
theorem ygA (f : File) : f.now.1 = regs f.items 0 f.items (begun f.owners).1 := Yde _ _ _ _ _
theorem YgX (f : File) (d k : Nat) : (f.on d k).1 = regs f.items 0 (f.items.takeWhile fun (x : Item) => decide (x.day ≤ d)) (begun f.owners).1 := Yde _ _ _ _ _
theorem ydX {α : Type} (p : α → Bool) : ∀ l : List α, ∃ n, n ≤ l.length ∧ l.takeWhile p = l.take n
  | [] => ⟨0, Nat.le_refl _, rfl⟩
  | x :: l => by
    obtain ⟨n, hn, e⟩ := ydX p l
    rw [List.takeWhile_cons]
    cases p x with
    | true => exact ⟨n + 1, Nat.succ_le_succ hn, by rw [if_pos rfl, e]; rfl⟩
    | false => exact ⟨0, Nat.zero_le _, rfl⟩
theorem zdf {d : Nat} : ∀ {l : List Item}, l.Pairwise (fun x y => x.day ≤ y.day) → l.takeWhile (fun x => decide (x.day ≤ d)) = l.filter fun x => decide (x.day ≤ d)
  | [], _ => rfl
  | x :: l, h => by
    rw [List.pairwise_cons] at h
    rw [List.takeWhile_cons, List.filter_cons]
    by_cases q : x.day ≤ d
    · rw [if_pos (by simpa using q), if_pos (by simpa using q), zdf h.2]
    · rw [if_neg (by simpa using q), if_neg (by simpa using q)]
      symm
      apply List.filter_eq_nil_iff.mpr
      intro y hy
      have := h.1 y hy
      simp
      omega
theorem za3 {is ys : List Item} {k : Nat} (h : k < is.length) : plotOf (is ++ ys) k = plotOf is k := by
  unfold plotOf
  rw [List.getElem?_append_left h]
theorem yfH {is ys : List Item} {k : Nat} (h : k < is.length) : holder (is ++ ys) k = holder is k := by
  unfold holder
  rw [List.getElem?_append_left h]
theorem ycs {is ys : List Item} {k : Nat} (h : k < is.length) : isCharge (is ++ ys) k = isCharge is k := by
  unfold isCharge
  rw [List.getElem?_append_left h]
theorem YeA.ext {f : File} {ys : List Item} {i : Nat} {x : Item} (h : YeA f i x) (hi : i ≤ f.items.length) : YeA { f with items := f.items ++ ys } i x := by
  refine ⟨h.1, ?_⟩
  have z := h.2
  cases q : x.act with
  | fulfil k b =>
    rw [q] at z
    obtain ⟨a, b, c⟩ := z
    have hk : k < f.items.length := by omega
    refine ⟨a, ?_, ?_⟩
    · rw [za3 hk]; exact b
    · rw [YeN hk]; exact c
  | strike k b =>
    rw [q] at z
    obtain ⟨a, b, c, d⟩ := z
    have hk : k < f.items.length := by omega
    refine ⟨a, ?_, ?_, d⟩
    · rw [za3 hk]; exact b
    · rw [yfH hk]; exact c
  | ahead a b =>
    rw [q] at z
    obtain ⟨h1, h2, h3, h4, h5, h6, h7, h8⟩ := z
    have ha : a < f.items.length := by omega
    have hb : b < f.items.length := by omega
    refine ⟨h1, h2, h3, ?_, ?_, ?_, ?_, h8⟩
    · rw [ycs ha]; exact h4
    · rw [ycs hb]; exact h5
    · rw [za3 ha]; exact h6
    · rw [za3 hb]; exact h7
  | void_ k =>
    rw [q] at z
    obtain ⟨a, b, c⟩ := z
    have hk : k < f.items.length := by omega
    refine ⟨a, ?_, c⟩
    rw [za3 hk]; exact b
  | _ =>
    rw [q] at z
    exact z
theorem Zah {is : List Item} {k : Nat} {x : Item} (h : is[k]? = some x) : k < is.length := (List.getElem?_eq_some_iff.mp h).1
theorem YdX {is : List Item} {k : Nat} {z : Nat × Nat} (h : noticeOf is k = some z) : k < is.length := by
  unfold noticeOf at h
  obtain ⟨x, hx, _⟩ := Option.bind_eq_some_iff.mp h
  exact Zah hx
theorem je6 {is : List Item} {k z : Nat} (h : holder is k = some z) : k < is.length := by
  unfold holder at h
  obtain ⟨x, hx, _⟩ := Option.bind_eq_some_iff.mp h
  exact Zah hx
theorem yb6 {is : List Item} {k : Nat} (h : isCharge is k = true) : k < is.length := by
  unfold isCharge at h
  cases e : is[k]? with
  | none =>
    rw [e] at h
    cases h
  | some x => exact Zah e
theorem yht {l : List Item} (h : l.Pairwise fun x y => x.day ≤ y.day) {d : Nat} (hd : ¬ d < ((l.getLast?).map fun (x : Item) => x.day).getD 0) : ∀ x ∈ l, x.day ≤ d := by
  intro x hx
  rcases List.eq_nil_or_concat l with e | ⟨l', y, e⟩
  · subst e; cases hx
  · rw [List.concat_eq_append] at e
    subst e
    simp at hd
    rw [List.pairwise_append] at h
    rcases List.mem_append.mp hx with hx | hx
    · have := h.2.2 x hx y (by simp)
      omega
    · rw [List.mem_singleton.mp hx]
      exact hd
theorem WF.snoc {f : File} (h : WF f) {x : Item} (hn : f.items.length < 40) (hd : x.day ≤ DAY) (hl : ¬ x.day < today f) (hok : YeA f f.items.length x) (hw : x.was = ownerAt f.now.1.owner x.plot) (hs : ∀ e ∈ zfl x.act, e ∈ f.now.1.stands) : WF { f with items := f.items ++ [x] } := by
  refine ⟨h.p1, h.p2, h.o1, h.o2, h.o3, ?_, ?_, ?_, ?_, ?_, ?_⟩
  · show (f.items ++ [x]).length ≤ 40
    rw [List.length_append, List.length_singleton]
    omega
  · show (f.items ++ [x]).Pairwise _
    rw [List.pairwise_append]
    refine ⟨h.day, List.pairwise_singleton _ _, fun a ha b hb => ?_⟩
    rw [List.mem_singleton.mp hb]
    exact yht h.day hl a ha
  · intro y hy
    have hy : y ∈ f.items ++ [x] := hy
    rcases List.mem_append.mp hy with hy | hy
    · exact h.dmax y hy
    · rw [List.mem_singleton.mp hy]
      exact hd
  · intro i y hy
    have hy : (f.items ++ [x])[i]? = some y := hy
    by_cases hi : i < f.items.length
    · rw [List.getElem?_append_left hi] at hy
      exact (h.ok i y hy).ext (Nat.le_of_lt hi)
    · have e : i = f.items.length := by
        have := Zah hy
        rw [List.length_append, List.length_singleton] at this
        omega
      subst e
      rw [List.getElem?_append_right (Nat.le_refl _), Nat.sub_self] at hy
      have e := Option.some.inj hy
      subst e
      exact hok.ext (Nat.le_refl _)
  · intro i y hy
    have hy : (f.items ++ [x])[i]? = some y := hy
    show y.was = ownerAt (regs (f.items ++ [x]) 0 ((f.items ++ [x]).take i) (begun f.owners).1).owner y.plot
    by_cases hi : i < f.items.length
    · rw [List.getElem?_append_left hi] at hy
      rw [List.take_append_of_le_length (Nat.le_of_lt hi), ZdX _ _ _ 0 _ (h.back.take i) (Jde _) (by rw [List.length_take]; omega)]
      exact h.was i y hy
    · have e : i = f.items.length := by
        have := Zah hy
        rw [List.length_append, List.length_singleton] at this
        omega
      subst e
      rw [List.getElem?_append_right (Nat.le_refl _), Nat.sub_self] at hy
      have e := Option.some.inj hy
      subst e
      rw [List.take_append_of_le_length (Nat.le_refl _), List.take_length, ZdX _ _ _ 0 _ h.back (Jde _) (by omega), ← ygA]
      exact hw
  · intro i y hy e he
    have hy : (f.items ++ [x])[i]? = some y := hy
    show e ∈ (regs (f.items ++ [x]) 0 ((f.items ++ [x]).take i) (begun f.owners).1).stands
    by_cases hi : i < f.items.length
    · rw [List.getElem?_append_left hi] at hy
      rw [List.take_append_of_le_length (Nat.le_of_lt hi), ZdX _ _ _ 0 _ (h.back.take i) (Jde _) (by rw [List.length_take]; omega)]
      exact h.std i y hy e he
    · have e : i = f.items.length := by
        have := Zah hy
        rw [List.length_append, List.length_singleton] at this
        omega
      subst e
      rw [List.getElem?_append_right (Nat.le_refl _), Nat.sub_self] at hy
      have e := Option.some.inj hy
      subst e
      rw [List.take_append_of_le_length (Nat.le_refl _), List.take_length, ZdX _ _ _ 0 _ h.back (Jde _) (by omega), ← ygA]
      exact hs _ he
theorem Yht {f : File} {r : Reg} {plot : Nat} {a : Act} (h : may f r plot a = true) : ∀ e ∈ zfl a, e ∈ r.stands := by
  intro e he
  cases a with
  | fulfil k b =>
    rw [List.mem_singleton.mp he]
    exact List.contains_iff_mem.mp h
  | strike k b =>
    rw [List.mem_singleton.mp he]
    have h : (r.stands.contains k && holder f.items k == some b) = true := h
    rw [Bool.and_eq_true] at h
    exact List.contains_iff_mem.mp h.1
  | ahead x y =>
    have h : (r.stands.contains x && (r.stands.contains y && _)) = true := h
    rw [Bool.and_eq_true, Bool.and_eq_true] at h
    rcases List.mem_cons.mp he with he | he
    · rw [he]; exact List.contains_iff_mem.mp h.1
    · rw [List.mem_singleton.mp he]; exact List.contains_iff_mem.mp h.2.1
  | _ => cases he
theorem jht {f : File} (h : WF f) {a : Act} {plot : Nat} {d : Nat} (h1 : actOk f a = true) (h2 : about f a = some plot) (h3 : may f f.now.1 plot a = true) :
    YeA f f.items.length ⟨d, a, plot, ownerAt f.now.1.owner plot, becomes f f.now plot a⟩ := by
  have inside : ∀ k, k < f.items.length → plotOf f.items k < f.owners.length := fun k hk => by
    have hx : f.items[k]? = some f.items[k] := List.getElem?_eq_getElem hk
    have := (h.ok k _ hx).1
    unfold plotOf
    rw [hx]
    exact this
  cases a with
  | transfer q x y k =>
    have e := Option.some.inj h2
    subst e
    simp only [actOk, Bool.and_eq_true, decide_eq_true_eq, bne_iff_ne] at h1
    have h3 := eq_of_beq (show (ownerAt f.now.1.owner q == x) = true from h3)
    exact ⟨h1.1, rfl, h3, rfl, h1.2.1, h1.2.2.1, h1.2.2.2⟩
  | charge q x y n k =>
    have e := Option.some.inj h2
    subst e
    simp only [actOk, Bool.and_eq_true, decide_eq_true_eq, bne_iff_ne] at h1
    have h3 := eq_of_beq (show (ownerAt f.now.1.owner q == x) = true from h3)
    exact ⟨h1.1, rfl, h3, h3, h1.2.1, h1.2.2.1, h1.2.2.2.1, h1.2.2.2.2.1, h1.2.2.2.2.2⟩
  | notice q x y k =>
    have e := Option.some.inj h2
    subst e
    simp only [actOk, Bool.and_eq_true, decide_eq_true_eq, bne_iff_ne] at h1
    have h3 := eq_of_beq (show (ownerAt f.now.1.owner q == x) = true from h3)
    exact ⟨h1.1, rfl, h3, h3, h1.2.1, h1.2.2.1, h1.2.2.2⟩
  | fulfil k b =>
    obtain ⟨z, hz, e⟩ := Option.map_eq_some_iff.mp (show (noticeOf f.items k).map (fun (_ : Nat × Nat) => plotOf f.items k) = some plot from h2)
    have hk := YdX hz
    subst e
    refine ⟨inside k hk, hk, rfl, z.1, z.2, hz, ?_⟩
    show ((noticeOf f.items k).map fun (x : Nat × Nat) => x.2).getD 0 = z.2
    rw [hz]
    rfl
  | objection q x =>
    have e := Option.some.inj h2
    subst e
    simp only [actOk, Bool.and_eq_true, decide_eq_true_eq] at h1
    exact ⟨h1.1, rfl, rfl, h1.2⟩
  | strike k b =>
    obtain ⟨z, hz, e⟩ := Option.map_eq_some_iff.mp (show (holder f.items k).map (fun (_ : Nat) => plotOf f.items k) = some plot from h2)
    have hk := je6 hz
    subst e
    have h3 := (Bool.and_eq_true _ _ ▸ (show (f.now.1.stands.contains k && holder f.items k == some b) = true from h3) : _ ∧ _)
    exact ⟨inside k hk, hk, rfl, eq_of_beq h3.2, rfl⟩
  | ahead x y =>
    have h2 : (if (isCharge f.items x && (isCharge f.items y && x != y)) = true then some (plotOf f.items x) else none) = some plot := h2
    split at h2
    · rename_i hc
      have e := Option.some.inj h2
      subst e
      simp only [Bool.and_eq_true, bne_iff_ne] at hc
      have h3 : (f.now.1.stands.contains x && (f.now.1.stands.contains y && (plotOf f.items x == plotOf f.items y && decide (firstPlace (placesAt f.now.1 (plotOf f.items x)) y < firstPlace (placesAt f.now.1 (plotOf f.items x)) x)))) = true := h3
      simp only [Bool.and_eq_true] at h3
      have hx := yb6 hc.1
      have hy := yb6 hc.2.1
      exact ⟨inside x hx, hx, hy, hc.2.2, hc.1, hc.2.1, rfl, (eq_of_beq h3.2.2.1).symm, rfl⟩
    · cases h2
  | correct q =>
    have e := Option.some.inj h2
    subst e
    simp only [actOk, decide_eq_true_eq] at h1
    exact ⟨h1, rfl⟩
  | void_ k =>
    obtain ⟨z, hz, e⟩ := Option.bind_eq_some_iff.mp (show (f.items[k]?).bind _ = some plot from h2)
    have hk := Zah hz
    have e2 : z.plot = plot := by
      revert e
      cases z.act <;> intro e <;> first | exact Option.some.inj e | cases e
    have e3 : plotOf f.items k = plot := by
      unfold plotOf
      rw [hz]
      exact e2
    subst e3
    exact ⟨inside k hk, hk, rfl, rfl⟩
theorem jgX {f : File} (h : WF f) (c : Call) : WF (step f c).1 := by
  cases c with
  | begins p o =>
    show WF (if p = 0 ∨ PERSONS < p ∨ o.length = 0 ∨ PLOTS < o.length ∨ (o.any fun (x : Nat) => decide (p ≤ x)) = true then (f, ok (-1)) else (⟨o, p, []⟩, ok 0)).1
    split
    · exact h
    · rename_i hc
      have hc : ¬ (p = 0 ∨ PERSONS < p ∨ o.length = 0 ∨ PLOTS < o.length ∨ (o.any fun (x : Nat) => decide (p ≤ x)) = true) := hc
      simp only [not_or] at hc
      obtain ⟨h1, h2, h3, h4, h5⟩ := hc
      refine ⟨Nat.pos_of_ne_zero h1, Nat.le_of_not_lt h2, Nat.pos_of_ne_zero h3, Nat.le_of_not_lt h4, fun x hx => ?_, Nat.zero_le _, .nil, fun x hx => (by cases hx), fun i x hx => (by cases hx), fun i x hx => (by cases hx), fun i x hx => (by cases hx)⟩
      refine Nat.lt_of_not_le fun q => h5 (List.any_eq_true.mpr ⟨x, hx, by simpa using q⟩)
  | act d a =>
    unfold step
    dsimp only
    split
    · exact h
    · rename_i h1
      split
      · exact h
      · rename_i plot h2
        split
        · exact h
        · rename_i h3
          split
          · exact h
          · rename_i h4
            split
            · exact h
            · rename_i h5
              have h1 : ¬ (DAY < d ∨ actOk f a = false) := h1
              rw [not_or] at h1
              refine h.snoc (x := ⟨d, a, plot, ownerAt f.now.1.owner plot, becomes f f.now plot a⟩) (Nat.lt_of_not_le h5) (Nat.le_of_not_lt h1.1) h3 (jht h (by simpa using h1.2) h2 (by simpa using h4)) rfl (Yht (by simpa using h4))
  | owner => exact h
  | charges => exact h
  | rely => exact h
  | sale => exact h
  | stands => exact h
  | days => exact h
structure ydB (is : List Item) (m : Nat) (r : Reg) : Prop where
  ol : r.owner.length = m
  pl : r.places.length = m
  up : r.stands.Pairwise (· < ·)
  hd : ∀ e ∈ r.stands, (holder is e).isSome = true
  pin : ∀ (q : Nat) (l : List Place), r.places[q]? = some l → ∀ p ∈ l, p.entry ∈ r.stands ∧ isCharge is p.entry = true ∧ plotOf is p.entry = q
theorem YgA (is : List Item) (o : List Nat) : ydB is o.length (begun o).1 := by
  refine ⟨rfl, by simp [begun], .nil, fun e he => (by cases he), fun q l hl p hp => ?_⟩
  have hl : (o.map fun (_ : Nat) => ([] : List Place))[q]? = some l := hl
  rw [List.getElem?_map] at hl
  obtain ⟨x, _, e⟩ := Option.map_eq_some_iff.mp hl
  subst e
  cases hp
theorem ydB.gone {is : List Item} {m : Nat} {r : Reg} (h : ydB is m r) (plot : Nat) (f : Nat → Bool) (hf : ∀ e ∈ r.stands, f e = true → plotOf is e = plot) : ydB is m (r.gone plot f) := by
  refine ⟨h.ol, ?_, h.up.filter _, fun e he => h.hd e (List.mem_filter.mp he).1, fun q l hl p hp => ?_⟩
  · show (setAt r.places plot _).length = m
    rw [yde]
    exact h.pl
  · have hl : (setAt r.places plot fun (l : List Place) => l.filter fun (p : Place) => !f p.entry)[q]? = some l := hl
    rw [Yaq] at hl
    obtain ⟨l0, h1, h2⟩ := Option.map_eq_some_iff.mp hl
    show p.entry ∈ r.stands.filter (fun (e : Nat) => !f e) ∧ _
    split at h2
    · subst h2
      obtain ⟨a, b⟩ := List.mem_filter.mp hp
      obtain ⟨c, d⟩ := h.pin q l0 h1 p a
      exact ⟨List.mem_filter.mpr ⟨c, b⟩, d⟩
    · rename_i hq
      subst h2
      obtain ⟨c, d1, d2⟩ := h.pin q l0 h1 p hp
      refine ⟨List.mem_filter.mpr ⟨c, ?_⟩, d1, d2⟩
      cases z : f p.entry with
      | false => rfl
      | true => exact absurd (d2.symm.trans (hf _ c z)) hq
theorem Je6 {l : List Nat} {i : Nat} (h : l.Pairwise (· < ·)) (hi : ∀ e ∈ l, e < i) : (l ++ [i]).Pairwise (· < ·) := by
  rw [List.pairwise_append]
  exact ⟨h, List.pairwise_singleton _ _, fun a ha b hb => by rw [List.mem_singleton.mp hb]; exact hi a ha⟩
theorem ydB.enters {f : File} {r : Reg} {i : Nat} {x : Item} (h : ydB f.items f.owners.length r) (hlt : YcS i r) (hx : f.items[i]? = some x) (hok : YeA f i x) (hs : ∀ e ∈ zfl x.act, e ∈ r.stands) : ydB f.items f.owners.length (r.enters f.items i x) := by
  have hplot : plotOf f.items i = x.plot := by
    unfold plotOf
    rw [hx]
    rfl
  have own : ∀ v : Nat, ydB f.items f.owners.length { r with owner := setAt r.owner x.plot fun (_ : Nat) => v } := fun v => ⟨by rw [yde]; exact h.ol, h.pl, h.up, h.hd, h.pin⟩
  have z := hok.2
  unfold Reg.enters
  cases q : x.act with
  | transfer a b c d => exact own _
  | correct a => exact own _
  | void_ a => exact h
  | charge a b c m d =>
    have hh : holder f.items i = some c := by
      unfold holder
      rw [hx]
      show (match x.act with | .charge _ _ c _ _ => some c | .notice _ _ p _ => some p | .objection _ p => some p | _ => none) = some c
      rw [q]
    have hc : isCharge f.items i = true := by
      unfold isCharge
      rw [hx]
      show (match x.act with | .charge _ _ _ _ _ => true | _ => false) = true
      rw [q]
    refine ⟨h.ol, by rw [yde]; exact h.pl, Je6 h.up hlt.st, fun e he => ?_, fun q' l hl p hp => ?_⟩
    · rcases List.mem_append.mp he with he | he
      · exact h.hd e he
      · rw [List.mem_singleton.mp he, hh]; rfl
    · have hl : (setAt r.places x.plot fun (l : List Place) => l ++ [⟨i, m⟩])[q']? = some l := hl
      rw [Yaq] at hl
      obtain ⟨l0, h1, h2⟩ := Option.map_eq_some_iff.mp hl
      split at h2
      · rename_i hq
        subst h2
        rcases List.mem_append.mp hp with hp | hp
        · obtain ⟨c1, c2⟩ := h.pin q' l0 h1 p hp
          exact ⟨List.mem_append_left _ c1, c2⟩
        · have z := List.mem_singleton.mp hp
          subst z
          exact ⟨List.mem_append_right _ (List.mem_singleton.mpr rfl), hc, hplot.trans hq.symm⟩
      · subst h2
        obtain ⟨c1, c2⟩ := h.pin q' l0 h1 p hp
        exact ⟨List.mem_append_left _ c1, c2⟩
  | notice a b c d =>
    have hh : holder f.items i = some c := by
      unfold holder
      rw [hx]
      show (match x.act with | .charge _ _ c _ _ => some c | .notice _ _ p _ => some p | .objection _ p => some p | _ => none) = some c
      rw [q]
    refine ⟨h.ol, h.pl, Je6 h.up hlt.st, fun e he => ?_, fun q' l hl p hp => ?_⟩
    · rcases List.mem_append.mp he with he | he
      · exact h.hd e he
      · rw [List.mem_singleton.mp he, hh]; rfl
    · obtain ⟨c1, c2⟩ := h.pin q' l hl p hp
      exact ⟨List.mem_append_left _ c1, c2⟩
  | objection a c =>
    have hh : holder f.items i = some c := by
      unfold holder
      rw [hx]
      show (match x.act with | .charge _ _ c _ _ => some c | .notice _ _ p _ => some p | .objection _ p => some p | _ => none) = some c
      rw [q]
    refine ⟨h.ol, h.pl, Je6 h.up hlt.st, fun e he => ?_, fun q' l hl p hp => ?_⟩
    · rcases List.mem_append.mp he with he | he
      · exact h.hd e he
      · rw [List.mem_singleton.mp he, hh]; rfl
    · obtain ⟨c1, c2⟩ := h.pin q' l hl p hp
      exact ⟨List.mem_append_left _ c1, c2⟩
  | fulfil k b =>
    rw [q] at z
    refine ydB.gone (own _) x.plot _ fun e he hf => ?_
    rcases (Bool.or_eq_true _ _ ▸ hf : _ ∨ _) with hf | hf
    · rw [eq_of_beq hf]
      exact z.2.1
    · unfold later at hf
      rw [Bool.and_eq_true] at hf
      have hf := hf.2
      unfold plotOf
      cases w : f.items[e]? with
      | none =>
        rw [w] at hf
        cases hf
      | some y =>
        rw [w] at hf
        dsimp only at hf
        rw [Bool.and_eq_true] at hf
        exact eq_of_beq hf.1
  | strike k b =>
    rw [q] at z
    refine ydB.gone h x.plot _ fun e he hf => ?_
    rw [eq_of_beq hf]
    exact z.2.1
  | ahead a b =>
    rw [q] at z hs
    obtain ⟨z1, z2, z3, z4, z5, z6, z7, z8⟩ := z
    have ha : a ∈ r.stands := hs a (by simp [zfl])
    have hb : b ∈ r.stands := hs b (by simp [zfl])
    refine ⟨h.ol, by rw [yde]; exact h.pl, h.up, h.hd, fun q' l hl p hp => ?_⟩
    have hl : (setAt r.places x.plot (before_ a b))[q']? = some l := hl
    rw [Yaq] at hl
    obtain ⟨l0, h1, h2⟩ := Option.map_eq_some_iff.mp hl
    split at h2
    · rename_i hq
      subst h2
      rcases Zcs a b l0 _ _ p hp with w | w | ⟨c, hc, w⟩
      · rw [w]; exact ⟨ha, z4, z6.trans hq.symm⟩
      · rw [w]; exact ⟨hb, z5, z7.trans hq.symm⟩
      · rw [← w]; exact h.pin q' l0 h1 c hc
    · subst h2
      exact h.pin q' l0 h1 p hp
theorem WF.Yhx {f : File} (h : WF f) : ∀ i, i ≤ f.items.length → YcS i (regs f.items 0 (f.items.take i) (begun f.owners).1) ∧ ydB f.items f.owners.length (regs f.items 0 (f.items.take i) (begun f.owners).1)
  | 0, _ => ⟨Jde _, YgA _ _⟩
  | i + 1, hi => by
    obtain ⟨a, b⟩ := h.Yhx i (by omega)
    have hx : f.items[i]? = some f.items[i] := List.getElem?_eq_getElem (by omega)
    have e : f.items.take (i + 1) = f.items.take i ++ [f.items[i]] := by
      rw [List.take_add_one, hx]
      rfl
    have el : (f.items.take i).length = i := by rw [List.length_take]; omega
    rw [e, zf9, el, Nat.zero_add]
    refine ⟨a.enters (Nat.lt_succ_self i) fun e he => ?_, b.enters a hx (h.ok i _ hx) (h.std i _ hx)⟩
    have := h.back i _ hx e (ZfH he)
    omega
theorem jeA (a b : Nat) : ∀ (l : List Place) (x y : Nat), (refill a b x y l).length ≤ l.length + (if x = 0 then 0 else 1)
  | [], _, _ => Nat.zero_le _
  | p :: l, x, y => by
    unfold refill
    split
    · show ((if min x p.amount = 0 then [] else [(⟨a, min x p.amount⟩ : Place)]) ++ ((if min x p.amount = p.amount then [] else [(⟨b, p.amount - min x p.amount⟩ : Place)]) ++ refill a b (x - min x p.amount) (y - (p.amount - min x p.amount)) l)).length ≤ _
      rw [List.length_append, List.length_append, List.length_cons]
      have ih := jeA a b l (x - min x p.amount) (y - (p.amount - min x p.amount))
      have e1 : (if min x p.amount = 0 then ([] : List Place) else [(⟨a, min x p.amount⟩ : Place)]).length = if min x p.amount = 0 then 0 else 1 := by split <;> rfl
      have e2 : (if min x p.amount = p.amount then ([] : List Place) else [(⟨b, p.amount - min x p.amount⟩ : Place)]).length = if min x p.amount = p.amount then 0 else 1 := by split <;> rfl
      rw [e1, e2]
      by_cases hx : x = 0
      · subst hx
        rw [if_pos rfl]
        rw [if_pos (by omega)] at ih
        rw [if_pos (by omega)]
        split <;> omega
      · rw [if_neg hx]
        by_cases hn : min x p.amount = p.amount
        · rw [if_pos hn]
          split at ih <;> split <;> omega
        · rw [if_neg hn]
          rw [if_pos (by omega)] at ih
          split <;> omega
    · rw [List.length_cons, List.length_cons]
      have ih := jeA a b l x y
      split at ih <;> rename_i h
      · rw [if_pos h]; omega
      · rw [if_neg h]; omega
def Zfl (n : Nat) (r : Reg) : Prop := ∀ (q : Nat) (l : List Place), r.places[q]? = some l → l.length ≤ n
theorem Zfl.enters {is : List Item} {r : Reg} {n i : Nat} {x : Item} (h : Zfl n r) : Zfl (n + 1) (r.enters is i x) := by
  have h' : Zfl (n + 1) r := fun q l hl => Nat.le_succ_of_le (h q l hl)
  have gn : ∀ (r' : Reg) (f : Nat → Bool), r'.places = r.places → Zfl (n + 1) (r'.gone x.plot f) := fun r' f e q l hl => by
    have hl : (setAt r'.places x.plot fun (l : List Place) => l.filter fun (p : Place) => !f p.entry)[q]? = some l := hl
    rw [Yaq, e] at hl
    obtain ⟨l0, h1, h2⟩ := Option.map_eq_some_iff.mp hl
    have := h' q l0 h1
    split at h2
    · subst h2
      exact Nat.le_trans (List.length_filter_le _ _) this
    · subst h2
      exact this
  unfold Reg.enters
  cases x.act with
  | charge a b c m d =>
    intro q l hl
    have hl : (setAt r.places x.plot fun (l : List Place) => l ++ [⟨i, m⟩])[q]? = some l := hl
    rw [Yaq] at hl
    obtain ⟨l0, h1, h2⟩ := Option.map_eq_some_iff.mp hl
    have := h q l0 h1
    split at h2
    · subst h2
      rw [List.length_append, List.length_singleton]
      omega
    · subst h2
      omega
  | fulfil k b => exact gn _ _ rfl
  | strike k b => exact gn _ _ rfl
  | ahead a b =>
    intro q l hl
    have hl : (setAt r.places x.plot (before_ a b))[q]? = some l := hl
    rw [Yaq] at hl
    obtain ⟨l0, h1, h2⟩ := Option.map_eq_some_iff.mp hl
    have := h q l0 h1
    split at h2
    · subst h2
      have z := jeA a b l0 (amountOf l0 a) (amountOf l0 b)
      show (refill a b (amountOf l0 a) (amountOf l0 b) l0).length ≤ n + 1
      split at z <;> omega
    · subst h2
      omega
  | _ => exact h'
theorem jgA (is : List Item) : ∀ (l : List Item) (i n : Nat) (r : Reg), Zfl n r → Zfl (n + l.length) (regs is i l r)
  | [], _, _, _, h => h
  | x :: l, i, n, r, h => by
    have z := jgA is l (i + 1) (n + 1) _ (h.enters (is := is) (i := i) (x := x))
    have e : n + 1 + l.length = n + (x :: l).length := by rw [List.length_cons]; omega
    rw [e] at z
    exact z
theorem Zg5 (o : List Nat) : Zfl 0 (begun o).1 := fun q l hl => by
  have hl : (o.map fun (_ : Nat) => ([] : List Place))[q]? = some l := hl
  rw [List.getElem?_map] at hl
  obtain ⟨x, _, e⟩ := Option.map_eq_some_iff.mp hl
  subst e
  exact Nat.le_refl _
end Lr
namespace Lr
open Sy33
structure Sh where
  reg : Nat
  own : Nat
  std : List Nat
  pls : List Place
  giv : List Nat
def isObj (is : List Item) (e : Nat) : Bool := match is[e]? with
  | some x => (match x.act with
    | .objection _ _ => true
    | _ => false)
  | none => false
def Yej (is : List Item) (e : Nat) : Bool := match is[e]? with
  | some x => (match x.act with
    | .charge _ _ _ _ _ => true
    | .notice _ _ _ _ => true
    | _ => false)
  | none => false
def Sh.acq (is : List Item) (s : Sh) (k : Bool) : Bool := s.reg == s.own || (!k && !(s.std.any (isObj is)))
def Sh.effect (is : List Item) (i : Nat) (a : Act) (s : Sh) : Sh := match a with
  | .transfer _ _ to k => if s.acq is k = true then { s with own := to } else s
  | .charge _ _ _ _ k => if s.acq is k = true then { s with giv := s.giv ++ [i] } else s
  | .notice _ _ _ k => if s.acq is k = true then { s with giv := s.giv ++ [i] } else s
  | .fulfil n k => (match noticeOf is n with
    | none => s
    | some y => if n ∈ s.giv ∨ (y.1 = s.reg ∧ s.acq is k = true) then { s with own := y.2 } else s)
  | _ => s
def Sh.drop (s : Sh) (f : Nat → Bool) : Sh := { s with std := s.std.filter fun e => !f e, pls := s.pls.filter fun p => !f p.entry }
def Sh.enter (is : List Item) (i : Nat) (a : Act) (now : Nat) (s : Sh) : Sh := match a with
  | .transfer _ _ to _ => { s with reg := to }
  | .charge _ _ _ n _ => { s with std := s.std ++ [i], pls := s.pls ++ [⟨i, n⟩] }
  | .notice _ _ _ _ => { s with std := s.std ++ [i] }
  | .objection _ _ => { s with std := s.std ++ [i] }
  | .fulfil k _ => ({ s with reg := now }).drop fun e => decide (k ≤ e) && Yej is e
  | .strike k _ => s.drop fun e => e == k
  | .ahead a b => { s with pls := before_ a b s.pls }
  | .correct _ => { s with reg := now }
  | .void_ _ => s
def Sh.go (is : List Item) (void : List Nat) (i : Nat) (x : Item) (s : Sh) : Sh := (if void.contains i = true then s else s.effect is i x.act).enter is i x.act x.now
def view (is : List Item) (q : Nat) (s : Reg × Truth) : Sh := ⟨ownerAt s.1.owner q, ownerAt s.2.owner q, s.1.stands.filter fun e => plotOf is e == q, placesAt s.1 q, s.2.valid.filter fun e => plotOf is e == q⟩
theorem zaU {is : List Item} {i : Nat} {x : Item} (h : is[i]? = some x) : plotOf is i = x.plot := by
  unfold plotOf; rw [h]; rfl
theorem zhj (is : List Item) (q : Nat) (s : Reg × Truth) : (view is q s).std.any (isObj is) = objected is s.1 q := by
  show (s.1.stands.filter fun e => plotOf is e == q).any (isObj is) = _
  unfold objected
  rw [Bool.eq_iff_iff, List.any_eq_true, List.any_eq_true]
  constructor
  · rintro ⟨e, he, h⟩
    rw [List.mem_filter] at he
    refine ⟨e, he.1, ?_⟩
    unfold isObj at h
    cases hx : is[e]? with
    | none => rw [hx] at h; cases h
    | some x =>
      rw [hx] at h
      have h2 := he.2
      rw [zaU hx] at h2
      show (x.plot == q && _) = true
      rw [h2]
      exact h
  · rintro ⟨e, he, h⟩
    cases hx : is[e]? with
    | none => rw [hx] at h; cases h
    | some x =>
      rw [hx] at h
      have h : (x.plot == q && (match x.act with
        | .objection _ _ => true
        | _ => false)) = true := h
      rw [Bool.and_eq_true] at h
      refine ⟨e, List.mem_filter.mpr ⟨he, by rw [zaU hx]; exact h.1⟩, ?_⟩
      unfold isObj
      rw [hx]
      exact h.2
theorem jdX (is : List Item) (q : Nat) (s : Reg × Truth) (k : Bool) : (view is q s).acq is k = acquires is s.1 s.2 q k := by
  unfold Sh.acq acquires
  rw [zhj]
  show (ownerAt s.1.owner q == ownerAt s.2.owner q || _) = _
  congr 1
  rw [Bool.eq_iff_iff, beq_iff_eq, beq_iff_eq]
  exact eq_comm
theorem jeN {l : List (List Place)} {k q : Nat} {f : List Place → List Place} (hq : q < l.length) : (setAt l k f).getD q [] = if q = k then f (l.getD q []) else l.getD q [] := by
  rw [ZcS, ZcS, Yaq, List.getElem?_eq_getElem hq]
  simp
structure Good (f : File) (i : Nat) (s : Reg × Truth) : Prop where
  lt : YcS i s.1
  ok : ydB f.items f.owners.length s.1
  tl : s.2.owner.length = f.owners.length
  vl : ∀ e ∈ s.2.valid, e < i
  vn : s.2.valid.length ≤ i
theorem Zf9 {f : File} {q i : Nat} {s : Reg × Truth} {x : Item} (void : List Nat) (g : Good f i s) (hx : f.items[i]? = some x) (hq : q < f.owners.length) (hn : x.plot ≠ q) : view f.items q (s.1, s.2.enters f.items s.1 void i x) = view f.items q s := by
  have hp := zaU hx
  have ne : q ≠ x.plot := Ne.symm hn
  unfold Truth.enters
  split
  · rfl
  · have ow : ∀ v : Nat, view f.items q (s.1, { s.2 with owner := setAt s.2.owner x.plot fun _ => v }) = view f.items q s := fun v => by
      unfold view
      have e : ownerAt (setAt s.2.owner x.plot fun _ => v) q = ownerAt s.2.owner q := by
        rw [ycS _ _ _ _ (by rw [g.tl]; exact hq), if_neg ne]
      simp only [e]
    have gv : view f.items q (s.1, { s.2 with valid := s.2.valid ++ [i] }) = view f.items q s := by
      unfold view
      have e : (s.2.valid ++ [i]).filter (fun e => plotOf f.items e == q) = s.2.valid.filter fun e => plotOf f.items e == q := by
        rw [List.filter_append, List.filter_cons, hp, if_neg (by simpa using hn)]
        simp
      simp only [e]
    cases x.act with
    | transfer a b c k => dsimp only; split; exact ow _; rfl
    | charge a b c d k => dsimp only; split; exact gv; rfl
    | notice a b c k => dsimp only; split; exact gv; rfl
    | fulfil n k =>
      dsimp only
      split
      · rfl
      · split; exact ow _; rfl
    | _ => rfl
theorem yg5 {is : List Item} {l : List Nat} {q : Nat} {f : Nat → Bool} (h : ∀ e ∈ l, f e = true → plotOf is e ≠ q) : (l.filter fun e => !f e).filter (fun e => plotOf is e == q) = l.filter fun e => plotOf is e == q := by
  rw [List.filter_filter]
  refine List.filter_congr fun e he => ?_
  cases hf : f e with
  | false => simp
  | true =>
    have := h e he hf
    simp [this]
theorem yf9 {f : File} {q i : Nat} {s : Reg × Truth} {x : Item} (w : WF f) (g : Good f i s) (hx : f.items[i]? = some x) (hq : q < f.owners.length) (hn : x.plot ≠ q) : view f.items q (s.1.enters f.items i x, s.2) = view f.items q s := by
  have hp := zaU hx
  have ne : q ≠ x.plot := Ne.symm hn
  have z := (w.ok i x hx).2
  have ow : ∀ v : Nat, view f.items q ({ s.1 with owner := setAt s.1.owner x.plot fun _ => v }, s.2) = view f.items q s := fun v => by
    unfold view
    have e : ownerAt (setAt s.1.owner x.plot fun _ => v) q = ownerAt s.1.owner q := by
      rw [ycS _ _ _ _ (by rw [g.ok.ol]; exact hq), if_neg ne]
    simp only [e]
    rfl
  have es : (s.1.stands ++ [i]).filter (fun e => plotOf f.items e == q) = s.1.stands.filter fun e => plotOf f.items e == q := by
    rw [List.filter_append, List.filter_cons, hp, if_neg (by simpa using hn)]
    simp
  have ep : ∀ h : List Place → List Place, (setAt s.1.places x.plot h).getD q [] = s.1.places.getD q [] := fun h => by
    rw [jeN (by rw [g.ok.pl]; exact hq), if_neg ne]
  have gn : ∀ (r : Reg) (h : Nat → Bool), r.places = s.1.places → r.stands = s.1.stands → (∀ e ∈ s.1.stands, h e = true → plotOf f.items e ≠ q) → view f.items q (r.gone x.plot h, s.2) = view f.items q (r, s.2) := fun r h e1 e2 h3 => by
    unfold view placesAt Reg.gone
    simp only [e1, e2, ep, yg5 h3]
  unfold Reg.enters
  cases ha : x.act with
  | transfer a b c k => exact ow _
  | charge a b c d k =>
    unfold view placesAt
    simp only [es, ep]
  | notice a b c k =>
    unfold view placesAt
    simp only [es]
  | objection a b =>
    unfold view placesAt
    simp only [es]
  | fulfil k b =>
    rw [ha] at z
    refine (gn { s.1 with owner := setAt s.1.owner x.plot fun _ => x.now } _ rfl rfl fun e he h3 => ?_).trans (ow _)
    rw [Bool.or_eq_true] at h3
    rcases h3 with h3 | h3
    · rw [eq_of_beq h3, z.2.1]; exact hn
    · unfold later at h3
      rw [Bool.and_eq_true] at h3
      cases hy : f.items[e]? with
      | none => rw [hy] at h3; cases h3.2
      | some y =>
        rw [hy] at h3
        have h4 := h3.2
        dsimp only at h4
        rw [Bool.and_eq_true] at h4
        rw [zaU hy, eq_of_beq h4.1]
        exact hn
  | strike k b =>
    rw [ha] at z
    refine gn s.1 _ rfl rfl fun e he h3 => ?_
    rw [eq_of_beq h3, z.2.1]
    exact hn
  | ahead a b =>
    unfold view placesAt
    simp only [ep]
  | correct a => exact ow _
  | void_ k => rfl
theorem Jht {f : File} {q i : Nat} {s : Reg × Truth} {x : Item} (void : List Nat) (w : WF f) (g : Good f i s) (hx : f.items[i]? = some x) (hq : x.plot = q) (hw : x.was = ownerAt s.1.owner q) :
    view f.items q (s.1, s.2.enters f.items s.1 void i x) = if void.contains i = true then view f.items q s else (view f.items q s).effect f.items i x.act := by
  have hp := zaU hx
  have z := (w.ok i x hx)
  have hql : q < f.owners.length := by rw [← hq]; exact z.1
  have z := z.2
  unfold Truth.enters
  split
  · rfl
  · have ow : ∀ v : Nat, view f.items q (s.1, { s.2 with owner := setAt s.2.owner x.plot fun _ => v }) = { view f.items q s with own := v } := fun v => by
      unfold view
      have e : ownerAt (setAt s.2.owner x.plot fun _ => v) q = v := by
        rw [ycS _ _ _ _ (by rw [g.tl]; exact hql), if_pos hq.symm]
      simp only [e]
    have gv : view f.items q (s.1, { s.2 with valid := s.2.valid ++ [i] }) = { view f.items q s with giv := (view f.items q s).giv ++ [i] } := by
      unfold view
      have e : (s.2.valid ++ [i]).filter (fun e => plotOf f.items e == q) = (s.2.valid.filter fun e => plotOf f.items e == q) ++ [i] := by
        rw [List.filter_append, List.filter_cons, hp, if_pos (by simpa using hq)]
        simp
      simp only [e]
    unfold Sh.effect
    cases ha : x.act with
    | transfer a b c k =>
      dsimp only
      subst hq
      rw [jdX]
      split
      · exact ow _
      · rfl
    | charge a b c d k =>
      dsimp only
      rw [jdX, hq, ← hq]
      split
      · rw [← hq] at gv; exact gv
      · rfl
    | notice a b c k =>
      dsimp only
      rw [jdX, hq, ← hq]
      split
      · rw [← hq] at gv; exact gv
      · rfl
    | fulfil n k =>
      dsimp only
      cases hn : noticeOf f.items n with
      | none => rfl
      | some y =>
        dsimp only
        rw [ha] at z
        have e1 : (n ∈ (view f.items q s).giv ∨ y.1 = (view f.items q s).reg ∧ (view f.items q s).acq f.items k = true) ↔ (s.2.valid.contains n = true ∨ y.1 = x.was ∧ acquires f.items s.1 s.2 x.plot k = true) := by
          rw [jdX, hq, hw]
          show (n ∈ (s.2.valid.filter fun e => plotOf f.items e == q) ∨ _) ↔ _
          rw [List.mem_filter, List.contains_iff_mem]
          have e3 : (plotOf f.items n == q) = true := by rw [z.2.1, hq]; exact beq_self_eq_true q
          simp only [e3, and_true]
          rfl
        by_cases h : s.2.valid.contains n = true ∨ y.1 = x.was ∧ acquires f.items s.1 s.2 x.plot k = true
        · rw [if_pos h, if_pos (e1.mpr h)]
          exact ow _
        · rw [if_neg h, if_neg (fun t => h (e1.mp t))]
    | _ => rfl
theorem Zhj {is : List Item} {l : List Nat} {q : Nat} {f g : Nat → Bool} (h : ∀ e ∈ l, plotOf is e = q → f e = g e) : (l.filter fun e => !f e).filter (fun e => plotOf is e == q) = (l.filter fun e => plotOf is e == q).filter fun e => !g e := by
  rw [List.filter_filter, List.filter_filter]
  refine List.filter_congr fun e he => ?_
  by_cases hq : plotOf is e = q
  · rw [h e he hq, Bool.and_comm]
  · have e1 : (plotOf is e == q) = false := beq_eq_false_iff_ne.mpr hq
    rw [e1, Bool.and_false, Bool.false_and]
theorem zhu {f : File} {q i : Nat} {s : Reg × Truth} {t : Truth} {x : Item} (w : WF f) (g : Good f i s) (hx : f.items[i]? = some x) (hq : x.plot = q) :
    view f.items q (s.1.enters f.items i x, t) = (view f.items q (s.1, t)).enter f.items i x.act x.now := by
  have hp := zaU hx
  have z := (w.ok i x hx)
  have hql : q < f.owners.length := by rw [← hq]; exact z.1
  have z := z.2
  have ow : ∀ v : Nat, ownerAt (setAt s.1.owner x.plot fun _ => v) q = v := fun v => by
    rw [ycS _ _ _ _ (by rw [g.ok.ol]; exact hql), if_pos hq.symm]
  have own_ : ∀ v : Nat, view f.items q ({ s.1 with owner := setAt s.1.owner x.plot fun _ => v }, t) = { view f.items q (s.1, t) with reg := v } := fun v => by
    show Sh.mk (ownerAt (setAt s.1.owner x.plot fun _ => v) q) _ _ _ _ = Sh.mk v _ _ _ _
    rw [ow]
    rfl
  have es : (s.1.stands ++ [i]).filter (fun e => plotOf f.items e == q) = (s.1.stands.filter fun e => plotOf f.items e == q) ++ [i] := by
    rw [List.filter_append, List.filter_cons, hp, if_pos (by simpa using hq)]
    simp
  have ep : ∀ h : List Place → List Place, (setAt s.1.places x.plot h).getD q [] = h (s.1.places.getD q []) := fun h => by
    rw [jeN (by rw [g.ok.pl]; exact hql), if_pos hq.symm]
  have pin : ∀ p ∈ s.1.places.getD q [], p.entry ∈ s.1.stands ∧ isCharge f.items p.entry = true ∧ plotOf f.items p.entry = q := fun p hpp => by
    have hl : s.1.places[q]? = some (s.1.places.getD q []) := by
      rw [ZcS, List.getElem?_eq_getElem (by rw [g.ok.pl]; exact hql)]
      rfl
    exact g.ok.pin q _ hl p hpp
  have gn : ∀ (r : Reg) (h h' : Nat → Bool), r.places = s.1.places → r.stands = s.1.stands → (∀ e ∈ s.1.stands, plotOf f.items e = q → h e = h' e) → view f.items q (r.gone x.plot h, t) = (view f.items q (r, t)).drop h' := fun r h h' e1 e2 h3 => by
    unfold view placesAt Reg.gone Sh.drop
    have e4 : ((s.1.places.getD q []).filter fun p => !h p.entry) = (s.1.places.getD q []).filter fun p => !h' p.entry := List.filter_congr fun p hpp => by
      obtain ⟨a, _, c⟩ := pin p hpp
      rw [h3 _ a c]
    simp only [e1, e2, ep, Zhj h3, e4]
  unfold Reg.enters Sh.enter
  cases ha : x.act with
  | transfer a b c k =>
    rw [ha] at z
    dsimp only
    rw [z.2.2.1]
    exact own_ _
  | charge a b c d k =>
    unfold view placesAt
    simp only [es, ep]
  | notice a b c k =>
    unfold view placesAt
    simp only [es]
  | objection a b =>
    unfold view placesAt
    simp only [es]
  | fulfil k b =>
    rw [ha] at z
    obtain ⟨hk, hkp, gg, pp, hno, _⟩ := z
    have e5 := own_ x.now
    dsimp only
    rw [← e5]
    refine gn _ _ _ rfl rfl fun e he h3 => ?_
    have hlt := g.lt.st e he
    have hil := Zah hx
    have hy : f.items[e]? = some f.items[e] := List.getElem?_eq_getElem (by omega)
    unfold later Yej
    rw [hy]
    dsimp only
    rw [zaU hy] at h3
    rw [h3, hq, beq_self_eq_true, Bool.true_and]
    by_cases hek : e = k
    · subst hek
      rw [beq_self_eq_true, Bool.true_or]
      unfold noticeOf at hno
      rw [hy] at hno
      have hno : (match (f.items[e]).act with
        | .notice _ g p _ => some (g, p)
        | _ => none) = some (gg, pp) := hno
      split at hno
      · rename_i hh
        rw [hh]
        simp
      · cases hno
    · have e6 : (e == k) = false := by simpa using hek
      rw [e6, Bool.false_or]
      have e7 : decide (k < e) = decide (k ≤ e) := by
        rw [decide_eq_decide]; omega
      rw [e7]
      rfl
  | strike k b =>
    exact gn s.1 _ _ rfl rfl fun e he h3 => rfl
  | ahead a b =>
    unfold view placesAt
    simp only [ep]
  | correct a => exact own_ _
  | void_ k => rfl
theorem Yg5 {f : File} {q i : Nat} {s : Reg × Truth} {x : Item} (void : List Nat) (w : WF f) (g : Good f i s) (hx : f.items[i]? = some x) (hq : q < f.owners.length) (hw : x.was = ownerAt s.1.owner x.plot) :
    view f.items q (s.1.enters f.items i x, s.2.enters f.items s.1 void i x) = if x.plot = q then (view f.items q s).go f.items void i x else view f.items q s := by
  by_cases h : x.plot = q
  · rw [if_pos h, zhu (s := s) w g hx h, Jht void w g hx h (by rw [← h]; exact hw)]
    rfl
  · rw [if_neg h]
    have g2 : Good f i (s.1, s.2.enters f.items s.1 void i x) → view f.items q (s.1.enters f.items i x, s.2.enters f.items s.1 void i x) = view f.items q (s.1, s.2.enters f.items s.1 void i x) := fun g2 => yf9 (s := (s.1, s.2.enters f.items s.1 void i x)) w g2 hx hq h
    rw [← Zf9 void g hx hq h]
    have e := yf9 (s := s) w g hx hq h
    have e2 := Zf9 void g hx hq h
    unfold view at e e2 ⊢
    injection e with a1 a2 a3 a4 a5
    injection e2 with b1 b2 b3 b4 b5
    simp only at a1 a3 a4 b2 b5 ⊢
    rw [a1, a3, a4]
end Lr
namespace Lr
open Sy33
def ybh (f : File) (void : List Nat) (i : Nat) : Reg × Truth := both f.items void 0 (f.items.take i) (begun f.owners)
theorem jcS {f : File} {void : List Nat} {i : Nat} {x : Item} (hx : f.items[i]? = some x) : ybh f void (i + 1) = ((ybh f void i).1.enters f.items i x, (ybh f void i).2.enters f.items (ybh f void i).1 void i x) := by
  unfold ybh
  have hi := Zah hx
  rw [List.take_add_one, hx]
  show both f.items void 0 (f.items.take i ++ [x]) _ = _
  rw [Jf8, List.length_take, Nat.min_eq_left (Nat.le_of_lt hi), Nat.zero_add]
theorem yhj {m i : Nat} {is : List Item} {r : Reg} {t : Truth} {v : List Nat} {x : Item} (h1 : t.owner.length = m) (h2 : ∀ e ∈ t.valid, e < i) (h3 : t.valid.length ≤ i) : (t.enters is r v i x).owner.length = m ∧ (∀ e ∈ (t.enters is r v i x).valid, e < i + 1) ∧ (t.enters is r v i x).valid.length ≤ i + 1 := by
  have h2' : ∀ e ∈ t.valid, e < i + 1 := fun e he => Nat.lt_succ_of_lt (h2 e he)
  have ow : ∀ w : Nat, ({ t with owner := setAt t.owner x.plot fun _ => w } : Truth).owner.length = m ∧ (∀ e ∈ ({ t with owner := setAt t.owner x.plot fun _ => w } : Truth).valid, e < i + 1) ∧ t.valid.length ≤ i + 1 := fun w => ⟨by rw [yde]; exact h1, h2', by omega⟩
  have gv : ({ t with valid := t.valid ++ [i] } : Truth).owner.length = m ∧ (∀ e ∈ ({ t with valid := t.valid ++ [i] } : Truth).valid, e < i + 1) ∧ (t.valid ++ [i]).length ≤ i + 1 := ⟨h1, fun e he => by
    rcases List.mem_append.mp he with h | h
    · exact h2' e h
    · rw [List.mem_singleton.mp h]; exact Nat.lt_succ_self i, by rw [List.length_append]; exact Nat.succ_le_succ h3⟩
  have st := And.intro h1 (And.intro h2' (show t.valid.length ≤ i + 1 by omega))
  unfold Truth.enters
  split
  · exact st
  · cases x.act with
    | transfer a b c k => dsimp only; split; exact ow _; exact st
    | charge a b c d k => dsimp only; split; exact gv; exact st
    | notice a b c k => dsimp only; split; exact gv; exact st
    | fulfil n k =>
      dsimp only
      split
      · exact st
      · split; exact ow _; exact st
    | _ => exact st
theorem WF.zgO {f : File} (h : WF f) (void : List Nat) : ∀ i, i ≤ f.items.length → Good f i (ybh f void i)
  | 0, _ => ⟨Jde _, YgA _ _, rfl, fun e he => (by cases he), Nat.le_refl _⟩
  | i + 1, hi => by
    have g := h.zgO void i (by omega)
    have hx : f.items[i]? = some f.items[i] := List.getElem?_eq_getElem (by omega)
    obtain ⟨a, b⟩ := h.Yhx (i + 1) hi
    have e1 : regs f.items 0 (f.items.take (i + 1)) (begun f.owners).1 = (ybh f void (i + 1)).1 := (Yde _ _ _ _ _).symm
    rw [e1] at a b
    obtain ⟨c, d, e⟩ := yhj (is := f.items) (r := (ybh f void i).1) (v := void) (x := f.items[i]) g.tl g.vl g.vn
    refine ⟨a, b, ?_, ?_, ?_⟩
    · rw [jcS hx]; exact c
    · rw [jcS hx]; exact d
    · rw [jcS hx]; exact e
theorem JeA (f : File) (void : List Nat) (i : Nat) : (ybh f void i).1 = regs f.items 0 (f.items.take i) (begun f.owners).1 := Yde _ _ _ _ _
def JgA (f : File) (void : List Nat) (q i : Nat) : Sh := view f.items q (ybh f void i)
theorem jg5 (f : File) (void : List Nat) {q : Nat} (hq : q < f.owners.length) : JgA f void q 0 = ⟨ownerAt f.owners q, ownerAt f.owners q, [], [], []⟩ := by
  show Sh.mk _ _ _ ((f.owners.map fun _ => []).getD q []) _ = _
  have e : ((f.owners.map fun (_ : Nat) => ([] : List Place)).getD q []) = [] := by
    rw [ZcS, List.getElem?_map]
    cases f.owners[q]? with
    | none => rfl
    | some x => rfl
  rw [e]
  rfl
theorem Jg5 {f : File} (w : WF f) (void : List Nat) {q i : Nat} {x : Item} (hq : q < f.owners.length) (hx : f.items[i]? = some x) : JgA f void q (i + 1) = if x.plot = q then (JgA f void q i).go f.items void i x else JgA f void q i := by
  unfold JgA
  rw [jcS hx]
  refine Yg5 void w (w.zgO void i (Nat.le_of_lt (Zah hx))) hx hq ?_
  rw [JeA]
  exact w.was i x hx
structure StOk (f : File) (q i : Nat) (s : Sh) : Prop where
  lt : ∀ e ∈ s.std, e < i
  up : s.std.Pairwise (· < ·)
  hd : ∀ e ∈ s.std, (holder f.items e).isSome = true ∧ plotOf f.items e = q
  pin : ∀ p ∈ s.pls, p.entry ∈ s.std ∧ isCharge f.items p.entry = true
  pl : s.pls.length ≤ i
structure ShOk (f : File) (q i : Nat) (s : Sh) : Prop extends StOk f q i s where
  gl : ∀ e ∈ s.giv, e < i
  gn : s.giv.length ≤ i
theorem WF.Yhj {f : File} (h : WF f) (void : List Nat) {q i : Nat} (hq : q < f.owners.length) (hi : i ≤ f.items.length) : ShOk f q i (JgA f void q i) := by
  have g := h.zgO void i hi
  have hl : (ybh f void i).1.places[q]? = some ((ybh f void i).1.places.getD q []) := by
    rw [ZcS, List.getElem?_eq_getElem (by rw [g.ok.pl]; exact hq)]
    rfl
  refine ⟨⟨fun e he => g.lt.st e (List.mem_filter.mp he).1, g.ok.up.filter _, fun e he => ?_, fun p hp => ?_, ?_⟩, fun e he => g.vl e (List.mem_filter.mp he).1, Nat.le_trans (List.length_filter_le _ _) g.vn⟩
  · obtain ⟨a, b⟩ := List.mem_filter.mp he
    exact ⟨g.ok.hd e a, eq_of_beq b⟩
  · obtain ⟨a, b, c⟩ := g.ok.pin q _ hl p hp
    exact ⟨List.mem_filter.mpr ⟨a, by rw [c]; exact beq_self_eq_true q⟩, b⟩
  · have z := jgA f.items (f.items.take i) 0 0 _ (Zg5 f.owners) q _ (by rw [← JeA f void]; exact hl)
    rw [List.length_take, Nat.min_eq_left hi, Nat.zero_add] at z
    exact z
theorem upto {f : File} (h : WF f) (d : Nat) : ∃ n, n ≤ f.items.length ∧ (∀ (i : Nat) (x : Item), f.items[i]? = some x → (x.day ≤ d ↔ i < n)) ∧ ∀ k, f.on d k = ybh f (voids f.items k) n := by
  obtain ⟨n, hn, e⟩ := ydX (fun (x : Item) => decide (x.day ≤ d)) f.items
  refine ⟨n, hn, fun i x hx => ?_, fun k => ?_⟩
  · have e2 : f.items.take n = f.items.filter fun x => decide (x.day ≤ d) := by rw [← e]; exact zdf h.day
    constructor
    · intro hd
      apply Decidable.byContradiction
      intro hin
      have hlen := Zah hx
      have hnl : n < f.items.length := by omega
      have e3 : f.items = f.items.take n ++ f.items.drop n := (List.take_append_drop n f.items).symm
      have e4 := congrArg (List.filter fun (x : Item) => decide (x.day ≤ d)) e3
      rw [List.filter_append, ← e2, List.filter_eq_self.mpr] at e4
      · have e5 : (f.items.drop n).filter (fun (x : Item) => decide (x.day ≤ d)) = [] := by
          have e6 := congrArg List.length e4
          rw [List.length_append] at e6
          exact List.length_eq_zero_iff.mp (by omega)
        have hm : x ∈ f.items.drop n := by
          refine List.mem_of_getElem? (i := i - n) ?_
          rw [List.getElem?_drop, show n + (i - n) = i by omega]
          exact hx
        have := List.filter_eq_nil_iff.mp e5 x hm
        exact this (by simpa using hd)
      · intro y hy
        rw [e2] at hy
        exact (List.mem_filter.mp hy).2
    · intro hi
      have hm : x ∈ f.items.take n := by
        refine List.mem_of_getElem? (i := i) ?_
        rw [List.getElem?_take, if_pos hi]
        exact hx
      rw [e2] at hm
      simpa using (List.mem_filter.mp hm).2
  · unfold File.on ybh
    rw [e]
theorem zgB (f : File) : f.now = ybh f (voids f.items DAY) f.items.length := by
  unfold File.now ybh
  rw [List.take_length]
def zaj (f : File) (q d k : Nat) : Sh := view f.items q (f.on d k)
def zcE (f : File) (q : Nat) : Sh := view f.items q f.now
theorem YhC {f : File} (h : WF f) (q : Nat) : zcE f q = zaj f q DAY DAY := by
  obtain ⟨n, hn, h1, h2⟩ := upto h DAY
  unfold zcE zaj
  rw [h2, zgB]
  have e : n = f.items.length := by
    apply Decidable.byContradiction
    intro hne
    have hx : f.items[n]? = some f.items[n] := List.getElem?_eq_getElem (by omega)
    have := (h1 n _ hx).mp (h.dmax _ (List.mem_of_getElem? hx))
    omega
  rw [e]
theorem ZgO (is : List Item) (i : Nat) (a : Act) (s : Sh) : (s.effect is i a).std = s.std ∧ (s.effect is i a).pls = s.pls := by
  unfold Sh.effect
  cases a with
  | transfer => dsimp only; split <;> exact ⟨rfl, rfl⟩
  | charge => dsimp only; split <;> exact ⟨rfl, rfl⟩
  | notice => dsimp only; split <;> exact ⟨rfl, rfl⟩
  | fulfil n k =>
    dsimp only
    split
    · exact ⟨rfl, rfl⟩
    · split <;> exact ⟨rfl, rfl⟩
  | _ => exact ⟨rfl, rfl⟩
theorem StOk.congr {f : File} {q i : Nat} {s s' : Sh} (h : StOk f q i s) (e1 : s'.std = s.std) (e2 : s'.pls = s.pls) : StOk f q i s' :=
  ⟨by rw [e1]; exact h.lt, by rw [e1]; exact h.up, by rw [e1]; exact h.hd, by rw [e1, e2]; exact h.pin, by rw [e2]; exact h.pl⟩
theorem drop_drop (s : Sh) (f g : Nat → Bool) : (s.drop f).drop g = s.drop fun e => f e || g e := by
  unfold Sh.drop
  dsimp only
  rw [List.filter_filter, List.filter_filter]
  congr 1
  · refine List.filter_congr fun e _ => ?_
    cases f e <;> cases g e <;> rfl
  · refine List.filter_congr fun e _ => ?_
    cases f e.entry <;> cases g e.entry <;> rfl
theorem zeB {s : Sh} {f g : Nat → Bool} (h1 : ∀ e ∈ s.std, f e = g e) (h2 : ∀ p ∈ s.pls, f p.entry = g p.entry) : s.drop f = s.drop g := by
  unfold Sh.drop
  congr 1
  · exact List.filter_congr fun e he => by rw [h1 e he]
  · exact List.filter_congr fun p hp => by rw [h2 p hp]
theorem zg6 (s : Sh) : s.drop (fun _ => false) = s := by
  unfold Sh.drop
  have e1 : s.std.filter (fun _ => !false) = s.std := List.filter_eq_self.mpr fun _ _ => rfl
  have e2 : s.pls.filter (fun _ => !false) = s.pls := List.filter_eq_self.mpr fun _ _ => rfl
  rw [e1, e2]
end Lr
namespace Lr
open Sy33
def Zg6 (is : List Item) (void : List Nat) (s : Sh) (a : Act) : Bool := match a with
  | .transfer _ x _ _ => x == s.reg
  | .charge _ x _ _ _ => x == s.reg
  | .notice _ x _ _ => x == s.reg
  | .fulfil k _ => s.std.contains k
  | .strike k x => s.std.contains k && holder is k == some x
  | .ahead x y => s.std.contains x && (s.std.contains y && Zb6 y x s.pls)
  | .void_ k => !void.contains k
  | _ => true
theorem Ycs {is : List Item} {q : Nat} {s : Reg × Truth} {k : Nat} : (view is q s).std.contains k = (s.1.stands.contains k && plotOf is k == q) := by
  rw [Bool.eq_iff_iff, List.contains_iff_mem, Bool.and_eq_true, List.contains_iff_mem]
  exact List.mem_filter
theorem JeN {is : List Item} {q : Nat} {s : Reg × Truth} {k : Nat} (h : plotOf is k = q) : (view is q s).giv.contains k = s.2.valid.contains k := by
  rw [Bool.eq_iff_iff, List.contains_iff_mem, List.contains_iff_mem]
  show k ∈ (s.2.valid.filter fun e => plotOf is e == q) ↔ _
  rw [List.mem_filter]
  simp [h]
theorem jhj {f : File} {a : Act} {plot : Nat} (h : about f a = some plot) : may f f.now.1 plot a = Zg6 f.items (voids f.items DAY) (zcE f plot) a := by
  have sw : ∀ x : Nat, (ownerAt f.now.1.owner plot == x) = (x == (zcE f plot).reg) := fun x => by
    rw [Bool.eq_iff_iff, beq_iff_eq, beq_iff_eq]
    exact eq_comm
  unfold may Zg6
  cases a with
  | transfer q x y k => exact sw x
  | charge q x y n k => exact sw x
  | notice q x y k => exact sw x
  | fulfil k b =>
    obtain ⟨y, _, e⟩ := Option.map_eq_some_iff.mp (show (noticeOf f.items k).map (fun (_ : Nat × Nat) => plotOf f.items k) = some plot from h)
    show f.now.1.stands.contains k = (zcE f plot).std.contains k
    unfold zcE
    rw [Ycs, e, beq_self_eq_true, Bool.and_true]
  | strike k x =>
    obtain ⟨y, _, e⟩ := Option.map_eq_some_iff.mp (show (holder f.items k).map (fun (_ : Nat) => plotOf f.items k) = some plot from h)
    show (f.now.1.stands.contains k && _) = ((zcE f plot).std.contains k && _)
    unfold zcE
    rw [Ycs, e, beq_self_eq_true, Bool.and_true]
  | ahead x y =>
    have h : (if (isCharge f.items x && (isCharge f.items y && x != y)) = true then some (plotOf f.items x) else none) = some plot := h
    split at h
    · rename_i hc
      have e := Option.some.inj h
      rw [Bool.and_eq_true, Bool.and_eq_true] at hc
      have hne : y ≠ x := by
        have := hc.2.2
        intro z
        subst z
        simp at this
      show (f.now.1.stands.contains x && (f.now.1.stands.contains y && (plotOf f.items x == plotOf f.items y && decide (firstPlace (placesAt f.now.1 plot) y < firstPlace (placesAt f.now.1 plot) x)))) = ((zcE f plot).std.contains x && ((zcE f plot).std.contains y && Zb6 y x (zcE f plot).pls))
      rw [zfH hne]
      unfold zcE
      rw [Ycs, Ycs, e, beq_self_eq_true, Bool.and_true, Bool.and_assoc]
      have e2 : (plot == plotOf f.items y) = (plotOf f.items y == plot) := by
        rw [Bool.eq_iff_iff, beq_iff_eq, beq_iff_eq]; exact eq_comm
      rw [e2]
      rfl
    · cases h
  | objection q x => rfl
  | correct q => rfl
  | void_ k => rfl
theorem ZgB {f : File} (w : WF f) {a : Act} {plot : Nat} (h1 : actOk f a = true) (h : about f a = some plot) : plot < f.owners.length := by
  have inside : ∀ k, k < f.items.length → plotOf f.items k < f.owners.length := fun k hk => by
    have hx : f.items[k]? = some f.items[k] := List.getElem?_eq_getElem hk
    rw [zaU hx]
    exact (w.ok k _ hx).1
  unfold about at h
  unfold actOk at h1
  cases a with
  | transfer q x y k =>
    have e := Option.some.inj h
    subst e
    simp at h1
    exact h1.1
  | charge q x y n k =>
    have e := Option.some.inj h
    subst e
    simp at h1
    exact h1.1
  | notice q x y k =>
    have e := Option.some.inj h
    subst e
    simp at h1
    exact h1.1
  | objection q x =>
    have e := Option.some.inj h
    subst e
    simp at h1
    exact h1.1
  | correct q =>
    have e := Option.some.inj h
    subst e
    simp at h1
    exact h1
  | fulfil k b =>
    obtain ⟨y, hy, e⟩ := Option.map_eq_some_iff.mp h
    subst e
    exact inside k (YdX hy)
  | strike k b =>
    obtain ⟨y, hy, e⟩ := Option.map_eq_some_iff.mp h
    subst e
    exact inside k (je6 hy)
  | ahead x y =>
    dsimp only at h
    split at h
    · rename_i hc
      have e := Option.some.inj h
      rw [Bool.and_eq_true] at hc
      subst e
      exact inside x (yb6 hc.1)
    · cases h
  | void_ k =>
    obtain ⟨x, hx, e⟩ := Option.bind_eq_some_iff.mp h
    have hp := (w.ok k x hx).1
    cases ha : x.act with
    | transfer => rw [ha] at e; rw [← Option.some.inj e]; exact hp
    | charge => rw [ha] at e; rw [← Option.some.inj e]; exact hp
    | notice => rw [ha] at e; rw [← Option.some.inj e]; exact hp
    | fulfil => rw [ha] at e; rw [← Option.some.inj e]; exact hp
    | _ => rw [ha] at e; cases e
theorem ygO (f : File) (q d k : Nat) (hq : q < f.owners.length) : (step f (.owner q d k)).2 = ⟨0, [[(zaj f q d k).reg, (zaj f q d k).own]]⟩ := by
  show onPlot f q _ = _
  unfold onPlot
  rw [if_neg (by omega)]
  rfl
theorem yg6 (f : File) (q d k : Nat) (hq : q < f.owners.length) : (step f (.rely q d k)).2 = ok (bit ((zaj f q d k).acq f.items false) : Nat) := by
  show onPlot f q _ = _
  unfold onPlot zaj
  rw [if_neg (by omega), jdX]
theorem ygi {f : File} (w : WF f) (q d k : Nat) (hq : q < f.owners.length) : (step f (.charges q d k)).2 = ⟨((zaj f q d k).pls.length : Nat), (zaj f q d k).pls.map fun p => [p.entry, creditor f.items p.entry, p.amount, bit ((zaj f q d k).giv.contains p.entry)]⟩ := by
  show onPlot f q _ = _
  unfold onPlot
  rw [if_neg (by omega)]
  obtain ⟨n, hn, _, e⟩ := upto w d
  have so : ShOk f q n (zaj f q d k) := by
    unfold zaj
    rw [e]
    exact w.Yhj _ hq hn
  have e2 : (zaj f q d k).pls.map (fun p => [p.entry, creditor f.items p.entry, p.amount, bit ((zaj f q d k).giv.contains p.entry)]) = (zaj f q d k).pls.map fun p => [p.entry, creditor f.items p.entry, p.amount, bit ((f.on d k).2.valid.contains p.entry)] := by
    refine List.map_congr_left fun p hp => ?_
    have e3 := JeN (s := f.on d k) (so.hd _ (so.pin p hp).1).2
    unfold zaj
    rw [e3]
  rw [e2]
  rfl
def shr (giv : List Nat) : Nat → List Place → List (Nat × Nat)
  | _, [] => []
  | n, p :: l => (p.entry, if giv.contains p.entry = true then min n p.amount else 0) :: shr giv (n - if giv.contains p.entry = true then min n p.amount else 0) l
theorem YfH (t : Truth) (giv : List Nat) : ∀ (l : List Place) (n : Nat), (∀ p ∈ l, giv.contains p.entry = t.valid.contains p.entry) → shares t n l = shr giv n l
  | [], _, _ => rfl
  | p :: l, n, h => by
    unfold shares shr
    dsimp only
    rw [h p List.mem_cons_self, YfH t giv l _ fun q hq => h q (List.mem_cons_of_mem _ hq)]
theorem Yg6 {f : File} (w : WF f) (q d k n : Nat) (hq : q < f.owners.length) (hn : n ≤ AMOUNT) : (step f (.sale q d k n)).2 = ⟨((n - total ((shr (zaj f q d k).giv n (zaj f q d k).pls).map fun x => x.2) : Nat) : Int), (charges (zaj f q d k).pls).map fun e => [e, creditor f.items e, getsOf (shr (zaj f q d k).giv n (zaj f q d k).pls) e]⟩ := by
  show onPlot f q _ = _
  unfold onPlot
  rw [if_neg (by omega), if_neg (by omega)]
  obtain ⟨m, hm, _, e⟩ := upto w d
  have so : ShOk f q m (zaj f q d k) := by
    unfold zaj
    rw [e]
    exact w.Yhj _ hq hm
  have e1 : shares (f.on d k).2 n (placesAt (f.on d k).1 q) = shr (zaj f q d k).giv n (zaj f q d k).pls := YfH _ _ _ _ fun p hp => JeN (s := f.on d k) (so.hd _ (so.pin p hp).1).2
  dsimp only
  rw [e1]
  rfl
theorem ygB {f : File} (w : WF f) (q d k : Nat) (hq : q < f.owners.length) : (step f (.stands q d)).2 = ⟨((((zaj f q d k).std.filter fun e => !isCharge f.items e).length : Nat) : Int), ((zaj f q d k).std.filter fun e => !isCharge f.items e).map fun e => [e, bit ((noticeOf f.items e).isSome), (holder f.items e).getD 0]⟩ := by
  show onPlot f q _ = _
  unfold onPlot
  rw [if_neg (by omega)]
  have e1 : ((f.on d 0).1.stands.filter fun (e : Nat) => plotOf f.items e == q && !isCharge f.items e) = (zaj f q d k).std.filter fun e => !isCharge f.items e := by
    rw [YgX, ← YgX f d k]
    show _ = ((f.on d k).1.stands.filter fun e => plotOf f.items e == q).filter _
    rw [List.filter_filter]
    refine List.filter_congr fun e _ => ?_
    rw [Bool.and_comm]
  rw [e1]
def prs (f : File) (q k d : Nat) : List Nat := [(zaj f q d k).reg, (zaj f q d k).own]
theorem jbc (b : Option (List Nat)) (g : Nat → List Nat) (d : Nat) (l : List Nat) : changes b ((d :: l).map fun d => d :: g d) = if b = some (g d) then changes b (l.map fun d => d :: g d) else (d :: g d) :: changes (some (g d)) (l.map fun d => d :: g d) := by
  rw [List.map_cons, changes]
  rfl
theorem YgB (g : Nat → List Nat) (d : Nat) (b : Option (List Nat)) (l : List Nat) : changes b ((d :: d :: l).map fun d => d :: g d) = changes b ((d :: l).map fun d => d :: g d) := by
  rw [jbc, jbc, jbc]
  by_cases h : b = some (g d)
  · rw [if_pos h, if_pos h]
  · rw [if_neg h, if_neg h, if_pos rfl]
theorem jg6 (l : List Nat) : ∀ (acc : List Nat) (d : Nat), (acc ++ [d]).Pairwise (· < ·) → (∀ x ∈ l, d ≤ x) → l.Pairwise (· ≤ ·) →
    ∃ r, l.foldl (fun (l : List Nat) (x : Nat) => if l.contains x = true then l else l ++ [x]) (acc ++ [d]) = acc ++ d :: r ∧ ∀ (g : Nat → List Nat) (b : Option (List Nat)), changes b ((d :: r).map fun d => d :: g d) = changes b ((d :: l).map fun d => d :: g d) := by
  induction l with
  | nil => intro acc d _ _ _; exact ⟨[], rfl, fun _ _ => rfl⟩
  | cons x l ih =>
    intro acc d hp hd hs
    rw [List.pairwise_cons] at hs
    rw [List.foldl_cons]
    by_cases e : x = d
    · subst e
      rw [if_pos (by rw [List.contains_iff_mem]; exact List.mem_append_right _ (List.mem_singleton.mpr rfl))]
      obtain ⟨r, h1, h2⟩ := ih acc x hp (fun y hy => hd y (List.mem_cons_of_mem _ hy)) hs.2
      refine ⟨r, h1, fun g b => ?_⟩
      rw [h2, YgB]
    · have hlt : d < x := by have := hd x List.mem_cons_self; omega
      have hnm : ¬ ((acc ++ [d]).contains x = true) := by
        rw [List.contains_iff_mem]
        intro hm
        have hp2 := List.pairwise_append.mp hp
        rcases List.mem_append.mp hm with h | h
        · have := hp2.2.2 x h d (List.mem_singleton.mpr rfl)
          omega
        · exact e (List.mem_singleton.mp h)
      rw [if_neg hnm]
      have hp3 : ((acc ++ [d]) ++ [x]).Pairwise (· < ·) := by
        rw [List.pairwise_append]
        refine ⟨hp, List.pairwise_singleton _ _, fun a ha b hb => ?_⟩
        rw [List.mem_singleton.mp hb]
        have hp2 := List.pairwise_append.mp hp
        rcases List.mem_append.mp ha with h | h
        · have := hp2.2.2 a h d (List.mem_singleton.mpr rfl)
          omega
        · rw [List.mem_singleton.mp h]; exact hlt
      obtain ⟨r, h1, h2⟩ := ih (acc ++ [d]) x hp3 (fun y hy => hs.1 y hy) hs.2
      refine ⟨x :: r, by rw [h1, List.append_assoc]; rfl, fun g b => ?_⟩
      rw [jbc b g d (x :: r), jbc b g d (x :: l)]
      split
      · exact h2 g b
      · rw [h2 g]
theorem jgB (f : File) : daysOf f = (f.items.map fun x => x.day).foldl (fun (l : List Nat) (x : Nat) => if l.contains x = true then l else l ++ [x]) ([] ++ [0]) := by
  unfold daysOf
  rw [List.foldl_map]
  rfl
theorem Jg6 {f : File} (w : WF f) (q k : Nat) (hq : q < f.owners.length) : (step f (.days q k)).2 = ⟨((changes none ((0 :: f.items.map fun x => x.day).map fun d => d :: prs f q k d)).length : Nat), changes none ((0 :: f.items.map fun x => x.day).map fun d => d :: prs f q k d)⟩ := by
  show onPlot f q _ = _
  unfold onPlot
  rw [if_neg (by omega)]
  obtain ⟨r, h1, h2⟩ := jg6 (f.items.map fun x => x.day) [] 0 (List.pairwise_singleton _ _) (fun x _ => Nat.zero_le x) (List.pairwise_map.mpr w.day)
  have e1 : changes none ((daysOf f).map fun (d : Nat) => let s := f.on d k
        [d, ownerAt s.1.owner q, ownerAt s.2.owner q]) = changes none ((0 :: f.items.map fun x => x.day).map fun d => d :: prs f q k d) := by
    rw [← h2, jgB, h1]
    rfl
  dsimp only at e1 ⊢
  rw [e1]
theorem Jhj (f : File) (q : Nat) (a : Ans) (hq : ¬ q < f.owners.length) : onPlot f q a = ok (-1) := by
  unfold onPlot
  rw [if_pos (by omega)]
end Lr
namespace Lr
open Sy33
def chN (l : List (Nat × Nat)) : List Nat := l.foldl (fun (m : List Nat) (p : Nat × Nat) => if m.contains p.1 = true then m else m ++ [p.1]) []
theorem JdX (l : List (Nat × Nat)) (p : Nat × Nat) : chN (l ++ [p]) = if (chN l).contains p.1 = true then chN l else chN l ++ [p.1] := by
  unfold chN
  rw [List.foldl_append]
  rfl
theorem Zdf (l r : List Nat) : total (l ++ r) = total l + total r := by
  have h : ∀ (r : List Nat) (a b : Nat), r.foldl (fun (a b : Nat) => a + b) (a + b) = a + r.foldl (fun (a b : Nat) => a + b) b := by
    intro r
    induction r with
    | nil => intro a b; rfl
    | cons x r ih => intro a b; rw [List.foldl_cons, List.foldl_cons, Nat.add_assoc, ih]
  unfold total
  rw [List.foldl_append]
  exact (congrArg (fun z => List.foldl (fun (a b : Nat) => a + b) z r) (Nat.add_zero _).symm).trans (h r _ 0)
theorem ydf (n : Nat) : total [n] = n := Nat.zero_add n
theorem ze7 (l : List (Nat × Nat)) (p : Nat × Nat) (e : Nat) : getsOf (l ++ [p]) e = getsOf l e + if p.1 = e then p.2 else 0 := by
  unfold getsOf
  rw [List.filter_append, List.map_append, Zdf, List.filter_cons]
  by_cases h : p.1 = e
  · rw [if_pos (by simpa using h), if_pos h]
    show _ + total [p.2] = _
    rw [ydf]
  · rw [if_neg (by simpa using h), if_neg h]
    rfl
theorem ydp {α : Type} {P : List α → Prop} (h0 : P []) (h1 : ∀ l x, P l → P (l ++ [x])) : ∀ l, P l := fun l => by
  have h : ∀ r : List α, P r.reverse := by
    intro r
    induction r with
    | nil => exact h0
    | cons x r ih => rw [List.reverse_cons]; exact h1 _ _ ih
  have := h l.reverse
  rwa [List.reverse_reverse] at this
theorem JgX : ∀ (l : List (Nat × Nat)) (e : Nat), e ∈ chN l ↔ ∃ p ∈ l, p.1 = e := by
  refine ydp (fun e => ?_) fun l x ih e => ?_
  · exact ⟨fun h => (by cases h), fun ⟨p, h, _⟩ => (by cases h)⟩
  · rw [JdX]
    split
    · rename_i hc
      rw [List.contains_iff_mem] at hc
      rw [ih]
      constructor
      · rintro ⟨p, hp, he⟩
        exact ⟨p, List.mem_append_left _ hp, he⟩
      · rintro ⟨p, hp, he⟩
        rcases List.mem_append.mp hp with h | h
        · exact ⟨p, h, he⟩
        · rw [List.mem_singleton.mp h] at he
          subst he
          exact (ih _).mp hc
    · rw [List.mem_append, ih, List.mem_singleton]
      constructor
      · rintro (⟨p, hp, he⟩ | h)
        · exact ⟨p, List.mem_append_left _ hp, he⟩
        · exact ⟨x, List.mem_append_right _ (List.mem_singleton.mpr rfl), h.symm⟩
      · rintro ⟨p, hp, he⟩
        rcases List.mem_append.mp hp with h | h
        · exact .inl ⟨p, h, he⟩
        · rw [List.mem_singleton.mp h] at he
          exact .inr he.symm
theorem Yf9 : ∀ l : List (Nat × Nat), (chN l).Nodup := by
  refine ydp List.nodup_nil fun l x ih => ?_
  rw [JdX]
  split
  · exact ih
  · rename_i hc
    rw [List.contains_iff_mem] at hc
    rw [List.nodup_append]
    exact ⟨ih, by simp, fun a ha b hb e => hc (by rw [List.mem_singleton.mp hb] at e; rw [← e]; exact ha)⟩
theorem jf9 {l : List (Nat × Nat)} {e : Nat} (h : e ∉ chN l) : getsOf l e = 0 := by
  unfold getsOf
  have : (l.filter fun (x : Nat × Nat) => x.1 == e) = [] := by
    rw [List.filter_eq_nil_iff]
    intro p hp hq
    exact h ((JgX l e).mpr ⟨p, hp, by simpa using hq⟩)
  rw [this]
  rfl
theorem ZeB (g : Nat → Nat) (e n : Nat) : ∀ l : List Nat, l.Nodup → total (l.map fun x => g x + if e = x then n else 0) = total (l.map g) + if e ∈ l then n else 0
  | [], _ => rfl
  | x :: l, h => by
    rw [List.nodup_cons] at h
    have ih := ZeB g e n l h.2
    have h1 : ∀ (a : Nat) (r : List Nat), total (a :: r) = a + total r := fun a r => by
      have := Zdf [a] r
      rw [ydf] at this
      exact this
    rw [List.map_cons, List.map_cons, h1, h1, ih]
    by_cases hx : e = x
    · subst hx
      rw [if_pos rfl, if_neg h.1, if_pos List.mem_cons_self]
      omega
    · rw [if_neg hx]
      by_cases hm : e ∈ l
      · rw [if_pos hm, if_pos (List.mem_cons_of_mem _ hm)]
        omega
      · rw [if_neg hm, if_neg (fun z => (List.mem_cons.mp z).elim hx hm)]
        omega
theorem JgB : ∀ l : List (Nat × Nat), total ((chN l).map (getsOf l)) = total (l.map fun x => x.2) := by
  refine ydp rfl fun l p ih => ?_
  have e1 : getsOf (l ++ [p]) = fun x => getsOf l x + if p.1 = x then p.2 else 0 := funext fun e => ze7 l p e
  rw [List.map_append, Zdf, ← ih, e1, JdX]
  show _ = _ + total [p.2]
  rw [ydf]
  split
  · rename_i hc
    rw [List.contains_iff_mem] at hc
    rw [ZeB _ _ _ _ (Yf9 l), if_pos hc]
  · rename_i hc
    rw [List.contains_iff_mem] at hc
    rw [List.map_append, Zdf, ZeB _ _ _ _ (Yf9 l), if_neg hc]
    show _ + total [getsOf l p.1 + if p.1 = p.1 then p.2 else 0] = _
    rw [ydf, if_pos rfl, jf9 hc]
    omega
theorem zeO (giv : List Nat) : ∀ (l : List Place) (n : Nat), (shr giv n l).map (fun x => x.1) = l.map fun p => p.entry
  | [], _ => rfl
  | p :: l, n => by
    rw [shr, List.map_cons, List.map_cons, zeO giv l]
theorem zgC (l : List Place) (r : List (Nat × Nat)) (h : r.map (fun x => x.1) = l.map fun p => p.entry) : chN r = charges l := by
  unfold chN charges
  have e1 : r.foldl (fun (m : List Nat) (p : Nat × Nat) => if m.contains p.1 = true then m else m ++ [p.1]) [] = (r.map fun x => x.1).foldl (fun (m : List Nat) (e : Nat) => if m.contains e = true then m else m ++ [e]) [] := by rw [List.foldl_map]
  rw [e1, h, List.foldl_map]
def left (giv : List Nat) : Nat → List Place → Nat
  | n, [] => n
  | n, p :: l => left giv (n - if giv.contains p.entry = true then min n p.amount else 0) l
theorem jfH (giv : List Nat) (p : Place) : ∀ (l : List Place) (n : Nat), shr giv n (l ++ [p]) = shr giv n l ++ [(p.entry, if giv.contains p.entry = true then min (left giv n l) p.amount else 0)]
  | [], n => rfl
  | q :: l, n => by
    show shr giv n (q :: (l ++ [p])) = _
    rw [shr, shr, left, jfH giv p l, List.cons_append]
theorem Ze7 (giv : List Nat) (p : Place) : ∀ (l : List Place) (n : Nat), left giv n (l ++ [p]) = left giv n l - if giv.contains p.entry = true then min (left giv n l) p.amount else 0
  | [], n => rfl
  | q :: l, n => by
    show left giv n (q :: (l ++ [p])) = _
    rw [left, left, Ze7 giv p l]
theorem jhC (giv : List Nat) : ∀ (l : List Place) (n : Nat), total ((shr giv n l).map fun x => x.2) ≤ n := by
  refine ydp (fun n => Nat.zero_le n) fun l p ih n => ?_
  have h : ∀ l : List Place, total ((shr giv n l).map fun x => x.2) + left giv n l = n := by
    refine ydp (Nat.zero_add n) fun l p ih => ?_
    rw [jfH, Ze7, List.map_append, Zdf]
    show _ + total [if giv.contains p.entry = true then min (left giv n l) p.amount else 0] + _ = n
    rw [ydf]
    split <;> omega
  have := h (l ++ [p])
  omega
theorem zgY (l : List (Nat × Nat)) : (chN l).length ≤ l.length := by
  refine ydp (P := fun l => (chN l).length ≤ l.length) (Nat.le_refl _) (fun l x ih => ?_) l
  rw [JdX]
  split
  · rw [List.length_append]; omega
  · rw [List.length_append, List.length_append]; exact Nat.succ_le_succ ih
end Lr
namespace Lr
open PySem hiding Act
open PySem.Spec
open PyProof.Rows hiding St
open L2
def jz (g : Nat → V) (l : List Nat) : List (Key × V) := l.map fun (e : Nat) => ((Sum.inl (e : Int) : Key), g e)
theorem key_ne {a b : Nat} (h : a ≠ b) : (Sum.inl (a : Int) : Key) ≠ Sum.inl (b : Int) := fun e => h (by injection e with e; omega)
theorem yas (g : Nat → V) (e : Nat) : ∀ l : List Nat, ja0 (jz g l) (Sum.inl (e : Int)) = if e ∈ l then some (g e) else none
  | [] => rfl
  | x :: l => by
    by_cases h : x = e
    · subst h
      rw [if_pos List.mem_cons_self]
      exact ZaR rfl
    · have ih := yas g e l
      have e1 : ja0 (jz g (x :: l)) (Sum.inl (e : Int)) = ja0 (jz g l) (Sum.inl (e : Int)) := by
        show ja0 ((Sum.inl (x : Int), g x) :: jz g l) _ = _
        simp [ja0, List.find?_cons, key_ne h]
      rw [e1, ih]
      by_cases hm : e ∈ l
      · rw [if_pos hm, if_pos (List.mem_cons_of_mem _ hm)]
      · rw [if_neg hm, if_neg (fun z => (List.mem_cons.mp z).elim (fun z => h z.symm) hm)]
theorem Jf9 (g : Nat → V) (e : Nat) (l : List Nat) : ((jz g l).any fun kv => decide (kv.1 = Sum.inl (e : Int))) = decide (e ∈ l) := by
  rw [Bool.eq_iff_iff, List.any_eq_true, decide_eq_true_iff]
  constructor
  · rintro ⟨p, hp, h⟩
    obtain ⟨x, hx, rfl⟩ := List.mem_map.mp hp
    have h := of_decide_eq_true h
    have : x = e := by injection h with h; omega
    exact this ▸ hx
  · intro h
    exact ⟨_, List.mem_map.mpr ⟨e, h, rfl⟩, decide_eq_true rfl⟩
theorem JfH (g : Nat → V) {e : Nat} {l : List Nat} (h : e ∉ l) : putK (jz g l) (Sum.inl (e : Int)) (g e) = jz g (l ++ [e]) := by
  unfold putK
  rw [Jf9, if_neg (by simpa using h)]
  show _ = (l ++ [e]).map _
  rw [List.map_append]
  rfl
theorem ZgC (g : Nat → V) (e : Nat) (l : List Nat) : zfg (jz g l) (Sum.inl (e : Int)) = jz g (l.filter fun x => !(x == e)) := by
  unfold zfg jz
  rw [List.filter_map]
  congr 1
  refine List.filter_congr fun x _ => ?_
  show decide ((Sum.inl (x : Int) : Key) ≠ Sum.inl (e : Int)) = _
  by_cases h : x = e
  · subst h; simp
  · simp [h, key_ne h]
theorem YgO (g : Nat → V) (l : List Nat) : (jz g l).map (fun q => kV q.1) = l.map fun (e : Nat) => V.int (e : Int) := by
  unfold jz
  rw [List.map_map]
  rfl
theorem Jbc (g : Nat → V) (l : List Nat) : (jz g l).length = l.length := List.length_map _
theorem ZgY {J : It} {g : TG} {tb : TS} {D : Ends} {σ : St} {H : Hp} (n : Nat) (Pv : Nat → St → Hp → Prop) (h0 : Pv 0 σ H) (hgo : ∀ i σ H, i < n → Pv i σ H → J.go i H) (hst : ∀ σ H, Pv n σ H → J.stop n H)
    (hs : ∀ i x σ H H', i < n → Pv i σ H → J.yld i H x H' → g x σ H' fun σ2 H2 => tb { D with nx := Pv (i + 1), ct := Pv (i + 1), bk := D.nx } σ2 H2) (hd : ∀ σ H, Pv n σ H → D.nx σ H) :
    ∃ W : Nat → Nat → St → Hp → Prop, (∃ m, W 0 m σ H) ∧ ∀ i m σ H, W i m σ H →
      (J.stop i H ∧ D.nx σ H) ∨ (J.go i H ∧ ∃ N : St → Hp → Prop, (∀ σ' H', N σ' H' → ∃ m', m' < m ∧ W (i + 1) m' σ' H') ∧ ∀ x H', J.yld i H x H' → g x σ H' fun σ2 H2 => tb { D with nx := N, ct := N, bk := D.nx } σ2 H2) := by
  refine ⟨fun i m σ H => m = n - i ∧ i ≤ n ∧ Pv i σ H, ⟨n, by simp, Nat.zero_le _, h0⟩, ?_⟩
  rintro i m σ H ⟨rfl, hi, p⟩
  by_cases hlt : i < n
  · exact .inr ⟨hgo i σ H hlt p, Pv (i + 1), fun σ' H' p' => ⟨n - (i + 1), by omega, rfl, hlt, p'⟩, fun x H' y => hs i x σ H H' hlt p y⟩
  · have e : i = n := by omega
    subst e
    exact .inl ⟨hst σ H p, hd σ H p⟩
theorem zhk {J : It} {g : TG} {tt : TT} {te : TE} {vs : List Nat} {σ : St} {H1 : Hp} {D : Addr} {Qd : Hp → Prop} (n : Nat) (Pv : Nat → Hp → Prop) (h0 : Pv 0 (upd H1 D (.lst []))) (hgo : ∀ i H, i < n → Pv i H → J.go i H) (hst : ∀ H, Pv n H → J.stop n H)
    (hs : ∀ i x H H', i < n → Pv i H → J.yld i H x H' → g x (wipe σ vs) H' fun σ2 H2 => wipe σ2 vs = wipe σ vs ∧ tt σ2 H2 fun b H3 =>
      if b = true then te σ2 H3 fun y H4 => ∃ acc, H4 D = some (.lst acc) ∧ acc.length < sizeLine ∧ Pv (i + 1) (upd H4 D (.lst (acc ++ [y]))) else Pv (i + 1) H3) (hd : ∀ H, Pv n H → Qd H) :
    ∃ W : Nat → Nat → Hp → Prop, (∃ m, W 0 m (upd H1 D (.lst []))) ∧ ∀ i m H, W i m H →
      (J.stop i H ∧ Qd H) ∨ (J.go i H ∧ ∃ Nx : Hp → Prop, (∀ H', Nx H' → ∃ m', m' < m ∧ W (i + 1) m' H') ∧ ∀ x H', J.yld i H x H' → g x (wipe σ vs) H' fun σ2 H2 => wipe σ2 vs = wipe σ vs ∧ tt σ2 H2 fun b H3 =>
        if b = true then te σ2 H3 fun y H4 => ∃ acc, H4 D = some (.lst acc) ∧ acc.length < sizeLine ∧ Nx (upd H4 D (.lst (acc ++ [y]))) else Nx H3) := by
  refine ⟨fun i m H => m = n - i ∧ i ≤ n ∧ Pv i H, ⟨n, by simp, Nat.zero_le _, h0⟩, ?_⟩
  rintro i m H ⟨rfl, hi, p⟩
  by_cases hlt : i < n
  · exact .inr ⟨hgo i H hlt p, Pv (i + 1), fun H' p' => ⟨n - (i + 1), by omega, rfl, hlt, p'⟩, fun x H' y => hs i x H H' hlt p y⟩
  · have e : i = n := by omega
    subst e
    exact .inl ⟨hst H p, hd H p⟩
open Sy33 (Act Item File bit)
def Ydf (d : Nat) (a : Act) (o : V) : List (Str × V) := match a with
  | .transfer q g t k => [("day", .int d), ("plot", .int q), ("person", .int t), ("giver", .int g), ("knows", .int (bit k : Nat))]
  | .charge q g c n k => [("day", .int d), ("plot", .int q), ("person", .int c), ("giver", .int g), ("knows", .int (bit k : Nat)), ("amount", .int n)]
  | .notice q g p k => [("day", .int d), ("plot", .int q), ("person", .int p), ("giver", .int g), ("knows", .int (bit k : Nat))]
  | .fulfil n k => [("day", .int d), ("noted", .int n), ("knows", .int (bit k : Nat))]
  | .objection q p => [("day", .int d), ("plot", .int q), ("person", .int p)]
  | .strike k b => [("day", .int d), ("struck", .int k), ("striker", .int b)]
  | .ahead x y => [("day", .int d), ("one", .int x), ("other", .int y)]
  | .correct q => [("day", .int d), ("plot", .int q), ("owner", o)]
  | .void_ k => [("day", .int d), ("voided", .int k)]
def clsOf (A : Adr) (a : Act) : Addr := match a with
  | .transfer _ _ _ _ => A.Jb
  | .charge _ _ _ _ _ => A.jc
  | .notice _ _ _ _ => A.Zd
  | .fulfil _ _ => A.Yd
  | .objection _ _ => A.Yb
  | .strike _ _ => A.Jf
  | .ahead _ _ => A.Jg
  | .correct _ => A.Je
  | .void_ _ => A.yg
def ZbD (A : Adr) (H : Hp) (v : V) (d : Nat) (a : Act) (o : V) : Prop := ∃ e dx, v = .ref e ∧ H e = some (.ins (clsOf A a) dx (Ydf d a o))
abbrev yhK (A : Adr) (H : Hp) (v : V) (x : Item) : Prop := ZbD A H v x.day x.act (.int x.now)
abbrev yaX (A : Adr) (H : Hp) : List V → List Item → Prop := Paired (yhK A H)
theorem ZbD.same {A : Adr} {H H' : Hp} {v : V} {d : Nat} {a : Act} {o : V} (h : ZbD A H v d a o) (s : Yu H H') : ZbD A H' v d a o := let ⟨e, dx, x, y⟩ := h; ⟨e, dx, x, s _ _ y⟩
theorem yaX.same {A : Adr} {H H' : Hp} {vs : List V} {xs : List Item} (h : yaX A H vs xs) (s : Yu H H') : yaX A H' vs xs := Paired.Yei h fun _ _ e => e.same s
theorem Paired.Zhk {α β : Type} {R : α → β → Prop} : ∀ {xs : List α} {ys : List β} {i : Nat} {y : β}, Paired R xs ys → ys[i]? = some y → ∃ x, xs[i]? = some x ∧ R x y
  | _, _, 0, y, .cons r t, h => by
    have e := Option.some.inj h
    subst e
    exact ⟨_, rfl, r⟩
  | _, _, i + 1, y, .cons r t, h => Paired.Zhk (i := i) t h
theorem Paired.get {α β : Type} {R : α → β → Prop} : ∀ {xs : List α} {ys : List β} {i : Nat} {x : α}, Paired R xs ys → xs[i]? = some x → ∃ y, ys[i]? = some y ∧ R x y
  | _, _, 0, y, .cons r t, h => by
    have e := Option.some.inj h
    subst e
    exact ⟨_, rfl, r⟩
  | _, _, i + 1, y, .cons r t, h => Paired.get (i := i) t h
theorem Paired.snoc {α β : Type} {R : α → β → Prop} : ∀ {xs : List α} {ys : List β} {x : α} {y : β}, Paired R xs ys → R x y → Paired R (xs ++ [x]) (ys ++ [y])
  | _, _, _, _, .nil, r => .cons r .nil
  | _, _, _, _, .cons q t, r => .cons q (Paired.snoc t r)
def esF (vs : List V) (e : Nat) : V := (vs[e]?).getD .non
theorem yaX.at {A : Adr} {H : Hp} {vs : List V} {xs : List Item} {e : Nat} {x : Item} (h : yaX A H vs xs) (hx : xs[e]? = some x) : yhK A H (esF vs e) x := by
  obtain ⟨v, hv, r⟩ := Paired.Zhk h hx
  unfold esF
  rw [hv]
  exact r
def Fld (K : PySem.W.Frag) (H : Hp) (v : V) (f : Str) (u : V) : Prop := ∃ a C dx fs, v = .ref a ∧ H a = some (.ins C dx fs) ∧ Cls K C ∧ Jm K C f ∧ fs.lookup f = some u
theorem Fld.rd {K : PySem.W.Frag} {H : Hp} {v : V} {f : Str} {u : V} (h : Fld K H v f u) {Q : V → Prop} (q : Q u) : ∃ a C dx fs w, v = .ref a ∧ H a = some (.ins C dx fs) ∧ Cls K C ∧ Jm K C f ∧ fs.lookup f = some w ∧ Q w := by
  obtain ⟨a, C, dx, fs, h1, h2, h3, h4, h5⟩ := h
  exact ⟨a, C, dx, fs, u, h1, h2, h3, h4, h5, q⟩
theorem Fld.same {K : PySem.W.Frag} {H H' : Hp} {v : V} {f : Str} {u : V} (h : Fld K H v f u) (s : Yu H H') : Fld K H' v f u := by
  obtain ⟨a, C, dx, fs, h1, h2, h3⟩ := h
  exact ⟨a, C, dx, fs, h1, s _ _ h2, h3⟩
section
variable {P : Program} {w : World} {K : PySem.W.Frag} {mg : Str → Option Value} {base : Heap} {A : Adr} {H : Hp} {v : V} {d : Nat} {a : Act} {o : V}
theorem ybD (T : Txt K mg A) (a : Act) : Cls K (clsOf A a) := by
  cases a with
  | transfer => exact T.ydV
  | charge => exact T.Ydd
  | notice => exact T.Ye5
  | fulfil => exact T.jbu
  | objection => exact T.jdo
  | strike => exact T.Jbb
  | ahead => exact T.Jbm
  | correct => exact T.jcC
  | void_ => exact T.JcR
theorem Ydp (T : Txt K mg A) (h : ZbD A H v d a o) : Fld K H v "day" (.int d) := by
  obtain ⟨e, dx, rfl, h⟩ := h
  refine ⟨e, _, dx, _, rfl, h, ybD T a, ?_, ?_⟩
  · cases a with
    | transfer => exact T.zar
    | charge => exact T.JaM
    | notice => exact T.zaN
    | fulfil => exact T.ZaN
    | objection => exact T.zah
    | strike => exact T.yaN
    | ahead => exact T.Ja2
    | correct => exact T.jaC
    | void_ => exact T.Ybr
  · cases a <;> rfl
def ZcE (a : Act) : Option Nat := match a with
  | .transfer _ _ t _ => some t
  | .charge _ _ c _ _ => some c
  | .notice _ _ p _ => some p
  | .objection _ p => some p
  | _ => none
def zfI (a : Act) : Option Nat := match a with
  | .transfer q _ _ _ => some q
  | .charge q _ _ _ _ => some q
  | .notice q _ _ _ => some q
  | .objection q _ => some q
  | .correct q => some q
  | _ => none
def Yee (a : Act) : Option Nat := match a with
  | .transfer _ g _ _ => some g
  | .charge _ g _ _ _ => some g
  | .notice _ g _ _ => some g
  | _ => none
def ygY (a : Act) : Option Bool := match a with
  | .transfer _ _ _ k => some k
  | .charge _ _ _ _ k => some k
  | .notice _ _ _ k => some k
  | .fulfil _ k => some k
  | _ => none
theorem Yas (T : Txt K mg A) (h : ZbD A H v d a o) {p : Nat} (hp : ZcE a = some p) : Fld K H v "person" (.int p) := by
  obtain ⟨e, dx, rfl, h⟩ := h
  refine ⟨e, _, dx, _, rfl, h, ybD T a, ?_, ?_⟩
  · cases a with
    | transfer => exact T.jV
    | charge => exact T.jag
    | notice => exact T.Jag
    | objection => exact T.zO
    | _ => cases hp
  · cases a <;> first | (cases hp; done) | (have e := Option.some.inj hp; subst e; rfl)
theorem ZeO (T : Txt K mg A) (h : ZbD A H v d a o) {p : Nat} (hp : zfI a = some p) : Fld K H v "plot" (.int p) := by
  obtain ⟨e, dx, rfl, h⟩ := h
  refine ⟨e, _, dx, _, rfl, h, ybD T a, ?_, ?_⟩
  · cases a with
    | transfer => exact T.Yag
    | charge => exact T.yaC
    | notice => exact T.YaC
    | objection => exact T.Y5
    | correct => exact T.zas
    | _ => cases hp
  · cases a <;> first | (cases hp; done) | (have e := Option.some.inj hp; subst e; rfl)
theorem ye7 (T : Txt K mg A) (h : ZbD A H v d a o) {p : Nat} (hp : Yee a = some p) : Fld K H v "giver" (.int p) := by
  obtain ⟨e, dx, rfl, h⟩ := h
  refine ⟨e, _, dx, _, rfl, h, ybD T a, ?_, ?_⟩
  · cases a with
    | transfer => exact T.Z5
    | charge => exact T.Zar
    | notice => exact T.Yar
    | _ => cases hp
  · cases a <;> first | (cases hp; done) | (have e := Option.some.inj hp; subst e; rfl)
theorem Ye7 (T : Txt K mg A) (h : ZbD A H v d a o) {p : Bool} (hp : ygY a = some p) : Fld K H v "knows" (.int (bit p : Nat)) := by
  obtain ⟨e, dx, rfl, h⟩ := h
  refine ⟨e, _, dx, _, rfl, h, ybD T a, ?_, ?_⟩
  · cases a with
    | transfer => exact T.J4
    | charge => exact T.yar
    | notice => exact T.jar
    | fulfil => exact T.Jar
    | _ => cases hp
  · cases a <;> first | (cases hp; done) | (have e := Option.some.inj hp; subst e; rfl)
def kC (a : Option Act) : Bool := match a with | some (.charge _ _ _ _ _) => true | _ => false
def kN (a : Option Act) : Bool := match a with | some (.notice _ _ _ _) => true | _ => false
def kO (a : Option Act) : Bool := match a with | some (.objection _ _) => true | _ => false
def kT (a : Option Act) : Bool := match a with | some (.transfer _ _ _ _) => true | _ => false
def kF (a : Option Act) : Bool := match a with | some (.fulfil _ _) => true | _ => false
def kW (a : Option Act) : Bool := match a with | some (.void_ _) => true | _ => false
structure Kinds (K : PySem.W.Frag) (A : Adr) (t : Value) (a : Option Act) : Prop where
  c : PySem.W.kitOne K t (.ref A.jc) = some (kC a)
  n : PySem.W.kitOne K t (.ref A.Zd) = some (kN a)
  o : PySem.W.kitOne K t (.ref A.Yb) = some (kO a)
  tr : PySem.W.kitOne K t (.ref A.Jb) = some (kT a)
  f : PySem.W.kitOne K t (.ref A.Yd) = some (kF a)
  w : PySem.W.kitOne K t (.ref A.yg) = some (kW a)
theorem zg7 (T : Txt K mg A) : jby K H .non (.type "NoneType") ∧ Kinds K A (.type "NoneType") none := ⟨.non, T.Zcz, T.zcz, T.zbc, T.Jbu, T.ycz, T.yee⟩
theorem ygC (T : Txt K mg A) (h : ZbD A H v d a o) : ∃ t, jby K H v t ∧ Kinds K A t (some a) := by
  obtain ⟨e, dx, rfl, h⟩ := h
  cases a with
  | transfer => exact ⟨_, T.Jfk h, T.Z6, T.J5, T.yJ, T.yP, T.J7, T.yaq⟩
  | charge => exact ⟨_, T.Jf7 h, T.Jao, T.Zao, T.jX, T.J6, T.jap, T.jaI⟩
  | notice => exact ⟨_, T.zf8 h, T.zap, T.yao, T.JX, T.Z7, T.Jap, T.JaI⟩
  | fulfil => exact ⟨_, T.Zf8 h, T.Zap, T.Yao, T.zY, T.Y7, T.zaq, T.zaJ⟩
  | objection => exact ⟨_, T.jeM h, T.YX, T.yX, T.YH, T.YJ, T.ZZ, T.Jaf⟩
  | strike => exact ⟨_, T.yf8 h, T.yap, T.jao, T.jY, T.j7, T.Zaq, T.ZaJ⟩
  | ahead => exact ⟨_, T.jgz h, T.zax, T.Jaw, T.Y6, T.Yaf, T.Zax, T.JaT⟩
  | correct => exact ⟨_, T.JfF h, T.Zaf, T.zaf, T.ZP, T.zZ, T.jaf, T.yax⟩
  | void_ => exact ⟨_, T.YgW h, T.yaI, T.ZaI, T.yaf, T.Yap, T.YaI, T.Zbc⟩
theorem YbD {t c : Value} {cs : List Value} {b b' : Bool} (h : PySem.W.kitOne K t c = some b) (h' : PySem.W.kitAny K t cs = some b') : PySem.W.kitAny K t (c :: cs) = some (b || b') := by
  unfold PySem.W.kitAny
  rw [h]
  cases b with
  | true => rfl
  | false => exact h'
theorem Ygi {t : Value} : PySem.W.kitAny K t [] = some false := rfl
end
end Lr
namespace Lr
open PySem hiding Act
open PySem.Spec
open PyProof.Rows hiding St
open L2
open Sy33 (Act Item File bit)
theorem _root_.L2.Yu.jG {H0 H : Hp} {b : Addr} {o : HO} (s : Yu H0 H) (h : H0 b = Option.none) : Yu H0 (upd H b o) := fun c u e => by
  rw [Zc (yd e h)]
  exact s _ _ e
theorem zag.jG {H : Hp} {b : Addr} {o : HO} (hb : ∀ xs, H b ≠ some (.tup xs)) {ys : List V} {ps : List Pl} (h : zag H ys ps) : zag (upd H b o) ys ps := Paired.Yei h fun _ _ ⟨c, e, q⟩ => ⟨c, e, by
  rw [Zc (fun z => hb _ (by rw [← z]; exact q))]
  exact q⟩
theorem yhk : ∀ {l : List Nat} {m n : Nat}, l.Pairwise (· < ·) → (∀ e ∈ l, m ≤ e ∧ e < n) → l.length ≤ n - m
  | [], _, _, _, _ => Nat.zero_le _
  | x :: l, m, n, h, g => by
    rw [List.pairwise_cons] at h
    have hx := g x List.mem_cons_self
    have := yhk (l := l) (m := x + 1) (n := n) h.2 fun e he => ⟨h.1 e he, (g e (List.mem_cons_of_mem _ he)).2⟩
    rw [List.length_cons]
    omega
def Zg7 (s : Sh) (vd st pl gv : Addr) : List (Str × V) := [("registered", .int s.reg), ("owner", .int s.own), ("void", .ref vd), ("standing", .ref st), ("places", .ref pl), ("given", .ref gv)]
def tru (_ : Nat) : V := .bl true
structure ShR (A : Adr) (H0 H : Hp) (void : List Nat) (es : Nat → V) (s : Sh) (a dx vd st pl gv : Addr) (kvv : List (Key × V)) (ys : List V) : Prop where
  sm : Yu H0 H
  fa : H0 a = Option.none
  fst : H0 st = Option.none
  fpl : H0 pl = Option.none
  fgv : H0 gv = Option.none
  n1 : st ≠ gv
  n2 : vd ≠ st
  n3 : vd ≠ gv
  ob : H a = some (.ins A.Jk dx (Zg7 s vd st pl gv))
  vo : H vd = some (.dK kvv)
  vs : ∀ e : Nat, (ja0 kvv (Sum.inl (e : Int))).isSome = void.contains e
  so : H st = some (.dK (jz es s.std))
  po : H pl = some (.lst ys)
  ps : zag H ys s.pls
  go : H gv = some (.dK (jz tru s.giv))
def Ybh (A : Adr) (H0 H : Hp) (v : V) (void : List Nat) (es : Nat → V) (s : Sh) : Prop := ∃ a dx vd st pl gv kvv ys, v = .ref a ∧ ShR A H0 H void es s a dx vd st pl gv kvv ys
section
variable {P : Program} {w : World} {K : PySem.W.Frag} {mg : Str → Option Value} {base : Heap} {A : Adr} {H0 H : Hp} {void : List Nat} {es : Nat → V} {s : Sh} {a dx vd st pl gv : Addr} {kvv : List (Key × V)} {ys : List V} {v : V}
theorem ShR.same {H' : Hp} (h : ShR A H0 H void es s a dx vd st pl gv kvv ys) (t : Yu H H') : ShR A H0 H' void es s a dx vd st pl gv kvv ys :=
  ⟨h.sm.trans t, h.fa, h.fst, h.fpl, h.fgv, h.n1, h.n2, h.n3, t _ _ h.ob, t _ _ h.vo, h.vs, t _ _ h.so, t _ _ h.po, h.ps.same t, t _ _ h.go⟩
theorem Ybh.same {H' : Hp} (h : Ybh A H0 H v void es s) (t : Yu H H') : Ybh A H0 H' v void es s := by
  obtain ⟨a, dx, vd, st, pl, gv, kvv, ys, e, r⟩ := h
  exact ⟨a, dx, vd, st, pl, gv, kvv, ys, e, r.same t⟩
theorem ShR.fld (T : Txt K mg A) (h : ShR A H0 H void es s a dx vd st pl gv kvv ys) : Fld K H (.ref a) "registered" (.int s.reg) ∧ Fld K H (.ref a) "owner" (.int s.own) ∧ Fld K H (.ref a) "void" (.ref vd) ∧ Fld K H (.ref a) "standing" (.ref st) ∧ Fld K H (.ref a) "places" (.ref pl) ∧ Fld K H (.ref a) "given" (.ref gv) :=
  ⟨⟨a, _, dx, _, rfl, h.ob, T.Yn, T.yw, rfl⟩, ⟨a, _, dx, _, rfl, h.ob, T.Yn, T.YT, rfl⟩, ⟨a, _, dx, _, rfl, h.ob, T.Yn, T.YaN, rfl⟩, ⟨a, _, dx, _, rfl, h.ob, T.Yn, T.zH, rfl⟩, ⟨a, _, dx, _, rfl, h.ob, T.Yn, T.JV, rfl⟩, ⟨a, _, dx, _, rfl, h.ob, T.Yn, T.JaC, rfl⟩⟩
theorem ShR.obj (h : ShR A H0 H void es s a dx vd st pl gv kvv ys) {s' : Sh} (e1 : s'.std = s.std) (e2 : s'.pls = s.pls) (e3 : s'.giv = s.giv) : ShR A H0 (upd H a (.ins A.Jk dx (Zg7 s' vd st pl gv))) void es s' a dx vd st pl gv kvv ys := by
  have no : ∀ {c : Addr} {o : HO}, H c = some o → (∀ C dx fs, o ≠ .ins C dx fs) → upd H a (.ins A.Jk dx (Zg7 s' vd st pl gv)) c = some o := fun {c o} hc hn => by
    rw [Zc (zaR hc h.ob (hn _ _ _))]
    exact hc
  refine ⟨h.sm.jG h.fa, h.fa, h.fst, h.fpl, h.fgv, h.n1, h.n2, h.n3, Ja, no h.vo (by intro _ _ _ z; cases z), h.vs, ?_, no h.po (by intro _ _ _ z; cases z), ?_, ?_⟩
  · rw [e1]; exact no h.so (by intro _ _ _ z; cases z)
  · rw [e2]; exact h.ps.jG (by intro xs z; rw [h.ob] at z; cases z)
  · rw [e3]; exact no h.go (by intro _ _ _ z; cases z)
theorem ShR.std (h : ShR A H0 H void es s a dx vd st pl gv kvv ys) (l : List Nat) : ShR A H0 (upd H st (.dK (jz es l))) void es { s with std := l } a dx vd st pl gv kvv ys :=
  ⟨h.sm.jG h.fst, h.fa, h.fst, h.fpl, h.fgv, h.n1, h.n2, h.n3, by rw [Zc (zaR h.ob h.so (by intro z; cases z))]; exact h.ob, by rw [Zc h.n2]; exact h.vo, h.vs, Ja, by rw [Zc (zaR h.po h.so (by intro z; cases z))]; exact h.po,
    h.ps.jG (by intro xs z; rw [h.so] at z; cases z), by rw [Zc (Ne.symm h.n1)]; exact h.go⟩
theorem ShR.giv (h : ShR A H0 H void es s a dx vd st pl gv kvv ys) (l : List Nat) : ShR A H0 (upd H gv (.dK (jz tru l))) void es { s with giv := l } a dx vd st pl gv kvv ys :=
  ⟨h.sm.jG h.fgv, h.fa, h.fst, h.fpl, h.fgv, h.n1, h.n2, h.n3, by rw [Zc (zaR h.ob h.go (by intro z; cases z))]; exact h.ob, by rw [Zc h.n3]; exact h.vo, h.vs, by rw [Zc h.n1]; exact h.so, by rw [Zc (zaR h.po h.go (by intro z; cases z))]; exact h.po,
    h.ps.jG (by intro xs z; rw [h.go] at z; cases z), Ja⟩
theorem ShR.pls (h : ShR A H0 H void es s a dx vd st pl gv kvv ys) {zs : List V} {l : List Pl} (hz : zag H zs l) : ShR A H0 (upd H pl (.lst zs)) void es { s with pls := l } a dx vd st pl gv kvv zs :=
  ⟨h.sm.jG h.fpl, h.fa, h.fst, h.fpl, h.fgv, h.n1, h.n2, h.n3, by rw [Zc (zaR h.ob h.po (by intro z; cases z))]; exact h.ob, by rw [Zc (zaR h.vo h.po (by intro z; cases z))]; exact h.vo, h.vs, by rw [Zc (zaR h.so h.po (by intro z; cases z))]; exact h.so, Ja,
    hz.jG (by intro xs z; rw [h.po] at z; cases z), by rw [Zc (zaR h.go h.po (by intro z; cases z))]; exact h.go⟩
theorem ShR.Yhk (h : ShR A H0 H void es s a dx vd st pl gv kvv ys) {l : Addr} {zs : List V} {qs : List Pl} (hl : H0 l = Option.none) (hz : H l = some (.lst zs)) (hq : zag H zs qs) :
    ShR A H0 (upd H a (.ins A.Jk dx (Zg7 s vd st l gv))) void es { s with pls := qs } a dx vd st l gv kvv zs := by
  have no : ∀ {c : Addr} {o : HO}, H c = some o → (∀ C dx fs, o ≠ .ins C dx fs) → upd H a (.ins A.Jk dx (Zg7 s vd st l gv)) c = some o := fun {c o} hc hn => by
    rw [Zc (zaR hc h.ob (hn _ _ _))]
    exact hc
  exact ⟨h.sm.jG h.fa, h.fa, h.fst, hl, h.fgv, h.n1, h.n2, h.n3, Ja, no h.vo (by intro _ _ _ z; cases z), h.vs, no h.so (by intro _ _ _ z; cases z), no hz (by intro _ _ _ z; cases z), hq.jG (by intro xs z; rw [h.ob] at z; cases z), no h.go (by intro _ _ _ z; cases z)⟩
def zeq (A : Adr) : Sp := fun vs H Q _ => ∃ (H0 : Hp) (a dx vd : Addr) (n : Nat) (kvv : List (Key × V)) (void : List Nat) (es : Nat → V), vs = [.ref a, .int n, .ref vd] ∧ Yu H0 H ∧ H0 a = Option.none ∧ H a = some (.ins A.Jk dx []) ∧ H vd = some (.dK kvv) ∧
  (∀ e : Nat, (ja0 kvv (Sum.inl (e : Int))).isSome = void.contains e) ∧ ∀ H' : Hp, Ybh A H0 H' (.ref a) void es ⟨n, n, [], [], []⟩ → Q .non H'
theorem yfW (T : Txt K mg A) : Zf P w K mg base CX0 1 A.yU A.jbl ["self", "owner", "void"] (zeq A) := by
  refine T.YeK.ok jfV (fun vs H Q E h => ?_) (fun cdv B outer s H vs Q E hr h => ?_)
  · obtain ⟨_, _, _, _, _, _, _, _, rfl, _⟩ := h
    rfl
  · obtain ⟨H0, a, dx, vd, n, kvv, void, es, rfl, sm, fa, ho, hv, hvs, k⟩ := h
    refine ⟨_, (Yc (Zu (K := K) rfl (pv 0) (pv 1) rfl) (Yc (Zu (K := K) rfl (pv 0) (pv 1) rfl) (Yc (Zu (K := K) rfl (pv 0) (pv 2) rfl) (Yc (Zu (K := K) rfl (pv 0) zeI rfl) (Yc (Zu (K := K) rfl (pv 0) (zaw yc) rfl) (jb (Zu (K := K) rfl (pv 0) zeI rfl))))))), ?_⟩
    refine ⟨_, rfl, _, rfl, a, _, dx, _, rfl, ho, T.Yn, T.yw, (by show (0 : Nat) < 1000; decide), ?_⟩
    refine ⟨_, rfl, _, rfl, a, _, dx, _, rfl, Ja, T.Yn, T.YT, (by show (1 : Nat) < 1000; decide), ?_⟩
    rw [Yai]
    refine ⟨_, rfl, _, rfl, a, _, dx, _, rfl, Ja, T.Yn, T.YaN, (by show (2 : Nat) < 1000; decide), ?_⟩
    rw [Yai]
    refine fun st hst => ⟨_, rfl, a, _, dx, _, rfl, (by rw [Zc (yd Ja hst)]; exact Ja), T.Yn, T.zH, (by show (3 : Nat) < 1000; decide), ?_⟩
    refine ⟨Nat.zero_le _, fun pl hpl => ⟨_, rfl, a, _, dx, _, rfl, (by rw [Zc (yd Ja hpl)]; exact Ja), T.Yn, T.JV, (by show (4 : Nat) < 1000; decide), ?_⟩⟩
    refine fun gv hgv => ⟨_, rfl, a, _, dx, _, rfl, (by rw [Zc (yd Ja hgv)]; exact Ja), T.Yn, T.JaC, (by show (5 : Nat) < 1000; decide), ?_⟩
    refine k _ ⟨a, dx, vd, st, pl, gv, kvv, [], rfl, ?_⟩
    have nva : vd ≠ a := zaR hv ho (by intro z; cases z)
    have nsa : st ≠ a := Ne.symm (yd Ja hst)
    have npa : pl ≠ a := Ne.symm (yd Ja hpl)
    have nga : gv ≠ a := Ne.symm (yd Ja hgv)
    have nvs : vd ≠ st := yd (o := .dK kvv) (by rw [Zc nva]; exact hv) hst
    have nvp : vd ≠ pl := yd (o := .dK kvv) (by rw [Zc nva, Zc nvs, Zc nva]; exact hv) hpl
    have nsp : st ≠ pl := yd (o := .dK []) (by rw [Zc nsa]; exact Ja) hpl
    have nvg : vd ≠ gv := yd (o := .dK kvv) (by rw [Zc nva, Zc nvp, Zc nva, Zc nvs, Zc nva]; exact hv) hgv
    have nsg : st ≠ gv := yd (o := .dK []) (by rw [Zc nsa, Zc nsp, Zc nsa]; exact Ja) hgv
    have npg : pl ≠ gv := yd (o := .lst []) (by rw [Zc npa]; exact Ja) hgv
    have f1 : H0 st = Option.none := (sm.jG fa).free hst
    have f2 : H0 pl = Option.none := (((sm.jG fa).jG f1).jG fa).free hpl
    have f3 : H0 gv = Option.none := (((((sm.jG fa).jG f1).jG fa).jG f2).jG fa).free hgv
    refine ⟨((((((sm.jG fa).jG f1).jG fa).jG f2).jG fa).jG f3).jG fa, fa, f1, f2, f3, nsg, nvs, nvg, Ja, ?_, hvs, ?_, ?_, .nil, ?_⟩
    · rw [Zc nva, Zc nvg, Zc nva, Zc nvp, Zc nva, Zc nvs, Zc nva]; exact hv
    · rw [Zc nsa, Zc nsg, Zc nsa, Zc nsp, Zc nsa]; exact Ja
    · rw [Zc npa, Zc npg, Zc npa]; exact Ja
    · rw [Zc nga]; exact Ja
def jbD (A : Adr) : Sp := fun vs H Q _ => ∃ (H0 : Hp) (v : V) (i : Nat) (void : List Nat) (es : Nat → V) (s : Sh), vs = [v, .int i, es i] ∧ Ybh A H0 H v void es s ∧ i ∉ s.std ∧ s.std.length ≤ 100 ∧ ∀ H' : Hp, Ybh A H0 H' v void es { s with std := s.std ++ [i] } → Q .non H'
theorem ycE (T : Txt K mg A) : Zf P w K mg base CX0 1 A.jC A.Jaq ["self", "number", "entry"] (jbD A) := by
  refine T.yeo.ok yfD (fun vs H Q E h => ?_) (fun cdv B outer s H vs Q E hr h => ?_)
  · obtain ⟨_, _, _, _, _, _, rfl, _⟩ := h
    rfl
  · have hu := jcD hr
    obtain ⟨H0, v, i, void, es, s, rfl, ⟨a, dx, vd, st, pl, gv, kvv, ys, rfl, r⟩, hi, hl, k⟩ := h
    obtain ⟨f1, f2, f3, f4, f5, f6⟩ := r.fld T
    refine ⟨_, (jb (Zfx hu (Jc (K := K) rfl (pv 0) rfl) (pv 1) (pv 2) rfl)), ?_⟩
    refine ⟨_, rfl, _, rfl, ?_⟩
    refine f4.rd ?_
    refine ⟨_, rfl, st, _, rfl, Jgf.k (k := Sum.inl (i : Int)) r.so (Nat.lt_of_le_of_lt (show _ ≤ 100 by rw [Jbc]; exact hl) (by decide)), ?_⟩
    rw [JfH es hi]
    exact k _ ⟨a, dx, vd, st, pl, gv, kvv, ys, rfl, r.std _⟩
def Jc4 (A : Adr) : Sp := fun vs H Q _ => ∃ (H0 : Hp) (v : V) (i : Nat) (void : List Nat) (es : Nat → V) (s : Sh), vs = [v, .int i] ∧ Ybh A H0 H v void es s ∧ i ∈ s.std ∧ s.pls.length ≤ 1000 ∧ ∀ H' : Hp, Ybh A H0 H' v void es (s.drop fun e => e == i) → Q .non H'
theorem Zeq (T : Txt K mg A) : Zf P w K mg base CX0 2 A.yN A.jaT ["self", "number"] (Jc4 A) := by
  have yg7 : Zf P w K mg base CX0 1 A.YaT A.zcA ["places", "charge"] (ZfG K) := ZgN T
  refine T.JeK.ok JfV (fun vs H Q E h => ?_) (fun cdv B outer s H vs Q E hr h => ?_)
  · obtain ⟨_, _, _, _, _, _, rfl, _⟩ := h
    rfl
  · have hu := jcD hr
    obtain ⟨H0, v, i, void, es, s, rfl, ⟨a, dx, vd, st, pl, gv, kvv, ys, rfl, r⟩, hi, hl, k⟩ := h
    obtain ⟨f1, f2, f3, f4, f5, f6⟩ := r.fld T
    refine ⟨_, (Yc (yD (yhe (Jc (K := K) rfl (pv 0) rfl) (pv 1) ⟨rfl, rfl, rfl, rfl⟩)) (jb (Zu (K := K) rfl (pv 0) (jD yg7 (hr.mono (by decide)) (by rfl) T.Yf6 T.ye5.kp T.yf6 .nil Jh (Za (Jc (K := K) rfl (pv 0) rfl) (Za (pv 1) yc))) rfl))), ?_⟩
    refine ⟨_, rfl, f4.rd ⟨st, rfl, .inl ⟨_, .inl r.so⟩, _, rfl, _, Sum.inl (i : Int), es i, r.so, rfl, by rw [yas, if_pos hi], ?_⟩⟩
    rw [ZgC]
    have r2 := r.std (s.std.filter fun x => !(x == i))
    obtain ⟨g1, g2, g3, g4, g5, g6⟩ := r2.fld T
    refine ⟨_, rfl, g5.rd ⟨_, rfl, pl, ys, s.pls, i, rfl, SqL.of r2.po, r2.ps, Nat.le_trans hl (by decide), fun H' l zs sH hl0 hz hp => ?_⟩⟩
    have r3 := r2.same sH
    refine ⟨_, rfl, a, _, dx, _, rfl, r3.ob, T.Yn, T.JV, (by show (6 : Nat) < 1000; decide), ?_⟩
    exact k _ ⟨a, dx, vd, st, l, gv, kvv, zs, rfl, r3.Yhk (r2.sm.free hl0) hz hp⟩
end
end Lr
namespace Lr
open PySem hiding Act
open PySem.Spec
open PyProof.Rows hiding St
open L2
open Sy33 (Act Item File bit noticeOf holder voids plotOf isCharge)
def Zag (is : List Item) (k : Nat) : Option Act := (is[k]?).map fun x => x.act
theorem jhk (is : List Item) (e : Nat) : isObj is e = kO (Zag is e) := by
  unfold isObj Zag
  cases is[e]? with
  | none => rfl
  | some x =>
    obtain ⟨d, a, p, w, n⟩ := x
    cases a <;> rfl
theorem JhC (is : List Item) (e : Nat) : Yej is e = (kC (Zag is e) || kN (Zag is e)) := by
  unfold Yej Zag
  cases is[e]? with
  | none => rfl
  | some x =>
    obtain ⟨d, a, p, w, n⟩ := x
    cases a <;> rfl
theorem jee {A : Adr} {H : Hp} {es : List V} {is : List Item} (h : yaX A H es is) : es.length = is.length := Paired.length h
section
variable {P : Program} {w : World} {K : PySem.W.Frag} {mg : Str → Option Value} {base : Heap} {A : Adr}
theorem Yb6 (T : Txt K mg A) {H : Hp} {es : List V} {is : List Item} (h : yaX A H es is) (k : Nat) : ∃ t, jby K H (esF es k) t ∧ Kinds K A t (Zag is k) := by
  cases hx : is[k]? with
  | none =>
    have e1 : es[k]? = none := by
      rw [List.getElem?_eq_none_iff] at hx ⊢
      rw [jee h]; exact hx
    have e2 : esF es k = .non := by unfold esF; rw [e1]; rfl
    have e3 : Zag is k = none := by unfold Zag; rw [hx]; rfl
    rw [e2, e3]
    exact ⟨_, zg7 T⟩
  | some x =>
    have e3 : Zag is k = some x.act := by unfold Zag; rw [hx]; rfl
    rw [e3]
    exact ygC T (h.at hx)
theorem YgC {H : Hp} {st D : Addr} {od : Obj} {u L : HO} (h : H st = some u) (hD : upd H st (.frz od u) D = Option.none) : D ≠ st ∧ H D = Option.none ∧ Yu H (upd (upd (upd H st (.frz od u)) D L) st u) := by
  have n1 : D ≠ st := by
    intro z
    subst z
    rw [Ja] at hD
    cases hD
  have n2 : H D = Option.none := by rw [Zc n1] at hD; exact hD
  refine ⟨n1, n2, fun b o e => ?_⟩
  by_cases hb : b = st
  · subst hb
    rw [Ja]
    rw [h] at e
    exact e
  · rw [Zc hb, Zc (yd e n2), Zc hb]
    exact e
def jdf (A : Adr) : Sp := fun vs H Q _ => ∃ (H0 : Hp) (v : V) (void : List Nat) (evs : List V) (is : List Item) (s : Sh), vs = [v] ∧ yaX A H0 evs is ∧ Ybh A H0 H v void (esF evs) s ∧ s.std.length ≤ 100 ∧ ∀ H' : Hp, Yu H H' → Q (.bl (s.std.any (isObj is))) H'
theorem jdp (T : Txt K mg A) : Zf P w K mg base CX0 1 A.jk A.jU ["self"] (jdf A) := by
  refine T.jbO.ok jaL (fun vs H Q E h => ?_) (fun cdv B outer s H vs Q E hr h => ?_)
  · obtain ⟨_, _, _, _, _, _, rfl, _⟩ := h
    rfl
  · have hu := jcD hr
    obtain ⟨H0, v, void, evs, is, s, rfl, its, ⟨a, dx, vd, st, pl, gv, kvv, ys, rfl, r⟩, hl, k⟩ := h
    refine ⟨_, (jb (yf (zu (ZgV (K := K) rfl rfl) (by rfl) T.Jhh Zf6 (Za (yhr (yf4 rfl jaL.nd (zg3 (Jc (K := K) rfl (pv 0) rfl)) (own := [("entry", 1)]) (by show Jdx ["self", "entry"] (za Yk) _ [("entry", 1)]; exact ⟨rfl, by decide +kernel, by decide +kernel, by decide +kernel, by decide +kernel⟩) (fun _ _ _ _ _ => (jai (i := 1) jaL.nd rfl (by first | exact Or.inl rfl | exact Or.inr rfl))) (fun _ _ _ _ _ => jeH) (fun _ _ _ _ _ => (zu (ZbU (K := K) rfl) (by rfl) T.zW zA (Za (pv 1) (Za (jg (v := .ref A.Yb) (by rfl) T.ZcR rfl) yc)))))) yc)))), ?_⟩
    refine ⟨st, _, r.so, (by trivial), fun od => ?_⟩
    have s1 : Yu H0 (upd H st (.frz od (.dK (jz (esF evs) s.std)))) := r.sm.jG r.fst
    have nas : a ≠ st := zaR r.ob r.so (by intro z; cases z)
    refine ⟨_, rfl, Fld.rd (u := .ref st) ⟨a, _, dx, _, rfl, (by rw [Zc nas]; exact r.ob), T.Yn, T.zH, rfl⟩ ⟨st, od, _, rfl, Ja, fun D hD => ?_⟩⟩
    obtain ⟨n1, n2, n3⟩ := YgC (L := .lst ((s.std.map (isObj is)).map V.bl)) r.so hD
    refine zhk s.std.length (fun i H' => H' = upd (upd H st (.frz od (.dK (jz (esF evs) s.std)))) D (.lst (((s.std.take i).map (isObj is)).map V.bl))) rfl ?_ ?_ ?_ ?_
    · rintro i H' hi rfl
      exact ⟨by rw [Zc (Ne.symm n1)]; exact Ja, by rw [Jbc]; exact hi⟩
    · rintro H' rfl
      exact ⟨by rw [Zc (Ne.symm n1)]; exact Ja, by rw [Jbc]; exact Nat.le_refl _⟩
    · rintro i x H' H'' hi rfl ⟨rfl, k', hk⟩
      obtain ⟨e, he⟩ : ∃ e, s.std[i]? = some e := ⟨s.std[i], List.getElem?_eq_getElem hi⟩
      have hx : x = esF evs e := by
        unfold jz at hk
        rw [List.getElem?_map, he] at hk
        exact (congrArg Prod.snd (Option.some.inj hk)).symm
      subst hx
      obtain ⟨t, ty, kd⟩ := Yb6 (H := upd (upd H st (.frz od (.dK (jz (esF evs) s.std)))) D (.lst (((s.std.take i).map (isObj is)).map V.bl))) T (its.same (s1.jG (r.sm.free n2))) e
      show wipe ((wipe _ [1]).set 1 (some (esF evs e))) [1] = wipe _ [1] ∧ _
      refine ⟨by simp [wipe], ?_⟩
      refine ⟨_, rfl, _, _, t, _, rfl, ty, kd.o, _, Ja, ?_, ?_⟩
      · rw [List.length_map, List.length_map, List.length_take]
        exact Nat.lt_of_le_of_lt (show _ ≤ 100 by omega) (by decide)
      · show upd _ _ _ = _
        rw [Yai, Zas he, List.map_append, List.map_append]
        show upd _ D (.lst (_ ++ [V.bl (kO (Zag is e))])) = upd _ D (.lst (_ ++ [V.bl (isObj is e)]))
        rw [jhk]
    · rintro H' rfl
      refine ⟨by rw [Zc (Ne.symm n1)]; exact Ja, D, s.std.map (isObj is), rfl, SqL.of ?_, ?_⟩
      · rw [Zc n1, Ja, List.take_length]
      · rw [List.take_length]
        have e1 : (s.std.map (isObj is)).any id = s.std.any (isObj is) := by rw [List.any_map]; rfl
        rw [e1]
        exact k _ n3
def jb6 (A : Adr) : Sp := fun vs H Q _ => ∃ (H0 : Hp) (v : V) (kn : Bool) (void : List Nat) (evs : List V) (is : List Item) (s : Sh), vs = [v, .int (bit kn : Nat)] ∧ yaX A H0 evs is ∧ Ybh A H0 H v void (esF evs) s ∧ s.std.length ≤ 100 ∧ ∀ H' : Hp, Yu H H' → Q (.bl (s.acq is kn)) H'
theorem Jhk (k : Bool) : decide (V.int ((bit k : Nat) : Int) = V.int 0) = !k := by cases k <;> decide
theorem YaX (T : Txt K mg A) : Zf P w K mg base CX0 2 A.Zn A.ZJ ["self", "knows"] (jb6 A) := by
  have JdK : Zf P w K mg base CX0 1 A.jk A.jU ["self"] (jdf A) := jdp T
  refine T.Zdd.ok yeJ (fun vs H Q E h => ?_) (fun cdv B outer s H vs Q E hr h => ?_)
  · obtain ⟨_, _, _, _, _, _, _, rfl, _⟩ := h
    rfl
  · obtain ⟨H0, v, kn, void, evs, is, s, rfl, its, hS, hl, k⟩ := h
    obtain ⟨a, dx, vd, st, pl, gv, kvv, ys, rfl, r⟩ := id hS
    obtain ⟨f1, f2, f3, f4, f5, f6⟩ := r.fld T
    refine ⟨_, (jb (yf (jhv (ZaW ZaL (Jc (K := K) rfl (pv 0) rfl) (Jc (K := K) rfl (pv 0) rfl) (jm _)) (zdn (Yey (ZaW ZaL (pv 1) je (jm _)) (zdn (jhy (yhc (pv 0) T.Yn T.YbP JdK (hr.mono (by decide)) T.JbO .nil Jh)))))))), ?_⟩
    refine ⟨_, rfl, f1.rd ⟨_, rfl, f2.rd ⟨rfl, _, rfl, ?_⟩⟩⟩
    dsimp only
    rw [ybc]
    unfold Sh.acq at k
    refine br (fun h => ?_) (fun h => ?_)
    · rw [h] at k
      exact k _ (Yu.refl H)
    · rw [h] at k
      refine ⟨_, rfl, rfl, _, rfl, ?_⟩
      rw [Jhk]
      refine br (fun h2 => ?_) (fun h2 => ?_)
      · rw [h2] at k
        refine ⟨_, rfl, a, dx, _, rfl, r.ob, rfl, H0, _, void, evs, is, s, rfl, its, hS, hl, fun H' sH => ?_⟩
        exact ⟨_, rfl, k H' sH⟩
      · rw [h2] at k
        exact k _ (Yu.refl H)
end
end Lr
namespace Lr
open PySem hiding Act
open PySem.Spec
open PyProof.Rows hiding St
open L2
open Sy33 (Act Item File bit noticeOf holder voids plotOf isCharge about actOk)
theorem zdY {a b : Nat} : decide ((a : Int) < (b : Int)) = decide (a < b) := by
  rw [decide_eq_decide]; omega
theorem jgO {a b : Nat} : decide ((a : Int) ≤ (b : Int)) = decide (a ≤ b) := by
  rw [decide_eq_decide]; omega
def je7 (p n : Nat) (a : Act) : Bool := match a with
  | .transfer q x y _ => (decide (q < n) && decide (y < p)) && (decide (x < p) && !(x == y))
  | .charge q x y m _ => (decide (1 ≤ m) && decide (m ≤ 1000000)) && ((decide (q < n) && decide (y < p)) && (decide (x < p) && !(x == y)))
  | .notice q x y _ => (decide (q < n) && decide (y < p)) && (decide (x < p) && !(x == y))
  | .objection q x => decide (q < n) && decide (x < p)
  | .correct q => decide (q < n)
  | .strike _ x => decide (x < p)
  | _ => true
theorem zhl (f : File) (a : Act) : je7 f.persons f.owners.length a = actOk f a := by
  have b4 : ∀ a b c d : Bool, ((a && b) && (c && d)) = (a && (c && (b && d))) := by decide
  have b6 : ∀ a b c d e f : Bool, ((a && b) && ((c && d) && (e && f))) = (c && (e && (d && (f && (a && b))))) := by decide
  cases a with
  | transfer => exact b4 _ _ _ _
  | charge => exact b6 _ _ _ _ _ _
  | notice => exact b4 _ _ _ _
  | _ => rfl
section
variable {P : Program} {w : World} {K : PySem.W.Frag} {mg : Str → Option Value} {base : Heap} {A : Adr}
def yfl (A : Adr) : Sp := fun vs H Q _ => ∃ (v : V) (d : Nat) (a : Act) (o : V) (q p m n : Nat), vs = [v, .int m, .int n] ∧ ZbD A H v d a o ∧ zfI a = some q ∧ ZcE a = some p ∧ Q (.bl (decide (q < n) && decide (p < m))) H
theorem yag (T : Txt K mg A) : Zf P w K mg base CX0 1 A.zf A.Yae ["self", "persons", "plots"] (yfl A) := by
  refine T.ybB.ok zdb (fun vs H Q E h => ?_) (fun cdv B outer s H vs Q E hr h => ?_)
  · obtain ⟨_, _, _, _, _, _, _, _, rfl, _⟩ := h
    rfl
  · obtain ⟨v, d, a, o, q, p, m, n, rfl, hE, h1, h2, k⟩ := h
    have f1 := ZeO T hE h1
    have f2 := Yas T hE h2
    refine ⟨_, (jb (yf (Yey (ZaW Yff (Jc (K := K) rfl (pv 0) rfl) (pv 2) (jm _)) (zdn (ZaW Yff (Jc (K := K) rfl (pv 0) rfl) (pv 1) (jm _)))))), ?_⟩
    refine zbD (c := decide ((q : Int) < (n : Int))) (d := decide ((p : Int) < (m : Int))) (fun R z => ⟨_, rfl, f1.rd ⟨_, rfl, _, _, rfl, rfl, z⟩⟩) (fun _ R z => ⟨_, rfl, f2.rd ⟨_, rfl, _, _, rfl, rfl, z⟩⟩) ?_
    rw [zdY, zdY]
    exact k
def yeO (A : Adr) : Sp := fun vs H Q _ => ∃ (v : V) (d : Nat) (a : Act) (o : V) (g p m : Nat), vs = [v, .int m] ∧ ZbD A H v d a o ∧ Yee a = some g ∧ ZcE a = some p ∧ Q (.bl (decide (g < m) && !(g == p))) H
theorem jaN (T : Txt K mg A) : Zf P w K mg base CX0 1 A.Zg A.Jai ["self", "persons"] (yeO A) := by
  refine T.YbO.ok zdo (fun vs H Q E h => ?_) (fun cdv B outer s H vs Q E hr h => ?_)
  · obtain ⟨_, _, _, _, _, _, _, rfl, _⟩ := h
    rfl
  · obtain ⟨v, d, a, o, g, p, m, rfl, hE, h1, h2, k⟩ := h
    have f1 := ye7 T hE h1
    have f2 := Yas T hE h2
    refine ⟨_, (jb (yf (Yey (ZaW Yff (Jc (K := K) rfl (pv 0) rfl) (pv 1) (jm _)) (zdn (ZaW zf3 (Jc (K := K) rfl (pv 0) rfl) (Jc (K := K) rfl (pv 0) rfl) (jm _)))))), ?_⟩
    refine zbD (c := decide ((g : Int) < (m : Int))) (d := !decide (V.int (g : Int) = V.int (p : Int))) (fun R z => ⟨_, rfl, f1.rd ⟨_, rfl, _, _, rfl, rfl, z⟩⟩) (fun _ R z => ⟨_, rfl, f1.rd ⟨_, rfl, f2.rd ⟨rfl, z⟩⟩⟩) ?_
    rw [zdY, ybc]
    exact k
theorem zc5 (T : Txt K mg A) (a : Act) {p : Nat} (hp : ZcE a = some p) : JfB P w K mg base CX0 1 "is_there" (clsOf A a) (yfl A) := by
  refine ⟨ybD T a, ?_⟩
  cases a with
  | transfer => exact ⟨_, _, _, T.jcl, yag T, T.yV⟩
  | charge => exact ⟨_, _, _, T.jcQ, yag T, T.yV⟩
  | notice => exact ⟨_, _, _, T.zcR, yag T, T.yV⟩
  | objection => exact ⟨_, _, _, T.Yb4, yag T, T.yV⟩
  | _ => cases hp
theorem ZdY (T : Txt K mg A) (a : Act) {p : Nat} (hp : Yee a = some p) : JfB P w K mg base CX0 1 "has_its_giver" (clsOf A a) (yeO A) := by
  refine ⟨ybD T a, ?_⟩
  cases a with
  | transfer => exact ⟨_, _, _, T.jbm, jaN T, T.Zav⟩
  | charge => exact ⟨_, _, _, T.YbC, jaN T, T.Zav⟩
  | notice => exact ⟨_, _, _, T.jbC, jaN T, T.Zav⟩
  | _ => cases hp
theorem JbD (d : Nat) (a : Act) (o : V) : (Ydf d a o).lookup ("is_there" : Str) = none ∧ (Ydf d a o).lookup ("has_its_giver" : Str) = none ∧ (Ydf d a o).lookup ("is_sound" : Str) = none ∧ (Ydf d a o).lookup ("finds_its_entries" : Str) = none ∧ (Ydf d a o).lookup ("plot_among" : Str) = none ∧ (Ydf d a o).lookup ("may_be_made" : Str) = none ∧ (Ydf d a o).lookup ("settle" : Str) = none ∧ (Ydf d a o).lookup ("take_effect" : Str) = none ∧ (Ydf d a o).lookup ("enter" : Str) = none := by
  cases a <;> exact ⟨rfl, rfl, rfl, rfl, rfl, rfl, rfl, rfl, rfl⟩
def Za3 (A : Adr) (a : Act) : Sp := fun vs H Q _ => ∃ (v : V) (d : Nat) (o : V) (m n : Nat), vs = [v, .int m, .int n] ∧ ZbD A H v d a o ∧ Q (.bl (je7 m n a)) H
theorem zbE (T : Txt K mg A) (a : Act) (ha : ∀ m n, je7 m n a = true) : Zf P w K mg base CX0 1 A.yl A.yaW ["self", "persons", "plots"] (Za3 A a) := by
  refine T.zdc.ok YeI (fun vs H Q E h => ?_) (fun cdv B outer s H vs Q E hr h => ?_)
  · obtain ⟨_, _, _, _, _, rfl, _⟩ := h
    rfl
  · obtain ⟨v, d, o, m, n, rfl, hE, k⟩ := h
    refine ⟨_, (jb (yf JdN)), ?_⟩
    rw [ha] at k
    exact k
theorem zdL (T : Txt K mg A) (q : Nat) : Zf P w K mg base CX0 1 A.ym A.Yau ["self", "persons", "plots"] (Za3 A (.correct q)) := by
  refine T.zb2.ok ydK (fun vs H Q E h => ?_) (fun cdv B outer s H vs Q E hr h => ?_)
  · obtain ⟨_, _, _, _, _, rfl, _⟩ := h
    rfl
  · obtain ⟨v, d, o, m, n, rfl, hE, k⟩ := h
    have f1 := ZeO T hE rfl
    refine ⟨_, (jb (yf (ZaW Yff (Jc (K := K) rfl (pv 0) rfl) (pv 2) (jm _)))), ?_⟩
    refine ⟨_, rfl, f1.rd ⟨_, rfl, _, _, rfl, rfl, ?_⟩⟩
    dsimp only
    rw [zdY]
    exact k
theorem yeB (T : Txt K mg A) (x b : Nat) : Zf P w K mg base CX0 1 A.Jy A.yaM ["self", "persons", "plots"] (Za3 A (.strike x b)) := by
  refine T.jcP.ok Yez (fun vs H Q E h => ?_) (fun cdv B outer s H vs Q E hr h => ?_)
  · obtain ⟨_, _, _, _, _, rfl, _⟩ := h
    rfl
  · obtain ⟨v, d, o, m, n, rfl, ⟨e, dx, rfl, hE⟩, k⟩ := h
    refine ⟨_, (jb (yf (ZaW Yff (Jc (K := K) rfl (pv 0) rfl) (pv 1) (jm _)))), ?_⟩
    refine ⟨_, rfl, Fld.rd (u := .int b) ⟨e, _, dx, _, rfl, hE, T.Jbb, T.jO, rfl⟩ ⟨_, rfl, _, _, rfl, rfl, ?_⟩⟩
    dsimp only
    rw [zdY]
    exact k
theorem Jdf (T : Txt K mg A) (q p : Nat) : Zf P w K mg base CX0 2 A.yj A.jae ["self", "persons", "plots"] (Za3 A (.objection q p)) := by
  refine T.YbB.ok Zdb (fun vs H Q E h => ?_) (fun cdv B outer s H vs Q E hr h => ?_)
  · obtain ⟨_, _, _, _, _, rfl, _⟩ := h
    rfl
  · obtain ⟨v, d, o, m, n, rfl, hE, k⟩ := h
    obtain ⟨e, dx, rfl, hH⟩ := id hE
    refine ⟨_, (jb (yf (jax (P := P) (w := w) (K := K) (mg := mg) (base := base) (k := 1) (CX := CX0) ⟨rfl, rfl, rfl, rfl, rfl⟩ (pv 0) (hr.mono (by decide)) Jh (Za (pv 1) (Za (pv 2) yc))))), ?_⟩
    exact ⟨_, rfl, e, _, dx, _, _, rfl, hH, zc5 T (.objection q p) rfl, rfl, _, rfl, _, rfl, _, d, .objection q p, o, q, p, m, n, rfl, hE, rfl, rfl, k⟩
theorem JcS (T : Txt K mg A) (a : Act) (ha : ∃ q g t k, a = .transfer q g t k ∨ a = .notice q g t k) : Zf P w K mg base CX0 2 A.yq A.YaW ["self", "persons", "plots"] (Za3 A a) := by
  refine T.ydc.ok JeI (fun vs H Q E h => ?_) (fun cdv B outer s H vs Q E hr h => ?_)
  · obtain ⟨_, _, _, _, _, rfl, _⟩ := h
    rfl
  · obtain ⟨v, d, o, m, n, rfl, hE, k⟩ := h
    obtain ⟨e, dx, rfl, hH⟩ := id hE
    obtain ⟨q, g, t, kn, ha⟩ := ha
    have h1 : zfI a = some q ∧ ZcE a = some t ∧ Yee a = some g ∧ je7 m n a = ((decide (q < n) && decide (t < m)) && (decide (g < m) && !(g == t))) := by
      rcases ha with ha | ha <;> (subst ha; exact ⟨rfl, rfl, rfl, rfl⟩)
    rw [h1.2.2.2] at k
    refine ⟨_, (jb (yf (Yey (jax (P := P) (w := w) (K := K) (mg := mg) (base := base) (k := 1) (CX := CX0) ⟨rfl, rfl, rfl, rfl, rfl⟩ (pv 0) (hr.mono (by decide)) Jh (Za (pv 1) (Za (pv 2) yc))) (zdn (jax (P := P) (w := w) (K := K) (mg := mg) (base := base) (k := 1) (CX := CX0) ⟨rfl, rfl, rfl, rfl, rfl⟩ (pv 0) (hr.mono (by decide)) Jh (Za (pv 1) yc)))))), ?_⟩
    refine zbD (fun R z => ⟨_, rfl, e, _, dx, _, _, rfl, hH, zc5 T a h1.2.1, (JbD d a o).1, _, rfl, _, rfl, _, d, a, o, q, t, m, n, rfl, hE, h1.1, h1.2.1, z⟩) (fun _ R z => ⟨_, rfl, e, _, dx, _, _, rfl, hH, ZdY T a h1.2.2.1, (JbD d a o).2.1, _, rfl, _, d, a, o, g, t, m, rfl, hE, h1.2.2.1, h1.2.1, z⟩) k
theorem YeB (T : Txt K mg A) (q g t am : Nat) (kn : Bool) : Zf P w K mg base CX0 2 A.Yy A.zaM ["self", "persons", "plots"] (Za3 A (.charge q g t am kn)) := by
  refine T.zcP.ok Zez (fun vs H Q E h => ?_) (fun cdv B outer s H vs Q E hr h => ?_)
  · obtain ⟨_, _, _, _, _, rfl, _⟩ := h
    rfl
  · obtain ⟨v, d, o, m, n, rfl, hE, k⟩ := h
    obtain ⟨e, dx, rfl, hH⟩ := id hE
    have f1 : Fld K H (.ref e) "amount" (.int am) := ⟨e, _, dx, _, rfl, hH, T.Ydd, T.JZ, rfl⟩
    refine ⟨_, (Yc (JN (Jdm (Jfz yem yem je (Jc (K := K) rfl (pv 0) rfl) (jg (by rfl) T.Yc4 T.jc4))) (jb (yf JdN)) Zo) (jb (yf (Yey (jax (P := P) (w := w) (K := K) (mg := mg) (base := base) (k := 1) (CX := CX0) ⟨rfl, rfl, rfl, rfl, rfl⟩ (pv 0) (hr.mono (by decide)) Jh (Za (pv 1) (Za (pv 2) yc))) (zdn (jax (P := P) (w := w) (K := K) (mg := mg) (base := base) (k := 1) (CX := CX0) ⟨rfl, rfl, rfl, rfl, rfl⟩ (pv 0) (hr.mono (by decide)) Jh (Za (pv 1) yc))))))), ?_⟩
    unfold je7 at k
    dsimp only at k
    refine ⟨_, rfl, ?_⟩
    refine f1.rd ?_
    refine ⟨_, _, rfl, rfl, _, rfl, ?_⟩
    rw [show decide ((1 : Int) ≤ (am : Int)) = decide (1 ≤ am) from by rw [decide_eq_decide]; omega]
    refine br (fun h => ?_) (fun h => ?_)
    · rw [h, Bool.true_and] at k
      refine ⟨_, _, rfl, rfl, _, rfl, ?_⟩
      rw [show decide ((am : Int) ≤ (1000000 : Int)) = decide (am ≤ 1000000) from by rw [decide_eq_decide]; omega]
      refine br (fun h2 => ?_) (fun h2 => ?_)
      · rw [show decide (am ≤ 1000000) = false from by simpa using h2, Bool.false_and] at k
        exact k
      · rw [show decide (am ≤ 1000000) = true from by simpa using h2, Bool.true_and] at k
        dsimp only [jgS, YhE]
        refine zbD (fun R z => ⟨_, rfl, e, _, dx, _, _, rfl, hH, zc5 T (.charge q g t am kn) rfl, rfl, _, rfl, _, rfl, _, d, .charge q g t am kn, o, q, t, m, n, rfl, hE, rfl, rfl, z⟩) (fun _ R z => ⟨_, rfl, e, _, dx, _, _, rfl, hH, ZdY T (.charge q g t am kn) rfl, rfl, _, rfl, _, d, .charge q g t am kn, o, g, t, m, rfl, hE, rfl, rfl, z⟩) k
    · rw [h, Bool.false_and, Bool.false_and] at k
      exact ⟨_, rfl, k⟩
theorem YfW (T : Txt K mg A) (a : Act) : JfB P w K mg base CX0 2 "is_sound" (clsOf A a) (Za3 A a) := by
  refine ⟨ybD T a, ?_⟩
  cases a with
  | transfer => exact ⟨_, _, _, T.Ycl, (JcS T _ ⟨_, _, _, _, .inl rfl⟩).mono (by decide), T.JbU⟩
  | charge => exact ⟨_, _, _, T.YcQ, (YeB T _ _ _ _ _).mono (by decide), T.ZcP⟩
  | notice => exact ⟨_, _, _, T.JcQ, (JcS T _ ⟨_, _, _, _, .inr rfl⟩).mono (by decide), T.JbU⟩
  | fulfil => exact ⟨_, _, _, T.YcR, (zbE T _ fun _ _ => rfl).mono (by decide), T.Zbb⟩
  | objection => exact ⟨_, _, _, T.jb4, (Jdf T _ _).mono (by decide), T.jbB⟩
  | strike => exact ⟨_, _, _, T.jcR, (yeB T _ _).mono (by decide), T.JcP⟩
  | ahead => exact ⟨_, _, _, T.Jdd, (zbE T _ fun _ _ => rfl).mono (by decide), T.Zbb⟩
  | correct => exact ⟨_, _, _, T.JcC, (zdL T _).mono (by decide), T.Zb2⟩
  | void_ => exact ⟨_, _, _, T.YdA, (zbE T _ fun _ _ => rfl).mono (by decide), T.Zbb⟩
end
end Lr
namespace Lr
open PySem hiding Act
open PySem.Spec
open PyProof.Rows hiding St
open L2
open Sy33 (Act Item File bit noticeOf holder voids plotOf isCharge about actOk)
def ZfI (is : List Item) (a : Act) : Bool := match a with
  | .fulfil k _ => kN (Zag is k)
  | .strike k _ => kC (Zag is k) || (kN (Zag is k) || (kO (Zag is k) || false))
  | .ahead x y => !((x == y) || !kC (Zag is x)) && kC (Zag is y)
  | .void_ k => kT (Zag is k) || (kC (Zag is k) || (kN (Zag is k) || (kF (Zag is k) || false)))
  | _ => true
theorem YcE (is : List Item) (e : Nat) : isCharge is e = kC (Zag is e) := by
  unfold isCharge Zag
  cases is[e]? with
  | none => rfl
  | some x =>
    obtain ⟨d, a, p, w, n⟩ := x
    cases a <;> rfl
theorem yfI (is : List Item) (e : Nat) : (holder is e).isSome = (kC (Zag is e) || (kN (Zag is e) || (kO (Zag is e) || false))) := by
  unfold holder Zag
  cases is[e]? with
  | none => rfl
  | some x =>
    obtain ⟨d, a, p, w, n⟩ := x
    cases a <;> rfl
theorem YfI (is : List Item) (e : Nat) : (noticeOf is e).isSome = kN (Zag is e) := by
  unfold noticeOf Zag
  cases is[e]? with
  | none => rfl
  | some x =>
    obtain ⟨d, a, p, w, n⟩ := x
    cases a <;> rfl
theorem Zhl (f : File) (a : Act) : ZfI f.items a = (about f a).isSome := by
  unfold ZfI about
  cases a with
  | fulfil k b => dsimp only; rw [Option.isSome_map, YfI]
  | strike k b => dsimp only; rw [Option.isSome_map, yfI]
  | ahead x y =>
    dsimp only
    rw [← YcE, ← YcE]
    by_cases h : x = y
    · subst h
      simp
    · have e1 : (x == y) = false := by simpa using h
      have e2 : (x != y) = true := by simpa using h
      rw [e1, e2]
      cases isCharge f.items x <;> cases isCharge f.items y <;> rfl
  | void_ k =>
    unfold Zag
    dsimp only
    cases f.items[k]? with
    | none => rfl
    | some x =>
      obtain ⟨d, a, p, w, n⟩ := x
      cases a <;> rfl
  | _ => rfl
section
variable {P : Program} {w : World} {K : PySem.W.Frag} {mg : Str → Option Value} {base : Heap} {A : Adr}
def Jb6 (K : PySem.W.Frag) : Sp := fun vs H Q _ => ∃ (ea : Addr) (es : List V) (k : Nat), vs = [.ref ea, .int k] ∧ SqL K H ea es ∧ Q (esF es k) H
theorem zcT (T : Txt K mg A) : Zf P w K mg base CX0 1 A.Z4 A.yaL ["entries", "number"] (Jb6 K) := by
  refine T.Zbr.ok jgw (fun vs H Q E h => ?_) (fun cdv B outer s H vs Q E hr h => ?_)
  · obtain ⟨_, _, _, rfl, _⟩ := h
    rfl
  · obtain ⟨ea, es, k, rfl, hS, q⟩ := h
    refine ⟨_, (Yc (JN (Yq Yff (pv 1) (zu (Yx (K := K) rfl) (by rfl) T.YcD PySem.boot_len (Za (pv 0) yc)) (jm _)) (jb (yf (Jj (Ye (K := K) rfl) (pv 0) (pv 1) (fun _ _ => rfl)))) Zo) (jb (yf Zha))), ?_⟩
    refine ⟨_, rfl, _, rfl, ea, es, rfl, .inl hS, _, _, rfl, rfl, _, rfl, ?_⟩
    rw [zdY]
    refine br (fun h => ?_) (fun h => ?_)
    · have h := of_decide_eq_true h
      have e : esF es k = es[k] := by unfold esF; rw [List.getElem?_eq_getElem h]; rfl
      rw [e] at q
      exact ⟨_, rfl, _, rfl, .inl ⟨ea, es, _, _, rfl, rfl, hS, Ydn (List.getElem?_eq_getElem h), q⟩⟩
    · have h := of_decide_eq_false h
      have e : esF es k = .non := by unfold esF; rw [List.getElem?_eq_none (by omega)]; rfl
      rw [e] at q
      exact q
def zdg (K : PySem.W.Frag) (A : Adr) (a : Act) : Sp := fun vs H Q _ => ∃ (v : V) (d : Nat) (o : V) (ea : Addr) (es : List V) (is : List Item), vs = [v, .ref ea] ∧ ZbD A H v d a o ∧ SqL K H ea es ∧ yaX A H es is ∧ ∀ H' : Hp, Yu H H' → Q (.bl (ZfI is a)) H'
theorem ya3 (T : Txt K mg A) (a : Act) (ha : ∀ is, ZfI is a = true) : Zf P w K mg base CX0 1 A.jd A.JT ["self", "entries"] (zdg K A a) := by
  refine T.Zbf.ok jcz (fun vs H Q E h => ?_) (fun cdv B outer s H vs Q E hr h => ?_)
  · obtain ⟨_, _, _, _, _, _, rfl, _⟩ := h
    rfl
  · obtain ⟨v, d, o, ea, es, is, rfl, hE, hS, hI, k⟩ := h
    refine ⟨_, (jb (yf JdN)), ?_⟩
    rw [ha] at k
    exact k _ (Yu.refl _)
theorem Zfq (T : Txt K mg A) (n : Nat) (b : Bool) : Zf P w K mg base CX0 2 A.Yh A.jP ["self", "entries"] (zdg K A (.fulfil n b)) := by
  have Ya3 : Zf P w K mg base CX0 1 A.Z4 A.yaL ["entries", "number"] (Jb6 K) := zcT T
  refine T.Ya1.ok Zcr (fun vs H Q E h => ?_) (fun cdv B outer s H vs Q E hr h => ?_)
  · obtain ⟨_, _, _, _, _, _, rfl, _⟩ := h
    rfl
  · obtain ⟨v, d, o, ea, es, is, rfl, ⟨e, dx, rfl, hE⟩, hS, hI, k⟩ := h
    obtain ⟨t, ty, kd⟩ := Yb6 T hI n
    refine ⟨_, (jb (yf (zu (ZbU (K := K) rfl) (by rfl) T.zW zA (Za (jD Ya3 (hr.mono (by decide)) (by rfl) T.YbU T.Zbr.kp T.ybU .nil Jh (Za (pv 1) (Za (Jc (K := K) rfl (pv 0) rfl) yc))) (Za (jg (v := .ref A.Zd) (by rfl) T.ZcC rfl) yc))))), ?_⟩
    exact ⟨_, rfl, _, rfl, Fld.rd (u := .int n) ⟨e, _, dx, _, rfl, hE, T.jbu, T.jE, rfl⟩ ⟨ea, es, n, rfl, hS, _, _, t, _, rfl, ty, kd.n, k _ (Yu.refl _)⟩⟩
theorem yfq (T : Txt K mg A) (n b : Nat) : Zf P w K mg base CX0 2 A.jh A.JP ["self", "entries"] (zdg K A (.strike n b)) := by
  have Ya3 : Zf P w K mg base CX0 1 A.Z4 A.yaL ["entries", "number"] (Jb6 K) := zcT T
  refine T.Ja1.ok ycr (fun vs H Q E h => ?_) (fun cdv B outer s H vs Q E hr h => ?_)
  · obtain ⟨_, _, _, _, _, _, rfl, _⟩ := h
    rfl
  · obtain ⟨v, d, o, ea, es, is, rfl, ⟨e, dx, rfl, hE⟩, hS, hI, k⟩ := h
    refine ⟨_, (jb (yf (zu (ze4 (K := K) rfl) (by rfl) T.zW zA (Za (jD Ya3 (hr.mono (by decide)) (by rfl) T.YbU T.Zbr.kp T.ybU .nil Jh (Za (pv 1) (Za (Jc (K := K) rfl (pv 0) rfl) yc))) (Za (ze3 (Za (jg (v := .ref A.jc) (by rfl) T.jb3 rfl) (Za (jg (v := .ref A.Zd) (by rfl) T.ZcC rfl) (Za (jg (v := .ref A.Yb) (by rfl) T.ZcR rfl) yc)))) yc))))), ?_⟩
    refine ⟨_, rfl, _, rfl, Fld.rd (u := .int n) ⟨e, _, dx, _, rfl, hE, T.Jbb, T.YG, rfl⟩ ⟨ea, es, n, rfl, hS, (by show 3 ≤ sizeLine; decide), fun tp htp => ?_⟩⟩
    have s1 := Jd (o := .tup [.ref A.jc, .ref A.Zd, .ref A.Yb]) htp
    obtain ⟨t, ty, kd⟩ := Yb6 T (hI.same s1) n
    exact ⟨_, tp, [A.jc, A.Zd, A.Yb], t, _, rfl, Ja, ty, YbD kd.c (YbD kd.n (YbD kd.o Ygi)), k _ s1⟩
theorem jfW (T : Txt K mg A) (n : Nat) : Zf P w K mg base CX0 2 A.zj A.j0 ["self", "entries"] (zdg K A (.void_ n)) := by
  have Ya3 : Zf P w K mg base CX0 1 A.Z4 A.yaL ["entries", "number"] (Jb6 K) := zcT T
  refine T.ybm.ok JcN (fun vs H Q E h => ?_) (fun cdv B outer s H vs Q E hr h => ?_)
  · obtain ⟨_, _, _, _, _, _, rfl, _⟩ := h
    rfl
  · obtain ⟨v, d, o, ea, es, is, rfl, ⟨e, dx, rfl, hE⟩, hS, hI, k⟩ := h
    refine ⟨_, (jb (yf (zu (ze4 (K := K) rfl) (by rfl) T.zW zA (Za (jD Ya3 (hr.mono (by decide)) (by rfl) T.YbU T.Zbr.kp T.ybU .nil Jh (Za (pv 1) (Za (Jc (K := K) rfl (pv 0) rfl) yc))) (Za (ze3 (Za (jg (v := .ref A.Jb) (by rfl) T.yeA rfl) (Za (jg (v := .ref A.jc) (by rfl) T.jb3 rfl) (Za (jg (v := .ref A.Zd) (by rfl) T.ZcC rfl) (Za (jg (v := .ref A.Yd) (by rfl) T.yfF rfl) yc))))) yc))))), ?_⟩
    refine ⟨_, rfl, _, rfl, Fld.rd (u := .int n) ⟨e, _, dx, _, rfl, hE, T.JcR, T.zT, rfl⟩ ⟨ea, es, n, rfl, hS, (by show 4 ≤ sizeLine; decide), fun tp htp => ?_⟩⟩
    have s1 := Jd (o := .tup [.ref A.Jb, .ref A.jc, .ref A.Zd, .ref A.Yd]) htp
    obtain ⟨t, ty, kd⟩ := Yb6 T (hI.same s1) n
    exact ⟨_, tp, [A.Jb, A.jc, A.Zd, A.Yd], t, _, rfl, Ja, ty, YbD kd.tr (YbD kd.c (YbD kd.n (YbD kd.f Ygi))), k _ s1⟩
theorem jfI (T : Txt K mg A) (x y : Nat) : Zf P w K mg base CX0 2 A.ji A.zU ["self", "entries"] (zdg K A (.ahead x y)) := by
  have Ya3 : Zf P w K mg base CX0 1 A.Z4 A.yaL ["entries", "number"] (Jb6 K) := zcT T
  refine T.ybf.ok Jcz (fun vs H Q E h => ?_) (fun cdv B outer s H vs Q E hr h => ?_)
  · obtain ⟨_, _, _, _, _, _, rfl, _⟩ := h
    rfl
  · obtain ⟨v, d, o, ea, es, is, rfl, ⟨e, dx, rfl, hE⟩, hS, hI, k⟩ := h
    have f1 : Fld K H (.ref e) "one" (.int x) := ⟨e, _, dx, _, rfl, hE, T.Jbm, T.Yan, rfl⟩
    have f2 : Fld K H (.ref e) "other" (.int y) := ⟨e, _, dx, _, rfl, hE, T.Jbm, T.zab, rfl⟩
    obtain ⟨t1, ty1, kd1⟩ := Yb6 T hI x
    obtain ⟨t2, ty2, kd2⟩ := Yb6 T hI y
    refine ⟨_, (Yc (JN (PW.pt (pw_or (Yq ZaL (Jc (K := K) rfl (pv 0) rfl) (Jc (K := K) rfl (pv 0) rfl) (jm _)) (pw_or1 (Jdm (Yby (zu (ZbU (K := K) rfl) (by rfl) T.zW zA (Za (jD Ya3 (hr.mono (by decide)) (by rfl) T.YbU T.Zbr.kp T.ybU .nil Jh (Za (pv 1) (Za (Jc (K := K) rfl (pv 0) rfl) yc))) (Za (jg (v := .ref A.jc) (by rfl) T.jb3 rfl) yc)))))))) (jb (yf JdN)) Zo) (jb (yf (zu (ZbU (K := K) rfl) (by rfl) T.zW zA (Za (jD Ya3 (hr.mono (by decide)) (by rfl) T.YbU T.Zbr.kp T.ybU .nil Jh (Za (pv 1) (Za (Jc (K := K) rfl (pv 0) rfl) yc))) (Za (jg (v := .ref A.jc) (by rfl) T.jb3 rfl) yc)))))), ?_⟩
    refine jgW (c := decide (V.int (x : Int) = V.int (y : Int))) (d := !kC (Zag is x)) (fun R z => ⟨_, rfl, f1.rd ⟨_, rfl, f2.rd ⟨rfl, _, rfl, z⟩⟩⟩) (fun _ R z => ⟨_, rfl, _, rfl, f1.rd ⟨ea, es, x, rfl, hS, _, _, t1, _, rfl, ty1, kd1.c, _, rfl, z⟩⟩) ?_
    have k := k _ (Yu.refl _)
    unfold ZfI at k
    dsimp only at k
    rw [ybc]
    refine br (fun h => ?_) (fun h => ?_)
    · rw [h] at k
      exact k
    · rw [h] at k
      exact ⟨_, rfl, _, rfl, f2.rd ⟨ea, es, y, rfl, hS, _, _, t2, _, rfl, ty2, kd2.c, k⟩⟩
theorem JgO (T : Txt K mg A) (a : Act) : JfB P w K mg base CX0 2 "finds_its_entries" (clsOf A a) (zdg K A a) := by
  refine ⟨ybD T a, ?_⟩
  cases a with
  | transfer => exact ⟨_, _, _, T.ZaS, (ya3 T _ fun _ => rfl).mono (by decide), T.Zz⟩
  | charge => exact ⟨_, _, _, T.Za2, (ya3 T _ fun _ => rfl).mono (by decide), T.Zz⟩
  | notice => exact ⟨_, _, _, T.ya2, (ya3 T _ fun _ => rfl).mono (by decide), T.Zz⟩
  | fulfil => exact ⟨_, _, _, T.Ya2, (Zfq T _ _).mono (by decide), T.ja1⟩
  | objection => exact ⟨_, _, _, T.YaL, (ya3 T _ fun _ => rfl).mono (by decide), T.Zz⟩
  | strike => exact ⟨_, _, _, T.ja2, (yfq T _ _).mono (by decide), T.za2⟩
  | ahead => exact ⟨_, _, _, T.jbf, (jfI T _ _).mono (by decide), T.Ybf⟩
  | correct => exact ⟨_, _, _, T.ZaX, (ya3 T _ fun _ => rfl).mono (by decide), T.Zz⟩
  | void_ => exact ⟨_, _, _, T.zbn, (jfW T _).mono (by decide), T.Ybm⟩
theorem zgP {f : File} (h : WF f) {k : Nat} {x : Item} (hx : f.items[k]? = some x) (hp : (holder f.items k).isSome = true) : zfI x.act = some (plotOf f.items k) := by
  have z := (h.ok k x hx).2
  rw [zaU hx]
  unfold holder at hp
  rw [hx] at hp
  cases ha : x.act with
  | charge => rw [ha] at z; rw [z.1]; rfl
  | notice => rw [ha] at z; rw [z.1]; rfl
  | objection => rw [ha] at z; rw [z.1]; rfl
  | _ => rw [show (some x).bind _ = _ from rfl] at hp; simp [ha] at hp
def YeO (K : PySem.W.Frag) (A : Adr) (a : Act) : Sp := fun vs H Q _ => ∃ (v : V) (d : Nat) (o : V) (ea : Addr) (es : List V) (f : File) (p : Nat), vs = [v, .ref ea] ∧ ZbD A H v d a o ∧ SqL K H ea es ∧ yaX A H es f.items ∧ WF f ∧ about f a = some p ∧ Q (.int p) H
theorem Zaz (T : Txt K mg A) (a : Act) (ha : ∀ f, about f a = zfI a) : Zf P w K mg base CX0 1 A.ye A.yae ["self", "entries"] (YeO K A a) := by
  refine T.ZbB.ok Jda (fun vs H Q E h => ?_) (fun cdv B outer s H vs Q E hr h => ?_)
  · obtain ⟨_, _, _, _, _, _, _, rfl, _⟩ := h
    rfl
  · obtain ⟨v, d, o, ea, es, f, p, rfl, hE, hS, hI, hW, hp, k⟩ := h
    rw [ha] at hp
    refine ⟨_, (jb (yf (Jc (K := K) rfl (pv 0) rfl))), ?_⟩
    exact ⟨_, rfl, (ZeO T hE hp).rd k⟩
theorem Zhu {f : File} {k : Nat} (h : (holder f.items k).isSome = true) : ∃ x, f.items[k]? = some x := by
  unfold holder at h
  cases e : f.items[k]? with
  | none => rw [e] at h; cases h
  | some x => exact ⟨x, rfl⟩
theorem yhl (T : Txt K mg A) {H : Hp} {ea : Addr} {es : List V} {f : File} (hS : SqL K H ea es) (hI : yaX A H es f.items) (hW : WF f) {k : Nat} (hk : (holder f.items k).isSome = true) {Q : VK} (q : Q (.int (plotOf f.items k : Nat)) H) : rIx K (.ref ea) (.int k) H fun x H1 => ∃ a C dx fs w, x = .ref a ∧ H1 a = some (.ins C dx fs) ∧ Cls K C ∧ Jm K C "plot" ∧ fs.lookup ("plot" : Str) = some w ∧ Q w H1 := by
  obtain ⟨x, hx⟩ := Zhu hk
  obtain ⟨v, hv, r⟩ := Paired.Zhk hI hx
  exact .inl ⟨ea, es, _, v, rfl, rfl, hS, Ydn hv, (ZeO T r (zgP hW hx hk)).rd (Q := fun w => Q w H) q⟩
theorem JfI (T : Txt K mg A) (n : Nat) (b : Bool) : Zf P w K mg base CX0 1 A.Js A.Yay ["self", "entries"] (YeO K A (.fulfil n b)) := by
  refine T.Zck.ok jdP (fun vs H Q E h => ?_) (fun cdv B outer s H vs Q E hr h => ?_)
  · obtain ⟨_, _, _, _, _, _, _, rfl, _⟩ := h
    rfl
  · obtain ⟨v, d, o, ea, es, f, p, rfl, ⟨e, dx, rfl, hE⟩, hS, hI, hW, hp, k⟩ := h
    obtain ⟨y, hy, e1⟩ := Option.map_eq_some_iff.mp (show (noticeOf f.items n).map (fun (_ : Nat × Nat) => plotOf f.items n) = some p from hp)
    subst e1
    have hk : (holder f.items n).isSome = true := by
      have := YfI f.items n
      rw [hy] at this
      rw [yfI, ← this]
      simp
    refine ⟨_, (jb (yf (Jc (K := K) rfl (Jj (Ye (K := K) rfl) (pv 1) (Jc (K := K) rfl (pv 0) rfl) (fun _ _ => rfl)) rfl))), ?_⟩
    exact ⟨_, rfl, _, rfl, Fld.rd (u := .int n) ⟨e, _, dx, _, rfl, hE, T.jbu, T.jE, rfl⟩ (yhl T hS hI hW hk k)⟩
theorem zfJ (T : Txt K mg A) (n b : Nat) : Zf P w K mg base CX0 1 A.Zt A.jay ["self", "entries"] (YeO K A (.strike n b)) := by
  refine T.Yck.ok JdP (fun vs H Q E h => ?_) (fun cdv B outer s H vs Q E hr h => ?_)
  · obtain ⟨_, _, _, _, _, _, _, rfl, _⟩ := h
    rfl
  · obtain ⟨v, d, o, ea, es, f, p, rfl, ⟨e, dx, rfl, hE⟩, hS, hI, hW, hp, k⟩ := h
    obtain ⟨y, hy, e1⟩ := Option.map_eq_some_iff.mp (show (holder f.items n).map (fun (_ : Nat) => plotOf f.items n) = some p from hp)
    subst e1
    refine ⟨_, (jb (yf (Jc (K := K) rfl (Jj (Ye (K := K) rfl) (pv 1) (Jc (K := K) rfl (pv 0) rfl) (fun _ _ => rfl)) rfl))), ?_⟩
    exact ⟨_, rfl, _, rfl, Fld.rd (u := .int n) ⟨e, _, dx, _, rfl, hE, T.Jbb, T.YG, rfl⟩ (yhl T hS hI hW (by rw [hy]; rfl) k)⟩
theorem JfW (T : Txt K mg A) (x y : Nat) : Zf P w K mg base CX0 1 A.Jv A.YaD ["self", "entries"] (YeO K A (.ahead x y)) := by
  refine T.zcB.ok zej (fun vs H Q E h => ?_) (fun cdv B outer s H vs Q E hr h => ?_)
  · obtain ⟨_, _, _, _, _, _, _, rfl, _⟩ := h
    rfl
  · obtain ⟨v, d, o, ea, es, f, p, rfl, ⟨e, dx, rfl, hE⟩, hS, hI, hW, hp, k⟩ := h
    have hp : (if (isCharge f.items x && (isCharge f.items y && x != y)) = true then some (plotOf f.items x) else none) = some p := hp
    split at hp
    · rename_i hc
      rw [Bool.and_eq_true] at hc
      have e1 := Option.some.inj hp
      subst e1
      refine ⟨_, (jb (yf (Jc (K := K) rfl (Jj (Ye (K := K) rfl) (pv 1) (Jc (K := K) rfl (pv 0) rfl) (fun _ _ => rfl)) rfl))), ?_⟩
      refine ⟨_, rfl, _, rfl, Fld.rd (u := .int x) ⟨e, _, dx, _, rfl, hE, T.Jbm, T.Yan, rfl⟩ (yhl T hS hI hW ?_ k)⟩
      rw [yfI, ← YcE, hc.1]
      rfl
    · cases hp
theorem ZfJ (T : Txt K mg A) (a : Act) (ha : kW (some a) = false) : JfB P w K mg base CX0 1 "plot_among" (clsOf A a) (YeO K A a) := by
  refine ⟨ybD T a, ?_⟩
  cases a with
  | transfer => exact ⟨_, _, _, T.zbP, Zaz T _ fun _ => rfl, T.JG⟩
  | charge => exact ⟨_, _, _, T.Jcl, Zaz T _ fun _ => rfl, T.JG⟩
  | notice => exact ⟨_, _, _, T.zcm, Zaz T _ fun _ => rfl, T.JG⟩
  | fulfil => exact ⟨_, _, _, T.Zcm, JfI T _ _, T.yck⟩
  | objection => exact ⟨_, _, _, T.JbC, Zaz T _ fun _ => rfl, T.JG⟩
  | strike => exact ⟨_, _, _, T.ycm, zfJ T _ _, T.jck⟩
  | ahead => exact ⟨_, _, _, T.YcC, JfW T _ _, T.ZcB⟩
  | correct => exact ⟨_, _, _, T.Yb5, Zaz T _ fun _ => rfl, T.JG⟩
  | void_ => cases ha
def AB (f : File) : Prop := ∀ (i : Nat) (x : Item), f.items[i]? = some x → about f x.act = some x.plot
def jgC (K : PySem.W.Frag) (A : Adr) (a : Act) : Sp := fun vs H Q _ => ∃ (v : V) (d : Nat) (o : V) (ea : Addr) (es : List V) (f : File) (p : Nat), vs = [v, .ref ea] ∧ ZbD A H v d a o ∧ SqL K H ea es ∧ yaX A H es f.items ∧ WF f ∧ AB f ∧ about f a = some p ∧ Q (.int p) H
theorem jgi (T : Txt K mg A) (n : Nat) : Zf P w K mg base CX0 2 A.zz A.YaM ["self", "entries"] (jgC K A (.void_ n)) := by
  refine T.zcQ.ok jez (fun vs H Q E h => ?_) (fun cdv B outer s H vs Q E hr h => ?_)
  · obtain ⟨_, _, _, _, _, _, _, rfl, _⟩ := h
    rfl
  · obtain ⟨v, d, o, ea, es, f, p, rfl, ⟨e, dx, rfl, hE⟩, hS, hI, hW, hA, hp, k⟩ := h
    obtain ⟨x, hx, e1⟩ := Option.bind_eq_some_iff.mp (show (f.items[n]?).bind _ = some p from hp)
    obtain ⟨v, hv, r⟩ := Paired.Zhk hI hx
    have h1 : kW (some x.act) = false ∧ x.plot = p := by
      cases ha : x.act with
      | transfer => rw [ha] at e1; exact ⟨rfl, Option.some.inj e1⟩
      | charge => rw [ha] at e1; exact ⟨rfl, Option.some.inj e1⟩
      | notice => rw [ha] at e1; exact ⟨rfl, Option.some.inj e1⟩
      | fulfil => rw [ha] at e1; exact ⟨rfl, Option.some.inj e1⟩
      | _ => rw [ha] at e1; cases e1
    have h2 := hA n x hx
    rw [h1.2] at h2
    obtain ⟨e', dx', rfl, hE'⟩ := id r
    refine ⟨_, (jb (yf (jax (P := P) (w := w) (K := K) (mg := mg) (base := base) (k := 1) (CX := CX0) ⟨rfl, rfl, rfl, rfl, rfl⟩ (Jj (Ye (K := K) rfl) (pv 1) (Jc (K := K) rfl (pv 0) rfl) (fun _ _ => rfl)) (hr.mono (by decide)) Jh (Za (pv 1) yc)))), ?_⟩
    exact ⟨_, rfl, _, rfl, Fld.rd (u := .int n) ⟨e, _, dx, _, rfl, hE, T.JcR, T.zT, rfl⟩ (.inl ⟨ea, es, _, _, rfl, rfl, hS, Ydn hv, e', _, dx', _, _, rfl, hE', ZfJ T x.act h1.1, (JbD _ _ _).2.2.2.2.1, _, rfl, _, x.day, _, ea, es, f, p, rfl, r, hS, hI, hW, h2, k⟩)⟩
theorem zga (T : Txt K mg A) (a : Act) : JfB P w K mg base CX0 2 "plot_among" (clsOf A a) (jgC K A a) := by
  by_cases ha : kW (some a) = false
  · obtain ⟨c, g, gd, ps, hm, F, hb⟩ := ZfJ (P := P) (w := w) (base := base) T a ha
    refine ⟨c, g, gd, ps, hm, (F.mono (by decide)).imp fun vs H Q E h => ?_, hb⟩
    obtain ⟨v, d, o, ea, es, f, p, h1, h2, h3, h4, h5, _, h6, h7⟩ := h
    exact ⟨v, d, o, ea, es, f, p, h1, h2, h3, h4, h5, h6, h7⟩
  · cases a with
    | void_ n => exact ⟨T.JcR, _, _, _, T.zcS, (jgi T n).mono (by decide), T.ZcQ⟩
    | _ => exact absurd rfl ha
end
end Lr
namespace Lr
open PySem hiding Act
open PySem.Spec
open PyProof.Rows hiding St
open L2
open Sy33 (Act Item File bit noticeOf holder voids plotOf isCharge about actOk)
theorem JaN (g : Nat → V) (e : Nat) (l : List Nat) : (ja0 (jz g l) (Sum.inl (e : Int))).isSome = l.contains e := by
  rw [yas]
  by_cases h : e ∈ l
  · rw [if_pos h, List.contains_iff_mem.mpr h]; rfl
  · rw [if_neg h]
    cases e1 : l.contains e with
    | false => rfl
    | true => exact absurd (List.contains_iff_mem.mp e1) h
theorem Zga (x y : Nat) : ∀ l : List Pl, ybp x y l = Zb6 x y l
  | [] => rfl
  | p :: l => by
    rw [ybp, Zb6, Zga x y l]
theorem ZbY {f : File} {k p : Nat} (h : holder f.items k = some p) : ∃ x, f.items[k]? = some x ∧ ZcE x.act = some p := by
  unfold holder at h
  obtain ⟨x, hx, e⟩ := Option.bind_eq_some_iff.mp h
  refine ⟨x, hx, ?_⟩
  cases ha : x.act with
  | charge => rw [ha] at e; exact e
  | notice => rw [ha] at e; exact e
  | objection => rw [ha] at e; exact e
  | _ => rw [ha] at e; cases e
theorem StOk.len {f : File} {q i : Nat} {s : Sh} (h : StOk f q i s) : s.std.length ≤ i := by
  have := yhk (m := 0) (n := i) h.up fun e he => ⟨Nat.zero_le e, h.lt e he⟩
  omega
section
variable {P : Program} {w : World} {K : PySem.W.Frag} {mg : Str → Option Value} {base : Heap} {A : Adr}
def jeB (A : Adr) (a : Act) : Sp := fun vs H Q _ => ∃ (H0 : Hp) (v : V) (d : Nat) (o sv : V) (void : List Nat) (evs : List V) (f : File) (q n : Nat) (s : Sh), vs = [v, sv] ∧ ZbD A H v d a o ∧ yaX A H0 evs f.items ∧ Ybh A H0 H sv void (esF evs) s ∧ StOk f q n s ∧ Q (.bl (Zg6 f.items void s a)) H
theorem jeO (T : Txt K mg A) (a : Act) (ha : ∀ is void s, Zg6 is void s a = true) : Zf P w K mg base CX0 1 A.Yj A.Jax ["self", "sheet"] (jeB A a) := by
  refine T.Ycj.ok zdP (fun vs H Q E h => ?_) (fun cdv B outer s H vs Q E hr h => ?_)
  · obtain ⟨_, _, _, _, _, _, _, _, _, _, _, rfl, _⟩ := h
    rfl
  · obtain ⟨H0, v, d, o, sv, void, evs, f, q, n, s, rfl, hE, its, hS, hO, k⟩ := h
    refine ⟨_, (jb (yf JdN)), ?_⟩
    rw [ha] at k
    exact k
theorem Jdp (T : Txt K mg A) (a : Act) (g : Nat) (hg : Yee a = some g) (ha : ∀ is void s, Zg6 is void s a = (g == s.reg)) : Zf P w K mg base CX0 1 A.Yg A.Zay ["self", "sheet"] (jeB A a) := by
  refine T.Jcj.ok ydP (fun vs H Q E h => ?_) (fun cdv B outer s H vs Q E hr h => ?_)
  · obtain ⟨_, _, _, _, _, _, _, _, _, _, _, rfl, _⟩ := h
    rfl
  · obtain ⟨H0, v, d, o, sv, void, evs, f, q, n, s, rfl, hE, its, ⟨sa, dx, vd, st, pl, gv, kvv, ys, rfl, r⟩, hO, k⟩ := h
    obtain ⟨f1, f2, f3, f4, f5, f6⟩ := r.fld T
    refine ⟨_, (jb (yf (ZaW ZaL (Jc (K := K) rfl (pv 0) rfl) (Jc (K := K) rfl (pv 1) rfl) (jm _)))), ?_⟩
    refine ⟨_, rfl, (ye7 T hE hg).rd ⟨_, rfl, f1.rd ⟨rfl, ?_⟩⟩⟩
    dsimp only
    rw [ybc, ← ha f.items void s]
    exact k
theorem zfX (T : Txt K mg A) (n : Nat) (b : Bool) : Zf P w K mg base CX0 1 A.Yp A.jau ["self", "sheet"] (jeB A (.fulfil n b)) := by
  refine T.yb2.ok YdK (fun vs H Q E h => ?_) (fun cdv B outer s H vs Q E hr h => ?_)
  · obtain ⟨_, _, _, _, _, _, _, _, _, _, _, rfl, _⟩ := h
    rfl
  · have hu := jcD hr
    obtain ⟨H0, v, d, o, sv, void, evs, f, q, m, s, rfl, ⟨e, edx, rfl, hE⟩, its, ⟨sa, dx, vd, st, pl, gv, kvv, ys, rfl, r⟩, hO, k⟩ := h
    obtain ⟨f1, f2, f3, f4, f5, f6⟩ := r.fld T
    refine ⟨_, (jb (yf (ygJ (JfA hu (Jc (K := K) rfl (pv 0) rfl) (Jc (K := K) rfl (pv 1) rfl))))), ?_⟩
    refine ⟨_, rfl, Fld.rd (u := .int n) ⟨e, _, edx, _, rfl, hE, T.jbu, T.jE, rfl⟩ ⟨_, rfl, f4.rd ⟨st, _, rfl, Jby.k (k := Sum.inl (n : Int)) r.so, ?_⟩⟩⟩
    dsimp only
    rw [JaN]
    exact k
theorem JgC (T : Txt K mg A) (n : Nat) : Zf P w K mg base CX0 1 A.Zw A.jaD ["self", "sheet"] (jeB A (.void_ n)) := by
  refine T.ycB.ok Zej (fun vs H Q E h => ?_) (fun cdv B outer s H vs Q E hr h => ?_)
  · obtain ⟨_, _, _, _, _, _, _, _, _, _, _, rfl, _⟩ := h
    rfl
  · have hu := jcD hr
    obtain ⟨H0, v, d, o, sv, void, evs, f, q, m, s, rfl, ⟨e, edx, rfl, hE⟩, its, ⟨sa, dx, vd, st, pl, gv, kvv, ys, rfl, r⟩, hO, k⟩ := h
    obtain ⟨f1, f2, f3, f4, f5, f6⟩ := r.fld T
    refine ⟨_, (jb (yf (ygJ (jed hu (Jc (K := K) rfl (pv 0) rfl) (Jc (K := K) rfl (pv 1) rfl))))), ?_⟩
    refine ⟨_, rfl, Fld.rd (u := .int n) ⟨e, _, edx, _, rfl, hE, T.JcR, T.zT, rfl⟩ ⟨_, rfl, f3.rd ⟨vd, _, rfl, Jby.k (k := Sum.inl (n : Int)) r.vo, ?_⟩⟩⟩
    dsimp only
    rw [r.vs]
    exact k
theorem ZfX (T : Txt K mg A) (n b : Nat) : Zf P w K mg base CX0 1 A.zq A.zav ["self", "sheet"] (jeB A (.strike n b)) := by
  refine T.zb3.ok jdK (fun vs H Q E h => ?_) (fun cdv B outer s H vs Q E hr h => ?_)
  · obtain ⟨_, _, _, _, _, _, _, _, _, _, _, rfl, _⟩ := h
    rfl
  · have hu := jcD hr
    obtain ⟨H0, v, d, o, sv, void, evs, f, q, m, s, rfl, ⟨e, edx, rfl, hE⟩, its, ⟨sa, dx, vd, st, pl, gv, kvv, ys, rfl, r⟩, hO, k⟩ := h
    obtain ⟨f1, f2, f3, f4, f5, f6⟩ := r.fld T
    have g1 : Fld K H (.ref e) "struck" (.int n) := ⟨e, _, edx, _, rfl, hE, T.Jbb, T.YG, rfl⟩
    have g2 : Fld K H (.ref e) "striker" (.int b) := ⟨e, _, edx, _, rfl, hE, T.Jbb, T.jO, rfl⟩
    refine ⟨_, (jb (yf (Yey (ygJ (JfA hu (Jc (K := K) rfl (pv 0) rfl) (Jc (K := K) rfl (pv 1) rfl))) (zdn (ZaW ZaL (Jc (K := K) rfl (jdn hu (Jc (K := K) rfl (pv 1) rfl) (Jc (K := K) rfl (pv 0) rfl) (fun _ _ => rfl)) rfl) (Jc (K := K) rfl (pv 0) rfl) (jm _)))))), ?_⟩
    refine zbD (c := s.std.contains n) (d := holder f.items n == some b) (fun R z => ⟨_, rfl, g1.rd ⟨_, rfl, f4.rd ⟨st, _, rfl, Jby.k (k := Sum.inl (n : Int)) r.so, ?_⟩⟩⟩) (fun hc R z => ?_) k
    · skip
      rw [JaN]
      exact z
    · have hm := List.contains_iff_mem.mp hc
      obtain ⟨p, hp⟩ := Option.isSome_iff_exists.mp (hO.hd n hm).1
      obtain ⟨x, hx, hpx⟩ := ZbY hp
      have g3 := (Yas T (its.at hx) hpx).same r.sm
      refine ⟨_, rfl, f4.rd ⟨_, rfl, g1.rd ⟨st, esF evs n, rfl, ?_, g3.rd ⟨_, rfl, g2.rd ⟨rfl, ?_⟩⟩⟩⟩⟩
      · have := Jby.k (H := H) (a := st) (k := Sum.inl (n : Int)) r.so
        rw [yas, if_pos hm] at this
        exact this
      · skip
        rw [ybc]
        rw [hp] at z
        exact z
theorem Jgi (T : Txt K mg A) (x y : Nat) : Zf P w K mg base CX0 2 A.yt A.Jay ["self", "sheet"] (jeB A (.ahead x y)) := by
  have yfJ : Zf P w K mg base CX0 1 A.ZL A.yaR ["places", "one", "other"] (JdA K) := Jfp T
  refine T.Jck.ok zdQ (fun vs H Q E h => ?_) (fun cdv B outer s H vs Q E hr h => ?_)
  · obtain ⟨_, _, _, _, _, _, _, _, _, _, _, rfl, _⟩ := h
    rfl
  · have hu := jcD hr
    obtain ⟨H0, v, d, o, sv, void, evs, f, q, m, s, rfl, ⟨e, edx, rfl, hE⟩, its, ⟨sa, dx, vd, st, pl, gv, kvv, ys, rfl, r⟩, hO, k⟩ := h
    obtain ⟨f1, f2, f3, f4, f5, f6⟩ := r.fld T
    have g1 : Fld K H (.ref e) "one" (.int x) := ⟨e, _, edx, _, rfl, hE, T.Jbm, T.Yan, rfl⟩
    have g2 : Fld K H (.ref e) "other" (.int y) := ⟨e, _, edx, _, rfl, hE, T.Jbm, T.zab, rfl⟩
    refine ⟨_, (Yc (JN (PW.pt (pw_or (je2 (jed hu (Jc (K := K) rfl (pv 0) rfl) (Jc (K := K) rfl (pv 1) rfl))) (pw_or1 (je2 (jed hu (Jc (K := K) rfl (pv 0) rfl) (Jc (K := K) rfl (pv 1) rfl)))))) (jb (yf JdN)) Zo) (jb (yf (jD yfJ (hr.mono (by decide)) (by rfl) T.ydR T.YcA.kp T.ZdR .nil Jh (Za (Jc (K := K) rfl (pv 1) rfl) (Za (Jc (K := K) rfl (pv 0) rfl) (Za (Jc (K := K) rfl (pv 0) rfl) yc))))))), ?_⟩
    refine jgW (c := !s.std.contains x) (d := !s.std.contains y) (fun R z => ⟨_, rfl, g1.rd ⟨_, rfl, f4.rd ⟨st, _, rfl, Jby.k (k := Sum.inl (x : Int)) r.so, _, rfl, ?_⟩⟩⟩) (fun _ R z => ⟨_, rfl, g2.rd ⟨_, rfl, f4.rd ⟨st, _, rfl, Jby.k (k := Sum.inl (y : Int)) r.so, _, rfl, ?_⟩⟩⟩) ?_
    · skip
      rw [JaN]
      exact z
    · skip
      rw [JaN]
      exact z
    · unfold Zg6 at k
      dsimp only at k
      refine br (fun h => ?_) (fun h => ?_)
      · have e1 : (s.std.contains x && (s.std.contains y && Zb6 y x s.pls)) = false := by
          revert h
          cases s.std.contains x <;> cases s.std.contains y <;> simp
        rw [e1] at k
        exact k
      · have e1 : s.std.contains x = true ∧ s.std.contains y = true := by
          revert h
          cases s.std.contains x <;> cases s.std.contains y <;> simp
        rw [e1.1, e1.2, Bool.true_and, Bool.true_and, ← Zga] at k
        exact ⟨_, rfl, f5.rd ⟨_, rfl, g2.rd ⟨_, rfl, g1.rd ⟨pl, ys, s.pls, y, x, rfl, SqL.of r.po, r.ps, k⟩⟩⟩⟩
theorem Yhl (T : Txt K mg A) (a : Act) : JfB P w K mg base CX0 2 "may_be_made" (clsOf A a) (jeB A a) := by
  refine ⟨ybD T a, ?_⟩
  cases a with
  | transfer => exact ⟨_, _, _, T.ybC, (Jdp T _ _ rfl fun _ _ _ => rfl).mono (by decide), T.zaE⟩
  | charge => exact ⟨_, _, _, T.Jb3, (Jdp T _ _ rfl fun _ _ _ => rfl).mono (by decide), T.zaE⟩
  | notice => exact ⟨_, _, _, T.Zb4, (Jdp T _ _ rfl fun _ _ _ => rfl).mono (by decide), T.zaE⟩
  | fulfil => exact ⟨_, _, _, T.Jb4, (zfX T _ _).mono (by decide), T.Yb2⟩
  | objection => exact ⟨_, _, _, T.ybu, (jeO T _ fun _ _ _ => rfl).mono (by decide), T.Jbg⟩
  | strike => exact ⟨_, _, _, T.Zb5, (ZfX T _ _).mono (by decide), T.Zb3⟩
  | ahead => exact ⟨_, _, _, T.Ycm, (Jgi T _ _).mono (by decide), T.zcl⟩
  | correct => exact ⟨_, _, _, T.ZbP, (jeO T _ fun _ _ _ => rfl).mono (by decide), T.Jbg⟩
  | void_ => exact ⟨_, _, _, T.zcD, (JgC T _).mono (by decide), T.YcB⟩
def Je7 (A : Adr) (a : Act) : Sp := fun vs H Q _ => ∃ (H0 : Hp) (e : Addr) (d : Nat) (o sv : V) (void : List Nat) (es : Nat → V) (s : Sh), vs = [.ref e, sv] ∧ ZbD A H (.ref e) d a o ∧ Ybh A H0 H sv void es s ∧ ∀ H' : Hp, (∀ c, c ≠ e → H' c = H c) → ZbD A H' (.ref e) d a (.int s.own) → Q .non H'
theorem Y0 (T : Txt K mg A) (a : Act) (ha : ∀ d o o', Ydf d a o = Ydf d a o') : Zf P w K mg base CX0 1 A.zg A.ybo ["self", "sheet"] (Je7 A a) := by
  refine T.zdS.ok jfo (fun vs H Q E h => ?_) (fun cdv B outer s H vs Q E hr h => ?_)
  · obtain ⟨_, _, _, _, _, _, _, _, rfl, _⟩ := h
    rfl
  · obtain ⟨H0, e, d, o, sv, void, es, s, rfl, hE, hS, k⟩ := h
    refine ⟨_, (jb Zge), ?_⟩
    refine k H (fun _ _ => rfl) ?_
    obtain ⟨e', dx, x, y⟩ := hE
    exact ⟨e', dx, x, by rw [ha d _ o]; exact y⟩
theorem JeO (T : Txt K mg A) (q : Nat) : Zf P w K mg base CX0 1 A.YC A.JaW ["self", "sheet"] (Je7 A (.correct q)) := by
  refine T.Jdc.ok ZeJ (fun vs H Q E h => ?_) (fun cdv B outer s H vs Q E hr h => ?_)
  · obtain ⟨_, _, _, _, _, _, _, _, rfl, _⟩ := h
    rfl
  · obtain ⟨H0, e, d, o, sv, void, es, s, rfl, ⟨e', edx, e1, hE⟩, ⟨sa, dx, vd, st, pl, gv, kvv, ys, rfl, r⟩, k⟩ := h
    cases e1
    obtain ⟨f1, f2, f3, f4, f5, f6⟩ := r.fld T
    refine ⟨_, (jb (Zu (K := K) rfl (pv 0) (Jc (K := K) rfl (pv 1) rfl) rfl)), ?_⟩
    refine ⟨_, rfl, f2.rd ⟨_, rfl, e, _, edx, _, rfl, hE, T.jcC, T.Z0, (by show (3 : Nat) < 1000; decide), ?_⟩⟩
    exact k _ (fun c hc => Zc hc) ⟨e, edx, rfl, Ja⟩
theorem zgD (T : Txt K mg A) (a : Act) : JfB P w K mg base CX0 1 "settle" (clsOf A a) (Je7 A a) := by
  refine ⟨ybD T a, ?_⟩
  cases a with
  | transfer => exact ⟨_, _, _, T.ycQ, (Y0 T _ fun _ _ _ => rfl).mono (by decide), T.ZV⟩
  | charge => exact ⟨_, _, _, T.jdz, (Y0 T _ fun _ _ _ => rfl).mono (by decide), T.ZV⟩
  | notice => exact ⟨_, _, _, T.Jdz, (Y0 T _ fun _ _ _ => rfl).mono (by decide), T.ZV⟩
  | fulfil => exact ⟨_, _, _, T.zdA, (Y0 T _ fun _ _ _ => rfl).mono (by decide), T.ZV⟩
  | objection => exact ⟨_, _, _, T.ycC, (Y0 T _ fun _ _ _ => rfl).mono (by decide), T.ZV⟩
  | strike => exact ⟨_, _, _, T.ZdA, (Y0 T _ fun _ _ _ => rfl).mono (by decide), T.ZV⟩
  | ahead => exact ⟨_, _, _, T.ZdW, (Y0 T _ fun _ _ _ => rfl).mono (by decide), T.ZV⟩
  | correct => exact ⟨_, _, _, T.zde, (JeO T _).mono (by decide), T.zdd⟩
  | void_ => exact ⟨_, _, _, T.Yep, (Y0 T _ fun _ _ _ => rfl).mono (by decide), T.ZV⟩
end
end Lr
namespace Lr
open PySem hiding Act
open PySem.Spec
open PyProof.Rows hiding St
open L2
open Sy33 (Act Item File bit noticeOf holder voids plotOf isCharge about actOk before_)
theorem Yfl {f : File} {n : Nat} {y : Nat × Nat} (h : noticeOf f.items n = some y) : ∃ x, f.items[n]? = some x ∧ Yee x.act = some y.1 ∧ ZcE x.act = some y.2 := by
  unfold noticeOf at h
  obtain ⟨x, hx, e⟩ := Option.bind_eq_some_iff.mp h
  refine ⟨x, hx, ?_⟩
  cases ha : x.act with
  | notice q g p k =>
    rw [ha] at e
    have e := Option.some.inj e
    subst e
    exact ⟨rfl, rfl⟩
  | _ => rw [ha] at e; cases e
section
variable {P : Program} {w : World} {K : PySem.W.Frag} {mg : Str → Option Value} {base : Heap} {A : Adr}
def Zdg (A : Adr) (a : Act) : Sp := fun vs H Q _ => ∃ (H0 : Hp) (v : V) (d : Nat) (o : V) (i : Nat) (sv : V) (void : List Nat) (evs : List V) (f : File) (q : Nat) (s : Sh), vs = [v, .int i, sv] ∧ ZbD A H v d a o ∧ yaX A H0 evs f.items ∧ Ybh A H0 H sv void (esF evs) s ∧ ShOk f q i s ∧ i ≤ 40 ∧
  (∀ n b, a = .fulfil n b → n ∈ s.std ∧ ∃ y, noticeOf f.items n = some y) ∧ ∀ H' : Hp, Ybh A H0 H' sv void (esF evs) (s.effect f.items i a) → Q .non H'
theorem YaS (T : Txt K mg A) (a : Act) (ha : ∀ is i s, Sh.effect is i a s = s) : Zf P w K mg base CX0 1 A.jf A.zay ["self", "number", "sheet"] (Zdg A a) := by
  refine T.jcj.ok ZdP (fun vs H Q E h => ?_) (fun cdv B outer s H vs Q E hr h => ?_)
  · obtain ⟨_, _, _, _, _, _, _, _, _, _, _, rfl, _⟩ := h
    rfl
  · obtain ⟨H0, v, d, o, i, sv, void, evs, f, q, s, rfl, hE, its, hS, hO, h40, hf, k⟩ := h
    refine ⟨_, (jb Zge), ?_⟩
    rw [ha] at k
    exact k _ hS
theorem JeB (T : Txt K mg A) (q0 g t : Nat) (kn : Bool) : Zf P w K mg base CX0 3 A.Zm A.Jae ["self", "number", "sheet"] (Zdg A (.transfer q0 g t kn)) := by
  have Z8 : Zf P w K mg base CX0 2 A.Zn A.ZJ ["self", "knows"] (jb6 A) := YaX T
  refine T.JbB.ok ydb (fun vs H Q E h => ?_) (fun cdv B outer s H vs Q E hr h => ?_)
  · obtain ⟨_, _, _, _, _, _, _, _, _, _, _, rfl, _⟩ := h
    rfl
  · obtain ⟨H0, v, d, o, i, sv, void, evs, f, q, s, rfl, hE, its, hS, hO, h40, hf, k⟩ := h
    obtain ⟨sa, dx, vd, st, pl, gv, kvv, ys, rfl, r⟩ := id hS
    have hl := hO.toStOk.len
    refine ⟨_, (jb (JN (Yby (j8 (pv 2) T.Yn T.zaI Z8 (hr.mono (by decide)) T.JaH .nil Jh (Za (Jc (K := K) rfl (pv 0) rfl) yc))) (jb (Zu (K := K) rfl (pv 2) (Jc (K := K) rfl (pv 0) rfl) rfl)) Zo)), ?_⟩
    refine ⟨_, rfl, sa, dx, _, rfl, r.ob, rfl, _, rfl, (Ye7 T hE rfl).rd ⟨H0, _, kn, void, evs, f.items, s, rfl, its, hS, by omega, fun H1 s1 => ⟨_, rfl, ?_⟩⟩⟩
    have r1 := r.same s1
    unfold Sh.effect at k
    dsimp only at k
    refine br (fun h => ?_) (fun h => ?_)
    · rw [if_pos h] at k
      refine ⟨_, rfl, ((Yas T hE rfl).same s1).rd ⟨_, rfl, sa, _, dx, _, rfl, r1.ob, T.Yn, T.YT, (by show (6 : Nat) < 1000; decide), ?_⟩⟩
      exact k _ ⟨sa, dx, vd, st, pl, gv, kvv, ys, rfl, r1.obj (s' := { s with own := t }) rfl rfl rfl⟩
    · rw [if_neg (by simp [h])] at k
      exact k _ (hS.same s1)
theorem YdB (T : Txt K mg A) (a : Act) (kn : Bool) (hk : ygY a = some kn) (ha : ∀ is i s, Sh.effect is i a s = if s.acq is kn = true then { s with giv := s.giv ++ [i] } else s) : Zf P w K mg base CX0 3 A.jj A.yay ["self", "number", "sheet"] (Zdg A a) := by
  have Z8 : Zf P w K mg base CX0 2 A.Zn A.ZJ ["self", "knows"] (jb6 A) := YaX T
  refine T.zck.ok YdP (fun vs H Q E h => ?_) (fun cdv B outer s H vs Q E hr h => ?_)
  · obtain ⟨_, _, _, _, _, _, _, _, _, _, _, rfl, _⟩ := h
    rfl
  · have hu := jcD hr
    obtain ⟨H0, v, d, o, i, sv, void, evs, f, q, s, rfl, hE, its, hS, hO, h40, hf, k⟩ := h
    obtain ⟨sa, dx, vd, st, pl, gv, kvv, ys, rfl, r⟩ := id hS
    have hl := hO.toStOk.len
    refine ⟨_, (jb (JN (Yby (j8 (pv 2) T.Yn T.zaI Z8 (hr.mono (by decide)) T.JaH .nil Jh (Za (Jc (K := K) rfl (pv 0) rfl) yc))) (jb (Zfx hu (Jc (K := K) rfl (pv 2) rfl) (pv 1) JdN rfl)) Zo)), ?_⟩
    refine ⟨_, rfl, sa, dx, _, rfl, r.ob, rfl, _, rfl, (Ye7 T hE hk).rd ⟨H0, _, kn, void, evs, f.items, s, rfl, its, hS, by omega, fun H1 s1 => ⟨_, rfl, ?_⟩⟩⟩
    have r1 := r.same s1
    obtain ⟨f1, f2, f3, f4, f5, f6⟩ := r1.fld T
    rw [ha] at k
    refine br (fun h => ?_) (fun h => ?_)
    · rw [if_pos h] at k
      have hn : i ∉ s.giv := fun hm => Nat.lt_irrefl _ (hO.gl i hm)
      have hg := hO.gn
      refine ⟨_, rfl, f6.rd ⟨_, rfl, gv, _, rfl, Jgf.k (k := Sum.inl (i : Int)) r1.go (Nat.lt_of_le_of_lt (show _ ≤ 100 by rw [Jbc]; omega) (by decide)), ?_⟩⟩
      rw [show V.bl true = tru i from rfl, JfH tru hn]
      exact k _ ⟨sa, dx, vd, st, pl, gv, kvv, ys, rfl, r1.giv _⟩
    · rw [if_neg (by simp [h])] at k
      exact k _ (hS.same s1)
theorem ze8 (T : Txt K mg A) (n : Nat) (kn : Bool) : Zf P w K mg base CX0 3 A.Jp A.Jau ["self", "number", "sheet"] (Zdg A (.fulfil n kn)) := by
  have Z8 : Zf P w K mg base CX0 2 A.Zn A.ZJ ["self", "knows"] (jb6 A) := YaX T
  refine T.jb2.ok ybO (fun vs H Q E h => ?_) (fun cdv B outer s H vs Q E hr h => ?_)
  · obtain ⟨_, _, _, _, _, _, _, _, _, _, _, rfl, _⟩ := h
    rfl
  · have hu := jcD hr
    obtain ⟨H0, v, d, o, i, sv, void, evs, f, q, s, rfl, hE, its, hS, hO, h40, hf, k⟩ := h
    obtain ⟨sa, dx, vd, st, pl, gv, kvv, ys, rfl, r⟩ := id hS
    obtain ⟨e, edx, rfl, hH⟩ := id hE
    have g1 : Fld K H (.ref e) "noted" (.int n) := ⟨e, _, edx, _, rfl, hH, T.jbu, T.jE, rfl⟩
    obtain ⟨f1, f2, f3, f4, f5, f6⟩ := r.fld T
    have hl := hO.toStOk.len
    obtain ⟨hm, y, hy⟩ := hf n kn rfl
    obtain ⟨x, hx, hgx, hpx⟩ := Yfl hy
    have hN := its.at hx
    unfold Sh.effect at k
    dsimp only at k
    rw [hy] at k
    dsimp only at k
    refine ⟨_, (Yc (jab (i := 3) ybO.nd rfl (by first | exact Or.inl rfl | exact Or.inr rfl) (jdn hu (Jc (K := K) rfl (pv 2) rfl) (Jc (K := K) rfl (pv 0) rfl) (fun _ _ => rfl))) (jb (JN (je2 (JfA hu (Jc (K := K) rfl (pv 0) rfl) (Jc (K := K) rfl (pv 2) rfl))) (jb (Zu (K := K) rfl (pv 2) (Jc (K := K) rfl (pv 3) rfl) rfl)) (jb (JN (PW.pt (pw_and (Yq ZaL (Jc (K := K) rfl (pv 3) rfl) (Jc (K := K) rfl (pv 2) rfl) (jm _)) (pw_and1 (Yby (j8 (pv 2) T.Yn T.zaI Z8 (hr.mono (by decide)) T.JaH .nil Jh (Za (Jc (K := K) rfl (pv 0) rfl) yc)))))) (jb (Zu (K := K) rfl (pv 2) (Jc (K := K) rfl (pv 3) rfl) rfl)) Zo))))), ?_⟩
    refine ⟨_, rfl, f4.rd ⟨_, rfl, g1.rd ⟨st, esF evs n, rfl, ?_, ?_⟩⟩⟩
    · have := Jby.k (H := H) (a := st) (k := Sum.inl (n : Int)) r.so
      rw [yas, if_pos hm] at this
      exact this
    · refine ⟨_, rfl, g1.rd ⟨_, rfl, f6.rd ⟨gv, _, rfl, Jby.k (k := Sum.inl (n : Int)) r.go, _, rfl, ?_⟩⟩⟩
      rw [JaN]
      refine br (fun h => ?_) (fun h => ?_)
      · rw [if_pos (.inl (List.contains_iff_mem.mp h))] at k
        refine ⟨_, rfl, ((Yas T hN hpx).same r.sm).rd ⟨_, rfl, sa, _, dx, _, rfl, r.ob, T.Yn, T.YT, (by show (6 : Nat) < 1000; decide), ?_⟩⟩
        exact k _ ⟨sa, dx, vd, st, pl, gv, kvv, ys, rfl, r.obj (s' := { s with own := y.2 }) rfl rfl rfl⟩
      · have hng : n ∉ s.giv := fun z => by rw [List.contains_iff_mem.mpr z] at h; cases h
        refine ⟨_, rfl, ((ye7 T hN hgx).same r.sm).rd ⟨_, rfl, f1.rd ⟨rfl, _, rfl, ?_⟩⟩⟩
        rw [ybc]
        refine br (fun h2 => ?_) (fun h2 => ?_)
        · have h2 := eq_of_beq h2
          refine ⟨_, rfl, sa, dx, _, rfl, r.ob, rfl, _, rfl, (Ye7 T hE rfl).rd ⟨H0, _, kn, void, evs, f.items, s, rfl, its, hS, by omega, fun H1 s1 => ⟨_, rfl, ?_⟩⟩⟩
          have r1 := r.same s1
          refine br (fun h3 => ?_) (fun h3 => ?_)
          · rw [if_pos (.inr ⟨h2, h3⟩)] at k
            refine ⟨_, rfl, ((Yas T hN hpx).same r1.sm).rd ⟨_, rfl, sa, _, dx, _, rfl, r1.ob, T.Yn, T.YT, (by show (6 : Nat) < 1000; decide), ?_⟩⟩
            exact k _ ⟨sa, dx, vd, st, pl, gv, kvv, ys, rfl, r1.obj (s' := { s with own := y.2 }) rfl rfl rfl⟩
          · rw [if_neg (fun z => z.elim hng fun z => by rw [z.2] at h3; cases h3)] at k
            exact k _ (hS.same s1)
        · rw [if_neg (fun z => z.elim hng fun z => by rw [z.1, beq_self_eq_true] at h2; cases h2)] at k
          exact k _ hS
theorem ZgD (T : Txt K mg A) (a : Act) : JfB P w K mg base CX0 3 "take_effect" (clsOf A a) (Zdg A a) := by
  refine ⟨ybD T a, ?_⟩
  cases a with
  | transfer => exact ⟨_, _, _, T.ZbC, (JeB T _ _ _ _).mono (by decide), T.zbC⟩
  | charge => exact ⟨_, _, _, T.zb4, (YdB T _ _ rfl fun _ _ _ => rfl).mono (by decide), T.zbh⟩
  | notice => exact ⟨_, _, _, T.yb4, (YdB T _ _ rfl fun _ _ _ => rfl).mono (by decide), T.zbh⟩
  | fulfil => exact ⟨_, _, _, T.zb5, (ze8 T _ _).mono (by decide), T.Jb2⟩
  | objection => exact ⟨_, _, _, T.Ybu, (YaS T _ fun _ _ _ => rfl).mono (by decide), T.ZX⟩
  | strike => exact ⟨_, _, _, T.yb5, (YaS T _ fun _ _ _ => rfl).mono (by decide), T.ZX⟩
  | ahead => exact ⟨_, _, _, T.jcm, (YaS T _ fun _ _ _ => rfl).mono (by decide), T.ZX⟩
  | correct => exact ⟨_, _, _, T.ybP, (YaS T _ fun _ _ _ => rfl).mono (by decide), T.ZX⟩
  | void_ => exact ⟨_, _, _, T.ZcD, (YaS T _ fun _ _ _ => rfl).mono (by decide), T.ZX⟩
def Zbn (A : Adr) (a : Act) : Sp := fun vs H Q _ => ∃ (H0 : Hp) (i : Nat) (sv : V) (void : List Nat) (evs : List V) (f : File) (q : Nat) (s : Sh) (x : Item), vs = [esF evs i, .int i, sv] ∧ f.items[i]? = some x ∧ x.act = a ∧ yaX A H0 evs f.items ∧ Ybh A H0 H sv void (esF evs) s ∧ StOk f q i s ∧ i ≤ 40 ∧
  (∀ e ∈ zfl a, e ∈ s.std) ∧ (∀ n b, a = .fulfil n b → ∃ g, noticeOf f.items n = some (g, x.now)) ∧ ∀ H' : Hp, Ybh A H0 H' sv void (esF evs) (s.enter f.items i a x.now) → Q .non H'
theorem YfJ (T : Txt K mg A) (n : Nat) : Zf P w K mg base CX0 1 A.YL A.ybz ["self", "number", "sheet"] (Zbn A (.void_ n)) := by
  refine T.jem.ok YfC (fun vs H Q E h => ?_) (fun cdv B outer s H vs Q E hr h => ?_)
  · obtain ⟨_, _, _, _, _, _, _, _, _, rfl, _⟩ := h
    rfl
  · obtain ⟨H0, i, sv, void, evs, f, q, s, x, rfl, hx, ha, its, hS, hO, h40, hs, hf, k⟩ := h
    refine ⟨_, (jb Zge), ?_⟩
    exact k _ hS
theorem zeP (T : Txt K mg A) (q0 g t : Nat) (kn : Bool) : Zf P w K mg base CX0 1 A.yC A.jaW ["self", "number", "sheet"] (Zbn A (.transfer q0 g t kn)) := by
  refine T.Ydc.ok zeJ (fun vs H Q E h => ?_) (fun cdv B outer s H vs Q E hr h => ?_)
  · obtain ⟨_, _, _, _, _, _, _, _, _, rfl, _⟩ := h
    rfl
  · obtain ⟨H0, i, sv, void, evs, f, q, s, x, rfl, hx, ha, its, hS, hO, h40, hs, hf, k⟩ := h
    obtain ⟨sa, dx, vd, st, pl, gv, kvv, ys, rfl, r⟩ := id hS
    have hE := (its.at hx).same r.sm
    rw [ha] at hE
    refine ⟨_, (jb (Zu (K := K) rfl (pv 2) (Jc (K := K) rfl (pv 0) rfl) rfl)), ?_⟩
    refine ⟨_, rfl, (Yas T hE rfl).rd ⟨_, rfl, sa, _, dx, _, rfl, r.ob, T.Yn, T.yw, (by show (6 : Nat) < 1000; decide), ?_⟩⟩
    exact k _ ⟨sa, dx, vd, st, pl, gv, kvv, ys, rfl, r.obj (s' := { s with reg := t }) rfl rfl rfl⟩
theorem Ze8 (T : Txt K mg A) (q0 : Nat) : Zf P w K mg base CX0 1 A.ZG A.Jba ["self", "number", "sheet"] (Zbn A (.correct q0)) := by
  refine T.jdy.ok ye4 (fun vs H Q E h => ?_) (fun cdv B outer s H vs Q E hr h => ?_)
  · obtain ⟨_, _, _, _, _, _, _, _, _, rfl, _⟩ := h
    rfl
  · obtain ⟨H0, i, sv, void, evs, f, q, s, x, rfl, hx, ha, its, hS, hO, h40, hs, hf, k⟩ := h
    obtain ⟨sa, dx, vd, st, pl, gv, kvv, ys, rfl, r⟩ := id hS
    have hE := (its.at hx).same r.sm
    rw [ha] at hE
    obtain ⟨e, edx, hve, hE⟩ := hE
    refine ⟨_, (jb (Zu (K := K) rfl (pv 2) (Jc (K := K) rfl (pv 0) rfl) rfl)), ?_⟩
    refine ⟨_, rfl, Fld.rd (u := .int x.now) ⟨e, _, edx, _, hve, hE, T.jcC, T.Z0, rfl⟩ ⟨_, rfl, sa, _, dx, _, rfl, r.ob, T.Yn, T.yw, (by show (6 : Nat) < 1000; decide), ?_⟩⟩
    exact k _ ⟨sa, dx, vd, st, pl, gv, kvv, ys, rfl, r.obj (s' := { s with reg := x.now }) rfl rfl rfl⟩
theorem Yfq (T : Txt K mg A) (q0 g t : Nat) (kn : Bool) : Zf P w K mg base CX0 2 A.JL A.jbo ["self", "number", "sheet"] (Zbn A (.notice q0 g t kn)) := by
  have ybn : Zf P w K mg base CX0 1 A.jC A.Jaq ["self", "number", "entry"] (jbD A) := ycE T
  refine T.YdS.ok zfp (fun vs H Q E h => ?_) (fun cdv B outer s H vs Q E hr h => ?_)
  · obtain ⟨_, _, _, _, _, _, _, _, _, rfl, _⟩ := h
    rfl
  · obtain ⟨H0, i, sv, void, evs, f, q, s, x, rfl, hx, ha, its, hS, hO, h40, hs, hf, k⟩ := h
    obtain ⟨sa, dx, vd, st, pl, gv, kvv, ys, rfl, r⟩ := id hS
    have hl := hO.len
    refine ⟨_, (jb (yD (j8 (pv 2) T.Yn T.zbY ybn (hr.mono (by decide)) T.JbX .nil Jh (Za (pv 1) (Za (pv 0) yc))))), ?_⟩
    exact ⟨_, rfl, sa, dx, _, rfl, r.ob, rfl, _, rfl, _, rfl, H0, _, i, void, esF evs, s, rfl, hS, fun hm => Nat.lt_irrefl _ (hO.lt i hm), by omega, k⟩
theorem zeC (T : Txt K mg A) (q0 t : Nat) : Zf P w K mg base CX0 2 A.jy A.ZaM ["self", "number", "sheet"] (Zbn A (.objection q0 t)) := by
  have ybn : Zf P w K mg base CX0 1 A.jC A.Jaq ["self", "number", "entry"] (jbD A) := ycE T
  refine T.ycP.ok yez (fun vs H Q E h => ?_) (fun cdv B outer s H vs Q E hr h => ?_)
  · obtain ⟨_, _, _, _, _, _, _, _, _, rfl, _⟩ := h
    rfl
  · obtain ⟨H0, i, sv, void, evs, f, q, s, x, rfl, hx, ha, its, hS, hO, h40, hs, hf, k⟩ := h
    obtain ⟨sa, dx, vd, st, pl, gv, kvv, ys, rfl, r⟩ := id hS
    have hl := hO.len
    refine ⟨_, (jb (yD (j8 (pv 2) T.Yn T.zbY ybn (hr.mono (by decide)) T.JbX .nil Jh (Za (pv 1) (Za (pv 0) yc))))), ?_⟩
    exact ⟨_, rfl, sa, dx, _, rfl, r.ob, rfl, _, rfl, _, rfl, H0, _, i, void, esF evs, s, rfl, hS, fun hm => Nat.lt_irrefl _ (hO.lt i hm), by omega, k⟩
theorem jfq (T : Txt K mg A) (q0 g t am : Nat) (kn : Bool) : Zf P w K mg base CX0 2 A.jL A.Ybo ["self", "number", "sheet"] (Zbn A (.charge q0 g t am kn)) := by
  have ybn : Zf P w K mg base CX0 1 A.jC A.Jaq ["self", "number", "entry"] (jbD A) := ycE T
  refine T.ZdS.ok Jfo (fun vs H Q E h => ?_) (fun cdv B outer s H vs Q E hr h => ?_)
  · obtain ⟨_, _, _, _, _, _, _, _, _, rfl, _⟩ := h
    rfl
  · obtain ⟨H0, i, sv, void, evs, f, q, s, x, rfl, hx, ha, its, hS, hO, h40, hs, hf, k⟩ := h
    obtain ⟨sa, dx, vd, st, pl, gv, kvv, ys, rfl, r⟩ := id hS
    have hE : ZbD A H0 (esF evs i) x.day x.act (.int x.now) := its.at hx
    rw [ha] at hE
    obtain ⟨e, edx, hve, hE⟩ := hE
    have hl := hO.len
    have hpl := hO.pl
    refine ⟨_, (Yc (yD (j8 (pv 2) T.Yn T.zbY ybn (hr.mono (by decide)) T.JbX .nil Jh (Za (pv 1) (Za (pv 0) yc)))) (jb (yD (Yem PySem.F.plainAttrs_list PySem.F.slot_list_append PySem.F.type_list_append zbU (Jc (K := K) rfl (pv 2) rfl) (Za (ze3 (Za (pv 1) (Za (Jc (K := K) rfl (pv 0) rfl) yc))) yc))))), ?_⟩
    refine ⟨_, rfl, sa, dx, _, rfl, r.ob, rfl, _, rfl, _, rfl, H0, _, i, void, esF evs, s, rfl, hS, fun hm => Nat.lt_irrefl _ (hO.lt i hm), by omega, fun H1 hS1 => ?_⟩
    obtain ⟨sa1, dx1, vd1, st1, pl1, gv1, kvv1, ys1, e1, r1⟩ := hS1
    cases e1
    obtain ⟨f1, f2, f3, f4, f5, f6⟩ := r1.fld T
    have hl1 := zcs r1.ps
    have hl2 : ys1.length = s.pls.length := hl1
    have g1 : Fld K H1 (esF evs i) "amount" (.int am) := ⟨e, _, edx, _, hve, r1.sm _ _ hE, T.Ydd, T.JZ, rfl⟩
    refine ⟨_, rfl, f5.rd ⟨.inl ⟨rfl, _, SqL.of r1.po⟩, _, rfl, _, rfl, g1.rd ⟨(by show 2 ≤ sizeLine; decide), fun tp htp => ⟨pl1, ys1, _, rfl, rfl, Jd htp _ _ r1.po, Nat.lt_of_le_of_lt (show _ ≤ 100 by omega) (by decide), ?_⟩⟩⟩⟩
    have s2 := Jd (o := .tup [.int i, .int am]) htp
    refine k _ ⟨sa, dx1, vd1, st1, pl1, gv1, kvv1, ys1 ++ [.ref tp], rfl, ?_⟩
    exact (r1.same s2).pls (zag.app (r1.ps.same s2) (.cons ⟨tp, rfl, Ja⟩ .nil))
theorem Jfq (T : Txt K mg A) (n b : Nat) : Zf P w K mg base CX0 3 A.ZM A.zbp ["self", "number", "sheet"] (Zbn A (.strike n b)) := by
  have zdq : Zf P w K mg base CX0 2 A.yN A.jaT ["self", "number"] (Jc4 A) := Zeq T
  refine T.ZdT.ok Zfp (fun vs H Q E h => ?_) (fun cdv B outer s H vs Q E hr h => ?_)
  · obtain ⟨_, _, _, _, _, _, _, _, _, rfl, _⟩ := h
    rfl
  · obtain ⟨H0, i, sv, void, evs, f, q, s, x, rfl, hx, ha, its, hS, hO, h40, hs, hf, k⟩ := h
    obtain ⟨sa, dx, vd, st, pl, gv, kvv, ys, rfl, r⟩ := id hS
    have hE := (its.at hx).same r.sm
    rw [ha] at hE
    obtain ⟨e, edx, hve, hE⟩ := hE
    have hpl := hO.pl
    refine ⟨_, (jb (yD (j8 (pv 2) T.Yn T.Jdo zdq (hr.mono (by decide)) T.ydo .nil Jh (Za (Jc (K := K) rfl (pv 0) rfl) yc)))), ?_⟩
    exact ⟨_, rfl, sa, dx, _, rfl, r.ob, rfl, _, rfl, Fld.rd (u := .int n) ⟨e, _, edx, _, hve, hE, T.Jbb, T.YG, rfl⟩ ⟨H0, _, n, void, esF evs, s, rfl, hS, hs n (List.mem_singleton.mpr rfl), by omega, k⟩⟩
theorem jfJ (T : Txt K mg A) (x y : Nat) : Zf P w K mg base CX0 3 A.yS A.zbA ["self", "number", "sheet"] (Zbn A (.ahead x y)) := by
  have ygD : Zf P w K mg base CX0 2 A.Yam A.Zbz ["places", "one", "other"] (ZeN K) := zgi T
  refine T.zeo.ok ZfD (fun vs H Q E h => ?_) (fun cdv B outer s H vs Q E hr h => ?_)
  · obtain ⟨_, _, _, _, _, _, _, _, _, rfl, _⟩ := h
    rfl
  · obtain ⟨H0, i, sv, void, evs, f, q, s, x', rfl, hx, ha, its, hS, hO, h40, hs, hf, k⟩ := h
    obtain ⟨sa, dx, vd, st, pl, gv, kvv, ys, rfl, r⟩ := id hS
    obtain ⟨f1, f2, f3, f4, f5, f6⟩ := r.fld T
    have hE := (its.at hx).same r.sm
    rw [ha] at hE
    obtain ⟨e, edx, hve, hE⟩ := hE
    have hpl := hO.pl
    have g1 : Fld K H (esF evs i) "one" (.int x) := ⟨e, _, edx, _, hve, hE, T.Jbm, T.Yan, rfl⟩
    have g2 : Fld K H (esF evs i) "other" (.int y) := ⟨e, _, edx, _, hve, hE, T.Jbm, T.zab, rfl⟩
    refine ⟨_, (jb (Zu (K := K) rfl (pv 2) (jD ygD (hr.mono (by decide)) (by rfl) T.zfh T.YdR.kp T.Jfg .nil Jh (Za (Jc (K := K) rfl (pv 2) rfl) (Za (Jc (K := K) rfl (pv 0) rfl) (Za (Jc (K := K) rfl (pv 0) rfl) yc)))) rfl)), ?_⟩
    refine ⟨_, rfl, f5.rd ⟨_, rfl, g1.rd ⟨_, rfl, g2.rd ⟨pl, ys, s.pls, x, y, rfl, SqL.of r.po, r.ps, by omega, fun H' l zs sH hl hz hp => ?_⟩⟩⟩⟩
    have r3 := r.same sH
    refine ⟨_, rfl, sa, _, dx, _, rfl, r3.ob, T.Yn, T.JV, (by show (6 : Nat) < 1000; decide), ?_⟩
    exact k _ ⟨sa, dx, vd, st, l, gv, kvv, zs, rfl, r3.Yhk (r.sm.free hl) hz hp⟩
theorem ShR.weaken {H0 H0' H : Hp} {void : List Nat} {es : Nat → V} {s : Sh} {a dx vd st pl gv : Addr} {kvv : List (Key × V)} {ys : List V} (h : ShR A H0' H void es s a dx vd st pl gv kvv ys) (t : Yu H0 H0') : ShR A H0 H void es s a dx vd st pl gv kvv ys :=
  ⟨t.trans h.sm, t.free h.fa, t.free h.fst, t.free h.fpl, t.free h.fgv, h.n1, h.n2, h.n3, h.ob, h.vo, h.vs, h.so, h.po, h.ps, h.go⟩
theorem Ybh.weaken {H0 H0' H : Hp} {v : V} {void : List Nat} {es : Nat → V} {s : Sh} (h : Ybh A H0' H v void es s) (t : Yu H0 H0') : Ybh A H0 H v void es s := by
  obtain ⟨a, dx, vd, st, pl, gv, kvv, ys, e, r⟩ := h
  exact ⟨a, dx, vd, st, pl, gv, kvv, ys, e, r.weaken t⟩
theorem ShR.beside {H0 H : Hp} {void : List Nat} {es : Nat → V} {s : Sh} {a dx vd st pl gv L : Addr} {o : HO} {kvv : List (Key × V)} {ys : List V} (h : ShR A H0 H void es s a dx vd st pl gv kvv ys) (hL : H L = Option.none) : ShR A (upd H0 L o) (upd H L o) void es s a dx vd st pl gv kvv ys := by
  have r := h.same (Jd (o := o) hL)
  have nf : ∀ {c : Addr} {u : HO}, H c = some u → H0 c = Option.none → upd H0 L o c = Option.none := fun {c u} hc h0 => by
    rw [Zc (yd hc hL)]
    exact h0
  refine ⟨fun c u e => ?_, nf h.ob h.fa, nf h.so h.fst, nf h.po h.fpl, nf h.go h.fgv, h.n1, h.n2, h.n3, r.ob, r.vo, r.vs, r.so, r.po, r.ps, r.go⟩
  by_cases hc : c = L
  · subst hc
    rw [Ja] at e ⊢
    exact e
  · rw [Zc hc] at e ⊢
    exact h.sm _ _ e
theorem zfr (T : Txt K mg A) (n : Nat) (kn : Bool) : Zf P w K mg base CX0 3 A.zM A.Jbo ["self", "number", "sheet"] (Zbn A (.fulfil n kn)) := by
  have zdq : Zf P w K mg base CX0 2 A.yN A.jaT ["self", "number"] (Jc4 A) := Zeq T
  refine T.JdS.ok Ydy (fun vs H Q E h => ?_) (fun cdv B outer s H vs Q E hr h => ?_)
  · obtain ⟨_, _, _, _, _, _, _, _, _, rfl, _⟩ := h
    rfl
  · have hu := jcD hr
    obtain ⟨H0, i, sv, void, evs, f, q, s, x', rfl, hx', ha, its, hS, hO, h40, hs, hf, k⟩ := h
    obtain ⟨sa, dx, vd, st, pl, gv, kvv, ys, rfl, r⟩ := id hS
    have hE : ZbD A H0 (esF evs i) x'.day x'.act (.int x'.now) := its.at hx'
    rw [ha] at hE
    obtain ⟨e, edx, hve, hE⟩ := hE
    have g1 : Fld K H0 (esF evs i) "noted" (.int n) := ⟨e, _, edx, _, hve, hE, T.jbu, T.jE, rfl⟩
    obtain ⟨f1, f2, f3, f4, f5, f6⟩ := r.fld T
    have hm := hs n (List.mem_singleton.mpr rfl)
    obtain ⟨gg, hy⟩ := hf n kn rfl
    obtain ⟨x, hx, hgx, hpx⟩ := Yfl hy
    have hN := its.at hx
    have hl := hO.len
    have hpl := hO.pl
    refine ⟨_, (Yc (Zu (K := K) rfl (pv 2) (Jc (K := K) rfl (jdn hu (Jc (K := K) rfl (pv 2) rfl) (Jc (K := K) rfl (pv 0) rfl) (fun _ _ => rfl)) rfl) rfl) (jb (Zdn PassesOwn.never rfl (yaH (K := K) rfl (zf4 (zfC rfl) (by rfl) T.JgM ZfC (Za (Jc (K := K) rfl (pv 2) rfl) yc))) (jai (i := 3) Ydy.nd rfl (by first | exact Or.inl rfl | exact Or.inr rfl)) (jb (JN (PW.pt (pw_and (Yq jhb (pv 3) (Jc (K := K) rfl (pv 0) rfl) (jm _)) (pw_and1 (Yby (zu (ze4 (K := K) rfl) (by rfl) T.zW zA (Za (jdn hu (Jc (K := K) rfl (pv 2) rfl) (pv 3) (fun _ _ => rfl)) (Za (ze3 (Za (jg (v := .ref A.jc) (by rfl) T.jb3 rfl) (Za (jg (v := .ref A.Zd) (by rfl) T.ZcC rfl) yc))) yc))))))) (jb (yD (j8 (pv 2) T.Yn T.Jdo zdq (hr.mono (by decide)) T.ydo .nil Jh (Za (pv 3) yc)))) Zo))))), ?_⟩
    refine ⟨_, rfl, f4.rd ⟨_, rfl, (g1.same r.sm).rd ⟨st, esF evs n, rfl, ?_, ?_⟩⟩⟩
    · have := Jby.k (H := H) (a := st) (k := Sum.inl (n : Int)) r.so
      rw [yas, if_pos hm] at this
      exact this
    refine ((Yas T hN hpx).same r.sm).rd ⟨_, rfl, sa, _, dx, _, rfl, r.ob, T.Yn, T.yw, (by show (6 : Nat) < 1000; decide), ?_⟩
    have r1 := r.obj (s' := { s with reg := x'.now }) rfl rfl rfl
    obtain ⟨j1, j2, j3, j4, j5, j6⟩ := r1.fld T
    refine ⟨_, rfl, j4.rd ⟨st, _, rfl, r1.so, fun L hL => ?_⟩⟩
    rw [YgO]
    have r2 := r1.beside (o := .lst (s.std.map fun (e : Nat) => V.int (e : Int))) hL
    have hL0 : H0 L = Option.none := r1.sm.free hL
    have sL : Yu H0 (upd H0 L (.lst (s.std.map fun (e : Nat) => V.int (e : Int)))) := Jd hL0
    have nd : s.std.Nodup := hO.up.imp fun h => Nat.ne_of_lt h
    refine ⟨L, rfl, ⟨_, SqL.of Ja⟩, Ycz (K := K) (a := L) (xs := s.std.map fun (e : Nat) => V.int (e : Int)) (fun j σ H' => (∃ v3, σ = [some (esF evs i), some (.int i), some (.ref sa), v3]) ∧ Ybh A (upd H0 L (.lst (s.std.map fun (e : Nat) => V.int (e : Int)))) H' (.ref sa) void (esF evs) (({ s with reg := x'.now } : Sh).drop fun z => (s.std.take j).contains z && (decide (n ≤ z) && Yej f.items z))) ?_ (fun j σ H' _ h => ?_) ?_ ?_⟩
    · refine ⟨⟨_, rfl⟩, ?_⟩
      have e1 : ({ s with reg := x'.now } : Sh).drop (fun z => (s.std.take 0).contains z && (decide (n ≤ z) && Yej f.items z)) = { s with reg := x'.now } := zg6 _
      rw [e1]
      exact ⟨sa, dx, vd, st, pl, gv, kvv, ys, rfl, r2⟩
    · obtain ⟨_, _, _, _, _, _, _, _, _, _, rr⟩ := h
      exact SqL.of (rr.sm _ _ Ja)
    · rintro j v σ H' hv ⟨⟨v3, rfl⟩, hS'⟩
      rw [List.getElem?_map] at hv
      obtain ⟨z, hz, e1⟩ := Option.map_eq_some_iff.mp hv
      subst e1
      have hzm : z ∈ s.std := List.mem_of_getElem? hz
      have hzt : (s.std.take j).contains z = false := by
        cases hc : (s.std.take j).contains z with
        | false => rfl
        | true =>
          exfalso
          obtain ⟨m, hm1, hm2⟩ := List.getElem_of_mem (List.contains_iff_mem.mp hc)
          have hm3 : m < j := by rw [List.length_take] at hm1; omega
          have hm4 : s.std[m]? = some z := by
            rw [List.getElem_take] at hm2
            rw [← hm2]
            exact List.getElem?_eq_getElem _
          have := (List.getElem?_inj (by rw [List.length_take] at hm1; omega) nd).mp (hm4.trans hz.symm)
          omega
      obtain ⟨sa', dx', vd', st', pl', gv', kvv', ys', e2, r'⟩ := id hS'
      cases e2
      obtain ⟨j1, j2, j3, j4, j5, j6⟩ := r'.fld T
      have hin : z ∈ (({ s with reg := x'.now } : Sh).drop fun z => (s.std.take j).contains z && (decide (n ≤ z) && Yej f.items z)).std := by
        refine List.mem_filter.mpr ⟨hzm, ?_⟩
        show (!((s.std.take j).contains z && (decide (n ≤ z) && Yej f.items z))) = true
        rw [hzt]
        rfl
      have step : ∀ b : Bool, b = (decide (n ≤ z) && Yej f.items z) → (if b = true then (({ s with reg := x'.now } : Sh).drop fun z => (s.std.take j).contains z && (decide (n ≤ z) && Yej f.items z)).drop (fun e => e == z) else (({ s with reg := x'.now } : Sh).drop fun z => (s.std.take j).contains z && (decide (n ≤ z) && Yej f.items z))) = (({ s with reg := x'.now } : Sh).drop fun z => (s.std.take (j + 1)).contains z && (decide (n ≤ z) && Yej f.items z)) := by
        intro b hb
        have ct : ∀ y, (s.std.take (j + 1)).contains y = ((s.std.take j).contains y || y == z) := fun y => by
          rw [Zas hz, List.contains_eq_any_beq, List.contains_eq_any_beq, List.any_append]
          simp [Bool.beq_comm]
        have pt : ∀ y, ((s.std.take (j + 1)).contains y && (decide (n ≤ y) && Yej f.items y)) = (((s.std.take j).contains y && (decide (n ≤ y) && Yej f.items y)) || (b && y == z)) := fun y => by
          rw [ct]
          by_cases hyz : y = z
          · subst hyz
            rw [hzt, hb]
            simp
          · have e3 : (y == z) = false := by simpa using hyz
            rw [e3]
            simp
        cases b with
        | true =>
          rw [if_pos rfl, drop_drop]
          refine zeB (fun y _ => ?_) (fun p _ => ?_)
          · rw [pt]; simp
          · rw [pt]; simp
        | false =>
          rw [if_neg (by simp)]
          refine zeB (fun y _ => ?_) (fun p _ => ?_)
          · rw [pt]; simp
          · rw [pt]; simp
      refine ⟨_, rfl, _, rfl, ((g1.same sL).same r'.sm).rd ⟨_, _, rfl, rfl, _, rfl, ?_⟩⟩
      have e4 : decide ((n : Int) ≤ (z : Int)) = decide (n ≤ z) := jgO
      rw [e4]
      refine br (fun h1 => ?_) (fun h1 => ?_)
      · refine ⟨_, rfl, j4.rd ⟨_, rfl, st', esF evs z, rfl, ?_, (by show 2 ≤ sizeLine; decide), fun tp htp => ?_⟩⟩
        · have := Jby.k (H := H') (a := st') (k := Sum.inl (z : Int)) r'.so
          rw [yas, if_pos hin] at this
          exact this
        have s3 := Jd (o := .tup [.ref A.jc, .ref A.Zd]) htp
        obtain ⟨t, ty, kd⟩ := Yb6 T (its.same ((sL.trans r'.sm).trans s3)) z
        refine ⟨_, tp, [A.jc, A.Zd], t, _, rfl, Ja, ty, YbD kd.c (YbD kd.n Ygi), _, rfl, ?_⟩
        have e5 : (kC (Zag f.items z) || (kN (Zag f.items z) || false)) = Yej f.items z := by rw [JhC, Bool.or_false]
        rw [e5]
        refine br (fun h2 => ?_) (fun h2 => ?_)
        · refine ⟨_, rfl, sa, dx', _, rfl, (r'.same s3).ob, rfl, _, rfl, _, _, z, void, esF evs, _, rfl, hS'.same s3, hin, ?_, fun H'' hS'' => ?_⟩
          · exact Nat.le_trans (List.length_filter_le _ _) (by show s.pls.length ≤ 1000; omega)
          · refine ⟨⟨_, rfl⟩, ?_⟩
            have st1 := step true (by rw [h1, h2]; rfl)
            rw [if_pos rfl] at st1
            rw [← st1]
            exact hS''
        · refine ⟨⟨_, rfl⟩, ?_⟩
          have st1 := step false (by rw [h1, h2]; rfl)
          rw [if_neg (by simp)] at st1
          rw [← st1]
          exact hS'.same s3
      · refine ⟨⟨_, rfl⟩, ?_⟩
        have st1 := step false (by rw [h1]; rfl)
        rw [if_neg (by simp)] at st1
        rw [← st1]
        exact hS'
    · rintro σ H' ⟨⟨v3, rfl⟩, hS'⟩
      rw [List.length_map, List.take_length] at hS'
      refine k H' ?_
      have e6 : (({ s with reg := x'.now } : Sh).drop fun z => s.std.contains z && (decide (n ≤ z) && Yej f.items z)) = s.enter f.items i (.fulfil n kn) x'.now := by
        show _ = ({ s with reg := x'.now } : Sh).drop _
        refine zeB (fun y hy => ?_) (fun p hp => ?_)
        · rw [List.contains_iff_mem.mpr hy]; rfl
        · rw [List.contains_iff_mem.mpr (hO.pin p hp).1]; rfl
      rw [← e6]
      exact hS'.weaken sL
theorem ZgP (T : Txt K mg A) (a : Act) : JfB P w K mg base CX0 3 "enter" (clsOf A a) (Zbn A a) := by
  refine ⟨ybD T a, ?_⟩
  cases a with
  | transfer => exact ⟨_, _, _, T.ydd, (zeP T _ _ _ _).mono (by decide), T.jdc⟩
  | charge => exact ⟨_, _, _, T.YdV, (jfq T _ _ _ _ _).mono (by decide), T.ydS⟩
  | notice => exact ⟨_, _, _, T.jdV, (Yfq T _ _ _ _).mono (by decide), T.jdS⟩
  | fulfil => exact ⟨_, _, _, T.JdV, (zfr T _ _).mono (by decide), T.zdT⟩
  | objection => exact ⟨_, _, _, T.ycR, (zeC T _ _).mono (by decide), T.YcP⟩
  | strike => exact ⟨_, _, _, T.zdW, (Jfq T _ _).mono (by decide), T.ydT⟩
  | ahead => exact ⟨_, _, _, T.yep, (jfJ T _ _).mono (by decide), T.Zeo⟩
  | correct => exact ⟨_, _, _, T.ydA, (Ze8 T _).mono (by decide), T.Jdy⟩
  | void_ => exact ⟨_, _, _, T.jeL, (YfJ T _).mono (by decide), T.Jem⟩
end
end Lr
namespace Lr
open PySem hiding Act
open PySem.Spec
open PyProof.Rows hiding St
open L2
open Sy33 (Act Item File bit noticeOf holder voids plotOf isCharge about actOk before_ DAY)
theorem ygP (l : List Item) (x : Item) (k : Nat) : voids (l ++ [x]) k = voids l k ++ (match x.act with
    | .void_ n => if x.day ≤ k then [n] else []
    | _ => []) := by
  unfold voids
  rw [List.filterMap_append]
  congr 1
  cases ha : x.act with
  | void_ n =>
    by_cases h : x.day ≤ k
    · simp [ha, h]
    · simp [ha, h]
  | _ => simp [ha]
section
variable {P : Program} {w : World} {K : PySem.W.Frag} {mg : Str → Option Value} {base : Heap} {A : Adr}
def jhx (A : Adr) : Sp := fun vs H Q _ => ∃ (H0 : Hp) (i : Nat) (sv : V) (void : List Nat) (evs : List V) (f : File) (q : Nat) (s : Sh) (x : Item), vs = [sv, .int i, esF evs i] ∧ WF f ∧ f.items[i]? = some x ∧ yaX A H0 evs f.items ∧ Ybh A H0 H sv void (esF evs) s ∧ ShOk f q i s ∧ i ≤ 40 ∧
  (∀ e ∈ zfl x.act, e ∈ s.std) ∧ ∀ H' : Hp, Ybh A H0 H' sv void (esF evs) (s.go f.items void i x) → Q .non H'
theorem jej (T : Txt K mg A) : Zf P w K mg base CX0 4 A.jq A.jah ["self", "number", "entry"] (jhx A) := by
  refine T.jcB.ok yej (fun vs H Q E h => ?_) (fun cdv B outer s H vs Q E hr h => ?_)
  · obtain ⟨_, _, _, _, _, _, _, _, _, rfl, _⟩ := h
    rfl
  · have hu := jcD hr
    obtain ⟨H0, i, sv, void, evs, f, q, s, x, rfl, hW, hx, its, hS, hO, h40, hs, k⟩ := h
    obtain ⟨sa, dx, vd, st, pl, gv, kvv, ys, rfl, r⟩ := id hS
    obtain ⟨f1, f2, f3, f4, f5, f6⟩ := r.fld T
    obtain ⟨e, edx, hve, hE0⟩ := its.at hx
    have z := (hW.ok i x hx).2
    have hf : ∀ n b, x.act = .fulfil n b → ∃ g, noticeOf f.items n = some (g, x.now) := fun n b ha => by
      rw [ha] at z
      obtain ⟨_, _, g, p, h1, h2⟩ := z
      exact ⟨g, by rw [h1, h2]⟩
    refine ⟨_, (Yc (JN (je2 (jed hu (pv 1) (Jc (K := K) rfl (pv 0) rfl))) (jb (yD (jax (P := P) (w := w) (K := K) (mg := mg) (base := base) (k := 3) (CX := CX0) ⟨rfl, rfl, rfl, rfl, rfl⟩ (pv 2) (hr.mono (by decide)) Jh (Za (pv 1) (Za (pv 0) yc))))) Zo) (jb (yD (jax (P := P) (w := w) (K := K) (mg := mg) (base := base) (k := 3) (CX := CX0) ⟨rfl, rfl, rfl, rfl, rfl⟩ (pv 2) (hr.mono (by decide)) Jh (Za (pv 1) (Za (pv 0) yc)))))), ?_⟩
    refine ⟨_, rfl, _, rfl, f3.rd ⟨vd, _, rfl, Jby.k (k := Sum.inl (i : Int)) r.vo, _, rfl, ?_⟩⟩
    rw [r.vs]
    unfold Sh.go at k
    have fin : ∀ (H1 : Hp) (s1 : Sh), Ybh A H0 H1 (.ref sa) void (esF evs) s1 → StOk f q i s1 → s1.std = s.std → (∀ H' : Hp, Ybh A H0 H' (.ref sa) void (esF evs) (s1.enter f.items i x.act x.now) → Q .non H') →
        Zhf P w K mg base CX0 3 "enter" E0 (zha 2) (Zhc (zha 1) (Zhc (zha 0) yhp)) [some (.ref sa), some (.int i), some (esF evs i)] H1 (fun _ H' => Q .non H') := fun H1 s1 hS1 hO1 he1 k1 => by
      obtain ⟨_, _, _, _, _, _, _, _, _, rr⟩ := id hS1
      exact ⟨_, rfl, e, _, edx, _, _, hve, rr.sm _ _ hE0, ZgP T x.act, (JbD _ _ _).2.2.2.2.2.2.2.2, _, rfl, _, rfl, H0, i, _, void, evs, f, q, s1, x, rfl, hx, rfl, its, hS1, hO1, h40, fun e he => by rw [he1]; exact hs e he, hf, k1⟩
    refine br (fun h => ?_) (fun h => ?_)
    · have hv : void.contains i = false := by simpa using h
      rw [if_neg (by rw [hv]; simp)] at k
      obtain ⟨e1, e2⟩ := ZgO f.items i x.act s
      refine ⟨_, rfl, e, _, edx, _, _, hve, r.sm _ _ hE0, ZgD T x.act, (JbD _ _ _).2.2.2.2.2.2.2.1, _, rfl, _, rfl, H0, _, x.day, _, i, _, void, evs, f, q, s, rfl, (its.at hx).same r.sm, its, hS, hO, h40, fun n b ha => ⟨hs n (by rw [ha]; exact List.mem_singleton.mpr rfl), let ⟨g, hg⟩ := hf n b ha; ⟨_, hg⟩⟩, fun H1 hS1 => ?_⟩
      exact fin H1 _ hS1 (hO.toStOk.congr e1 e2) e1 k
    · have hv : void.contains i = true := by simpa using h
      rw [if_pos hv] at k
      exact fin H s hS hO.toStOk rfl k
structure BkR (A : Adr) (H : Hp) (b : Addr) (f : File) (dx oa ea : Addr) (es : List V) : Prop where
  ob : H b = some (.ins A.JC dx [("persons", .int f.persons), ("owners", .ref oa), ("entries", .ref ea)])
  oo : H oa = some (.lst (f.owners.map fun (n : Nat) => V.int (n : Int)))
  eo : H ea = some (.lst es)
  its : yaX A H es f.items
theorem BkR.same {H H' : Hp} {b : Addr} {f : File} {dx oa ea : Addr} {es : List V} (h : BkR A H b f dx oa ea es) (s : Yu H H') : BkR A H' b f dx oa ea es := ⟨s _ _ h.ob, s _ _ h.oo, s _ _ h.eo, h.its.same s⟩
theorem BkR.fld (T : Txt K mg A) {H : Hp} {b : Addr} {f : File} {dx oa ea : Addr} {es : List V} (h : BkR A H b f dx oa ea es) : Fld K H (.ref b) "persons" (.int f.persons) ∧ Fld K H (.ref b) "owners" (.ref oa) ∧ Fld K H (.ref b) "entries" (.ref ea) :=
  ⟨⟨b, _, dx, _, rfl, h.ob, T.Zab, T.jac, rfl⟩, ⟨b, _, dx, _, rfl, h.ob, T.Zab, T.jan, rfl⟩, ⟨b, _, dx, _, rfl, h.ob, T.Zab, T.Jac, rfl⟩⟩
def ydg (A : Adr) : Sp := fun vs H Q _ => ∃ (b : Addr) (f : File) (dx oa ea : Addr) (es : List V) (k : Nat), vs = [.ref b, .int k] ∧ BkR A H b f dx oa ea es ∧ f.items.length ≤ 40 ∧ ∀ (H' : Hp) (d : Addr) (kvv : List (Key × V)), Yu H H' → H d = Option.none → H' d = some (.dK kvv) → (∀ e : Nat, (ja0 kvv (Sum.inl (e : Int))).isSome = (voids f.items k).contains e) → Q (.ref d) H'
theorem jhl (kvs : List (Key × V)) (k : Key) (v : V) : (putK kvs k v).length ≤ kvs.length + 1 := by
  unfold putK
  split
  · rw [List.length_map]; omega
  · rw [List.length_append]; exact Nat.le_refl _
theorem ZdL (T : Txt K mg A) : Zf P w K mg base CX0 1 A.Ym A.J2 ["self", "known"] (ydg A) := by
  refine T.yb3.ok yaU (fun vs H Q E h => ?_) (fun cdv B outer s H vs Q E hr h => ?_)
  · obtain ⟨_, _, _, _, _, _, _, rfl, _⟩ := h
    rfl
  · have hu := jcD hr
    obtain ⟨b, f, dx, oa, ea, es, k, rfl, hB, h40, q⟩ := h
    have hlen := jee hB.its
    refine ⟨_, (Yc (jab (i := 2) yaU.nd rfl (by first | exact Or.inl rfl | exact Or.inr rfl) zeI) (Yc (Zdn PassesOwn.never rfl (yaH (K := K) rfl (Jc (K := K) rfl (pv 0) rfl)) (jai (i := 3) yaU.nd rfl (by first | exact Or.inl rfl | exact Or.inr rfl)) (jb (JN (PW.pt (pw_and (Yby (zu (ZbU (K := K) rfl) (by rfl) T.zW zA (Za (pv 3) (Za (jg (v := .ref A.yg) (by rfl) T.jgM rfl) yc)))) (pw_and1 (Yq yem (Jc (K := K) rfl (pv 3) rfl) (pv 1) (jm _))))) (jb (Zfx hu (pv 2) (Jc (K := K) rfl (pv 3) rfl) JdN rfl)) Zo))) (jb (yf (pv 2))))), ?_⟩
    refine fun d hd => ?_
    have s1 := Jd (o := .dK []) hd
    obtain ⟨f1, f2, f3⟩ := (hB.same s1).fld T
    refine ⟨_, rfl, f3.rd ⟨ea, rfl, ⟨_, SqL.of (hB.same s1).eo⟩, Ycz (K := K) (a := ea) (xs := es) (fun j σ H' => ∃ (v3 : Option V) (kvv : List (Key × V)), σ = [some (.ref b), some (.int k), some (.ref d), v3] ∧ Yu H H' ∧ H' d = some (.dK kvv) ∧ kvv.length ≤ j ∧ ∀ e : Nat, (ja0 kvv (Sum.inl (e : Int))).isSome = (voids (f.items.take j) k).contains e) ⟨_, _, rfl, s1, Ja, Nat.le_refl _, fun e => rfl⟩ (fun j σ H' _ ⟨_, _, _, sH, _⟩ => SqL.of (hB.same sH).eo) ?_ ?_⟩⟩
    · rintro j v σ H' hv ⟨v3, kvv, rfl, sH, hk, hkl, hvo⟩
      obtain ⟨x, hx, r⟩ := Paired.get hB.its hv
      have r' := ZbD.same r sH
      obtain ⟨t, ty, kd⟩ := ygC T r'
      have hj : j < es.length := (List.getElem?_eq_some_iff.mp hv).1
      refine jgh (c := kW (some x.act)) (d := decide ((x.day : Int) ≤ (k : Int))) (fun R z => ⟨_, rfl, _, _, t, _, rfl, ty, kd.w, _, rfl, z⟩) (fun _ R z => ⟨_, rfl, (Ydp T r').rd ⟨_, rfl, _, _, rfl, rfl, _, rfl, z⟩⟩) ?_
      rw [jgO]
      have vt : voids (f.items.take (j + 1)) k = voids (f.items.take j) k ++ (match x.act with
        | .void_ n => if x.day ≤ k then [n] else []
        | _ => []) := by rw [Zas hx, ygP]
      refine br (fun h => ?_) (fun h => ?_)
      · rw [Bool.and_eq_true] at h
        obtain ⟨n, ha⟩ : ∃ n, x.act = .void_ n := by
          have h1 := h.1
          cases ha : x.act with
          | void_ n => exact ⟨n, rfl⟩
          | _ => rw [ha] at h1; cases h1
        have hd2 := of_decide_eq_true h.2
        rw [ha] at r' vt
        obtain ⟨e, edx, rfl, hE⟩ := r'
        refine ⟨_, rfl, _, rfl, Fld.rd (u := .int n) ⟨e, _, edx, _, rfl, hE, T.JcR, T.zT, rfl⟩ ⟨d, _, rfl, Jgf.k (k := Sum.inl (n : Int)) hk (Nat.lt_of_le_of_lt (show _ ≤ 100 by omega) (by decide)), ?_⟩⟩
        refine ⟨_, _, rfl, fun c u e1 => ?_, Ja, Nat.le_trans (jhl _ _ _) (by omega), fun y => ?_⟩
        · rw [Zc (yd e1 hd)]
          exact sH _ _ e1
        · rw [vt]
          dsimp only
          rw [if_pos hd2, Yhd]
          by_cases hy : y = n
          · subst hy
            rw [if_pos rfl]
            symm
            rw [show (some (V.bl true)).isSome = true from rfl, List.contains_iff_mem]
            exact List.mem_append_right _ (List.mem_singleton.mpr rfl)
          · rw [if_neg (key_ne hy), hvo]
            rw [Bool.eq_iff_iff, List.contains_iff_mem, List.contains_iff_mem, List.mem_append, List.mem_singleton]
            exact ⟨.inl, fun z => z.elim id fun z => absurd z hy⟩
      · refine ⟨_, kvv, rfl, sH, hk, by omega, fun y => ?_⟩
        rw [hvo, vt]
        have e5 : (match x.act with
          | .void_ n => if x.day ≤ k then [n] else []
          | _ => []) = ([] : List Nat) := by
          cases ha : x.act with
          | void_ n =>
            rw [ha] at h
            have h2 : decide (x.day ≤ k) = false := h
            dsimp only
            rw [if_neg (of_decide_eq_false h2)]
          | _ => rfl
        rw [e5, List.append_nil]
    · rintro σ H' ⟨v3, kvv, rfl, sH, hk, hkl, hvo⟩
      rw [hlen, List.take_length] at hvo
      exact ⟨_, rfl, q H' d kvv sH hd hk hvo⟩
def ZcT (A : Adr) : Sp := fun vs H Q _ => ∃ (b : Addr) (f : File) (dx oa ea : Addr) (es : List V) (q d k : Nat), vs = [.ref b, .int q, .int d, .int k] ∧ BkR A H b f dx oa ea es ∧ WF f ∧ AB f ∧ q < f.owners.length ∧ ∀ (H' : Hp) (v : V), Ybh A H H' v (voids f.items k) (esF es) (zaj f q d k) → Q v H'
theorem ZbV (T : Txt K mg A) : Zf P w K mg base CX0 5 A.Jt A.Y4 ["self", "plot", "day", "known"] (ZcT A) := by
  have zgj : Zf P w K mg base CX0 1 A.yU A.jbl ["self", "owner", "void"] (zeq A) := yfW T
  have ZeC : Zf P w K mg base CX0 4 A.jq A.jah ["self", "number", "entry"] (jhx A) := jej T
  have ydY : Zf P w K mg base CX0 1 A.Ym A.J2 ["self", "known"] (ydg A) := ZdL T
  refine T.Ydz.ok jba (fun vs H Q E h => ?_) (fun cdv B outer s H vs Q E hr h => ?_)
  · obtain ⟨_, _, _, _, _, _, _, _, _, rfl, _⟩ := h
    rfl
  · obtain ⟨b, f, dx, oa, ea, es, q, d, k, rfl, hB, hW, hA, hq, kk⟩ := h
    obtain ⟨f1, f2, f3⟩ := hB.fld T
    have h40 := hW.n
    have hlen := jee hB.its
    obtain ⟨n, hn, hday, hon⟩ := upto hW d
    have hown : (f.owners.map fun (n : Nat) => V.int (n : Int))[q]? = some (.int (Sy33.ownerAt f.owners q : Nat)) := by
      rw [List.getElem?_map, List.getElem?_eq_getElem hq]
      show some (V.int _) = some (V.int _)
      rw [show Sy33.ownerAt f.owners q = f.owners[q] from by unfold Sy33.ownerAt; rw [ZcS, List.getElem?_eq_getElem hq]; rfl]
    refine ⟨_, (Yc (jab (i := 4) jba.nd rfl (by first | exact Or.inl rfl | exact Or.inr rfl) (YbX T.Zde zgj (hr.mono (by decide)) (by rfl) T.jgV T.jeK .nil Jh (Za (Jj (Ye (K := K) rfl) (Jc (K := K) rfl (pv 0) rfl) (pv 1) (fun _ _ => rfl)) (Za (j8 (pv 0) T.Zab T.jb5 ydY (hr.mono (by decide)) T.Yb3 .nil Jh (Za (pv 3) yc)) yc)))) (Yc (Zdn PassesOwn.never rfl (jhr (by rfl) T.jfk (Za (Jc (K := K) rfl (pv 0) rfl) yc)) (yha rfl (JeG (jai (i := 5) jba.nd rfl (by first | exact Or.inl rfl | exact Or.inr rfl)) (JeG (jai (i := 6) jba.nd rfl (by first | exact Or.inl rfl | exact Or.inr rfl)) JgS))) (jb (JN (PW.pt (pw_and (Yq yem (Jc (K := K) rfl (pv 6) rfl) (pv 2) (jm _)) (pw_and1 (Yq ZaL (jax (P := P) (w := w) (K := K) (mg := mg) (base := base) (k := 2) (CX := CX0) ⟨rfl, rfl, rfl, rfl, rfl⟩ (pv 6) (hr.mono (by decide)) Jh (Za (Jc (K := K) rfl (pv 0) rfl) yc)) (pv 1) (jm _))))) (jb (yD (j8 (pv 4) T.Yn T.ycD ZeC (hr.mono (by decide)) T.JcB .nil Jh (Za (pv 5) (Za (pv 6) yc))))) Zo))) (jb (yf (pv 4))))), ?_⟩
    refine ⟨_, rfl, f2.rd ⟨_, rfl, .inl ⟨oa, _, _, _, rfl, rfl, SqL.of hB.oo, Ydn hown, ?_⟩⟩⟩
    refine ⟨_, rfl, b, dx, _, rfl, hB.ob, rfl, _, rfl, b, f, dx, oa, ea, es, k, rfl, hB, h40, fun H1 vd kvv s1 hvd hvo hvs => ?_⟩
    intro sa sdx hsa hsdx hne
    have s2 : Yu H1 (upd (upd H1 sdx (.own sa)) sa (.ins A.Jk sdx [])) := (Jd hsdx).jG hsa
    refine ⟨H, sa, sdx, vd, Sy33.ownerAt f.owners q, kvv, voids f.items k, esF es, rfl, s1.trans s2, s1.free hsa, Ja, s2 _ _ hvo, hvs, fun H2 hS2 => ⟨rfl, ?_⟩⟩
    rw [← jg5 f (voids f.items k) hq] at hS2
    have sm2 : Yu H H2 := by obtain ⟨_, _, _, _, _, _, _, _, _, r⟩ := hS2; exact r.sm
    obtain ⟨g1, g2, g3⟩ := (hB.same sm2).fld T
    refine ⟨_, rfl, g3.rd ⟨ea, es, rfl, SqL.of (hB.same sm2).eo, ZgY f.items.length (fun j σ H' => (∃ v5 v6, σ = [some (.ref b), some (.int q), some (.int d), some (.int k), some (.ref sa), v5, v6]) ∧ Ybh A H H' (.ref sa) (voids f.items k) (esF es) (JgA f (voids f.items k) q (min j n))) ⟨⟨_, _, rfl⟩, by rw [Nat.zero_min]; exact hS2⟩ ?_ ?_ ?_ ?_⟩⟩
    · rintro j σ H' hj ⟨_, hS⟩
      obtain ⟨_, _, _, _, _, _, _, _, _, r⟩ := hS
      exact ⟨es, es[j], SqL.of (hB.same r.sm).eo, List.getElem?_eq_getElem (by omega)⟩
    · rintro σ H' ⟨_, hS⟩
      obtain ⟨_, _, _, _, _, _, _, _, _, r⟩ := hS
      exact ⟨es, SqL.of (hB.same r.sm).eo, by omega⟩
    · rintro j v σ H' H'' hj ⟨⟨v5, v6, rfl⟩, hS⟩ ⟨tp, ev, rfl, htp, rfl, hev⟩
      have sm : Yu H H' := by obtain ⟨_, _, _, _, _, _, _, _, _, r⟩ := hS; exact r.sm
      have hev := hev es (SqL.of (hB.same sm).eo)
      obtain ⟨x, hx, hxe⟩ := Paired.get hB.its hev
      have hev2 : ev = esF es j := by unfold esF; rw [hev]; rfl
      subst hev2
      have s3 := Jd (o := .tup [.int (j : Nat), esF es j]) htp
      have hS3 := hS.same s3
      have sm3 := sm.trans s3
      have hB3 := hB.same sm3
      obtain ⟨g1, g2, g3⟩ := hB3.fld T
      refine ⟨tp, _, rfl, SqT.of Ja, rfl, _, _, rfl, _, _, rfl, rfl, ?_⟩
      have hx3 := ZbD.same hxe sm3
      obtain ⟨e, edx, hve, hE⟩ := id hx3
      refine jgh (c := decide ((x.day : Int) ≤ (d : Int))) (d := decide (V.int (x.plot : Int) = V.int (q : Int))) (fun R z => ⟨_, rfl, (Ydp T hx3).rd ⟨_, rfl, _, _, rfl, rfl, _, rfl, z⟩⟩)
        (fun _ R z => ⟨_, rfl, e, _, edx, _, _, hve, hE, zga T x.act, (JbD _ _ _).2.2.2.2.1, _, rfl, g3.rd ⟨_, x.day, _, ea, es, f, x.plot, rfl, hx3, SqL.of hB3.eo, hB3.its, hW, hA, hA j x hx, _, rfl, rfl, _, rfl, z⟩⟩) ?_
      rw [jgO, ybc]
      have hsucc := Jg5 hW (voids f.items k) hq hx
      refine br (fun h => ?_) (fun h => ?_)
      · rw [Bool.and_eq_true] at h
        have hjn := (hday j x hx).mp (of_decide_eq_true h.1)
        have hpq := eq_of_beq h.2
        rw [Nat.min_eq_left (Nat.le_of_lt hjn)] at hS3
        rw [if_pos hpq] at hsucc
        have so := hW.Yhj (voids f.items k) hq (Nat.le_trans (Nat.le_of_lt hjn) hn)
        obtain ⟨sa', sdx', vd', st', pl', gv', kvv', ys', e1, r'⟩ := id hS3
        cases e1
        refine ⟨_, rfl, sa, sdx', _, rfl, r'.ob, rfl, _, rfl, _, rfl, H, j, _, voids f.items k, es, f, q, _, x, rfl, hW, hx, hB.its, hS3, so, by omega, fun e he => ?_, fun H4 hS4 => ?_⟩
        · have h1 := hW.std j x hx e he
          refine List.mem_filter.mpr ⟨by rw [JeA]; exact h1, ?_⟩
          have hz := (hW.ok j x hx).2
          have : plotOf f.items e = x.plot := by
            cases ha : x.act with
            | fulfil n b => rw [ha] at he hz; rw [List.mem_singleton.mp he]; exact hz.2.1
            | strike n b => rw [ha] at he hz; rw [List.mem_singleton.mp he]; exact hz.2.1
            | ahead y z =>
              rw [ha] at he hz
              rcases List.mem_cons.mp he with e2 | he
              · rw [e2]; exact hz.2.2.2.2.2.1
              · rw [List.mem_singleton.mp he]; exact hz.2.2.2.2.2.2.1
            | _ => rw [ha] at he; cases he
          rw [this, hpq]
          exact beq_self_eq_true q
        · refine ⟨⟨_, _, rfl⟩, ?_⟩
          rw [Nat.min_eq_left hjn, hsucc]
          exact hS4
      · refine ⟨⟨_, _, rfl⟩, ?_⟩
        by_cases hjn : j < n
        · rw [Nat.min_eq_left (Nat.le_of_lt hjn)] at hS3
          have hd := decide_eq_true ((hday j x hx).mpr hjn)
          rw [hd, Bool.true_and] at h
          rw [if_neg (by simpa using h)] at hsucc
          rw [Nat.min_eq_left hjn, hsucc]
          exact hS3
        · rw [Nat.min_eq_right (by omega)] at hS3 ⊢
          exact hS3
    · rintro σ H' ⟨⟨v5, v6, rfl⟩, hS⟩
      rw [Nat.min_eq_right hn] at hS
      refine ⟨_, rfl, kk H' _ ?_⟩
      unfold zaj
      rw [hon]
      exact hS
end
end Lr
namespace Lr
open PySem hiding Act
open PySem.Spec
open PyProof.Rows hiding St
open L2
open Sy33 (Act Item File bit noticeOf holder voids plotOf isCharge about actOk before_ DAY may today becomes step ownerAt)
def refuse (f : File) (d : Nat) (a : Act) : Int := if DAY < d ∨ actOk f a = false then -1 else match about f a with
  | none => -2
  | some plot => if d < today f then -4 else if may f f.now.1 plot a = false then -6 else if Sy33.ITEMS ≤ f.items.length then -5 else 0
theorem Zdq {f : File} {d : Nat} {a : Act} (h : refuse f d a ≠ 0) : step f (.act d a) = (f, Sy33.ok (refuse f d a)) := by
  unfold refuse at h ⊢
  show (if DAY < d ∨ actOk f a = false then (f, Sy33.ok (-1)) else _) = _
  by_cases h1 : DAY < d ∨ actOk f a = false
  · rw [if_pos h1, if_pos h1]
  · rw [if_neg h1] at h ⊢
    rw [if_neg h1]
    cases h2 : about f a with
    | none => rfl
    | some plot =>
      rw [h2] at h
      dsimp only at h ⊢
      by_cases h3 : d < today f
      · rw [if_pos h3, if_pos h3]
      · rw [if_neg h3] at h ⊢
        rw [if_neg h3]
        by_cases h4 : may f f.now.1 plot a = false
        · rw [if_pos h4, if_pos h4]
        · rw [if_neg h4] at h ⊢
          rw [if_neg h4]
          by_cases h5 : Sy33.ITEMS ≤ f.items.length
          · rw [if_pos h5, if_pos h5]
          · rw [if_neg h5] at h
            exact absurd rfl h
theorem ye8 {f : File} {d : Nat} {a : Act} (h : refuse f d a = 0) : ∃ plot, about f a = some plot ∧ actOk f a = true ∧ f.items.length < 40 ∧ step f (.act d a) = ({ f with items := f.items ++ [⟨d, a, plot, ownerAt f.now.1.owner plot, becomes f f.now plot a⟩] }, Sy33.ok (f.items.length : Nat)) := by
  unfold refuse at h
  by_cases h1 : DAY < d ∨ actOk f a = false
  · rw [if_pos h1] at h; cases h
  · rw [if_neg h1] at h
    cases h2 : about f a with
    | none => rw [h2] at h; cases h
    | some plot =>
      rw [h2] at h
      dsimp only at h
      by_cases h3 : d < today f
      · rw [if_pos h3] at h; cases h
      · rw [if_neg h3] at h
        by_cases h4 : may f f.now.1 plot a = false
        · rw [if_pos h4] at h; cases h
        · rw [if_neg h4] at h
          by_cases h5 : Sy33.ITEMS ≤ f.items.length
          · rw [if_pos h5] at h; cases h
          · refine ⟨plot, rfl, ?_, Nat.lt_of_not_le h5, ?_⟩
            · rw [not_or] at h1
              simpa using h1.2
            · show (if DAY < d ∨ actOk f a = false then (f, Sy33.ok (-1)) else _) = _
              rw [if_neg h1, h2]
              dsimp only
              rw [if_neg h3, if_neg h4, if_neg h5]
theorem Yg7 {f : File} {ys : List Item} {a : Act} {p : Nat} (h : about f a = some p) : about { f with items := f.items ++ ys } a = some p := by
  unfold about at h ⊢
  cases a with
  | fulfil k b =>
    obtain ⟨y, hy, e⟩ := Option.map_eq_some_iff.mp h
    have hk := YdX hy
    show (noticeOf (f.items ++ ys) k).map (fun _ => plotOf (f.items ++ ys) k) = some p
    rw [YeN hk, za3 hk]
    exact h
  | strike k b =>
    obtain ⟨y, hy, e⟩ := Option.map_eq_some_iff.mp h
    have hk := je6 hy
    show (holder (f.items ++ ys) k).map (fun _ => plotOf (f.items ++ ys) k) = some p
    rw [yfH hk, za3 hk]
    exact h
  | ahead x y =>
    dsimp only at h ⊢
    split at h
    · rename_i hc
      have hc' := hc
      rw [Bool.and_eq_true, Bool.and_eq_true] at hc'
      have hx := yb6 hc'.1
      have hy := yb6 hc'.2.1
      rw [ycs hx, ycs hy, za3 hx, if_pos hc]
      exact h
    · cases h
  | void_ k =>
    obtain ⟨x, hx, e⟩ := Option.bind_eq_some_iff.mp h
    dsimp only
    rw [List.getElem?_append_left (Zah hx), hx]
    exact e
  | _ => exact h
theorem AB.snoc {f : File} (h : AB f) {x : Item} (hx : about f x.act = some x.plot) : AB { f with items := f.items ++ [x] } := fun i y hy => by
  have hy : (f.items ++ [x])[i]? = some y := hy
  refine Yg7 ?_
  by_cases hi : i < f.items.length
  · rw [List.getElem?_append_left hi] at hy
    exact h i y hy
  · rw [List.getElem?_append_right (by omega)] at hy
    have : y = x := by
      cases hz : i - f.items.length with
      | zero => rw [hz] at hy; exact (Option.some.inj hy).symm
      | succ m => rw [hz] at hy; cases hy
    subst this
    exact hx
theorem YgY {f : File} (h : AB f) (c : Sy33.Call) : AB (step f c).1 := by
  cases c with
  | begins p o =>
    show AB (if _ then (f, Sy33.ok (-1)) else ((⟨o, p, []⟩ : File), Sy33.ok 0)).1
    split
    · exact h
    · exact fun i x hx => by cases hx
  | act d a =>
    by_cases hr : refuse f d a = 0
    · obtain ⟨plot, h1, _, _, e⟩ := ye8 hr
      rw [e]
      exact h.snoc h1
    · rw [Zdq hr]
      exact h
  | _ => exact h
theorem Jhl : AB Sy33.start := fun i x hx => by cases hx
section
variable {P : Program} {w : World} {K : PySem.W.Frag} {mg : Str → Option Value} {base : Heap} {A : Adr}
def YdY (A : Adr) : Sp := fun vs H Q _ => ∃ (b : Addr) (f : File) (dx oa ea : Addr) (es : List V) (v : V) (d : Nat) (a : Act) (o : V) (p : Nat), vs = [.ref b, v] ∧ BkR A H b f dx oa ea es ∧ WF f ∧ AB f ∧ ZbD A H v d a o ∧ about f a = some p ∧ p < f.owners.length ∧ ∀ (H' : Hp) (sv : V), Ybh A H H' sv (voids f.items DAY) (esF es) (zcE f p) → Q sv H'
theorem Ydg (T : Txt K mg A) : Zf P w K mg base CX0 6 A.yx A.zao ["self", "entry"] (YdY A) := by
  have Yax : Zf P w K mg base CX0 5 A.Jt A.Y4 ["self", "plot", "day", "known"] (ZcT A) := ZbV T
  refine T.zdz.ok Ye4 (fun vs H Q E h => ?_) (fun cdv B outer s H vs Q E hr h => ?_)
  · obtain ⟨_, _, _, _, _, _, _, _, _, _, _, rfl, _⟩ := h
    rfl
  · obtain ⟨b, f, dx, oa, ea, es, v, d, a, o, p, rfl, hB, hW, hA, hE, hp, hl, k⟩ := h
    obtain ⟨f1, f2, f3⟩ := hB.fld T
    obtain ⟨e, edx, rfl, hH⟩ := id hE
    refine ⟨_, (jb (yf (j8 (pv 0) T.Zab T.yaS Yax (hr.mono (by decide)) T.zaS .nil Jh (Za (jax (P := P) (w := w) (K := K) (mg := mg) (base := base) (k := 2) (CX := CX0) ⟨rfl, rfl, rfl, rfl, rfl⟩ (pv 1) (hr.mono (by decide)) Jh (Za (Jc (K := K) rfl (pv 0) rfl) yc)) (Za (jg (by rfl) T.zdp T.Zdp) (Za (jg (by rfl) T.zdp T.Zdp) yc)))))), ?_⟩
    refine ⟨_, rfl, b, dx, _, rfl, hB.ob, rfl, _, rfl, e, _, edx, _, _, rfl, hH, zga T a, (JbD _ _ _).2.2.2.2.1, _, rfl, f3.rd ⟨_, d, o, ea, es, f, p, rfl, hE, SqL.of hB.eo, hB.its, hW, hA, hp, ?_⟩⟩
    refine ⟨b, f, dx, oa, ea, es, p, DAY, DAY, rfl, hB, hW, hA, hl, fun H' sv hS => k H' sv ?_⟩
    rw [YhC hW]
    exact hS
def JfJ (A : Adr) : Sp := fun vs H Q _ => ∃ (b : Addr) (f : File) (dx oa ea : Addr) (es : List V) (v : V) (d : Nat) (a : Act) (o : V), vs = [.ref b, v] ∧ BkR A H b f dx oa ea es ∧ WF f ∧ AB f ∧ ZbD A H v d a o ∧ ∀ H' : Hp, Yu H H' → Q (.int (refuse f d a)) H'
theorem jgY {es : List V} {v : V} {n : Nat} (hn : es.length = n + 1) (h : es[n]? = some v) : atI es (-1) = some v := by
  unfold atI ixN
  rw [hn, if_neg (by decide)]
  have e1 : (-(((n + 1 : Nat) : Int)) ≤ (-1 : Int)) := by omega
  rw [if_pos e1]
  have e2 : (-1 + (((n + 1 : Nat) : Int))).toNat = n := by omega
  simp only [Option.bind_some]
  first
    | (rw [e2]; exact h)
    | (rw [Int.add_comm, e2]; exact h)
theorem Zfr (T : Txt K mg A) : Zf P w K mg base CX0 7 A.yE A.jaR ["self", "entry"] (JfJ A) := by
  have Jce : Zf P w K mg base CX0 6 A.yx A.zao ["self", "entry"] (YdY A) := Ydg T
  refine T.JdT.ok Yfp (fun vs H Q E h => ?_) (fun cdv B outer s H vs Q E hr h => ?_)
  · obtain ⟨_, _, _, _, _, _, _, _, _, _, rfl, _⟩ := h
    rfl
  · obtain ⟨b, f, dx, oa, ea, es, v, d, a, o, rfl, hB, hW, hA, hE, k⟩ := h
    obtain ⟨f1, f2, f3⟩ := hB.fld T
    obtain ⟨e, edx, rfl, hH⟩ := id hE
    have hlen := jee hB.its
    unfold refuse at k
    refine ⟨_, (Yc (JN (PW.pt (pw_or (Yq jgT (Jc (K := K) rfl (pv 1) rfl) (jg (by rfl) T.zdp T.Zdp) (jm _)) (pw_or1 (Jdm (Yby (jax (P := P) (w := w) (K := K) (mg := mg) (base := base) (k := 2) (CX := CX0) ⟨rfl, rfl, rfl, rfl, rfl⟩ (pv 1) (hr.mono (by decide)) Jh (Za (Jc (K := K) rfl (pv 0) rfl) (Za (zu (Yx (K := K) rfl) (by rfl) T.YcD PySem.boot_len (Za (Jc (K := K) rfl (pv 0) rfl) yc)) yc)))))))) (jb (yf (jg (by rfl) T.Jb5 T.zb6))) Zo) (Yc (JN (Jdm (Yby (jax (P := P) (w := w) (K := K) (mg := mg) (base := base) (k := 2) (CX := CX0) ⟨rfl, rfl, rfl, rfl, rfl⟩ (pv 1) (hr.mono (by decide)) Jh (Za (Jc (K := K) rfl (pv 0) rfl) yc)))) (jb (yf (jg (by rfl) T.jfj T.Jfj))) Zo) (Yc (JN (PW.pt (pw_and (Yq jgT (zu (Yx (K := K) rfl) (by rfl) T.YcD PySem.boot_len (Za (Jc (K := K) rfl (pv 0) rfl) yc)) je (jm _)) (pw_and1 (Yq jgT (Jc (K := K) rfl (Jj (Ye (K := K) rfl) (Jc (K := K) rfl (pv 0) rfl) (zhw yhb je) (fun _ _ => rfl)) rfl) (Jc (K := K) rfl (pv 1) rfl) (jm _))))) (jb (yf (jg (by rfl) T.zfk T.Zfk))) Zo) (Yc (JN (Jdm (Yby (jax (P := P) (w := w) (K := K) (mg := mg) (base := base) (k := 2) (CX := CX0) ⟨rfl, rfl, rfl, rfl, rfl⟩ (pv 1) (hr.mono (by decide)) Jh (Za (j8 (pv 0) T.Zab T.jce Jce (hr.mono (by decide)) T.Yce .nil Jh (Za (pv 1) yc)) yc)))) (jb (yf (jg (by rfl) T.jep T.Jep))) Zo) (Yc (JN (Yq jhb (zu (Yx (K := K) rfl) (by rfl) T.YcD PySem.boot_len (Za (Jc (K := K) rfl (pv 0) rfl) yc)) (jg (by rfl) T.JdW T.zdX) (jm _)) (jb (yf (jg (by rfl) T.Zhg T.yhg))) Zo) (jb (yf je))))))), ?_⟩
    refine jgW (c := decide ((d : Int) > 1000000)) (d := !je7 f.persons f.owners.length a) (fun R z => ⟨_, rfl, (Ydp T hE).rd ⟨_, _, rfl, rfl, _, rfl, z⟩⟩)
      (fun _ R z => ⟨_, rfl, e, _, edx, _, _, rfl, hH, YfW T a, (JbD _ _ _).2.2.1, _, rfl, f1.rd ⟨_, rfl, f2.rd ⟨oa, _, rfl, .inl (SqL.of hB.oo), _, d, o, f.persons, f.owners.length, ?_, hE, _, rfl, z⟩⟩⟩) ?_
    · rw [List.length_map]
    rw [zhl]
    refine br (fun h => ?_) (fun h => ?_)
    · have h1 : DAY < d ∨ actOk f a = false := by
        rw [Bool.or_eq_true] at h
        rcases h with h | h
        · exact .inl (by have := of_decide_eq_true h; unfold DAY; omega)
        · exact .inr (by simpa using h)
      rw [if_pos h1] at k
      exact k _ (Yu.refl _)
    have h1 : ¬ (DAY < d ∨ actOk f a = false) := by
      rw [Bool.or_eq_false_iff] at h
      rintro (z | z)
      · have := of_decide_eq_false h.1; unfold DAY at z; omega
      · rw [z] at h; exact absurd h.2 (by simp)
    rw [if_neg h1] at k
    refine ⟨_, rfl, e, _, edx, _, _, rfl, hH, JgO T a, (JbD _ _ _).2.2.2.1, _, rfl, f3.rd ⟨_, d, o, ea, es, f.items, rfl, hE, SqL.of hB.eo, hB.its, fun H1 s1 => ⟨_, rfl, ?_⟩⟩⟩
    rw [Zhl]
    refine br (fun h => ?_) (fun h => ?_)
    · have h2 : about f a = none := by
        cases hz : about f a with
        | none => rfl
        | some p => rw [hz] at h; cases h
      rw [h2] at k
      exact k _ s1
    obtain ⟨p, hp⟩ : ∃ p, about f a = some p := Option.isSome_iff_exists.mp (by simpa using h)
    rw [hp] at k
    dsimp only at k
    have hB1 := hB.same s1
    have hE1 := hE.same s1
    obtain ⟨g1, g2, g3⟩ := hB1.fld T
    have hpl := ZgB hW (by rw [not_or] at h1; simpa using h1.2) hp
    have hday : decide (d < today f) = (decide ((es.length : Int) > 0) && decide (d < today f)) := by
      by_cases hz : f.items = []
      · have e1 : today f = 0 := by unfold today; rw [hz]; rfl
        rw [e1]
        simp
      · have : 0 < es.length := by rw [hlen]; exact List.length_pos_iff.mpr hz
        rw [show decide ((es.length : Int) > 0) = true from decide_eq_true (by omega), Bool.true_and]
    dsimp only [jgS, ZhE, jhE]
    refine jgh (c := decide ((es.length : Int) > 0)) (d := decide (d < today f)) (fun R z => ⟨_, rfl, g3.rd ⟨ea, es, rfl, .inl (SqL.of hB1.eo), _, _, rfl, rfl, _, rfl, z⟩⟩) (fun hc R z => ?_) ?_
    · have hc := of_decide_eq_true hc
      obtain ⟨n, hn⟩ : ∃ n, es.length = n + 1 := ⟨es.length - 1, by omega⟩
      have hxn : f.items[n]? = some f.items[n] := List.getElem?_eq_getElem (by omega)
      obtain ⟨v, hv, r⟩ := Paired.Zhk hB1.its hxn
      have htd : today f = (f.items[n]'(by omega)).day := by
        unfold today
        rw [List.getLast?_eq_getElem?, show f.items.length - 1 = n by omega, hxn]
        rfl
      refine ⟨_, rfl, g3.rd ⟨_, rfl, .inl ⟨ea, es, -1, v, rfl, rfl, SqL.of hB1.eo, jgY hn hv, (Ydp T r).rd ⟨_, rfl, (Ydp T hE1).rd ⟨_, _, rfl, rfl, _, rfl, ?_⟩⟩⟩⟩⟩
      have e1 : decide (((f.items[n]'(by omega)).day : Int) > (d : Int)) = decide (d < today f) := by
        rw [htd, decide_eq_decide]
        omega
      rw [e1]
      exact z
    rw [← hday]
    refine br (fun h3 => ?_) (fun h3 => ?_)
    · rw [if_pos (of_decide_eq_true h3)] at k
      exact k _ s1
    rw [if_neg (of_decide_eq_false h3)] at k
    refine ⟨_, rfl, e, _, edx, _, _, rfl, s1 _ _ hH, Yhl T a, (JbD _ _ _).2.2.2.2.2.1, _, rfl, b, dx, _, rfl, hB1.ob, rfl, _, rfl, b, f, dx, oa, ea, es, _, d, a, o, p, rfl, hB1, hW, hA, hE1, hp, hpl, fun H2 sv hS => ?_⟩
    have s2 : Yu H1 H2 := by obtain ⟨_, _, _, _, _, _, _, _, _, r⟩ := hS; exact r.sm
    have so : StOk f p f.items.length (zcE f p) := by
      have := (hW.Yhj (voids f.items DAY) hpl (Nat.le_refl _)).toStOk
      unfold JgA at this
      rw [← zgB] at this
      exact this
    refine ⟨H1, _, d, o, sv, voids f.items DAY, es, f, p, f.items.length, zcE f p, rfl, hE1.same s2, hB1.its, hS, so, _, rfl, ?_⟩
    rw [← jhj hp]
    refine br (fun h4 => ?_) (fun h4 => ?_)
    · rw [if_pos (by simpa using h4)] at k
      exact k _ (s1.trans s2)
    rw [if_neg (by simpa using h4)] at k
    have hB2 := hB1.same s2
    obtain ⟨j1, j2, j3⟩ := hB2.fld T
    refine ⟨_, rfl, j3.rd ⟨ea, es, rfl, .inl (SqL.of hB2.eo), _, _, rfl, rfl, _, rfl, ?_⟩⟩
    refine br (fun h5 => ?_) (fun h5 => ?_)
    · have h5 := of_decide_eq_true h5
      rw [if_pos (show Sy33.ITEMS ≤ f.items.length by unfold Sy33.ITEMS; omega)] at k
      exact k _ (s1.trans s2)
    · have h5 := of_decide_eq_false h5
      rw [if_neg (show ¬ Sy33.ITEMS ≤ f.items.length by unfold Sy33.ITEMS; omega)] at k
      exact k _ (s1.trans s2)
def ja3 (A : Adr) (G H : Hp) (b : Addr) (f : File) : Prop := ∃ dx oa ea es, Yu G H ∧ G b = Option.none ∧ G oa = Option.none ∧ G ea = Option.none ∧ oa ≠ ea ∧ BkR A H b f dx oa ea es ∧ WF f ∧ AB f
theorem ja3.same {G H H' : Hp} {b : Addr} {f : File} (h : ja3 A G H b f) (s : Yu H H') : ja3 A G H' b f := by
  obtain ⟨dx, oa, ea, es, h1, h2, h3, h4, h5, h6, h7⟩ := h
  exact ⟨dx, oa, ea, es, h1.trans s, h2, h3, h4, h5, h6.same s, h7⟩
def JgY (A : Adr) : Sp := fun vs H Q _ => ∃ (G H1 : Hp) (b e : Addr) (f : File) (d : Nat) (a : Act), vs = [.ref b, .ref e] ∧ ja3 A G H1 b f ∧ Yu H1 H ∧ H1 e = Option.none ∧ ZbD A H (.ref e) d a .non ∧ ∀ H' : Hp, ja3 A G H' b (step f (.act d a)).1 → Q (.int (step f (.act d a)).2.v) H'
theorem Zgj (T : Txt K mg A) : Zf P w K mg base CX0 8 A.yac A.ybA ["self", "entry"] (JgY A) := by
  have Jce : Zf P w K mg base CX0 6 A.yx A.zao ["self", "entry"] (YdY A) := Ydg T
  have zfK : Zf P w K mg base CX0 7 A.yE A.jaR ["self", "entry"] (JfJ A) := Zfr T
  refine T.Jfh.ok YeJ (fun vs H Q E h => ?_) (fun cdv B outer s H vs Q E hr h => ?_)
  · obtain ⟨_, _, _, _, _, _, _, rfl, _⟩ := h
    rfl
  · obtain ⟨G, H1, b, e, f, d, a, rfl, hBk, s1, he, hE, k⟩ := h
    obtain ⟨dx, oa, ea, es, hG, gb, go, ge, noe, hB, hW, hA⟩ := id hBk
    have hB0 := hB.same s1
    refine ⟨_, (Yc (jab (i := 2) YeJ.nd rfl (by first | exact Or.inl rfl | exact Or.inr rfl) (j8 (pv 0) T.Zab T.ydW zfK (hr.mono (by decide)) T.zdU .nil Jh (Za (pv 1) yc))) (Yc (JN (Yq zf3 (pv 2) je (jm _)) (jb (yf (pv 2))) Zo) (Yc (yD (jax (P := P) (w := w) (K := K) (mg := mg) (base := base) (k := 1) (CX := CX0) ⟨rfl, rfl, rfl, rfl, rfl⟩ (pv 1) (hr.mono (by decide)) Jh (Za (j8 (pv 0) T.Zab T.jce Jce (hr.mono (by decide)) T.Yce .nil Jh (Za (pv 1) yc)) yc))) (Yc (yD (Yem PySem.F.plainAttrs_list PySem.F.slot_list_append PySem.F.type_list_append zbU (Jc (K := K) rfl (pv 0) rfl) (Za (pv 1) yc))) (jb (yf (ZeH YgJ (zu (Yx (K := K) rfl) (by rfl) T.YcD PySem.boot_len (Za (Jc (K := K) rfl (pv 0) rfl) yc)) je))))))), ?_⟩
    refine ⟨_, rfl, b, dx, _, rfl, hB0.ob, rfl, _, rfl, b, f, dx, oa, ea, es, _, d, a, _, rfl, hB0, hW, hA, hE, fun H2 s2 => ?_⟩
    refine ⟨_, rfl, rfl, _, rfl, ?_⟩
    by_cases hr0 : refuse f d a = 0
    · rw [hr0]
      refine brF (by decide) ?_
      obtain ⟨p, hp, hok, h40, est⟩ := ye8 hr0
      have hpl := ZgB hW hok hp
      rw [est] at k
      dsimp only at k
      have hB2 := hB0.same s2
      have hE2 := hE.same s2
      obtain ⟨e', edx, e1, hH⟩ := id hE2
      cases e1
      refine ⟨_, rfl, e, _, edx, _, _, rfl, hH, zgD T a, (JbD _ _ _).2.2.2.2.2.2.1, _, rfl, b, dx, _, rfl, hB2.ob, rfl, _, rfl, b, f, dx, oa, ea, es, _, d, a, _, p, rfl, hB2, hW, hA, hE2, hp, hpl, fun H3 sv hS => ?_⟩
      have s3 : Yu H2 H3 := by obtain ⟨_, _, _, _, _, _, _, _, _, r⟩ := hS; exact r.sm
      refine ⟨H2, e, d, _, sv, _, _, _, rfl, hE2.same s3, hS, fun H4 hk hE4 => ?_⟩
      have s14 : Yu H1 H4 := fun c u hc => by
        rw [hk c (yd hc he)]
        exact (s1.trans (s2.trans s3)) _ _ hc
      have hB4 := hB.same s14
      obtain ⟨j1, j2, j3⟩ := hB4.fld T
      have hlen := jee hB.its
      refine ⟨_, rfl, j3.rd ⟨.inl ⟨rfl, _, SqL.of hB4.eo⟩, _, rfl, ea, es, _, rfl, rfl, hB4.eo, Nat.lt_of_le_of_lt (show es.length ≤ 100 by omega) (by decide), ?_⟩⟩
      have nbe : b ≠ ea := zaR hB4.ob hB4.eo (by intro z; cases z)
      have own : ZbD A H4 (.ref e) d a (.int (becomes f f.now p a)) := by
        obtain ⟨e', edx', e1, hH4⟩ := hE4
        refine ⟨e', edx', e1, ?_⟩
        cases a with
        | correct q0 => exact hH4
        | _ => exact hH4
      have hW' : WF { f with items := f.items ++ [⟨d, a, p, ownerAt f.now.1.owner p, becomes f f.now p a⟩] } := by
        have := jgX hW (.act d a)
        rw [est] at this
        exact this
      have hB5 : BkR A (upd H4 ea (.lst (es ++ [.ref e]))) b { f with items := f.items ++ [⟨d, a, p, ownerAt f.now.1.owner p, becomes f f.now p a⟩] } dx oa ea (es ++ [.ref e]) := by
        refine ⟨by rw [Zc nbe]; exact hB4.ob, by rw [Zc noe]; exact hB4.oo, Ja, ?_⟩
        refine Paired.snoc (Paired.Yei hB4.its fun v x ⟨c, cdx, e1, hc⟩ => ⟨c, cdx, e1, ?_⟩) ?_
        · rw [Zc (zaR hc hB4.eo (by intro z; cases z))]
          exact hc
        · obtain ⟨c, cdx, e1, hc⟩ := own
          refine ⟨c, cdx, e1, ?_⟩
          rw [Zc (zaR hc hB4.eo (by intro z; cases z))]
          exact hc
      obtain ⟨m1, m2, m3⟩ := hB5.fld T
      refine ⟨_, rfl, m3.rd ⟨ea, _, rfl, .inl (SqL.of Ja), _, _, rfl, rfl, ?_⟩⟩
      have e2 : (((es ++ [V.ref e]).length : Nat) : Int) - 1 = ((f.items.length : Nat) : Int) := by
        rw [List.length_append, List.length_singleton, hlen]
        omega
      dsimp only
      rw [e2]
      refine k _ ⟨dx, oa, ea, es ++ [.ref e], (hG.trans s14).jG ge, gb, go, ge, noe, hB5, hW', ?_⟩
      have := YgY hA (.act d a)
      rw [est] at this
      exact this
    · have hd : (!decide (V.int (refuse f d a) = V.int 0)) = true := by
        rw [Bool.not_eq_true', decide_eq_false_iff_not]
        intro z
        exact hr0 (by injection z)
      refine brT hd ?_
      rw [Zdq hr0] at k
      exact ⟨_, rfl, k _ (hBk.same (s1.trans s2))⟩
def jfl (A : Adr) : Sp := fun vs H Q _ => ∃ (b : Addr) (f : File) (dx oa ea : Addr) (es : List V) (q : Nat), vs = [.ref b, .int q] ∧ BkR A H b f dx oa ea es ∧ Q (.bl (decide (q < f.owners.length))) H
theorem Ye8 (T : Txt K mg A) : Zf P w K mg base CX0 1 A.Yz A.jaH ["self", "plot"] (jfl A) := by
  refine T.Zdz.ok je4 (fun vs H Q E h => ?_) (fun cdv B outer s H vs Q E hr h => ?_)
  · obtain ⟨_, _, _, _, _, _, _, rfl, _⟩ := h
    rfl
  · obtain ⟨b, f, dx, oa, ea, es, q, rfl, hB, k⟩ := h
    obtain ⟨f1, f2, f3⟩ := hB.fld T
    refine ⟨_, (jb (yf (ZaW Yff (pv 1) (zu (Yx (K := K) rfl) (by rfl) T.YcD PySem.boot_len (Za (Jc (K := K) rfl (pv 0) rfl) yc)) (jm _)))), ?_⟩
    refine ⟨_, rfl, _, rfl, f2.rd ⟨oa, _, rfl, .inl (SqL.of hB.oo), _, _, rfl, rfl, ?_⟩⟩
    dsimp only
    rw [List.length_map, zdY]
    exact k
end
end Lr
namespace Lr
open PySem hiding Act
open PySem.Spec
open PyProof.Rows hiding St
open L2
open Sy33 (Act Item File bit step)
section
variable {P : Program} {w : World} {K : PySem.W.Frag} {mg : Str → Option Value} {base : Heap} {A : Adr}
def ZeP (A : Adr) : Sp := fun vs H Q _ => ∃ (G : Hp) (b dx : Addr), vs = [.ref b] ∧ Yu G H ∧ G b = Option.none ∧ H b = some (.ins A.JC dx []) ∧ ∀ H' : Hp, ja3 A G H' b Sy33.start → Q .non H'
theorem ygj (T : Txt K mg A) : Zf P w K mg base CX0 1 A.Zac A.ZbA ["self"] (ZeP A) := by
  refine T.Yfh.ok jgg (fun vs H Q E h => ?_) (fun cdv B outer s H vs Q E hr h => ?_)
  · obtain ⟨_, _, _, rfl, _⟩ := h
    rfl
  · obtain ⟨G, b, dx, rfl, hG, gb, hb, k⟩ := h
    refine ⟨_, (Yc (Zu (K := K) rfl (pv 0) je rfl) (Yc (Zu (K := K) rfl (pv 0) (zaw (Za je yc)) rfl) (jb (Zu (K := K) rfl (pv 0) (zaw yc) rfl)))), ?_⟩
    refine ⟨_, rfl, b, _, dx, _, rfl, hb, T.Zab, T.jac, by decide, ?_⟩
    refine ⟨(by show 1 ≤ sizeLine; decide), fun oa hoa => ⟨_, rfl, b, _, dx, _, rfl, (by rw [Zc (yd Ja hoa)]; exact Ja), T.Zab, T.jan, (by show (1 : Nat) < 1000; decide), ?_⟩⟩
    refine ⟨Nat.zero_le _, fun ea hea => ⟨_, rfl, b, _, dx, _, rfl, (by rw [Zc (yd Ja hea)]; exact Ja), T.Zab, T.Jac, (by show (2 : Nat) < 1000; decide), ?_⟩⟩
    have nob : oa ≠ b := Ne.symm (yd Ja hoa)
    have neb : ea ≠ b := Ne.symm (yd Ja hea)
    have noe : oa ≠ ea := yd (o := .lst [.int 0]) (by rw [Zc nob]; exact Ja) hea
    have f1 : G oa = Option.none := (hG.jG gb).free hoa
    have f2 : G ea = Option.none := (((hG.jG gb).jG f1).jG gb).free hea
    refine k _ ⟨dx, oa, ea, [], ((((hG.jG gb).jG f1).jG gb).jG f2).jG gb, gb, f1, f2, noe, ⟨Ja, ?_, ?_, .nil⟩, Jhi, Jhl⟩
    · rw [Zc nob, Zc noe, Zc nob]; exact Ja
    · rw [Zc neb]; exact Ja
def YgD (K : PySem.W.Frag) (A : Adr) : Sp := fun vs H Q _ => ∃ (G : Hp) (b la : Addr) (f : File) (p : Nat) (o : List Nat), vs = [.ref b, .int p, .ref la] ∧ ja3 A G H b f ∧ H la = some (.lst (o.map fun (n : Nat) => V.int (n : Int))) ∧ o.length ≤ 60 ∧ ∀ H' : Hp, ja3 A G H' b (step f (.begins p o)).1 → Q (.int (step f (.begins p o)).2.v) H'
theorem yfX (T : Txt K mg A) : Zf P w K mg base CX0 1 A.zV A.Jbl ["self", "persons", "owners"] (YgD K A) := by
  refine T.zeL.ok yc3 (fun vs H Q E h => ?_) (fun cdv B outer s H vs Q E hr h => ?_)
  · obtain ⟨_, _, _, _, _, _, rfl, _⟩ := h
    rfl
  · obtain ⟨G, b, la, f, p, o, rfl, hBk, hla, h60, k⟩ := h
    obtain ⟨dx, oa, ea, es, hG, gb, go, ge, noe, hB, hW, hA⟩ := id hBk
    have hstep : step f (.begins p o) = if p = 0 ∨ Sy33.PERSONS < p ∨ o.length = 0 ∨ Sy33.PLOTS < o.length ∨ (o.any fun (x : Nat) => decide (p ≤ x)) = true then (f, Sy33.ok (-1)) else (⟨o, p, []⟩, Sy33.ok 0) := rfl
    refine ⟨_, (Yc (JN (PW.pt (pw_or (Jdm (Jfz yem yem je (pv 1) (jg (by rfl) T.YdW T.jdW))) (pw_or1 (Jdm (Jfz yem yem je (zu (Yx (K := K) rfl) (by rfl) T.YcD PySem.boot_len (Za (pv 2) yc)) (jg (by rfl) T.zeM T.ZeM)))))) (jb (yf (jg (by rfl) T.Jb5 T.zb6))) Zo) (Yc (JN (Yby (zu (ZgV (K := K) rfl rfl) (by rfl) T.Jhh Zf6 (Za (yf4 rfl yc3.nd (yaH (K := K) rfl (pv 2)) (own := [("owner", 3)]) (by show Jdx ["self", "persons", "owners", "owner"] (za jT) _ [("owner", 3)]; exact ⟨rfl, by decide +kernel, by decide +kernel, by decide +kernel, by decide +kernel⟩) (fun _ _ _ _ _ => (jai (i := 3) yc3.nd rfl (by first | exact Or.inl rfl | exact Or.inr rfl))) (fun _ _ _ _ _ => jeH) (fun _ _ _ _ _ => (ZaW jhb (pv 3) (pv 1) (jm _)))) yc))) (jb (yf (jg (by rfl) T.Jb5 T.zb6))) Zo) (Yc (Zu (K := K) rfl (pv 0) (pv 1) rfl) (Yc (Zu (K := K) rfl (pv 0) (zf4 (zfV (K := K) rfl) (by rfl) T.JgM ZfC (Za (pv 2) yc)) rfl) (Yc (Zu (K := K) rfl (pv 0) (zaw yc) rfl) (jb (yf je))))))), ?_⟩
    refine jgW (c := !(decide (1 ≤ p) && decide (p ≤ 10))) (d := !(decide (1 ≤ o.length) && decide (o.length ≤ 6))) (fun R z => ⟨_, rfl, _, _, rfl, rfl, _, rfl, ?_⟩) (fun _ R z => ⟨_, rfl, la, _, rfl, .inl (SqL.of hla), _, _, rfl, rfl, _, rfl, ?_⟩) ?_
    · rw [show decide ((1 : Int) ≤ (p : Int)) = decide (1 ≤ p) from by rw [decide_eq_decide]; omega]
      refine br (fun h => ?_) (fun h => ?_)
      · rw [h, Bool.true_and] at z
        refine ⟨_, _, rfl, rfl, _, rfl, ?_⟩
        rw [show decide ((p : Int) ≤ (10 : Int)) = decide (p ≤ 10) from by rw [decide_eq_decide]; omega]
        exact z
      · rw [h, Bool.false_and] at z
        exact ⟨_, rfl, z⟩
    · rw [List.length_map, show decide ((1 : Int) ≤ ((o.length : Nat) : Int)) = decide (1 ≤ o.length) from by rw [decide_eq_decide]; omega]
      refine br (fun h => ?_) (fun h => ?_)
      · rw [h, Bool.true_and] at z
        refine ⟨_, _, rfl, rfl, _, rfl, ?_⟩
        rw [show decide (((o.length : Nat) : Int) ≤ (6 : Int)) = decide (o.length ≤ 6) from by rw [decide_eq_decide]; omega]
        exact z
      · rw [h, Bool.false_and] at z
        exact ⟨_, rfl, z⟩
    refine br (fun h => ?_) (fun h => ?_)
    · have h1 : p = 0 ∨ Sy33.PERSONS < p ∨ o.length = 0 ∨ Sy33.PLOTS < o.length ∨ (o.any fun (x : Nat) => decide (p ≤ x)) = true := by
        unfold Sy33.PERSONS Sy33.PLOTS
        apply Decidable.byContradiction
        intro hn
        rw [not_or, not_or, not_or, not_or] at hn
        obtain ⟨n1, n2, n3, n4, _⟩ := hn
        rw [decide_eq_true (show 1 ≤ p by omega), decide_eq_true (show p ≤ 10 by omega), decide_eq_true (show 1 ≤ o.length by omega), decide_eq_true (show o.length ≤ 6 by omega)] at h
        cases h
      rw [hstep, if_pos h1] at k
      exact k _ hBk
    have h1 : (1 ≤ p ∧ p ≤ 10) ∧ 1 ≤ o.length ∧ o.length ≤ 6 := by
      simp at h
      omega
    refine ⟨_, rfl, la, rfl, ⟨_, SqL.of hla⟩, fun D hD => JeM (K := K) (a := la) (xs := o.map fun (n : Nat) => V.int (n : Int)) (fun _ => true) (fun v => match v with | .int n => .bl (decide (n ≥ (p : Int))) | _ => .non) (SqL.of hla) hD (JgW (by rw [List.length_map]; omega)) ?_ ?_ ?_⟩
    · intro x acc R hx z
      exact z
    · intro x acc R hx _ z
      obtain ⟨n, hn, rfl⟩ := List.mem_map.mp hx
      exact ⟨_, rfl, _, rfl, _, _, rfl, rfl, z⟩
    have e1 : (List.map (fun v => match v with | V.int n => V.bl (decide (n ≥ (p : Int))) | _ => V.non) (List.filter (fun _ => true) (o.map fun (n : Nat) => V.int (n : Int)))) = (o.map fun (x : Nat) => decide (p ≤ x)).map V.bl := by
      rw [List.filter_eq_self.mpr (fun _ _ => rfl), List.map_map, List.map_map]
      refine List.map_congr_left fun n _ => ?_
      show V.bl (decide ((n : Int) ≥ (p : Int))) = V.bl (decide (p ≤ n))
      congr 1
      rw [decide_eq_decide]
      omega
    rw [e1]
    have s1 := Jd (o := .lst ((o.map fun (x : Nat) => decide (p ≤ x)).map V.bl)) hD
    refine ⟨D, _, rfl, SqL.of Ja, _, rfl, ?_⟩
    rw [List.any_map, show (id ∘ fun (x : Nat) => decide (p ≤ x)) = fun (x : Nat) => decide (p ≤ x) from rfl]
    refine br (fun h2 => ?_) (fun h2 => ?_)
    · rw [hstep, if_pos (.inr (.inr (.inr (.inr h2))))] at k
      exact k _ (hBk.same s1)
    have h3 : ¬ (p = 0 ∨ Sy33.PERSONS < p ∨ o.length = 0 ∨ Sy33.PLOTS < o.length ∨ (o.any fun (x : Nat) => decide (p ≤ x)) = true) := by
      unfold Sy33.PERSONS Sy33.PLOTS
      rintro (z | z | z | z | z)
      · omega
      · omega
      · omega
      · omega
      · rw [z] at h2; cases h2
    have hwf := jgX hW (.begins p o)
    have hab := YgY hA (.begins p o)
    rw [hstep, if_neg h3] at k hwf hab
    dsimp only at k hwf hab
    refine ⟨_, rfl, _, rfl, b, _, dx, _, rfl, s1 _ _ hB.ob, T.Zab, T.jac, (by show (3 : Nat) < 1000; decide), ?_⟩
    have nlb : la ≠ b := zaR hla hB.ob (by intro z; cases z)
    have hla2 := s1 _ _ hla
    refine ⟨_, rfl, la, _, rfl, .inl (SqL.of (by rw [Zc nlb]; exact hla2)), fun l hl => ⟨_, rfl, b, _, dx, _, rfl, (by rw [Zc (yd Ja hl)]; exact Ja), T.Zab, T.jan, (by show (3 : Nat) < 1000; decide), ?_⟩⟩
    refine ⟨Nat.zero_le _, fun l2 hl2 => ⟨_, rfl, b, _, dx, _, rfl, (by rw [Zc (yd Ja hl2)]; exact Ja), T.Zab, T.Jac, (by show (3 : Nat) < 1000; decide), ?_⟩⟩
    have nb1 : l ≠ b := Ne.symm (yd Ja hl)
    have nb2 : l2 ≠ b := Ne.symm (yd Ja hl2)
    have n12 : l ≠ l2 := yd (by rw [Zc nb1]; exact Ja) hl2
    have g0 := hG.trans s1
    have g1 : G l = Option.none := (g0.jG gb).free hl
    have g2 : G l2 = Option.none := (((g0.jG gb).jG g1).jG gb).free hl2
    refine k _ ⟨dx, l, l2, [], ((((g0.jG gb).jG g1).jG gb).jG g2).jG gb, gb, g1, g2, n12, ⟨Ja, ?_, ?_, .nil⟩, hwf, hab⟩
    · rw [Zc nb1, Zc n12, Zc nb1]; exact Ja
    · rw [Zc nb2]; exact Ja
end
end Lr
namespace Lr
open PySem hiding Act
open PySem.Spec
open PyProof.Rows hiding St
open L2
open Sy33 (Act Item File bit noticeOf holder voids plotOf isCharge getsOf creditor)
abbrev yaJ (l : List Nat) : List V := l.map fun (n : Nat) => V.int (n : Int)
def YhK (H : Hp) (v : V) (l : List Nat) : Prop := ∃ a, v = .ref a ∧ H a = some (.lst (yaJ l))
abbrev Ygj (H : Hp) : List V → List (List Nat) → Prop := Paired (YhK H)
def jcE (H : Hp) (ns : List Int) (Q : VK) : Prop := ∀ (H' : Hp) (l : Addr), Yu H H' → H l = Option.none → H' l = some (.lst (ns.map V.int)) → Q (.ref l) H'
theorem jcE.same {H H1 : Hp} {ns : List Int} {Q : VK} (h : jcE H ns Q) (s : Yu H H1) : jcE H1 ns Q := fun H' l t e q => h H' l (s.trans t) (s.free e) q
def je8 (v : Int) (ls : List (List Nat)) : List Int := Sy33Neutral.out ⟨v, ls⟩
theorem yga (v : Int) (ls : List (List Nat)) (l : List Nat) : je8 v (ls ++ [l]) = (je8 v ls ++ [(l.length : Int)]) ++ casts l := by
  unfold je8 Sy33Neutral.out
  simp [List.flatMap_append]
theorem zhm (v : Int) : ∀ ls : List (List Nat), (∀ l ∈ ls, l.length ≤ 10) → (je8 v ls).length ≤ 1 + 11 * ls.length := by
  refine ydp (fun _ => Nat.le_refl _) fun ls l ih h => ?_
  rw [yga, List.length_append, List.length_append, List.length_map, List.length_append]
  have h1 := ih fun x hx => h x (List.mem_append_left _ hx)
  have h2 := h l (List.mem_append_right _ (List.mem_singleton.mpr rfl))
  rw [List.length_singleton, List.length_singleton]
  omega
section
variable {P : Program} {w : World} {K : PySem.W.Frag} {mg : Str → Option Value} {base : Heap} {A : Adr}
def ZaU : Sp := fun vs H Q _ => ∃ (n : Int) (ra : Addr) (rs : List V) (ls : List (List Nat)), vs = [.int n, .ref ra] ∧ H ra = some (.lst rs) ∧ Ygj H rs ls ∧ ls.length ≤ 1000 ∧ (∀ l ∈ ls, l.length ≤ 10) ∧ jcE H (je8 n ls) Q
theorem Ybn (T : Txt K mg A) : Zf P w K mg base CX0 1 A.YD A.jaa ["number", "rows"] (ZaU) := by
  refine T.jaM.ok Yc3 (fun vs H Q E h => ?_) (fun cdv B outer s H vs Q E hr h => ?_)
  · obtain ⟨_, _, _, _, rfl, _⟩ := h
    rfl
  · obtain ⟨n, ra, rs, ls, rfl, hra, hrs, hl, hb, k⟩ := h
    have hlen : rs.length = ls.length := Paired.length hrs
    refine ⟨_, (Yc (jab (i := 2) Yc3.nd rfl (by first | exact Or.inl rfl | exact Or.inr rfl) (zaw (Za (pv 0) yc))) (Yc (Zdn PassesOwn.never rfl (yaH (K := K) rfl (pv 1)) (jai (i := 3) Yc3.nd rfl (by first | exact Or.inl rfl | exact Or.inr rfl)) (Yc (yD (Yem PySem.F.plainAttrs_list PySem.F.slot_list_append PySem.F.type_list_append zbU (pv 2) (Za (zu (Yx (K := K) rfl) (by rfl) T.YcD PySem.boot_len (Za (pv 3) yc)) yc))) (jb (yD (Yem PySem.F.plainAttrs_list PySem.F.slot_list_extend PySem.F.type_list_extend Ze3 (pv 2) (Za (pv 3) yc)))))) (jb (yf (pv 2))))), ?_⟩
    refine ⟨_, rfl, (by show 1 ≤ sizeLine; decide), fun t ht => ?_⟩
    have s1 := Jd (o := .lst [.int n]) ht
    refine ⟨_, rfl, ra, rfl, ⟨_, SqL.of (s1 _ _ hra)⟩, Ycz (K := K) (a := ra) (xs := rs) (fun j σ H' => (∃ v3, σ = [some (.int n), some (.ref ra), some (.ref t), v3]) ∧ Yu H H' ∧ H' t = some (.lst ((je8 n (ls.take j)).map V.int))) ⟨⟨_, rfl⟩, s1, Ja⟩ (fun j σ H' _ h => SqL.of (h.2.1 _ _ hra)) ?_ ?_⟩
    · rintro j v σ H' hv ⟨⟨v3, rfl⟩, sH, ht'⟩
      obtain ⟨l, hlx, a, rfl, ha⟩ := Paired.get hrs hv
      have hj : j < rs.length := (List.getElem?_eq_some_iff.mp hv).1
      have ha' := sH _ _ ha
      have nat : t ≠ a := Ne.symm (yd ha ht)
      have hlb := hb l (List.mem_of_getElem? hlx)
      have hob := zhm n (ls.take j) fun x hx => hb x (List.mem_of_mem_take hx)
      rw [List.length_take] at hob
      refine ⟨_, rfl, .inl ⟨rfl, _, SqL.of ht'⟩, _, rfl, a, _, rfl, .inl (SqL.of ha'), t, _, _, rfl, rfl, ht', ?_, ?_⟩
      · rw [List.length_map]
        exact Nat.lt_of_le_of_lt (show _ ≤ 100000 by omega) (by decide)
      have hat : upd H' t (.lst ((je8 n (ls.take j)).map V.int ++ [V.int ((yaJ l).length : Nat)])) a = some (.lst (yaJ l)) := by
        rw [Zc (Ne.symm nat)]
        exact ha'
      refine ⟨_, rfl, .inl ⟨rfl, _, SqL.of Ja⟩, _, rfl, t, a, _, _, rfl, rfl, Ja, hat, ?_, ?_⟩
      · rw [List.length_append, List.length_map, List.length_map, List.length_singleton]
        exact Nat.le_trans (show _ ≤ 100000 by omega) (by decide)
      refine ⟨⟨_, rfl⟩, ?_, ?_⟩
      · rw [Yai]
        intro c u e
        rw [Zc (yd e ht)]
        exact sH _ _ e
      · rw [Ja, Zas hlx, yga, List.map_append, List.map_append, List.length_map]
        show some (HO.lst ((_ ++ [V.int _]) ++ yaJ l)) = some (HO.lst ((_ ++ [V.int _]) ++ (casts l).map V.int))
        rw [List.map_map]
        rfl
    · rintro σ H' ⟨⟨v3, rfl⟩, sH, ht'⟩
      rw [hlen, List.take_length] at ht'
      exact ⟨_, rfl, k H' t sH ht ht'⟩
def yeq (A : Adr) : Sp := fun vs H Q _ => ∃ (H0 : Hp) (sv : V) (void : List Nat) (es : Nat → V) (s : Sh), vs = [sv] ∧ Ybh A H0 H sv void es s ∧ jcE H (je8 0 [[s.reg, s.own]]) Q
theorem YfX (T : Txt K mg A) : Zf P w K mg base CX0 2 A.Jaa A.zbm ["sheet"] (yeq A) := by
  have Zaj : Zf P w K mg base CX0 1 A.YD A.jaa ["number", "rows"] (ZaU) := Ybn T
  refine T.Ydo.ok zfW (fun vs H Q E h => ?_) (fun cdv B outer s H vs Q E hr h => ?_)
  · obtain ⟨_, _, _, _, _, rfl, _⟩ := h
    rfl
  · obtain ⟨H0, sv, void, es, s, rfl, ⟨sa, dx, vd, st, pl, gv, kvv, ys, rfl, r⟩, k⟩ := h
    obtain ⟨f1, f2, f3, f4, f5, f6⟩ := r.fld T
    refine ⟨_, (jb (yf (jD Zaj (hr.mono (by decide)) (by rfl) T.Ybb T.jaM.kp T.ybb .nil Jh (Za je (Za (zaw (Za (zaw (Za (Jc (K := K) rfl (pv 0) rfl) (Za (Jc (K := K) rfl (pv 0) rfl) yc))) yc)) yc))))), ?_⟩
    refine ⟨_, rfl, f1.rd ⟨_, rfl, f2.rd ⟨(by show 2 ≤ sizeLine; decide), fun r1 h1 => ⟨(by show 1 ≤ sizeLine; decide), fun r2 h2 => ?_⟩⟩⟩⟩
    have s1 := Jd (o := .lst [.int s.reg, .int s.own]) h1
    have s2 := Jd (o := .lst [.ref r1]) h2
    refine ⟨0, r2, _, [[s.reg, s.own]], rfl, Ja, .cons ⟨r1, rfl, s2 _ _ Ja⟩ .nil, (by show (1 : Nat) ≤ 1000; decide), fun l hl => ?_, k.same (s1.trans s2)⟩
    rw [List.mem_singleton.mp hl]
    exact (by decide : 2 ≤ 10)
def yeP (A : Adr) : Sp := fun vs H Q _ => ∃ (H0 : Hp) (sv : V) (void : List Nat) (evs : List V) (is : List Item) (s : Sh), vs = [sv] ∧ yaX A H0 evs is ∧ Ybh A H0 H sv void (esF evs) s ∧ s.std.length ≤ 100 ∧ jcE H (je8 (bit (s.acq is false) : Nat) []) Q
theorem jgj (T : Txt K mg A) : Zf P w K mg base CX0 3 A.zan A.jbA ["sheet"] (yeP A) := by
  have Z8 : Zf P w K mg base CX0 2 A.Zn A.ZJ ["self", "knows"] (jb6 A) := YaX T
  refine T.jdU.ok zgh (fun vs H Q E h => ?_) (fun cdv B outer s H vs Q E hr h => ?_)
  · obtain ⟨_, _, _, _, _, _, rfl, _⟩ := h
    rfl
  · obtain ⟨H0, sv, void, evs, is, s, rfl, its, hS, hl, k⟩ := h
    obtain ⟨sa, dx, vd, st, pl, gv, kvv, ys, rfl, r⟩ := id hS
    refine ⟨_, (jb (yf (zaw (Za (jeG (Yby (j8 (pv 0) T.Yn T.zaI Z8 (hr.mono (by decide)) T.JaH .nil Jh (Za je yc))) je je) yc)))), ?_⟩
    refine ⟨_, rfl, sa, dx, _, rfl, r.ob, rfl, H0, _, false, void, evs, is, s, rfl, its, hS, hl, fun H1 s1 => ⟨_, rfl, ?_⟩⟩
    refine br (fun h => ?_) (fun h => ?_)
    · rw [h] at k
      exact ⟨(by show 1 ≤ sizeLine; decide), fun l hl => k _ l (s1.trans (Jd hl)) (s1.free hl) Ja⟩
    · rw [h] at k
      exact ⟨(by show 1 ≤ sizeLine; decide), fun l hl => k _ l (s1.trans (Jd hl)) (s1.free hl) Ja⟩
def YeP (A : Adr) : Sp := fun vs H Q _ => ∃ (H0 : Hp) (sv : V) (void : List Nat) (evs : List V) (f : File) (s : Sh) (e am p : Nat), vs = [sv, .int e, .int am] ∧ yaX A H0 evs f.items ∧ Ybh A H0 H sv void (esF evs) s ∧ e ∈ s.std ∧ holder f.items e = some p ∧ ∀ l : Addr, H l = Option.none → Q (.ref l) (upd H l (.lst (yaJ [e, p, am, bit (s.giv.contains e)])))
theorem Jgj (T : Txt K mg A) : Zf P w K mg base CX0 1 A.Jam A.YbA ["sheet", "charge", "amount"] (YeP A) := by
  refine T.YdU.ok Jgg (fun vs H Q E h => ?_) (fun cdv B outer s H vs Q E hr h => ?_)
  · obtain ⟨_, _, _, _, _, _, _, _, _, rfl, _⟩ := h
    rfl
  · have hu := jcD hr
    obtain ⟨H0, sv, void, evs, f, s, e, am, p, rfl, its, ⟨sa, dx, vd, st, pl, gv, kvv, ys, rfl, r⟩, he, hp, k⟩ := h
    obtain ⟨f1, f2, f3, f4, f5, f6⟩ := r.fld T
    obtain ⟨x, hx, hpx⟩ := ZbY hp
    refine ⟨_, (jb (yf (zaw (Za (pv 1) (Za (Jc (K := K) rfl (jdn hu (Jc (K := K) rfl (pv 0) rfl) (pv 1) (fun _ _ => rfl)) rfl) (Za (pv 2) (Za (jeG (je2 (JfA hu (pv 1) (Jc (K := K) rfl (pv 0) rfl))) je je) yc))))))), ?_⟩
    refine ⟨_, rfl, _, rfl, f4.rd ⟨_, rfl, st, esF evs e, rfl, ?_, ((Yas T (its.at hx) hpx).same r.sm).rd ⟨_, rfl, _, rfl, _, rfl, f6.rd ⟨gv, _, rfl, Jby.k (k := Sum.inl (e : Int)) r.go, _, rfl, ?_⟩⟩⟩⟩
    · have := Jby.k (H := H) (a := st) (k := Sum.inl (e : Int)) r.so
      rw [yas, if_pos he] at this
      exact this
    · rw [JaN]
      refine br (fun h => ?_) (fun h => ?_)
      · rw [h] at k
        exact ⟨(by show 4 ≤ sizeLine; decide), k⟩
      · rw [h] at k
        exact ⟨(by show 4 ≤ sizeLine; decide), k⟩
def zhD (f : File) (s : Sh) (p : Pl) : List Nat := [p.entry, creditor f.items p.entry, p.amount, bit (s.giv.contains p.entry)]
theorem jdB {f : File} {e : Nat} (h : isCharge f.items e = true) : holder f.items e = some (creditor f.items e) := by
  unfold isCharge at h
  unfold holder creditor
  cases hx : f.items[e]? with
  | none => rw [hx] at h; cases h
  | some x =>
    rw [hx] at h
    obtain ⟨d, a, p, w, n⟩ := x
    cases a with
    | charge => rfl
    | _ => cases h
def JdB (A : Adr) : Sp := fun vs H Q _ => ∃ (H0 : Hp) (sv : V) (void : List Nat) (evs : List V) (f : File) (q n : Nat) (s : Sh), vs = [sv] ∧ yaX A H0 evs f.items ∧ Ybh A H0 H sv void (esF evs) s ∧ StOk f q n s ∧ n ≤ 40 ∧ jcE H (je8 (s.pls.length : Nat) (s.pls.map (zhD f s))) Q
def zb7 (D : Addr) (H : Hp) (v : V) (l : List Nat) : Prop := ∃ a, v = .ref a ∧ a ≠ D ∧ H a = some (.lst (yaJ l))
theorem zb7.upd {D : Addr} {H : Hp} {o : HO} {vs : List V} {ls : List (List Nat)} (h : Paired (zb7 D H) vs ls) : Paired (zb7 D (upd H D o)) vs ls := Paired.Yei h fun _ _ ⟨a, e, n, q⟩ => ⟨a, e, n, by rw [Zc n]; exact q⟩
theorem zb7.same {D : Addr} {H H' : Hp} {vs : List V} {ls : List (List Nat)} (h : Paired (zb7 D H) vs ls) (s : Yu H H') : Paired (zb7 D H') vs ls := Paired.Yei h fun _ _ ⟨a, e, n, q⟩ => ⟨a, e, n, s _ _ q⟩
theorem zb7.rows {D : Addr} {H : Hp} {vs : List V} {ls : List (List Nat)} (h : Paired (zb7 D H) vs ls) : Ygj H vs ls := Paired.Yei h fun _ _ ⟨a, e, _, q⟩ => ⟨a, e, q⟩
theorem yfr (T : Txt K mg A) : Zf P w K mg base CX0 2 A.YM A.JaR ["sheet"] (JdB A) := by
  have Zaj : Zf P w K mg base CX0 1 A.YD A.jaa ["number", "rows"] (ZaU) := Ybn T
  have jgD : Zf P w K mg base CX0 1 A.Jam A.YbA ["sheet", "charge", "amount"] (YeP A) := Jgj T
  refine T.zcC.ok yce (fun vs H Q E h => ?_) (fun cdv B outer s H vs Q E hr h => ?_)
  · obtain ⟨_, _, _, _, _, _, _, _, rfl, _⟩ := h
    rfl
  · obtain ⟨H0, sv, void, evs, f, q, n, s, rfl, its, hS, hO, h40, k⟩ := h
    obtain ⟨sa, dx, vd, st, pl, gv, kvv, ys, rfl, r⟩ := id hS
    obtain ⟨f1, f2, f3, f4, f5, f6⟩ := r.fld T
    have hlen := zcs r.ps
    have hpl := hO.pl
    refine ⟨_, (Yc (zgv (i := 1) rfl yce.nd rfl rfl (ZgU rfl rfl rfl rfl) (yaH (K := K) rfl (Jc (K := K) rfl (pv 0) rfl)) (own := [("place", 2)]) (by show Jdx ["sheet", "rows", "place"] (za zE) _ [("place", 2)]; exact ⟨rfl, by decide +kernel, by decide +kernel, by decide +kernel, by decide +kernel⟩) (fun _ _ _ _ _ => (jai (i := 2) yce.nd rfl (by first | exact Or.inl rfl | exact Or.inr rfl))) (fun _ _ _ _ _ => jeH) (fun _ _ _ _ _ => (jD jgD (hr.mono (by decide)) (by rfl) T.yfi T.YdU.kp T.Zfi .nil Jh (Za (pv 0) (Za (Jj (Ye (K := K) rfl) (pv 2) je (fun _ _ => rfl)) (Za (Jj (Ye (K := K) rfl) (pv 2) je (fun _ _ => rfl)) yc)))))) (jb (yf (jD Zaj (hr.mono (by decide)) (by rfl) T.Ybb T.jaM.kp T.ybb .nil Jh (Za (zu (Yx (K := K) rfl) (by rfl) T.YcD PySem.boot_len (Za (pv 1) yc)) (Za (pv 1) yc)))))), ?_⟩
    refine ⟨_, rfl, f5.rd ⟨pl, rfl, ⟨_, SqL.of r.po⟩, fun D hD => ygU (K := K) (a := pl) (xs := ys) (fun j H' => ∃ acc, H' D = some (.lst acc) ∧ Yu H H' ∧ Paired (zb7 D H') acc ((s.pls.take j).map (zhD f s))) ⟨[], Ja, Jd hD, .nil⟩ (fun j H' _ ⟨_, _, sH, _⟩ => SqL.of (sH _ _ r.po)) ?_ ?_⟩⟩
    · rintro j v H' hv ⟨acc, hacc, sH, hrows⟩
      obtain ⟨p, hp, b, rfl, hb⟩ := r.ps.get hv
      have hj : j < ys.length := (List.getElem?_eq_some_iff.mp hv).1
      have hb' := sH _ _ hb
      obtain ⟨hpin, hic⟩ := hO.pin p (List.mem_of_getElem? hp)
      show wipe ((wipe _ [2]).set 2 (some (V.ref b))) [2] = wipe _ [2] ∧ _
      refine ⟨by simp [wipe], ?_⟩
      refine ⟨_, rfl, _, rfl, jfp hb' ⟨_, rfl, Zg4 hb' ⟨H0, _, void, evs, f, s, p.entry, p.amount, _, rfl, its, hS.same sH, hpin, jdB hic, fun l hl => ?_⟩⟩⟩
      have s2 := Jd (o := .lst (yaJ (zhD f s p))) hl
      have nlD : l ≠ D := Ne.symm (yd hacc hl)
      refine ⟨acc, s2 _ _ hacc, ?_, acc ++ [.ref l], Ja, ?_, ?_⟩
      · have := Paired.length hrows
        rw [List.length_map, List.length_take] at this
        exact Nat.lt_of_le_of_lt (show _ ≤ 100 by omega) (by decide)
      · intro c u e
        rw [Zc (yd e hD)]
        exact s2 _ _ (sH _ _ e)
      · rw [Zas hp, List.map_append]
        exact zb7.upd (Paired.snoc (zb7.same hrows s2) ⟨l, rfl, nlD, Ja⟩)
    · rintro H' ⟨acc, hacc, sH, hrows⟩
      rw [hlen, List.take_length] at hrows
      have hal : acc.length = s.pls.length := by
        have := Paired.length hrows
        rw [List.length_map] at this
        exact this
      refine ⟨_, rfl, D, _, rfl, .inl (SqL.of hacc), _, rfl, _, D, acc, _, rfl, hacc, zb7.rows hrows, ?_, ?_, ?_⟩
      · rw [List.length_map]; omega
      · intro l hl
        obtain ⟨p, _, rfl⟩ := List.mem_map.mp hl
        exact (by decide : 4 ≤ 10)
      · rw [hal]
        exact k.same sH
end
end Lr
namespace Lr
open PySem hiding Act
open PySem.Spec
open PyProof.Rows hiding St
open L2
open Sy33 (Act Item File bit noticeOf holder voids plotOf isCharge getsOf creditor total changes)
def Zc5 (L : List (Nat × Nat)) (e : Nat) : V := .int (getsOf L e : Nat)
theorem JgD {g g' : Nat → V} {l : List Nat} (h : ∀ e ∈ l, g e = g' e) : jz g l = jz g' l := List.map_congr_left fun e he => by rw [h e he]
theorem jg7 (L : List (Nat × Nat)) (e n : Nat) : putK (jz (Zc5 L) (chN L)) (Sum.inl (e : Int)) (.int ((getsOf L e + n : Nat) : Int)) = jz (Zc5 (L ++ [(e, n)])) (chN (L ++ [(e, n)])) := by
  have ne : ∀ x, x ≠ e → Zc5 L x = Zc5 (L ++ [(e, n)]) x := fun x hx => by
    unfold Zc5
    rw [ze7, if_neg (Ne.symm hx), Nat.add_zero]
  have eq : V.int ((getsOf L e + n : Nat) : Int) = Zc5 (L ++ [(e, n)]) e := by
    unfold Zc5
    rw [ze7, if_pos rfl]
  rw [JdX]
  unfold putK
  rw [Jf9]
  by_cases h : e ∈ chN L
  · rw [if_pos (by simpa using h), if_pos (List.contains_iff_mem.mpr h)]
    unfold jz
    rw [List.map_map]
    refine List.map_congr_left fun x _ => ?_
    show (if (Sum.inl (x : Int) : Key) = Sum.inl (e : Int) then (Sum.inl (x : Int), _) else _) = _
    by_cases hx : x = e
    · subst hx
      rw [if_pos rfl, eq]
    · rw [if_neg (key_ne hx), ne x hx]
  · rw [if_neg (by simpa using h), if_neg (fun z => h (List.contains_iff_mem.mp z))]
    have e1 : jz (Zc5 L) (chN L) = jz (Zc5 (L ++ [(e, n)])) (chN L) := JgD fun x hx => ne x fun z => h (z ▸ hx)
    rw [e1, eq]
    unfold jz
    rw [List.map_append]
    rfl
section
variable {P : Program} {w : World} {K : PySem.W.Frag} {mg : Str → Option Value} {base : Heap} {A : Adr}
def Yga (K : PySem.W.Frag) : Sp := fun vs H Q _ => ∃ (pl gv : Addr) (ys : List V) (ps : List Pl) (giv : List Nat) (n : Nat), vs = [.ref pl, .ref gv, .int n] ∧ SqL K H pl ys ∧ zag H ys ps ∧ H gv = some (.dK (jz tru giv)) ∧ ps.length ≤ 1000 ∧
  ∀ (H' : Hp) (d : Addr), Yu H H' → H d = Option.none → H' d = some (.dK (jz (Zc5 (shr giv n ps)) (chN (shr giv n ps)))) → Q (.ref d) H'
theorem Jg7 (T : Txt K mg A) : Zf P w K mg base CX0 1 A.ybl A.jdb ["places", "given", "amount"] (Yga K) := by
  refine T.jfE.ok Zcy (fun vs H Q E h => ?_) (fun cdv B outer s H vs Q E hr h => ?_)
  · obtain ⟨_, _, _, _, _, _, rfl, _⟩ := h
    rfl
  · have hu := jcD hr
    obtain ⟨pl, gv, ys, ps, giv, n, rfl, hS, hP, hg, hl, k⟩ := h
    have hlen := zcs hP
    refine ⟨_, (Yc (jab (i := 3) Zcy.nd rfl (by first | exact Or.inl rfl | exact Or.inr rfl) zeI) (Yc (jab (i := 4) Zcy.nd rfl (by first | exact Or.inl rfl | exact Or.inr rfl) (pv 2)) (Yc (Zdn PassesOwn.never rfl (yaH (K := K) rfl (pv 0)) (jai (i := 5) Zcy.nd rfl (by first | exact Or.inl rfl | exact Or.inr rfl)) (Yc (jab (i := 6) Zcy.nd rfl (by first | exact Or.inl rfl | exact Or.inr rfl) (jeG (je2 (JfA hu (Jj (Ye (K := K) rfl) (pv 5) je (fun _ _ => rfl)) (pv 1))) (zu (Zf3 rfl) (by rfl) T.zhi Jf5 (Za (pv 4) (Za (Jj (Ye (K := K) rfl) (pv 5) je (fun _ _ => rfl)) yc))) je)) (Yc (Zfx hu (pv 3) (Jj (Ye (K := K) rfl) (pv 5) je (fun _ _ => rfl)) (ZeH yge (Zhe hu (pv 3) (Jj (Ye (K := K) rfl) (pv 5) je (fun _ _ => rfl)) je ⟨rfl, rfl, rfl, rfl⟩) (pv 6)) rfl) (jb (Yha (i := 4) Zcy.nd rfl (by first | exact Or.inl rfl | exact Or.inr rfl) (pv 6) jha))))) (jb (yf (pv 3)))))), ?_⟩
    refine fun d hd => ?_
    have s1 := Jd (o := .dK []) hd
    refine ⟨_, rfl, _, rfl, pl, rfl, ⟨_, s1.seq hS⟩, Ycz (K := K) (a := pl) (xs := ys) (fun j σ H' => (∃ v5 v6, σ = [some (.ref pl), some (.ref gv), some (.int n), some (.ref d), some (.int (left giv n (ps.take j) : Nat)), v5, v6]) ∧ Yu H H' ∧ H' d = some (.dK (jz (Zc5 (shr giv n (ps.take j))) (chN (shr giv n (ps.take j)))))) ⟨⟨_, _, rfl⟩, s1, Ja⟩ (fun j σ H' _ h => h.2.1.seq hS) ?_ ?_⟩
    · rintro j v σ H' hv ⟨⟨v5, v6, rfl⟩, sH, hd'⟩
      obtain ⟨p, hp, b, rfl, hb⟩ := hP.get hv
      have hj : j < ys.length := (List.getElem?_eq_some_iff.mp hv).1
      have hb' := sH _ _ hb
      have hg' := sH _ _ hg
      have sn := jfH giv p (ps.take j) n
      have ln := Ze7 giv p (ps.take j) n
      have fin : ∀ part : Nat, part = (if giv.contains p.entry = true then min (left giv n (ps.take j)) p.amount else 0) → left giv n (ps.take (j + 1)) = left giv n (ps.take j) - part ∧ putK (jz (Zc5 (shr giv n (ps.take j))) (chN (shr giv n (ps.take j)))) (Sum.inl (p.entry : Int)) (.int ((getsOf (shr giv n (ps.take j)) p.entry + part : Nat) : Int)) = jz (Zc5 (shr giv n (ps.take (j + 1)))) (chN (shr giv n (ps.take (j + 1)))) := fun part hpart => by
        rw [Zas hp, sn, ln, ← hpart]
        exact ⟨rfl, jg7 _ _ _⟩
      have gt : ∀ part : Nat, part = (if giv.contains p.entry = true then min (left giv n (ps.take j)) p.amount else 0) → (ja0 (jz (Zc5 (shr giv n (ps.take j))) (chN (shr giv n (ps.take j)))) (Sum.inl (p.entry : Int))).getD (.int 0) = V.int (getsOf (shr giv n (ps.take j)) p.entry : Nat) := fun part _ => by
        rw [yas]
        by_cases hm : p.entry ∈ chN (shr giv n (ps.take j))
        · rw [if_pos hm]; rfl
        · rw [if_neg hm, jf9 hm]; rfl
      have cl : (jz (Zc5 (shr giv n (ps.take j))) (chN (shr giv n (ps.take j)))).length < sizeLine := by
        rw [Jbc]
        have h1 := zgY (shr giv n (ps.take j))
        have h2 : (shr giv n (ps.take j)).length = (ps.take j).length := by
          have := congrArg List.length (zeO giv (ps.take j) n)
          rw [List.length_map, List.length_map] at this
          exact this
        rw [List.length_take] at h2
        exact Nat.lt_of_le_of_lt (show _ ≤ 1000 by omega) (by decide)
      have tail : ∀ part : Nat, part = (if giv.contains p.entry = true then min (left giv n (ps.take j)) p.amount else 0) → (part : Int) ≤ (left giv n (ps.take j) : Nat) := fun part h => by
        rw [h]
        split <;> omega
      refine ⟨_, rfl, jfp hb' ⟨_, rfl, gv, _, rfl, Jby.k (k := Sum.inl (p.entry : Int)) hg', _, rfl, ?_⟩⟩
      rw [JaN]
      refine br (fun h => ?_) (fun h => ?_)
      · refine ⟨_, rfl, _, rfl, Zg4 hb' ⟨_, _, rfl, ?_⟩⟩
        have e1 : (if (p.amount : Int) < ((left giv n (ps.take j) : Nat) : Int) then (p.amount : Int) else ((left giv n (ps.take j) : Nat) : Int)) = ((min (left giv n (ps.take j)) p.amount : Nat) : Int) := by split <;> omega
        rw [e1]
        have hpart : min (left giv n (ps.take j)) p.amount = (if giv.contains p.entry = true then min (left giv n (ps.take j)) p.amount else 0) := by rw [if_pos h]
        generalize min (left giv n (ps.take j)) p.amount = part at *
        obtain ⟨q1, q2⟩ := fin part hpart
        refine ⟨_, rfl, d, rfl, .inl ⟨_, .inl hd'⟩, _, rfl, jfp hb' ⟨_, Jby.k (k := Sum.inl (p.entry : Int)) hd', ?_⟩⟩
        rw [gt part hpart]
        refine ⟨_, rfl, _, _, rfl, rfl, _, rfl, _, rfl, jfp hb' ⟨d, _, rfl, Jgf.k (k := Sum.inl (p.entry : Int)) hd' cl, ?_⟩⟩
        have e3 : ((left giv n (ps.take j) : Nat) : Int) - (part : Int) = ((left giv n (ps.take (j + 1)) : Nat) : Int) := by
          have := tail part hpart
          rw [q1]
          omega
        have e4 : ((getsOf (shr giv n (ps.take j)) p.entry : Nat) : Int) + (part : Int) = ((getsOf (shr giv n (ps.take j)) p.entry + part : Nat) : Int) := by omega
        refine ⟨_, rfl, _, rfl, _, _, rfl, rfl, ?_⟩
        dsimp only
        rw [e3, e4, q2]
        refine ⟨⟨_, _, rfl⟩, fun c u e => ?_, Ja⟩
        rw [Zc (yd e hd)]
        exact sH _ _ e
      · have hpart : 0 = (if giv.contains p.entry = true then min (left giv n (ps.take j)) p.amount else 0) := by rw [if_neg (by rw [h]; simp)]
        obtain ⟨q1, q2⟩ := fin 0 hpart
        refine ⟨_, rfl, d, rfl, .inl ⟨_, .inl hd'⟩, _, rfl, jfp hb' ⟨_, Jby.k (k := Sum.inl (p.entry : Int)) hd', ?_⟩⟩
        rw [gt 0 hpart]
        refine ⟨_, rfl, _, _, rfl, rfl, _, rfl, _, rfl, jfp hb' ⟨d, _, rfl, Jgf.k (k := Sum.inl (p.entry : Int)) hd' cl, ?_⟩⟩
        have e3 : ((left giv n (ps.take j) : Nat) : Int) - (0 : Int) = ((left giv n (ps.take (j + 1)) : Nat) : Int) := by
          rw [q1]
          omega
        have e4 : ((getsOf (shr giv n (ps.take j)) p.entry : Nat) : Int) + (0 : Int) = ((getsOf (shr giv n (ps.take j)) p.entry + 0 : Nat) : Int) := by omega
        refine ⟨_, rfl, _, rfl, _, _, rfl, rfl, ?_⟩
        dsimp only
        rw [e3, e4, q2]
        refine ⟨⟨_, _, rfl⟩, fun c u e => ?_, Ja⟩
        rw [Zc (yd e hd)]
        exact sH _ _ e
    · rintro σ H' ⟨⟨v5, v6, rfl⟩, sH, hd'⟩
      rw [hlen, List.take_length] at hd'
      exact ⟨_, rfl, k H' d sH hd hd'⟩
def yhu (f : File) (L : List (Nat × Nat)) (e : Nat) : List Nat := [e, creditor f.items e, getsOf L e]
def jeP (A : Adr) : Sp := fun vs H Q _ => ∃ (H0 : Hp) (sv : V) (void : List Nat) (evs : List V) (f : File) (q m n : Nat) (s : Sh), vs = [sv, .int n] ∧ yaX A H0 evs f.items ∧ Ybh A H0 H sv void (esF evs) s ∧ StOk f q m s ∧ m ≤ 40 ∧ jcE H (je8 ((n - total ((shr s.giv n s.pls).map fun x => x.2) : Nat) : Int) ((chN (shr s.giv n s.pls)).map (yhu f (shr s.giv n s.pls)))) Q
theorem Zhm (L : List (Nat × Nat)) : ((chN L).map fun e => ((getsOf L e : Nat) : Int)).sum = ((total (L.map fun x => x.2) : Nat) : Int) := by
  rw [← JgB]
  have := Ze6 ((chN L).map (getsOf L)) 0
  unfold total
  rw [this, List.map_map]
  simp [Function.comp_def]
theorem zgk (T : Txt K mg A) : Zf P w K mg base CX0 2 A.Zan A.JbA ["sheet", "amount"] (jeP A) := by
  have Zaj : Zf P w K mg base CX0 1 A.YD A.jaa ["number", "rows"] (ZaU) := Ybn T
  have yhm : Zf P w K mg base CX0 1 A.ybl A.jdb ["places", "given", "amount"] (Yga K) := Jg7 T
  refine T.JdU.ok Ycr (fun vs H Q E h => ?_) (fun cdv B outer s H vs Q E hr h => ?_)
  · obtain ⟨_, _, _, _, _, _, _, _, _, rfl, _⟩ := h
    rfl
  · have hu := jcD hr
    obtain ⟨H0, sv, void, evs, f, q, m, n, s, rfl, its, hS, hO, h40, k⟩ := h
    obtain ⟨sa, dx, vd, st, pl, gv, kvv, ys, rfl, r⟩ := id hS
    obtain ⟨f1, f2, f3, f4, f5, f6⟩ := r.fld T
    have hpl := hO.pl
    refine ⟨_, (Yc (jab (i := 2) Ycr.nd rfl (by first | exact Or.inl rfl | exact Or.inr rfl) (jD yhm (hr.mono (by decide)) (by rfl) T.ygx T.jfE.kp T.Zgx .nil Jh (Za (Jc (K := K) rfl (pv 0) rfl) (Za (Jc (K := K) rfl (pv 0) rfl) (Za (pv 1) yc))))) (Yc (YgU (zgv (i := 3) rfl Ycr.nd rfl rfl (ZgU rfl rfl rfl rfl) (Yhr (pv 2)) (own := [("charge", 4)]) (by show Jdx ["sheet", "amount", "parts", "rows", "charge"] (za Jab) _ [("charge", 4)]; exact ⟨rfl, by decide +kernel, by decide +kernel, by decide +kernel, by decide +kernel⟩) (fun _ _ _ _ _ => (jai (i := 4) Ycr.nd rfl (by first | exact Or.inl rfl | exact Or.inr rfl))) (fun _ _ _ _ _ => jeH) (fun _ _ _ _ _ => (zaw (Za (pv 4) (Za (Jc (K := K) rfl (jdn hu (Jc (K := K) rfl (pv 0) rfl) (pv 4) (fun _ _ => rfl)) rfl) (Za (jdn hu (pv 2) (pv 4) (fun _ _ => rfl)) yc))))))) (jb (yf (jD Zaj (hr.mono (by decide)) (by rfl) T.Ybb T.jaM.kp T.ybb .nil Jh (Za (ZeH YgJ (pv 1) (Yhs rfl (by rfl) T.Zhi (pv 2))) (Za (pv 3) yc))))))), ?_⟩
    refine ⟨_, rfl, f5.rd ⟨_, rfl, f6.rd ⟨_, rfl, pl, gv, ys, s.pls, s.giv, n, rfl, SqL.of r.po, r.ps, r.go, by omega, fun H1 d s1 hd hd1 => ?_⟩⟩⟩
    generalize hL : shr s.giv n s.pls = L at *
    have cin : ∀ e ∈ chN L, e ∈ s.std ∧ isCharge f.items e = true := fun e he => by
      obtain ⟨p, hp, e1⟩ := (JgX L e).mp he
      have : e ∈ s.pls.map fun p => p.entry := by
        rw [← zeO s.giv s.pls n, hL]
        exact List.mem_map.mpr ⟨p, hp, e1⟩
      obtain ⟨pp, hpp, e2⟩ := List.mem_map.mp this
      rw [← e2]
      exact hO.pin pp hpp
    have clen : (chN L).length ≤ 40 := by
      have h1 := zgY L
      have h2 : L.length = s.pls.length := by
        have := congrArg List.length (zeO s.giv s.pls n)
        rw [List.length_map, List.length_map, hL] at this
        exact this
      omega
    have r1 := r.same s1
    refine ⟨d, _, hd1, (by trivial), fun od => ?_⟩
    generalize hHL : upd H1 d (.frz od (.dK (jz (Zc5 L) (chN L)))) = HL
    have hdL : HL d = some (.frz od (.dK (jz (Zc5 L) (chN L)))) := by rw [← hHL]; exact Ja
    have sHL : Yu H HL := fun c u e => by rw [← hHL, Zc (yd e hd)]; exact s1 _ _ e
    refine ⟨_, rfl, d, od, rfl, .inl ⟨_, hdL, fun D hD => zhk (chN L).length (fun j H' => ∃ acc, H' D = some (.lst acc) ∧ Yu HL H' ∧ Paired (zb7 D H') acc (((chN L).take j).map (yhu f L))) ⟨[], Ja, Jd hD, .nil⟩ ?_ ?_ ?_ ?_⟩⟩
    · rintro j H' hj ⟨acc, hacc, sH, _⟩
      exact ⟨sH _ _ hdL, by rw [Jbc]; exact hj⟩
    · rintro H' ⟨acc, hacc, sH, _⟩
      exact ⟨sH _ _ hdL, by rw [Jbc]; exact Nat.le_refl _⟩
    · rintro j x H' H'' hj ⟨acc, hacc, sH, hrows⟩ ⟨rfl, k1, v1, hk1, rfl⟩
      obtain ⟨e, he⟩ : ∃ e, (chN L)[j]? = some e := ⟨(chN L)[j], List.getElem?_eq_getElem hj⟩
      have e1 : k1 = Sum.inl (e : Int) := by
        unfold jz at hk1
        rw [List.getElem?_map, he] at hk1
        exact (congrArg Prod.fst (Option.some.inj hk1)).symm
      subst e1
      have hem : e ∈ chN L := List.mem_of_getElem? he
      obtain ⟨hstd, hic⟩ := cin e hem
      have r2 := r.same (sHL.trans sH)
      obtain ⟨g1, g2, g3, g4, g5, g6⟩ := r2.fld T
      obtain ⟨x, hx, hpx⟩ := ZbY (jdB hic)
      show wipe ((wipe _ [4]).set 4 (some (V.int (e : Int)))) [4] = wipe _ [4] ∧ _
      refine ⟨by simp [wipe], ?_⟩
      refine ⟨_, rfl, _, rfl, g4.rd ⟨_, rfl, st, esF evs e, rfl, ?_, ((Yas T (its.at hx) hpx).same r2.sm).rd ⟨_, rfl, _, rfl, d, Zc5 L e, rfl, ?_, (by show 3 ≤ sizeLine; decide), fun l hl => ?_⟩⟩⟩
      · have := Jby.k (H := H'') (a := st) (k := Sum.inl (e : Int)) r2.so
        rw [yas, if_pos hstd] at this
        exact this
      · have : Jby H'' d (kV (Sum.inl (e : Int))) (ja0 (jz (Zc5 L) (chN L)) (Sum.inl (e : Int))) := .inl ⟨_, _, .inr ⟨od, sH _ _ hdL⟩, rfl, rfl⟩
        rw [yas, if_pos hem] at this
        exact this
      have s2 := Jd (o := .lst (yaJ (yhu f L e))) hl
      have nlD : l ≠ D := Ne.symm (yd hacc hl)
      refine ⟨acc, s2 _ _ hacc, ?_, acc ++ [.ref l], Ja, ?_, ?_⟩
      · have := Paired.length hrows
        rw [List.length_map, List.length_take] at this
        exact Nat.lt_of_le_of_lt (show _ ≤ 100 by omega) (by decide)
      · intro c u e
        rw [Zc (yd e hD)]
        exact s2 _ _ (sH _ _ e)
      · rw [Zas he, List.map_append]
        exact zb7.upd (Paired.snoc (zb7.same hrows s2) ⟨l, rfl, nlD, Ja⟩)
    · rintro H' ⟨acc, hacc, sH, hrows⟩
      rw [List.take_length] at hrows
      have nDd : D ≠ d := by
        intro z
        subst z
        rw [hdL] at hD
        cases hD
      have sF : Yu H (upd H' d (.dK (jz (Zc5 L) (chN L)))) := fun c u e => by
        rw [Zc (yd e hd)]
        exact sH _ _ (sHL _ _ e)
      have rowsF : Ygj (upd H' d (.dK (jz (Zc5 L) (chN L)))) acc ((chN L).map (yhu f L)) := Paired.Yei hrows fun _ _ ⟨a, e, _, qq⟩ => ⟨a, e, by
        rw [Zc (zaR qq (sH _ _ hdL) (by intro z; cases z))]
        exact qq⟩
      refine ⟨sH _ _ hdL, ?_⟩
      refine ⟨_, rfl, _, rfl, d, _, (chN L).map (fun e => ((getsOf L e : Nat) : Int)), rfl, Ja, ?_, _, _, rfl, rfl, _, rfl, _, D, acc, _, rfl, ?_, rowsF, ?_, ?_, ?_⟩
      · unfold jz
        rw [List.map_map, List.map_map]
        rfl
      · rw [Zc nDd]; exact hacc
      · rw [List.length_map]; omega
      · intro l hl
        obtain ⟨p, _, rfl⟩ := List.mem_map.mp hl
        exact (by decide : 3 ≤ 10)
      · have hle := jhC s.giv s.pls n
        rw [hL] at hle
        rw [Zhm, show (n : Int) - ((total (L.map fun x => x.2) : Nat) : Int) = ((n - total (L.map fun x => x.2) : Nat) : Int) by omega]
        exact k.same sF
end
end Lr
namespace Lr
open PySem hiding Act
open PySem.Spec
open PyProof.Rows hiding St
open L2
open Sy33 (Act Item File bit noticeOf holder voids plotOf isCharge getsOf creditor total changes)
def Yeq (b : Option (List Nat)) (l : List (List Nat)) : Option (List Nat) := match l.getLast? with
  | none => b
  | some r => some (r.drop 1)
theorem ZfK (x : List Nat) : ∀ (l : List (List Nat)) (b : Option (List Nat)), changes b (l ++ [x]) = changes b l ++ (if Yeq b (changes b l) = some (x.drop 1) then [] else [x])
  | [], b => by
    show changes b [x] = _
    rw [changes, changes, changes]
    rfl
  | y :: l, b => by
    show changes b (y :: (l ++ [x])) = _
    rw [changes, changes]
    by_cases h : b = some (y.drop 1)
    · rw [if_pos h, if_pos h]
      exact ZfK x l b
    · rw [if_neg h, if_neg h, ZfK x l, List.cons_append]
      have e : Yeq (some (y.drop 1)) (changes (some (y.drop 1)) l) = Yeq b (y :: changes (some (y.drop 1)) l) := by
        unfold Yeq
        cases changes (some (y.drop 1)) l with
        | nil => rfl
        | cons z r => rw [List.getLast?_cons_cons]; rw [List.getLast?_eq_some_getLast (List.cons_ne_nil z r)]
      rw [e]
section
variable {P : Program} {w : World} {K : PySem.W.Frag} {mg : Str → Option Value} {base : Heap} {A : Adr}
def zgE (f : File) (e : Nat) : List Nat := [e, bit ((noticeOf f.items e).isSome), (holder f.items e).getD 0]
def jdY (A : Adr) : Sp := fun vs H Q _ => ∃ (H0 : Hp) (sv : V) (void : List Nat) (evs : List V) (f : File) (q n : Nat) (s : Sh), vs = [sv] ∧ yaX A H0 evs f.items ∧ Ybh A H0 H sv void (esF evs) s ∧ StOk f q n s ∧ n ≤ 40 ∧ jcE H (je8 ((s.std.filter fun e => !isCharge f.items e).length : Nat) ((s.std.filter fun e => !isCharge f.items e).map (zgE f))) Q
theorem yfK (T : Txt K mg A) : Zf P w K mg base CX0 2 A.YS A.Za1 ["sheet"] (jdY A) := by
  have Zaj : Zf P w K mg base CX0 1 A.YD A.jaa ["number", "rows"] (ZaU) := Ybn T
  refine T.Zc4.ok zbz (fun vs H Q E h => ?_) (fun cdv B outer s H vs Q E hr h => ?_)
  · obtain ⟨_, _, _, _, _, _, _, _, rfl, _⟩ := h
    rfl
  · obtain ⟨H0, sv, void, evs, f, q, n, s, rfl, its, hS, hO, h40, k⟩ := h
    obtain ⟨sa, dx, vd, st, pl, gv, kvv, ys, rfl, r⟩ := id hS
    have hl := hO.len
    refine ⟨_, (Yc (jab (i := 1) zbz.nd rfl (by first | exact Or.inl rfl | exact Or.inr rfl) (zaw yc)) (Yc (YgU (Zdn PassesOwn.never rfl (Yhe (Jc (K := K) rfl (pv 0) rfl)) (yha rfl (JeG (jai (i := 2) zbz.nd rfl (by first | exact Or.inl rfl | exact Or.inr rfl)) (JeG (jai (i := 3) zbz.nd rfl (by first | exact Or.inl rfl | exact Or.inr rfl)) JgS))) (jb (JN (Jdm (Yby (zu (ZbU (K := K) rfl) (by rfl) T.zW zA (Za (pv 3) (Za (jg (v := .ref A.jc) (by rfl) T.jb3 rfl) yc))))) (jb (yD (Yem PySem.F.plainAttrs_list PySem.F.slot_list_append PySem.F.type_list_append zbU (pv 1) (Za (zaw (Za (pv 2) (Za (jeG (Yby (zu (ZbU (K := K) rfl) (by rfl) T.zW zA (Za (pv 3) (Za (jg (v := .ref A.Zd) (by rfl) T.ZcC rfl) yc)))) je je) (Za (Jc (K := K) rfl (pv 3) rfl) yc)))) yc)))) Zo)))) (jb (yf (jD Zaj (hr.mono (by decide)) (by rfl) T.Ybb T.jaM.kp T.ybb .nil Jh (Za (zu (Yx (K := K) rfl) (by rfl) T.YcD PySem.boot_len (Za (pv 1) yc)) (Za (pv 1) yc))))))), ?_⟩
    refine ⟨Nat.zero_le _, fun rl hrl => ?_⟩
    have s1 := Jd (o := .lst []) hrl
    refine ⟨st, _, s1 _ _ r.so, (by trivial), fun od => ?_⟩
    have nrs : rl ≠ st := Ne.symm (yd r.so hrl)
    have nas : sa ≠ st := zaR r.ob r.so (by intro z; cases z)
    generalize hHb : upd H st (.frz od (.dK (jz (esF evs) s.std))) = Hb
    have hbst : Hb st = some (.frz od (.dK (jz (esF evs) s.std))) := by rw [← hHb]; exact Ja
    have hbrl : Hb rl = Option.none := by rw [← hHb, Zc nrs]; exact hrl
    have hbsa : Hb sa = some (.ins A.Jk dx (Zg7 s vd st pl gv)) := by rw [← hHb, Zc nas]; exact r.ob
    have s0b : Yu H0 Hb := by rw [← hHb]; exact r.sm.jG r.fst
    generalize hH1 : upd (upd H rl (.lst [])) st (.frz od (.dK (jz (esF evs) s.std))) = H1
    have h1rl : H1 rl = some (.lst []) := by rw [← hH1, Zc nrs]; exact Ja
    have sb1 : Yu Hb H1 := fun c u e => by
      rw [← hH1]
      rw [← hHb] at e
      by_cases hc : c = st
      · subst hc
        rw [Ja] at e ⊢
        exact e
      · rw [Zc hc] at e ⊢
        rw [Zc (yd e hrl)]
        exact e
    refine ⟨_, rfl, Fld.rd (u := .ref st) ⟨sa, _, dx, _, rfl, sb1 _ _ hbsa, T.Yn, T.zH, rfl⟩ ⟨st, od, _, rfl, sb1 _ _ hbst, ZgY s.std.length (fun j σ H' => (∃ v2 v3, σ = [some (.ref sa), some (.ref rl), v2, v3]) ∧ ∃ acc, H' rl = some (.lst acc) ∧ Yu Hb H' ∧ Paired (zb7 rl H') acc (((s.std.take j).filter fun e => !isCharge f.items e).map (zgE f))) ⟨⟨_, _, rfl⟩, [], h1rl, sb1, .nil⟩ ?_ ?_ ?_ ?_⟩⟩
    · rintro j σ H' hj ⟨_, acc, hacc, sH, _⟩
      exact ⟨sH _ _ hbst, by rw [Jbc]; exact hj⟩
    · rintro σ H' ⟨_, acc, hacc, sH, _⟩
      exact ⟨sH _ _ hbst, by rw [Jbc]; exact Nat.le_refl _⟩
    · rintro j v σ H' H'' hj ⟨⟨v2, v3, rfl⟩, acc, hacc, sH, hrows⟩ ⟨tp, k1, v1, hk1, rfl, htp, rfl⟩
      obtain ⟨e, he⟩ : ∃ e, s.std[j]? = some e := ⟨s.std[j], List.getElem?_eq_getElem hj⟩
      have e1 : k1 = Sum.inl (e : Int) ∧ v1 = esF evs e := by
        unfold jz at hk1
        rw [List.getElem?_map, he] at hk1
        exact ⟨(congrArg Prod.fst (Option.some.inj hk1)).symm, (congrArg Prod.snd (Option.some.inj hk1)).symm⟩
      obtain ⟨rfl, rfl⟩ := e1
      have hem : e ∈ s.std := List.mem_of_getElem? he
      have s2 := Jd (o := .tup [kV (Sum.inl (e : Int)), esF evs e]) htp
      have sHt := sH.trans s2
      have hacc2 := s2 _ _ hacc
      obtain ⟨p, hp⟩ := Option.isSome_iff_exists.mp (hO.hd e hem).1
      obtain ⟨x, hx, hpx⟩ := ZbY hp
      have itsT := its.same (s0b.trans sHt)
      have fp := Yas T (itsT.at hx) hpx
      obtain ⟨t, ty, kd⟩ := Yb6 T itsT e
      have hlen : acc.length ≤ 40 := by
        have h1 := Paired.length hrows
        have h2 := List.length_filter_le (fun e => !isCharge f.items e) (s.std.take j)
        rw [List.length_map] at h1
        rw [List.length_take] at h2
        omega
      refine ⟨tp, _, rfl, SqT.of Ja, rfl, _, _, rfl, _, _, rfl, rfl, ?_⟩
      refine ⟨_, rfl, _, _, t, _, rfl, ty, kd.c, _, rfl, ?_⟩
      refine br (fun h => ?_) (fun h => ?_)
      · have hic : isCharge f.items e = false := by rw [YcE]; simpa using h
        have erow : zgE f e = [e, bit (kN (Zag f.items e)), p] := by
          unfold zgE
          rw [YfI, hp]
          rfl
        have fin : ∀ (l : Addr), (upd H' tp (.tup [kV (Sum.inl (e : Int)), esF evs e])) l = Option.none → ∀ zs : List V, zs = yaJ (zgE f e) → (∃ v2 v3, [some (V.ref sa), some (V.ref rl), some (kV (Sum.inl (e : Int))), some (esF evs e)] = [some (V.ref sa), some (V.ref rl), v2, v3]) ∧ ∃ acc', (upd (upd (upd H' tp (.tup [kV (Sum.inl (e : Int)), esF evs e])) l (.lst zs)) rl (.lst (acc ++ [.ref l]))) rl = some (.lst acc') ∧ Yu Hb (upd (upd (upd H' tp (.tup [kV (Sum.inl (e : Int)), esF evs e])) l (.lst zs)) rl (.lst (acc ++ [.ref l]))) ∧ Paired (zb7 rl (upd (upd (upd H' tp (.tup [kV (Sum.inl (e : Int)), esF evs e])) l (.lst zs)) rl (.lst (acc ++ [.ref l])))) acc' (((s.std.take (j + 1)).filter fun e => !isCharge f.items e).map (zgE f)) := fun l hl zs hz => by
          subst hz
          have s3 := Jd (o := .lst (yaJ (zgE f e))) hl
          have nlr : l ≠ rl := Ne.symm (yd hacc2 hl)
          refine ⟨⟨_, _, rfl⟩, acc ++ [.ref l], Ja, fun c u e => ?_, ?_⟩
          · rw [Zc (yd e hbrl)]
            exact s3 _ _ (sHt _ _ e)
          · rw [Zas he, List.filter_append, List.map_append]
            have e2 : ([e].filter fun e => !isCharge f.items e) = [e] := by
              rw [List.filter_cons, hic]
              rfl
            rw [e2]
            exact zb7.upd (Paired.snoc (zb7.same hrows (s2.trans s3)) ⟨l, rfl, nlr, Ja⟩)
        rw [erow] at fin
        refine ⟨_, rfl, .inl ⟨rfl, _, SqL.of hacc2⟩, _, rfl, _, rfl, _, _, t, _, rfl, ty, kd.n, _, rfl, ?_⟩
        refine br (fun h2 => ?_) (fun h2 => ?_)
        · rw [h2] at fin
          exact ⟨_, rfl, fp.rd ⟨(by show 3 ≤ sizeLine; decide), fun l hl => ⟨rl, acc, _, rfl, rfl, Jd hl _ _ hacc2, Nat.lt_of_le_of_lt (show _ ≤ 100 by omega) (by decide), fin l hl _ rfl⟩⟩⟩
        · rw [h2] at fin
          exact ⟨_, rfl, fp.rd ⟨(by show 3 ≤ sizeLine; decide), fun l hl => ⟨rl, acc, _, rfl, rfl, Jd hl _ _ hacc2, Nat.lt_of_le_of_lt (show _ ≤ 100 by omega) (by decide), fin l hl _ rfl⟩⟩⟩
      · have hic : isCharge f.items e = true := by rw [YcE]; simpa using h
        refine ⟨⟨_, _, rfl⟩, acc, hacc2, sHt, ?_⟩
        rw [Zas he, List.filter_append, List.map_append]
        have e2 : ([e].filter fun e => !isCharge f.items e) = [] := by
          rw [List.filter_cons, hic]
          rfl
        rw [e2, List.map_nil, List.append_nil]
        exact zb7.same hrows s2
    · rintro σ H' ⟨⟨v2, v3, rfl⟩, acc, hacc, sH, hrows⟩
      rw [List.take_length] at hrows
      have sF : Yu H (upd H' st (.dK (jz (esF evs) s.std))) := fun c u e => by
        by_cases hc : c = st
        · subst hc
          rw [Ja]
          rw [r.so] at e
          exact e
        · rw [Zc hc]
          refine sH _ _ ?_
          rw [← hHb, Zc hc]
          exact e
      have haccF : upd H' st (.dK (jz (esF evs) s.std)) rl = some (.lst acc) := by rw [Zc nrs]; exact hacc
      have rowsF : Ygj (upd H' st (.dK (jz (esF evs) s.std))) acc ((s.std.filter fun e => !isCharge f.items e).map (zgE f)) := Paired.Yei hrows fun _ _ ⟨a, e, _, qq⟩ => ⟨a, e, by
        rw [Zc (zaR qq (sH _ _ hbst) (by intro z; cases z))]
        exact qq⟩
      have hal : acc.length = (s.std.filter fun e => !isCharge f.items e).length := by
        have := Paired.length hrows
        rw [List.length_map] at this
        exact this
      have hfl := List.length_filter_le (fun e => !isCharge f.items e) s.std
      refine ⟨sH _ _ hbst, ?_⟩
      refine ⟨_, rfl, rl, _, rfl, .inl (SqL.of haccF), _, rfl, _, rl, acc, _, rfl, haccF, rowsF, ?_, ?_, ?_⟩
      · rw [List.length_map]; omega
      · intro l hl
        obtain ⟨p, _, rfl⟩ := List.mem_map.mp hl
        exact (by decide : 3 ≤ 10)
      · rw [hal]
        exact k.same sF
end
end Lr
namespace Lr
open PySem hiding Act
open PySem.Spec
open PyProof.Rows hiding St
open L2
open Sy33 (Act Item File bit noticeOf holder voids plotOf isCharge getsOf creditor total changes)
def Yhm (H : Hp) (v : V) : V := match v with
  | .ref a => (match H a with
    | some (.ins _ _ fs) => (fs.lookup ("day" : Str)).getD .non
    | _ => .non)
  | _ => .non
theorem zgZ {K : PySem.W.Frag} {H : Hp} {v : V} {d : Nat} (h : Fld K H v "day" (.int d)) : Yhm H v = .int d := by
  obtain ⟨a, C, dx, fs, rfl, e, _, _, l⟩ := h
  simp only [Yhm, e, l, Option.getD_some]
theorem Yhu (f : File) (q k d : Nat) : (prs f q k d).length = 2 := rfl
theorem JeP (f : File) (q k : Nat) : ∀ (l : List Nat) (b : Option (List Nat)) (r : List Nat), r ∈ changes b (l.map fun d => d :: prs f q k d) → ∃ d, r = d :: prs f q k d
  | [], _, _, h => by cases h
  | x :: l, b, r, h => by
    rw [jbc] at h
    split at h
    · exact JeP f q k l b r h
    · rcases List.mem_cons.mp h with e | h
      · exact ⟨x, e⟩
      · exact JeP f q k l _ r h
theorem Zfy (b : Option (List Nat)) : ∀ (l : List (List Nat)), ∀ b, (changes b l).length ≤ l.length
  | [], _ => Nat.le_refl _
  | x :: l, b => by
    rw [changes]
    split
    · exact Nat.le_succ_of_le (Zfy b l b)
    · exact Nat.succ_le_succ (Zfy b l _)
section
variable {P : Program} {w : World} {K : PySem.W.Frag} {mg : Str → Option Value} {base : Heap} {A : Adr}
def yaz (f : File) : List Nat := 0 :: f.items.map fun x => x.day
def Jej (f : File) (q k : Nat) (l : List Nat) : List (List Nat) := changes none (l.map fun d => d :: prs f q k d)
def zeQ (A : Adr) : Sp := fun vs H Q _ => ∃ (b : Addr) (f : File) (dx oa ea : Addr) (es : List V) (q k : Nat), vs = [.ref b, .int q, .int k] ∧ BkR A H b f dx oa ea es ∧ WF f ∧ AB f ∧ q < f.owners.length ∧ jcE H (je8 ((Jej f q k (yaz f)).length : Nat) (Jej f q k (yaz f))) Q
theorem Zgk (T : Txt K mg A) : Zf P w K mg base CX0 6 A.yan A.zbB ["book", "plot", "known"] (zeQ A) := by
  have Zaj : Zf P w K mg base CX0 1 A.YD A.jaa ["number", "rows"] (ZaU) := Ybn T
  have Yax : Zf P w K mg base CX0 5 A.Jt A.Y4 ["self", "plot", "day", "known"] (ZcT A) := ZbV T
  refine T.zdV.ok JaL (fun vs H Q E h => ?_) (fun cdv B outer s H vs Q E hr h => ?_)
  · obtain ⟨_, _, _, _, _, _, _, _, rfl, _⟩ := h
    rfl
  · obtain ⟨b, f, dx, oa, ea, es, q, k, rfl, hB, hW, hA, hq, kk⟩ := h
    have hlen := jee hB.its
    have h40 := hW.n
    refine ⟨_, (Yc (jab (i := 3) JaL.nd rfl (by first | exact Or.inl rfl | exact Or.inr rfl) (zaw yc)) (Yc (Zdn PassesOwn.never rfl (yaH (K := K) rfl (ZeH zhd (zaw (Za je yc)) (yf4 rfl JaL.nd (yaH (K := K) rfl (Jc (K := K) rfl (pv 0) rfl)) (own := [("entry", 5)]) (by show Jdx ["book", "plot", "known", "rows", "day", "entry", "sheet", "persons"] (za zac) _ [("entry", 5)]; exact ⟨rfl, by decide +kernel, by decide +kernel, by decide +kernel, by decide +kernel⟩) (fun _ _ _ _ _ => (jai (i := 5) JaL.nd rfl (by first | exact Or.inl rfl | exact Or.inr rfl))) (fun _ _ _ _ _ => jeH) (fun _ _ _ _ _ => (Jc (K := K) rfl (pv 5) rfl))))) (jai (i := 4) JaL.nd rfl (by first | exact Or.inl rfl | exact Or.inr rfl)) (Yc (jab (i := 6) JaL.nd rfl (by first | exact Or.inl rfl | exact Or.inr rfl) (j8 (pv 0) T.Zab T.yaS Yax (hr.mono (by decide)) T.zaS .nil Jh (Za (pv 1) (Za (pv 4) (Za (pv 2) yc))))) (Yc (jab (i := 7) JaL.nd rfl (by first | exact Or.inl rfl | exact Or.inr rfl) (zaw (Za (Jc (K := K) rfl (pv 6) rfl) (Za (Jc (K := K) rfl (pv 6) rfl) yc)))) (jb (JN (PW.pt (pw_or (Yq ZaL (zu (Yx (K := K) rfl) (by rfl) T.YcD PySem.boot_len (Za (pv 3) yc)) je (jm _)) (pw_or1 (Yq (jhs (K := K) rfl (Jhs hr)) (ZfA (yfC (K := K) rfl) (Jj (Ye (K := K) rfl) (pv 3) (zhw yhb je) (fun _ _ => rfl)) (Jfw je) JgT) (pv 7) (jm _))))) (jb (yD (Yem PySem.F.plainAttrs_list PySem.F.slot_list_append PySem.F.type_list_append zbU (pv 3) (Za (ZeH zhd (zaw (Za (pv 4) yc)) (pv 7)) yc)))) Zo))))) (jb (yf (jD Zaj (hr.mono (by decide)) (by rfl) T.Ybb T.jaM.kp T.ybb .nil Jh (Za (zu (Yx (K := K) rfl) (by rfl) T.YcD PySem.boot_len (Za (pv 3) yc)) (Za (pv 3) yc))))))), ?_⟩
    refine ⟨Nat.zero_le _, fun rl hrl => ?_⟩
    have s1 := Jd (o := .lst []) hrl
    refine ⟨(by show 1 ≤ sizeLine; decide), fun l1 hl1 => ?_⟩
    have s2 := Jd (o := .lst [.int 0]) hl1
    have hB2 := hB.same (s1.trans s2)
    obtain ⟨f1, f2, f3⟩ := hB2.fld T
    generalize hH2 : upd (upd H rl (.lst [])) l1 (.lst [.int 0]) = H2 at *
    have h2l1 : H2 l1 = some (.lst [.int 0]) := by rw [← hH2]; exact Ja
    have h2rl : H2 rl = some (.lst []) := s2 _ _ Ja
    refine ⟨_, rfl, f3.rd ⟨ea, rfl, ⟨_, SqL.of hB2.eo⟩, fun D hD => JeM (K := K) (a := ea) (xs := es) (fun _ => true) (Yhm H2) (SqL.of hB2.eo) hD (JgW (by omega)) ?_ ?_ ?_⟩⟩
    · intro x acc R hx z
      exact z
    · intro x acc R hx _ z
      obtain ⟨i, hi⟩ := List.getElem?_of_mem hx
      obtain ⟨it, hit, r⟩ := Paired.get hB2.its hi
      have fd := Ydp T r
      rw [zgZ fd] at z
      exact ⟨_, rfl, (fd.same (Jd hD)).rd z⟩
    have edays : List.map (Yhm H2) (List.filter (fun _ => true) es) = yaJ (f.items.map fun x => x.day) := by
      rw [List.filter_eq_self.mpr (fun _ _ => rfl)]
      have : ∀ {xs : List V} {is : List Item}, yaX A H2 xs is → xs.map (Yhm H2) = yaJ (is.map fun x => x.day) := by
        intro xs is h
        induction h with
        | nil => rfl
        | cons r t ih =>
          show _ :: _ = _ :: _
          rw [ih, zgZ (Ydp T r)]
      exact this hB2.its
    rw [edays]
    have s3 := Jd (o := .lst (yaJ (f.items.map fun x => x.day))) hD
    refine ⟨l1, D, _, _, rfl, rfl, s3 _ _ h2l1, Ja, ?_, fun p hp => ?_⟩
    · rw [List.length_map, List.length_map]
      exact Nat.le_trans (show _ ≤ 100 by show 1 + f.items.length ≤ 100; omega) (by decide)
    have edl : [V.int 0] ++ yaJ (f.items.map fun x => x.day) = yaJ (yaz f) := rfl
    rw [edl]
    have s4 := Jd (o := .lst (yaJ (yaz f))) hp
    have hpH : H p = Option.none := ((s1.trans s2).trans s3).free hp
    have hprl : p ≠ rl := Ne.symm (yd (s3 _ _ h2rl) hp)
    generalize hHb : upd H p (.lst (yaJ (yaz f))) = Hb
    have hbp : Hb p = some (.lst (yaJ (yaz f))) := by rw [← hHb]; exact Ja
    have hbrl : Hb rl = Option.none := by rw [← hHb, Zc (Ne.symm hprl)]; exact hrl
    have sHb : Yu H Hb := by rw [← hHb]; exact Jd hpH
    have s0 : Yu Hb (upd (upd H2 D (.lst (yaJ (f.items.map fun x => x.day)))) p (.lst (yaJ (yaz f)))) := fun c u e => by
      by_cases hc : c = p
      · subst hc
        rw [hbp] at e
        rw [Ja]
        exact e
      · rw [← hHb, Zc hc] at e
        exact s4 _ _ (s3 _ _ ((s1.trans s2) _ _ e))
    refine ⟨p, rfl, ⟨_, SqL.of Ja⟩, Ycz (K := K) (a := p) (xs := yaJ (yaz f)) (fun j σ H' => (∃ v4 v5 v6 v7, σ = [some (.ref b), some (.int q), some (.int k), some (.ref rl), v4, v5, v6, v7]) ∧ ∃ acc, H' rl = some (.lst acc) ∧ Yu Hb H' ∧ Paired (zb7 rl H') acc (Jej f q k ((yaz f).take j))) ⟨⟨_, _, _, _, rfl⟩, [], s4 _ _ (s3 _ _ h2rl), s0, .nil⟩ (fun j σ H' _ h => ?_) ?_ ?_⟩
    · obtain ⟨_, acc, _, sH, _⟩ := h
      exact SqL.of (sH _ _ hbp)
    · rintro j v σ H' hv ⟨⟨v4, v5, v6, v7, rfl⟩, acc, hacc, sH, hrows⟩
      rw [List.getElem?_map] at hv
      obtain ⟨d, hd, e1⟩ := Option.map_eq_some_iff.mp hv
      subst e1
      have hB' := hB.same (sHb.trans sH)
      have hdl : (yaz f).length = f.items.length + 1 := by unfold yaz; rw [List.length_cons, List.length_map]
      have hal : acc.length ≤ 41 := by
        have h1 := Paired.length hrows
        have h2 := Zfy none (((yaz f).take j).map fun d => d :: prs f q k d) none
        rw [List.length_map, List.length_take] at h2
        have h3 : (Jej f q k ((yaz f).take j)).length ≤ min j (yaz f).length := h2
        omega
      refine ⟨_, rfl, b, dx, _, rfl, hB'.ob, rfl, _, rfl, _, rfl, _, rfl, b, f, dx, oa, ea, es, q, d, k, rfl, hB', hW, hA, hq, fun H1 sv hS => ?_⟩
      obtain ⟨sa, sdx, vd, st, pl, gv, kvv, ys, rfl, r⟩ := hS
      obtain ⟨g1, g2, g3, g4, g5, g6⟩ := r.fld T
      have t1 := r.sm
      refine ⟨_, rfl, g1.rd ⟨_, rfl, g2.rd ⟨(by show 2 ≤ sizeLine; decide), fun pp hpp => ?_⟩⟩⟩
      have t2 := Jd (o := .lst [.int ((zaj f q d k).reg : Nat), .int ((zaj f q d k).own : Nat)]) hpp
      have t12 := t1.trans t2
      generalize hHp : upd H1 pp (.lst [.int ((zaj f q d k).reg : Nat), .int ((zaj f q d k).own : Nat)]) = Hp2 at *
      have hpp2 : Hp2 pp = some (.lst (yaJ (prs f q k d))) := by rw [← hHp]; exact Ja
      have hacc2 := t12 _ _ hacc
      have nppr : pp ≠ rl := Ne.symm (yd (t1 _ _ hacc) hpp)
      have csnoc : Jej f q k ((yaz f).take (j + 1)) = Jej f q k ((yaz f).take j) ++ (if Yeq none (Jej f q k ((yaz f).take j)) = some (prs f q k d) then [] else [d :: prs f q k d]) := by
        unfold Jej
        rw [Zas hd, List.map_append]
        exact ZfK _ _ _
      have app : ∀ (Hx : Hp) (l c : Addr), Yu Hp2 Hx → Hx l = Option.none → (upd Hx l (.lst [.int (d : Int)])) c = Option.none → Yeq none (Jej f q k ((yaz f).take j)) ≠ some (prs f q k d) →
          ∃ acc', (upd (upd (upd Hx l (.lst [.int (d : Int)])) c (.lst ([.int (d : Int)] ++ yaJ (prs f q k d)))) rl (.lst (acc ++ [.ref c]))) rl = some (.lst acc') ∧ Yu Hb (upd (upd (upd Hx l (.lst [.int (d : Int)])) c (.lst ([.int (d : Int)] ++ yaJ (prs f q k d)))) rl (.lst (acc ++ [.ref c]))) ∧
            Paired (zb7 rl (upd (upd (upd Hx l (.lst [.int (d : Int)])) c (.lst ([.int (d : Int)] ++ yaJ (prs f q k d)))) rl (.lst (acc ++ [.ref c])))) acc' (Jej f q k ((yaz f).take (j + 1))) := fun Hx l c sx hl hc hne => by
        have u1 := Jd (o := .lst [.int (d : Int)]) hl
        have u2 := Jd (o := .lst ([.int (d : Int)] ++ yaJ (prs f q k d))) hc
        have ncr : c ≠ rl := Ne.symm (yd (u1 _ _ (sx _ _ hacc2)) hc)
        have full := (t12.trans sx).trans (u1.trans u2)
        refine ⟨acc ++ [.ref c], Ja, fun cc u e => ?_, ?_⟩
        · rw [Zc (yd e hbrl)]
          exact full _ _ (sH _ _ e)
        · rw [csnoc, if_neg hne]
          exact zb7.upd (Paired.snoc (zb7.same hrows full) ⟨c, rfl, ncr, Ja⟩)
      refine ⟨_, rfl, rl, acc, rfl, .inl (SqL.of hacc2), rfl, _, rfl, ?_⟩
      by_cases hz : acc.length = 0
      · have hchg : Yeq none (Jej f q k ((yaz f).take j)) ≠ some (prs f q k d) := by
          have h1 := Paired.length hrows
          rw [hz] at h1
          rw [List.length_eq_zero_iff.mp h1.symm]
          intro z
          cases z
        refine brT (decide_eq_true (by rw [hz]; rfl)) ?_
        refine ⟨_, rfl, .inl ⟨rfl, _, SqL.of hacc2⟩, _, rfl, (by show 1 ≤ sizeLine; decide), fun l hl => ⟨_, rfl, l, pp, _, _, rfl, rfl, Ja, Jd hl _ _ hpp2, (by show 3 ≤ sizeLine; decide), fun c hc => ⟨rl, acc, _, rfl, rfl, Jd hc _ _ (Jd hl _ _ hacc2), Nat.lt_of_le_of_lt (show _ ≤ 100 by omega) (by decide), ⟨_, _, _, _, rfl⟩, app Hp2 l c (Yu.refl _) hl hc hchg⟩⟩⟩
      · obtain ⟨n, hn⟩ : ∃ n, acc.length = n + 1 := ⟨acc.length - 1, by omega⟩
        have hvn : acc[n]? = some acc[n] := List.getElem?_eq_getElem (by omega)
        obtain ⟨rr, hrr, ra, hva, nra, hra⟩ := Paired.get hrows hvn
        rw [hva] at hvn
        have hcl : (Jej f q k ((yaz f).take j)).length = n + 1 := by rw [← hn]; exact (Paired.length hrows).symm
        have hlast : Yeq none (Jej f q k ((yaz f).take j)) = some (rr.drop 1) := by
          unfold Yeq
          rw [List.getLast?_eq_getElem?, hcl, Nat.add_sub_cancel, hrr]
        obtain ⟨d', hd'⟩ := JeP f q k _ _ rr (List.mem_of_getElem? hrr)
        subst hd'
        have hra2 := t12 _ _ hra
        refine brF (decide_eq_false (fun z => by injection z with z; omega)) ?_
        refine ⟨_, rfl, _, rfl, .inl ⟨rl, acc, -1, .ref ra, rfl, rfl, SqL.of hacc2, jgY hn hvn, _, rfl, ra, _, rfl, SqL.of hra2, fun c hc => ?_⟩⟩
        have u0 := Jd (o := .lst (yaJ (prs f q k d'))) hc
        refine ⟨_, rfl, .list [.int ((zaj f q d' k).reg : Nat), .int ((zaj f q d' k).own : Nat)], .list [.int ((zaj f q d k).reg : Nat), .int ((zaj f q d k).own : Nat)], .lst (SqL.of Ja) (.cons (.int _) (.cons (.int _) .nil)), .lst (SqL.of (u0 _ _ hpp2)) (.cons (.int _) (.cons (.int _) .nil)), rfl, rfl, _, rfl, ?_⟩
        have eeq : PyData.eqv (.list [.int ((zaj f q d' k).reg : Nat), .int ((zaj f q d' k).own : Nat)]) (.list [.int ((zaj f q d k).reg : Nat), .int ((zaj f q d k).own : Nat)]) = decide (prs f q k d' = prs f q k d) := by
          show ((((zaj f q d' k).reg : Nat) : Int) == (((zaj f q d k).reg : Nat) : Int) && ((((zaj f q d' k).own : Nat) : Int) == (((zaj f q d k).own : Nat) : Int) && true)) = _
          unfold prs
          rw [Bool.eq_iff_iff]
          simp
          omega
        rw [eeq]
        refine br (fun h => ?_) (fun h => ?_)
        · have hchg : Yeq none (Jej f q k ((yaz f).take j)) ≠ some (prs f q k d) := by
            rw [hlast]
            intro z
            have : prs f q k d' = prs f q k d := Option.some.inj z
            simp [this] at h
          refine ⟨_, rfl, .inl ⟨rfl, _, SqL.of (u0 _ _ hacc2)⟩, _, rfl, (by show 1 ≤ sizeLine; decide), fun l hl => ⟨_, rfl, l, pp, _, _, rfl, rfl, Ja, Jd hl _ _ (u0 _ _ hpp2), (by show 3 ≤ sizeLine; decide), fun c2 hc2 => ⟨rl, acc, _, rfl, rfl, Jd hc2 _ _ (Jd hl _ _ (u0 _ _ hacc2)), Nat.lt_of_le_of_lt (show _ ≤ 100 by omega) (by decide), ⟨_, _, _, _, rfl⟩, app _ l c2 u0 hl hc2 hchg⟩⟩⟩
        · have hsame : prs f q k d' = prs f q k d := by simpa using h
          refine ⟨⟨_, _, _, _, rfl⟩, acc, u0 _ _ hacc2, (sH.trans t12).trans u0, ?_⟩
          rw [csnoc, hlast, if_pos (by show some (prs f q k d') = _; rw [hsame]), List.append_nil]
          exact zb7.same hrows (t12.trans u0)
    · rintro σ H' ⟨⟨v4, v5, v6, v7, rfl⟩, acc, hacc, sH, hrows⟩
      rw [List.length_map, List.take_length] at hrows
      have hal : acc.length = (Jej f q k (yaz f)).length := Paired.length hrows
      have h2 := Zfy none ((yaz f).map fun d => d :: prs f q k d) none
      have hdl : (yaz f).length = f.items.length + 1 := by unfold yaz; rw [List.length_cons, List.length_map]
      rw [List.length_map] at h2
      have h3 : (Jej f q k (yaz f)).length ≤ (yaz f).length := h2
      refine ⟨_, rfl, rl, _, rfl, .inl (SqL.of hacc), _, rfl, _, rl, acc, _, rfl, hacc, zb7.rows hrows, ?_, ?_, ?_⟩
      · omega
      · intro l hl
        obtain ⟨d, rfl⟩ := JeP f q k _ _ l hl
        show (prs f q k d).length + 1 ≤ 10
        rw [Yhu]
        decide
      · rw [hal]
        exact kk.same (sHb.trans sH)
end
end Lr
namespace Lr
open PySem hiding Act
open PySem.Spec
open PyProof.Rows hiding St
open L2
open Sy33 (Act Item File bit Call step)
section
variable {P : Program} {w : World} {K : PySem.W.Frag} {mg : Str → Option Value} {base : Heap} {A : Adr}
def zaO (K : PySem.W.Frag) (fs : List (Str × V)) (vs0 : List V) : Sp := fun vs H Q _ => ∃ (x C dx : Addr), vs = .ref x :: vs0 ∧ H x = some (.ins C dx []) ∧ Cls K C ∧ (∀ f ∈ fs.map (fun p => p.1), Jm K C f) ∧ Q .non (upd H x (.ins C dx fs))
theorem few {n : Nat} (h : n < 1000 := by decide) : n < 1000 := h
theorem jbn (T : Txt K mg A) (d : V) : Zf P w K mg base CX0 1 A.jw A.yaa ["self", "day"] (zaO K [("day", d)] [d]) := by
  refine T.JeJ.ok ZfV (fun vs H Q E h => ?_) (fun cdv B outer s H vs Q E hr h => ?_)
  · obtain ⟨_, _, _, rfl, _⟩ := h
    rfl
  · obtain ⟨x, C, dx, rfl, hx, cl, na, k⟩ := h
    refine ⟨_, (jb (Zu (K := K) rfl (pv 0) (pv 1) rfl)), ?_⟩
    exact ⟨_, rfl, _, rfl, x, C, dx, _, rfl, hx, cl, na _ (by simp), (few : 0 < 1000), k⟩
theorem ycT (T : Txt K mg A) (d q : V) : Zf P w K mg base CX0 2 A.Zq A.Zae ["self", "day", "plot"] (zaO K [("day", d), ("plot", q)] [d, q]) := by
  have yaj : Zf P w K mg base CX0 1 A.jw A.yaa ["self", "day"] (zaO K [("day", d)] [d]) := jbn T d
  refine T.Zdc.ok jeI (fun vs H Q E h => ?_) (fun cdv B outer s H vs Q E hr h => ?_)
  · obtain ⟨_, _, _, rfl, _⟩ := h
    rfl
  · obtain ⟨x, C, dx, rfl, hx, cl, na, k⟩ := h
    refine ⟨_, (Yc (yD (zcr (by rfl) T.Jed T.jN yaj (hr.mono (by decide)) T.zbb Jh (Za (pv 0) (Za (pv 1) yc)))) (jb (Zu (K := K) rfl (pv 0) (pv 2) rfl))), ?_⟩
    refine ⟨_, rfl, _, rfl, x, C, dx, rfl, hx, cl, fun f hf => na f (by simp at hf; simp [hf]), ?_⟩
    refine ⟨_, rfl, _, rfl, x, C, dx, _, rfl, Ja, cl, na _ (by simp), (few : 1 < 1000), ?_⟩
    rw [Yai]
    exact k
theorem Jcm (T : Txt K mg A) (d q p : V) : Zf P w K mg base CX0 3 A.Zj A.Yah ["self", "day", "plot", "person"] (zaO K [("day", d), ("plot", q), ("person", p)] [d, q, p]) := by
  have ybV : Zf P w K mg base CX0 2 A.Zq A.Zae ["self", "day", "plot"] (zaO K [("day", d), ("plot", q)] [d, q]) := ycT T d q
  refine T.JcA.ok Jei (fun vs H Q E h => ?_) (fun cdv B outer s H vs Q E hr h => ?_)
  · obtain ⟨_, _, _, rfl, _⟩ := h
    rfl
  · obtain ⟨x, C, dx, rfl, hx, cl, na, k⟩ := h
    refine ⟨_, (Yc (yD (zcr (by rfl) T.ZdV T.yH ybV (hr.mono (by decide)) T.jbU Jh (Za (pv 0) (Za (pv 1) (Za (pv 2) yc))))) (jb (Zu (K := K) rfl (pv 0) (pv 3) rfl))), ?_⟩
    refine ⟨_, rfl, _, rfl, _, rfl, x, C, dx, rfl, hx, cl, fun f hf => na f (by simp at hf; rcases hf with hf | hf <;> simp [hf]), ?_⟩
    refine ⟨_, rfl, _, rfl, x, C, dx, _, rfl, Ja, cl, na _ (by simp), (few : 2 < 1000), ?_⟩
    rw [Yai]
    exact k
theorem jeq (T : Txt K mg A) (d q g p kn : V) : Zf P w K mg base CX0 4 A.Jw A.Ybl ["self", "day", "plot", "giver", "person", "knows"] (zaO K [("day", d), ("plot", q), ("person", p), ("giver", g), ("knows", kn)] [d, q, g, p, kn]) := by
  have jbr : Zf P w K mg base CX0 3 A.Zj A.Yah ["self", "day", "plot", "person"] (zaO K [("day", d), ("plot", q), ("person", p)] [d, q, p]) := Jcm T d q p
  refine T.zeK.ok yfV (fun vs H Q E h => ?_) (fun cdv B outer s H vs Q E hr h => ?_)
  · obtain ⟨_, _, _, rfl, _⟩ := h
    rfl
  · obtain ⟨x, C, dx, rfl, hx, cl, na, k⟩ := h
    refine ⟨_, (Yc (yD (zcr (by rfl) T.Zep T.zF jbr (hr.mono (by decide)) T.ybr Jh (Za (pv 0) (Za (pv 1) (Za (pv 2) (Za (pv 4) yc)))))) (Yc (Zu (K := K) rfl (pv 0) (pv 3) rfl) (jb (Zu (K := K) rfl (pv 0) (pv 5) rfl)))), ?_⟩
    refine ⟨_, rfl, _, rfl, _, rfl, _, rfl, x, C, dx, rfl, hx, cl, fun f hf => na f (by simp at hf; rcases hf with hf | hf | hf <;> simp [hf]), ?_⟩
    refine ⟨_, rfl, _, rfl, x, C, dx, _, rfl, Ja, cl, na _ (by simp), (few : 3 < 1000), ?_⟩
    rw [Yai]
    refine ⟨_, rfl, _, rfl, x, C, dx, _, rfl, Ja, cl, na _ (by simp), (few : 4 < 1000), ?_⟩
    rw [Yai]
    exact k
theorem YfK (T : Txt K mg A) (d q g p am kn : V) : Zf P w K mg base CX0 5 A.jR A.Ybz ["self", "day", "plot", "giver", "person", "amount", "knows"] (zaO K [("day", d), ("plot", q), ("person", p), ("giver", g), ("knows", kn), ("amount", am)] [d, q, g, p, am, kn]) := by
  have jcs : Zf P w K mg base CX0 4 A.Jw A.Ybl ["self", "day", "plot", "giver", "person", "knows"] (zaO K [("day", d), ("plot", q), ("person", p), ("giver", g), ("knows", kn)] [d, q, g, p, kn]) := jeq T d q g p kn
  refine T.zen.ok jfC (fun vs H Q E h => ?_) (fun cdv B outer s H vs Q E hr h => ?_)
  · obtain ⟨_, _, _, rfl, _⟩ := h
    rfl
  · obtain ⟨x, C, dx, rfl, hx, cl, na, k⟩ := h
    refine ⟨_, (Yc (yD (zcr (by rfl) T.ygV T.zaz jcs (hr.mono (by decide)) T.Jcr Jh (Za (pv 0) (Za (pv 1) (Za (pv 2) (Za (pv 3) (Za (pv 4) (Za (pv 6) yc)))))))) (jb (Zu (K := K) rfl (pv 0) (pv 5) rfl))), ?_⟩
    refine ⟨_, rfl, _, rfl, _, rfl, _, rfl, _, rfl, _, rfl, x, C, dx, rfl, hx, cl, fun f hf => na f (by simp at hf; rcases hf with hf | hf | hf | hf | hf <;> simp [hf]), ?_⟩
    refine ⟨_, rfl, _, rfl, x, C, dx, _, rfl, Ja, cl, na _ (by simp), (few : 5 < 1000), ?_⟩
    rw [Yai]
    exact k
theorem Yfr (T : Txt K mg A) (d q : V) : Zf P w K mg base CX0 3 A.yM A.Zbp ["self", "day", "plot"] (zaO K [("day", d), ("plot", q), ("owner", .non)] [d, q]) := by
  have ybV : Zf P w K mg base CX0 2 A.Zq A.Zae ["self", "day", "plot"] (zaO K [("day", d), ("plot", q)] [d, q]) := ycT T d q
  refine T.YdT.ok yfp (fun vs H Q E h => ?_) (fun cdv B outer s H vs Q E hr h => ?_)
  · obtain ⟨_, _, _, rfl, _⟩ := h
    rfl
  · obtain ⟨x, C, dx, rfl, hx, cl, na, k⟩ := h
    refine ⟨_, (Yc (yD (zcr (by rfl) T.ZdV T.yH ybV (hr.mono (by decide)) T.jbU Jh (Za (pv 0) (Za (pv 1) (Za (pv 2) yc))))) (jb (Zu (K := K) rfl (pv 0) Zha rfl))), ?_⟩
    refine ⟨_, rfl, _, rfl, _, rfl, x, C, dx, rfl, hx, cl, fun f hf => na f (by simp at hf; rcases hf with hf | hf <;> simp [hf]), ?_⟩
    refine ⟨_, rfl, x, C, dx, _, rfl, Ja, cl, na _ (by simp), (few : 2 < 1000), ?_⟩
    rw [Yai]
    exact k
theorem ygk (T : Txt K mg A) (d n : V) : Zf P w K mg base CX0 2 A.jam A.jcr ["self", "day", "voided"] (zaO K [("day", d), ("voided", n)] [d, n]) := by
  have yaj : Zf P w K mg base CX0 1 A.jw A.yaa ["self", "day"] (zaO K [("day", d)] [d]) := jbn T d
  refine T.Zfh.ok Ygg (fun vs H Q E h => ?_) (fun cdv B outer s H vs Q E hr h => ?_)
  · obtain ⟨_, _, _, rfl, _⟩ := h
    rfl
  · obtain ⟨x, C, dx, rfl, hx, cl, na, k⟩ := h
    refine ⟨_, (Yc (yD (zcr (by rfl) T.Jed T.jN yaj (hr.mono (by decide)) T.zbb Jh (Za (pv 0) (Za (pv 1) yc)))) (jb (Zu (K := K) rfl (pv 0) (pv 2) rfl))), ?_⟩
    refine ⟨_, rfl, _, rfl, x, C, dx, rfl, hx, cl, fun f hf => na f (by simp at hf; simp [hf]), ?_⟩
    refine ⟨_, rfl, _, rfl, x, C, dx, _, rfl, Ja, cl, na _ (by simp), (few : 1 < 1000), ?_⟩
    rw [Yai]
    exact k
theorem jfK (T : Txt K mg A) (d n m : V) : Zf P w K mg base CX0 2 A.JR A.jbz ["self", "day", "noted", "knows"] (zaO K [("day", d), ("noted", n), ("knows", m)] [d, n, m]) := by
  have yaj : Zf P w K mg base CX0 1 A.jw A.yaa ["self", "day"] (zaO K [("day", d)] [d]) := jbn T d
  refine T.yen.ok JfC (fun vs H Q E h => ?_) (fun cdv B outer s H vs Q E hr h => ?_)
  · obtain ⟨_, _, _, rfl, _⟩ := h
    rfl
  · obtain ⟨x, C, dx, rfl, hx, cl, na, k⟩ := h
    refine ⟨_, (Yc (yD (zcr (by rfl) T.Jed T.jN yaj (hr.mono (by decide)) T.zbb Jh (Za (pv 0) (Za (pv 1) yc)))) (Yc (Zu (K := K) rfl (pv 0) (pv 2) rfl) (jb (Zu (K := K) rfl (pv 0) (pv 3) rfl)))), ?_⟩
    refine ⟨_, rfl, _, rfl, x, C, dx, rfl, hx, cl, fun f hf => na f (by simp at hf; simp [hf]), ?_⟩
    refine ⟨_, rfl, _, rfl, x, C, dx, _, rfl, Ja, cl, na _ (by simp), (few : 1 < 1000), ?_⟩
    rw [Yai]
    refine ⟨_, rfl, _, rfl, x, C, dx, _, rfl, Ja, cl, na _ (by simp), (few : 2 < 1000), ?_⟩
    rw [Yai]
    exact k
theorem JfK (T : Txt K mg A) (d n m : V) : Zf P w K mg base CX0 2 A.ZS A.Jbz ["self", "day", "struck", "striker"] (zaO K [("day", d), ("struck", n), ("striker", m)] [d, n, m]) := by
  have yaj : Zf P w K mg base CX0 1 A.jw A.yaa ["self", "day"] (zaO K [("day", d)] [d]) := jbn T d
  refine T.jen.ok zfD (fun vs H Q E h => ?_) (fun cdv B outer s H vs Q E hr h => ?_)
  · obtain ⟨_, _, _, rfl, _⟩ := h
    rfl
  · obtain ⟨x, C, dx, rfl, hx, cl, na, k⟩ := h
    refine ⟨_, (Yc (yD (zcr (by rfl) T.Jed T.jN yaj (hr.mono (by decide)) T.zbb Jh (Za (pv 0) (Za (pv 1) yc)))) (Yc (Zu (K := K) rfl (pv 0) (pv 2) rfl) (jb (Zu (K := K) rfl (pv 0) (pv 3) rfl)))), ?_⟩
    refine ⟨_, rfl, _, rfl, x, C, dx, rfl, hx, cl, fun f hf => na f (by simp at hf; simp [hf]), ?_⟩
    refine ⟨_, rfl, _, rfl, x, C, dx, _, rfl, Ja, cl, na _ (by simp), (few : 1 < 1000), ?_⟩
    rw [Yai]
    refine ⟨_, rfl, _, rfl, x, C, dx, _, rfl, Ja, cl, na _ (by simp), (few : 2 < 1000), ?_⟩
    rw [Yai]
    exact k
theorem jfX (T : Txt K mg A) (d n m : V) : Zf P w K mg base CX0 2 A.Yaa A.jbX ["self", "day", "one", "other"] (zaO K [("day", d), ("one", n), ("other", m)] [d, n, m]) := by
  have yaj : Zf P w K mg base CX0 1 A.jw A.yaa ["self", "day"] (zaO K [("day", d)] [d]) := jbn T d
  refine T.ZeK.ok YfV (fun vs H Q E h => ?_) (fun cdv B outer s H vs Q E hr h => ?_)
  · obtain ⟨_, _, _, rfl, _⟩ := h
    rfl
  · obtain ⟨x, C, dx, rfl, hx, cl, na, k⟩ := h
    refine ⟨_, (Yc (yD (zcr (by rfl) T.Jed T.jN yaj (hr.mono (by decide)) T.zbb Jh (Za (pv 0) (Za (pv 1) yc)))) (Yc (Zu (K := K) rfl (pv 0) (pv 2) rfl) (jb (Zu (K := K) rfl (pv 0) (pv 3) rfl)))), ?_⟩
    refine ⟨_, rfl, _, rfl, x, C, dx, rfl, hx, cl, fun f hf => na f (by simp at hf; simp [hf]), ?_⟩
    refine ⟨_, rfl, _, rfl, x, C, dx, _, rfl, Ja, cl, na _ (by simp), (few : 1 < 1000), ?_⟩
    rw [Yai]
    refine ⟨_, rfl, _, rfl, x, C, dx, _, rfl, Ja, cl, na _ (by simp), (few : 2 < 1000), ?_⟩
    rw [Yai]
    exact k
end
end Lr
namespace L2
open PySem PySem.Spec PyProof.Rows
theorem Zf.ex {P : Program} {w : World} {K : PySem.W.Frag} {mg : Str → Option Value} {base : Heap} {CX : CXT} {k : Nat} {f : Addr} {fd : FuncData} {ps : List Str} {ι : Type} {sp : ι → Sp} (F : ∀ i, Zf P w K mg base CX k f fd ps (sp i)) : Zf P w K mg base CX k f fd ps (fun vs H Q E => ∃ i, sp i vs H Q E) :=
  ⟨fun vs H Q E ⟨i, q⟩ => (F i).len vs H Q E q, fun A outer s H args us vs Q E hr he hb hv ⟨i, q⟩ => (F i).run A outer s H args us vs Q E hr he hb hv q⟩
theorem zx {K : PySem.W.Frag} {H : Hp} {ca : Addr} {xs : List V} {i : Int} {v : V} {Q : VK} (hS : SqL K H ca xs) (h : atI xs i = some v) (q : Q v H) : rIx K (.ref ca) (.int i) H Q := .inl ⟨ca, xs, i, v, rfl, rfl, hS, h, q⟩
end L2
namespace Lr
open PySem hiding Act
open PySem.Spec
open PyProof.Rows hiding St
open L2
open Sy33 (Act Item File bit Call step)
theorem Ygk {k : Nat} (h : k ≤ 1) : bit (k == 1) = k := by
  have : k = 0 ∨ k = 1 := by omega
  rcases this with rfl | rfl <;> rfl
section
variable {P : Program} {w : World} {K : PySem.W.Frag} {mg : Str → Option Value} {base : Heap} {A : Adr}
def Jfl (K : PySem.W.Frag) (A : Adr) : Sp := fun vs H Q _ => ∃ (ca : Addr) (l : List Int) (d : Nat) (a : Act), vs = [.ref ca] ∧ SqL K H ca (l.map V.int) ∧ zad l (.act d a) ∧ ∀ (H' : Hp) (e : Addr), Yu H H' → H e = Option.none → ZbD A H' (.ref e) d a .non → Q (.ref e) H'
theorem ZgE (T : Txt K mg A) : Zf P w K mg base CX0 7 A.ZaC A.Jb1 ["call"] (Jfl K A) := by
  have jcs := Zf.ex (ι := V × V × V × V × V) (P := P) (w := w) (base := base) fun i => jeq T i.1 i.2.1 i.2.2.1 i.2.2.2.1 i.2.2.2.2
  have JfX := Zf.ex (ι := V × V × V × V × V × V) (P := P) (w := w) (base := base) fun i => YfK T i.1 i.2.1 i.2.2.1 i.2.2.2.1 i.2.2.2.2.1 i.2.2.2.2.2
  have jbr := Zf.ex (ι := V × V × V) (P := P) (w := w) (base := base) fun i => Jcm T i.1 i.2.1 i.2.2
  have zfY := Zf.ex (ι := V × V × V) (P := P) (w := w) (base := base) fun i => jfK T i.1 i.2.1 i.2.2
  have ZfY := Zf.ex (ι := V × V × V) (P := P) (w := w) (base := base) fun i => JfK T i.1 i.2.1 i.2.2
  have jgk := Zf.ex (ι := V × V × V) (P := P) (w := w) (base := base) fun i => jfX T i.1 i.2.1 i.2.2
  have zfL := Zf.ex (ι := V × V) (P := P) (w := w) (base := base) fun i => Yfr T i.1 i.2
  have ygE := Zf.ex (ι := V × V) (P := P) (w := w) (base := base) fun i => ygk T i.1 i.2
  refine T.ZeA.ok jfg (fun vs H Q E h => ?_) (fun cdv B outer s H vs Q E hr h => ?_)
  · obtain ⟨_, _, _, _, rfl, _⟩ := h
    rfl
  · obtain ⟨ca, l, d, a, rfl, hS, hc, kk⟩ := h
    refine ⟨_, (Yc (jab (i := 1) jfg.nd rfl (by first | exact Or.inl rfl | exact Or.inr rfl) (Jj (Ye (K := K) rfl) (pv 0) je (fun _ _ => rfl))) (Yc (JN (Yq ZaL (pv 1) (jg (by rfl) T.YfF T.jfF) (jm _)) (jb (yf (YbX T.Zbu jcs (hr.mono (by decide)) (by rfl) T.yeA T.Jcr .nil Jh (Za (Jj (Ye (K := K) rfl) (pv 0) je (fun _ _ => rfl)) (Za (Jj (Ye (K := K) rfl) (pv 0) je (fun _ _ => rfl)) (Za (Jj (Ye (K := K) rfl) (pv 0) je (fun _ _ => rfl)) (Za (Jj (Ye (K := K) rfl) (pv 0) je (fun _ _ => rfl)) (Za (Jj (Ye (K := K) rfl) (pv 0) je (fun _ _ => rfl)) yc)))))))) Zo) (Yc (JN (Yq ZaL (pv 1) (jg (by rfl) T.zgy T.Zgy) (jm _)) (jb (yf (YbX T.ycy JfX (hr.mono (by decide)) (by rfl) T.jb3 T.Zen .nil Jh (Za (Jj (Ye (K := K) rfl) (pv 0) je (fun _ _ => rfl)) (Za (Jj (Ye (K := K) rfl) (pv 0) je (fun _ _ => rfl)) (Za (Jj (Ye (K := K) rfl) (pv 0) je (fun _ _ => rfl)) (Za (Jj (Ye (K := K) rfl) (pv 0) je (fun _ _ => rfl)) (Za (Jj (Ye (K := K) rfl) (pv 0) je (fun _ _ => rfl)) (Za (Jj (Ye (K := K) rfl) (pv 0) je (fun _ _ => rfl)) yc))))))))) Zo) (Yc (JN (Yq ZaL (pv 1) (jg (by rfl) T.ygy T.Ygy) (jm _)) (jb (yf (YbX T.Ycy jcs (hr.mono (by decide)) (by rfl) T.ZcC T.Jcr .nil Jh (Za (Jj (Ye (K := K) rfl) (pv 0) je (fun _ _ => rfl)) (Za (Jj (Ye (K := K) rfl) (pv 0) je (fun _ _ => rfl)) (Za (Jj (Ye (K := K) rfl) (pv 0) je (fun _ _ => rfl)) (Za (Jj (Ye (K := K) rfl) (pv 0) je (fun _ _ => rfl)) (Za (Jj (Ye (K := K) rfl) (pv 0) je (fun _ _ => rfl)) yc)))))))) Zo) (Yc (JN (Yq ZaL (pv 1) (jg (by rfl) T.jgy T.Jgy) (jm _)) (jb (yf (YbX T.jcy zfY (hr.mono (by decide)) (by rfl) T.yfF T.Yen .nil Jh (Za (Jj (Ye (K := K) rfl) (pv 0) je (fun _ _ => rfl)) (Za (Jj (Ye (K := K) rfl) (pv 0) je (fun _ _ => rfl)) (Za (Jj (Ye (K := K) rfl) (pv 0) je (fun _ _ => rfl)) yc)))))) Zo) (Yc (JN (Yq ZaL (pv 1) (jg (by rfl) T.yfk T.Yfk) (jm _)) (jb (yf (YbX T.jbb jbr (hr.mono (by decide)) (by rfl) T.ZcR T.ybr .nil Jh (Za (Jj (Ye (K := K) rfl) (pv 0) je (fun _ _ => rfl)) (Za (Jj (Ye (K := K) rfl) (pv 0) je (fun _ _ => rfl)) (Za (Jj (Ye (K := K) rfl) (pv 0) je (fun _ _ => rfl)) yc)))))) Zo) (Yc (JN (Yq ZaL (pv 1) (jg (by rfl) T.zgz T.Zgz) (jm _)) (jb (yf (YbX T.Jcy ZfY (hr.mono (by decide)) (by rfl) T.Jgx T.Jen .nil Jh (Za (Jj (Ye (K := K) rfl) (pv 0) je (fun _ _ => rfl)) (Za (Jj (Ye (K := K) rfl) (pv 0) je (fun _ _ => rfl)) (Za (Jj (Ye (K := K) rfl) (pv 0) je (fun _ _ => rfl)) yc)))))) Zo) (Yc (JN (Yq ZaL (pv 1) (jg (by rfl) T.JgV T.zgW) (jm _)) (jb (yf (YbX T.jdd jgk (hr.mono (by decide)) (by rfl) T.YgV T.yeK .nil Jh (Za (Jj (Ye (K := K) rfl) (pv 0) je (fun _ _ => rfl)) (Za (Jj (Ye (K := K) rfl) (pv 0) je (fun _ _ => rfl)) (Za (Jj (Ye (K := K) rfl) (pv 0) je (fun _ _ => rfl)) yc)))))) Zo) (Yc (JN (Yq ZaL (pv 1) (jg (by rfl) T.Zf7 T.yf7) (jm _)) (jb (yf (YbX T.zbV zfL (hr.mono (by decide)) (by rfl) T.zf7 T.jdT .nil Jh (Za (Jj (Ye (K := K) rfl) (pv 0) je (fun _ _ => rfl)) (Za (Jj (Ye (K := K) rfl) (pv 0) je (fun _ _ => rfl)) yc))))) Zo) (jb (yf (YbX T.zee ygE (hr.mono (by decide)) (by rfl) T.jgM T.yfh .nil Jh (Za (Jj (Ye (K := K) rfl) (pv 0) je (fun _ _ => rfl)) (Za (Jj (Ye (K := K) rfl) (pv 0) je (fun _ _ => rfl)) yc)))))))))))))), ?_⟩
    cases hc with
    | transfer d q g t k hk =>
      refine ⟨_, rfl, zx hS rfl ?_⟩
      refine ⟨_, rfl, rfl, _, rfl, brT (by decide) ?_⟩
      refine ⟨_, rfl, zx hS rfl ⟨_, rfl, zx hS rfl ⟨_, rfl, zx hS rfl ⟨_, rfl, zx hS rfl ⟨_, rfl, zx hS rfl (fun x dx hx hdx hne => ⟨(.int (d : Nat), .int (q : Nat), .int (g : Nat), .int (t : Nat), .int (k : Nat)), x, A.Jb, dx, rfl, Ja, T.ydV, ?_, rfl, ?_⟩)⟩⟩⟩⟩⟩
      · intro f hf
        simp at hf
        rcases hf with rfl | rfl | rfl | rfl | rfl
        · exact T.zar
        · exact T.Yag
        · exact T.jV
        · exact T.Z5
        · exact T.J4
      · refine kk _ x (((Jd hdx).jG hx).jG hx) hx ⟨x, dx, rfl, ?_⟩
        rw [show Ydf d (.transfer q g t (k == 1)) .non = ([("day", .int (d : Nat)), ("plot", .int (q : Nat)), ("person", .int (t : Nat)), ("giver", .int (g : Nat)), ("knows", .int (k : Nat))] : List (Str × V)) from by unfold Ydf; dsimp only; rw [Ygk hk]]
        exact Ja
    | charge d q g t n k hk =>
      refine ⟨_, rfl, zx hS rfl ?_⟩
      refine ⟨_, rfl, rfl, _, rfl, brF (by decide) ?_⟩
      refine ⟨_, rfl, rfl, _, rfl, brT (by decide) ?_⟩
      refine ⟨_, rfl, zx hS rfl ⟨_, rfl, zx hS rfl ⟨_, rfl, zx hS rfl ⟨_, rfl, zx hS rfl ⟨_, rfl, zx hS rfl ⟨_, rfl, zx hS rfl (fun x dx hx hdx hne => ⟨(.int (d : Nat), .int (q : Nat), .int (g : Nat), .int (t : Nat), .int (n : Nat), .int (k : Nat)), x, A.jc, dx, rfl, Ja, T.Ydd, ?_, rfl, ?_⟩)⟩⟩⟩⟩⟩⟩
      · intro f hf
        simp at hf
        rcases hf with rfl | rfl | rfl | rfl | rfl | rfl
        · exact T.JaM
        · exact T.yaC
        · exact T.jag
        · exact T.Zar
        · exact T.yar
        · exact T.JZ
      · refine kk _ x (((Jd hdx).jG hx).jG hx) hx ⟨x, dx, rfl, ?_⟩
        rw [show Ydf d (.charge q g t n (k == 1)) .non = ([("day", .int (d : Nat)), ("plot", .int (q : Nat)), ("person", .int (t : Nat)), ("giver", .int (g : Nat)), ("knows", .int (k : Nat)), ("amount", .int (n : Nat))] : List (Str × V)) from by unfold Ydf; dsimp only; rw [Ygk hk]]
        exact Ja
    | notice d q g t k hk =>
      refine ⟨_, rfl, zx hS rfl ?_⟩
      refine ⟨_, rfl, rfl, _, rfl, brF (by decide) ?_⟩
      refine ⟨_, rfl, rfl, _, rfl, brF (by decide) ?_⟩
      refine ⟨_, rfl, rfl, _, rfl, brT (by decide) ?_⟩
      refine ⟨_, rfl, zx hS rfl ⟨_, rfl, zx hS rfl ⟨_, rfl, zx hS rfl ⟨_, rfl, zx hS rfl ⟨_, rfl, zx hS rfl (fun x dx hx hdx hne => ⟨(.int (d : Nat), .int (q : Nat), .int (g : Nat), .int (t : Nat), .int (k : Nat)), x, A.Zd, dx, rfl, Ja, T.Ye5, ?_, rfl, ?_⟩)⟩⟩⟩⟩⟩
      · intro f hf
        simp at hf
        rcases hf with rfl | rfl | rfl | rfl | rfl
        · exact T.zaN
        · exact T.YaC
        · exact T.Jag
        · exact T.Yar
        · exact T.jar
      · refine kk _ x (((Jd hdx).jG hx).jG hx) hx ⟨x, dx, rfl, ?_⟩
        rw [show Ydf d (.notice q g t (k == 1)) .non = ([("day", .int (d : Nat)), ("plot", .int (q : Nat)), ("person", .int (t : Nat)), ("giver", .int (g : Nat)), ("knows", .int (k : Nat))] : List (Str × V)) from by unfold Ydf; dsimp only; rw [Ygk hk]]
        exact Ja
    | fulfil d n k hk =>
      refine ⟨_, rfl, zx hS rfl ?_⟩
      refine ⟨_, rfl, rfl, _, rfl, brF (by decide) ?_⟩
      refine ⟨_, rfl, rfl, _, rfl, brF (by decide) ?_⟩
      refine ⟨_, rfl, rfl, _, rfl, brF (by decide) ?_⟩
      refine ⟨_, rfl, rfl, _, rfl, brT (by decide) ?_⟩
      refine ⟨_, rfl, zx hS rfl ⟨_, rfl, zx hS rfl ⟨_, rfl, zx hS rfl (fun x dx hx hdx hne => ⟨(.int (d : Nat), .int (n : Nat), .int (k : Nat)), x, A.Yd, dx, rfl, Ja, T.jbu, ?_, rfl, ?_⟩)⟩⟩⟩
      · intro f hf
        simp at hf
        rcases hf with rfl | rfl | rfl
        · exact T.ZaN
        · exact T.jE
        · exact T.Jar
      · refine kk _ x (((Jd hdx).jG hx).jG hx) hx ⟨x, dx, rfl, ?_⟩
        rw [show Ydf d (.fulfil n (k == 1)) .non = ([("day", .int (d : Nat)), ("noted", .int (n : Nat)), ("knows", .int (k : Nat))] : List (Str × V)) from by unfold Ydf; dsimp only; rw [Ygk hk]]
        exact Ja
    | objection d q t =>
      refine ⟨_, rfl, zx hS rfl ?_⟩
      refine ⟨_, rfl, rfl, _, rfl, brF (by decide) ?_⟩
      refine ⟨_, rfl, rfl, _, rfl, brF (by decide) ?_⟩
      refine ⟨_, rfl, rfl, _, rfl, brF (by decide) ?_⟩
      refine ⟨_, rfl, rfl, _, rfl, brF (by decide) ?_⟩
      refine ⟨_, rfl, rfl, _, rfl, brT (by decide) ?_⟩
      refine ⟨_, rfl, zx hS rfl ⟨_, rfl, zx hS rfl ⟨_, rfl, zx hS rfl (fun x dx hx hdx hne => ⟨(.int (d : Nat), .int (q : Nat), .int (t : Nat)), x, A.Yb, dx, rfl, Ja, T.jdo, ?_, rfl, ?_⟩)⟩⟩⟩
      · intro f hf
        simp at hf
        rcases hf with rfl | rfl | rfl
        · exact T.zah
        · exact T.Y5
        · exact T.zO
      · refine kk _ x (((Jd hdx).jG hx).jG hx) hx ⟨x, dx, rfl, ?_⟩
        exact Ja
    | strike d n b =>
      refine ⟨_, rfl, zx hS rfl ?_⟩
      refine ⟨_, rfl, rfl, _, rfl, brF (by decide) ?_⟩
      refine ⟨_, rfl, rfl, _, rfl, brF (by decide) ?_⟩
      refine ⟨_, rfl, rfl, _, rfl, brF (by decide) ?_⟩
      refine ⟨_, rfl, rfl, _, rfl, brF (by decide) ?_⟩
      refine ⟨_, rfl, rfl, _, rfl, brF (by decide) ?_⟩
      refine ⟨_, rfl, rfl, _, rfl, brT (by decide) ?_⟩
      refine ⟨_, rfl, zx hS rfl ⟨_, rfl, zx hS rfl ⟨_, rfl, zx hS rfl (fun x dx hx hdx hne => ⟨(.int (d : Nat), .int (n : Nat), .int (b : Nat)), x, A.Jf, dx, rfl, Ja, T.Jbb, ?_, rfl, ?_⟩)⟩⟩⟩
      · intro f hf
        simp at hf
        rcases hf with rfl | rfl | rfl
        · exact T.yaN
        · exact T.YG
        · exact T.jO
      · refine kk _ x (((Jd hdx).jG hx).jG hx) hx ⟨x, dx, rfl, ?_⟩
        exact Ja
    | ahead d n m =>
      refine ⟨_, rfl, zx hS rfl ?_⟩
      refine ⟨_, rfl, rfl, _, rfl, brF (by decide) ?_⟩
      refine ⟨_, rfl, rfl, _, rfl, brF (by decide) ?_⟩
      refine ⟨_, rfl, rfl, _, rfl, brF (by decide) ?_⟩
      refine ⟨_, rfl, rfl, _, rfl, brF (by decide) ?_⟩
      refine ⟨_, rfl, rfl, _, rfl, brF (by decide) ?_⟩
      refine ⟨_, rfl, rfl, _, rfl, brF (by decide) ?_⟩
      refine ⟨_, rfl, rfl, _, rfl, brT (by decide) ?_⟩
      refine ⟨_, rfl, zx hS rfl ⟨_, rfl, zx hS rfl ⟨_, rfl, zx hS rfl (fun x dx hx hdx hne => ⟨(.int (d : Nat), .int (n : Nat), .int (m : Nat)), x, A.Jg, dx, rfl, Ja, T.Jbm, ?_, rfl, ?_⟩)⟩⟩⟩
      · intro f hf
        simp at hf
        rcases hf with rfl | rfl | rfl
        · exact T.Ja2
        · exact T.Yan
        · exact T.zab
      · refine kk _ x (((Jd hdx).jG hx).jG hx) hx ⟨x, dx, rfl, ?_⟩
        exact Ja
    | correct d q =>
      refine ⟨_, rfl, zx hS rfl ?_⟩
      refine ⟨_, rfl, rfl, _, rfl, brF (by decide) ?_⟩
      refine ⟨_, rfl, rfl, _, rfl, brF (by decide) ?_⟩
      refine ⟨_, rfl, rfl, _, rfl, brF (by decide) ?_⟩
      refine ⟨_, rfl, rfl, _, rfl, brF (by decide) ?_⟩
      refine ⟨_, rfl, rfl, _, rfl, brF (by decide) ?_⟩
      refine ⟨_, rfl, rfl, _, rfl, brF (by decide) ?_⟩
      refine ⟨_, rfl, rfl, _, rfl, brF (by decide) ?_⟩
      refine ⟨_, rfl, rfl, _, rfl, brT (by decide) ?_⟩
      refine ⟨_, rfl, zx hS rfl ⟨_, rfl, zx hS rfl (fun x dx hx hdx hne => ⟨(.int (d : Nat), .int (q : Nat)), x, A.Je, dx, rfl, Ja, T.jcC, ?_, rfl, ?_⟩)⟩⟩
      · intro f hf
        simp at hf
        rcases hf with rfl | rfl | rfl
        · exact T.jaC
        · exact T.zas
        · exact T.Z0
      · refine kk _ x (((Jd hdx).jG hx).jG hx) hx ⟨x, dx, rfl, ?_⟩
        exact Ja
    | void_ d n =>
      refine ⟨_, rfl, zx hS rfl ?_⟩
      refine ⟨_, rfl, rfl, _, rfl, brF (by decide) ?_⟩
      refine ⟨_, rfl, rfl, _, rfl, brF (by decide) ?_⟩
      refine ⟨_, rfl, rfl, _, rfl, brF (by decide) ?_⟩
      refine ⟨_, rfl, rfl, _, rfl, brF (by decide) ?_⟩
      refine ⟨_, rfl, rfl, _, rfl, brF (by decide) ?_⟩
      refine ⟨_, rfl, rfl, _, rfl, brF (by decide) ?_⟩
      refine ⟨_, rfl, rfl, _, rfl, brF (by decide) ?_⟩
      refine ⟨_, rfl, rfl, _, rfl, brF (by decide) ?_⟩
      refine ⟨_, rfl, zx hS rfl ⟨_, rfl, zx hS rfl (fun x dx hx hdx hne => ⟨(.int (d : Nat), .int (n : Nat)), x, A.yg, dx, rfl, Ja, T.JcR, ?_, rfl, ?_⟩)⟩⟩
      · intro f hf
        simp at hf
        rcases hf with rfl | rfl
        · exact T.Ybr
        · exact T.zT
      · refine kk _ x (((Jd hdx).jG hx).jG hx) hx ⟨x, dx, rfl, ?_⟩
        exact Ja
end
end Lr
namespace Lr
open PySem hiding Act
open PySem.Spec
open PyProof.Rows hiding St
open L2
open Sy33 (Act Item File bit Call step)
abbrev yeC (a : Sy33.Ans) : List Int := Sy33Neutral.out a
def YgP (f : File) (c : Call) : Bool := match c with
  | .owner q _ _ => decide (q < f.owners.length)
  | .charges q _ _ => decide (q < f.owners.length)
  | .rely q _ _ => decide (q < f.owners.length)
  | .sale q _ _ n => decide (q < f.owners.length) && decide (n ≤ 1000000)
  | .stands q _ => decide (q < f.owners.length)
  | .days q _ => decide (q < f.owners.length)
  | _ => false
def isQ (c : Call) : Bool := match c with
  | .begins _ _ => false
  | .act _ _ => false
  | _ => true
def headOk (c : Call) (k : Int) : Prop := match c with
  | .begins _ _ => k = 0
  | .act _ _ => 1 ≤ k ∧ k ≤ 9
  | _ => 10 ≤ k
theorem Je8 {l : List Int} {c : Call} (h : zad l c) : ∃ k r, l = k :: r ∧ headOk c k := by
  cases h <;> first
    | exact ⟨_, _, rfl, (rfl : (0 : Int) = 0)⟩
    | exact ⟨_, _, rfl, (by show (1 : Int) ≤ _ ∧ _ ≤ (9 : Int); decide)⟩
    | exact ⟨_, _, rfl, (by show (10 : Int) ≤ _; decide)⟩
theorem jhm {f : File} {c : Call} (h : isQ c = true) : (step f c).1 = f := by
  cases c <;> first | rfl | cases h
theorem zg8 {f : File} {c : Call} (h : isQ c = true) (h2 : YgP f c = false) : (step f c).2 = Sy33.ok (-1) := by
  have off : ∀ (q : Nat) (a : Sy33.Ans), decide (q < f.owners.length) = false → Sy33.onPlot f q a = Sy33.ok (-1) := fun q a hq => Jhj f q a (of_decide_eq_false hq)
  cases c with
  | begins => cases h
  | act => cases h
  | owner q d k => exact off q _ h2
  | charges q d k => exact off q _ h2
  | rely q d k => exact off q _ h2
  | stands q d => exact off q _ h2
  | days q k => exact off q _ h2
  | sale q d k n =>
    have h2 : (decide (q < f.owners.length) && decide (n ≤ 1000000)) = false := h2
    show Sy33.onPlot f q _ = _
    by_cases hq : q < f.owners.length
    · rw [decide_eq_true hq, Bool.true_and] at h2
      have hn := of_decide_eq_false h2
      unfold Sy33.onPlot
      rw [if_neg (by omega), if_pos (by unfold Sy33.AMOUNT; omega)]
    · exact off q _ (decide_eq_false hq)
theorem yfy {f : File} (w : WF f) {q : Nat} (d k : Nat) (hq : q < f.owners.length) : ∃ n, n ≤ 40 ∧ StOk f q n (zaj f q d k) := by
  obtain ⟨n, hn, _, e⟩ := upto w d
  refine ⟨n, Nat.le_trans hn w.n, ?_⟩
  unfold zaj
  rw [e]
  exact (w.Yhj _ hq hn).toStOk
section
variable {P : Program} {w : World} {K : PySem.W.Frag} {mg : Str → Option Value} {base : Heap} {A : Adr}
def ZfL (K : PySem.W.Frag) (A : Adr) : Sp := fun vs H Q _ => ∃ (b : Addr) (f : File) (dx oa ea : Addr) (es : List V) (ca : Addr) (l : List Int) (c : Call), vs = [.ref b, .ref ca] ∧ BkR A H b f dx oa ea es ∧ SqL K H ca (l.map V.int) ∧ zad l c ∧ isQ c = true ∧ Q (.bl (YgP f c)) H
theorem JdY (T : Txt K mg A) : Zf P w K mg base CX0 2 A.Yt A.Yac ["book", "call"] (ZfL K A) := by
  have jfr : Zf P w K mg base CX0 1 A.Yz A.jaH ["self", "plot"] (jfl A) := Ye8 T
  refine T.Zbh.ok ydQ (fun vs H Q E h => ?_) (fun cdv B outer s H vs Q E hr h => ?_)
  · obtain ⟨_, _, _, _, _, _, _, _, _, rfl, _⟩ := h
    rfl
  · obtain ⟨b, f, dx, oa, ea, es, ca, l, c, rfl, hB, hS, hc, hq, k⟩ := h
    refine ⟨_, (jb (yf (Yey (j8 (pv 0) T.Zab T.jdA jfr (hr.mono (by decide)) T.ydz .nil Jh (Za (Jj (Ye (K := K) rfl) (pv 1) je (fun _ _ => rfl)) yc)) (zdn (jhv (ZaW zf3 (Jj (Ye (K := K) rfl) (pv 1) je (fun _ _ => rfl)) (jg (by rfl) T.Zhh T.yhh) (jm _)) (zdn (ZaW yem (Jj (Ye (K := K) rfl) (pv 1) je (fun _ _ => rfl)) (jg (by rfl) T.Yc4 T.jc4) (jm _)))))))), ?_⟩
    cases hc with
    | begins => cases hq
    | transfer => cases hq
    | charge => cases hq
    | notice => cases hq
    | fulfil => cases hq
    | objection => cases hq
    | strike => cases hq
    | ahead => cases hq
    | correct => cases hq
    | void_ => cases hq
    | owner q d kn => exact zbD (d := true) (fun R z => ⟨_, rfl, b, dx, _, rfl, hB.ob, rfl, _, rfl, zx hS rfl ⟨b, f, dx, oa, ea, es, q, rfl, hB, z⟩⟩) (fun _ R z => ze6 (c := true) (d := true) (fun R z => ⟨_, rfl, zx hS rfl ⟨rfl, z⟩⟩) (fun z => nomatch z) z) (by rw [Bool.and_true]; exact k)
    | charges q d kn => exact zbD (d := true) (fun R z => ⟨_, rfl, b, dx, _, rfl, hB.ob, rfl, _, rfl, zx hS rfl ⟨b, f, dx, oa, ea, es, q, rfl, hB, z⟩⟩) (fun _ R z => ze6 (c := true) (d := true) (fun R z => ⟨_, rfl, zx hS rfl ⟨rfl, z⟩⟩) (fun z => nomatch z) z) (by rw [Bool.and_true]; exact k)
    | rely q d kn => exact zbD (d := true) (fun R z => ⟨_, rfl, b, dx, _, rfl, hB.ob, rfl, _, rfl, zx hS rfl ⟨b, f, dx, oa, ea, es, q, rfl, hB, z⟩⟩) (fun _ R z => ze6 (c := true) (d := true) (fun R z => ⟨_, rfl, zx hS rfl ⟨rfl, z⟩⟩) (fun z => nomatch z) z) (by rw [Bool.and_true]; exact k)
    | stands q d => exact zbD (d := true) (fun R z => ⟨_, rfl, b, dx, _, rfl, hB.ob, rfl, _, rfl, zx hS rfl ⟨b, f, dx, oa, ea, es, q, rfl, hB, z⟩⟩) (fun _ R z => ze6 (c := true) (d := true) (fun R z => ⟨_, rfl, zx hS rfl ⟨rfl, z⟩⟩) (fun z => nomatch z) z) (by rw [Bool.and_true]; exact k)
    | days q kn => exact zbD (d := true) (fun R z => ⟨_, rfl, b, dx, _, rfl, hB.ob, rfl, _, rfl, zx hS rfl ⟨b, f, dx, oa, ea, es, q, rfl, hB, z⟩⟩) (fun _ R z => ze6 (c := true) (d := true) (fun R z => ⟨_, rfl, zx hS rfl ⟨rfl, z⟩⟩) (fun z => nomatch z) z) (by rw [Bool.and_true]; exact k)
    | sale q d kn n =>
      refine zbD (d := decide (n ≤ 1000000)) (fun R z => ⟨_, rfl, b, dx, _, rfl, hB.ob, rfl, _, rfl, zx hS rfl ⟨b, f, dx, oa, ea, es, q, rfl, hB, z⟩⟩) (fun _ R z => ze6 (c := false) (d := decide ((n : Int) ≤ 1000000)) (fun R z => ⟨_, rfl, zx hS rfl ⟨rfl, z⟩⟩) (fun _ R z => ⟨_, rfl, zx hS rfl ⟨_, _, rfl, rfl, z⟩⟩) ?_) k
      rw [Bool.false_or, show decide ((n : Int) ≤ 1000000) = decide (n ≤ 1000000) from by rw [decide_eq_decide]; omega]
      exact z
def ZgZ (K : PySem.W.Frag) (A : Adr) : Sp := fun vs H Q _ => ∃ (b : Addr) (f : File) (dx oa ea : Addr) (es : List V) (ca : Addr) (l : List Int) (c : Call), vs = [.ref b, .ref ca] ∧ BkR A H b f dx oa ea es ∧ WF f ∧ AB f ∧ SqL K H ca (l.map V.int) ∧ zad l c ∧ isQ c = true ∧ YgP f c = true ∧ jcE H (yeC (step f c).2) Q
theorem jhu (T : Txt K mg A) : Zf P w K mg base CX0 7 A.jc3 A.jeJ ["book", "call"] (ZgZ K A) := by
  have YgE : Zf P w K mg base CX0 6 A.yan A.zbB ["book", "plot", "known"] (zeQ A) := Zgk T
  have yfY : Zf P w K mg base CX0 2 A.YS A.Za1 ["sheet"] (jdY A) := yfK T
  have Jgk : Zf P w K mg base CX0 2 A.Jaa A.zbm ["sheet"] (yeq A) := YfX T
  have yfL : Zf P w K mg base CX0 2 A.YM A.JaR ["sheet"] (JdB A) := yfr T
  have jgE : Zf P w K mg base CX0 3 A.zan A.jbA ["sheet"] (yeP A) := jgj T
  have JgE : Zf P w K mg base CX0 2 A.Zan A.JbA ["sheet", "amount"] (jeP A) := zgk T
  have Yax : Zf P w K mg base CX0 5 A.Jt A.Y4 ["self", "plot", "day", "known"] (ZcT A) := ZbV T
  refine T.YgM.ok Zgh (fun vs H Q E h => ?_) (fun cdv B outer s H vs Q E hr h => ?_)
  · obtain ⟨_, _, _, _, _, _, _, _, _, rfl, _⟩ := h
    rfl
  · obtain ⟨b, f, dx, oa, ea, es, ca, l, c, rfl, hB, hW, hA, hS, hc, hq, hs, kk⟩ := h
    refine ⟨_, (Yc (jab (i := 2) Zgh.nd rfl (by first | exact Or.inl rfl | exact Or.inr rfl) (Jj (Ye (K := K) rfl) (pv 1) je (fun _ _ => rfl))) (Yc (JN (Yq ZaL (pv 2) (jg (by rfl) T.Yhh T.jhh) (jm _)) (jb (yf (jD YgE (hr.mono (by decide)) (by rfl) T.yfj T.zdV.kp T.Zfj .nil Jh (Za (pv 0) (Za (Jj (Ye (K := K) rfl) (pv 1) je (fun _ _ => rfl)) (Za (Jj (Ye (K := K) rfl) (pv 1) je (fun _ _ => rfl)) yc)))))) Zo) (Yc (JN (Yq ZaL (pv 2) (jg (by rfl) T.ygz T.Ygz) (jm _)) (jb (yf (jD yfY (hr.mono (by decide)) (by rfl) T.jeo T.Zc4.kp T.Yeo .nil Jh (Za (j8 (pv 0) T.Zab T.yaS Yax (hr.mono (by decide)) T.zaS .nil Jh (Za (Jj (Ye (K := K) rfl) (pv 1) je (fun _ _ => rfl)) (Za (Jj (Ye (K := K) rfl) (pv 1) je (fun _ _ => rfl)) (Za (Jj (Ye (K := K) rfl) (pv 1) je (fun _ _ => rfl)) yc)))) yc)))) Zo) (Yc (jab (i := 3) Zgh.nd rfl (by first | exact Or.inl rfl | exact Or.inr rfl) (j8 (pv 0) T.Zab T.yaS Yax (hr.mono (by decide)) T.zaS .nil Jh (Za (Jj (Ye (K := K) rfl) (pv 1) je (fun _ _ => rfl)) (Za (Jj (Ye (K := K) rfl) (pv 1) je (fun _ _ => rfl)) (Za (Jj (Ye (K := K) rfl) (pv 1) je (fun _ _ => rfl)) yc))))) (Yc (JN (Yq ZaL (pv 2) (jg (by rfl) T.ZgW T.ygW) (jm _)) (jb (yf (jD Jgk (hr.mono (by decide)) (by rfl) T.YeL T.Ydo.kp T.yeL .nil Jh (Za (pv 3) yc)))) Zo) (Yc (JN (Yq ZaL (pv 2) (jg (by rfl) T.Yf7 T.jf7) (jm _)) (jb (yf (jD yfL (hr.mono (by decide)) (by rfl) T.ydU T.zcC.kp T.ZdU .nil Jh (Za (pv 3) yc)))) Zo) (Yc (JN (Yq ZaL (pv 2) (jg (by rfl) T.Jhg T.zhh) (jm _)) (jb (yf (jD jgE (hr.mono (by decide)) (by rfl) T.jfi T.jdU.kp T.Yfi .nil Jh (Za (pv 3) yc)))) Zo) (jb (yf (jD JgE (hr.mono (by decide)) (by rfl) T.zfj T.JdU.kp T.Jfi .nil Jh (Za (pv 3) (Za (Jj (Ye (K := K) rfl) (pv 1) je (fun _ _ => rfl)) yc)))))))))))), ?_⟩
    cases hc with
    | begins => cases hq
    | transfer => cases hq
    | charge => cases hq
    | notice => cases hq
    | fulfil => cases hq
    | objection => cases hq
    | strike => cases hq
    | ahead => cases hq
    | correct => cases hq
    | void_ => cases hq
    | days q kn =>
      have hq := of_decide_eq_true hs
      rw [Jg6 hW q kn hq] at kk
      refine ⟨_, rfl, zx hS rfl ?_⟩
      refine ⟨_, rfl, rfl, _, rfl, brT (by decide) ?_⟩
      exact ⟨_, rfl, _, rfl, zx hS rfl ⟨_, rfl, zx hS rfl ⟨b, f, dx, oa, ea, es, q, kn, rfl, hB, hW, hA, hq, kk⟩⟩⟩
    | stands q d =>
      have hq := of_decide_eq_true hs
      rw [ygB hW q d d hq] at kk
      obtain ⟨n, h40, hO⟩ := yfy hW d d hq
      refine ⟨_, rfl, zx hS rfl ?_⟩
      refine ⟨_, rfl, rfl, _, rfl, brF (by decide) ?_⟩
      refine ⟨_, rfl, rfl, _, rfl, brT (by decide) ?_⟩
      refine ⟨_, rfl, b, dx, _, rfl, hB.ob, rfl, _, rfl, zx hS rfl ⟨_, rfl, zx hS rfl ⟨_, rfl, zx hS rfl ⟨b, f, dx, oa, ea, es, q, d, d, rfl, hB, hW, hA, hq, fun H1 sv hSh => ?_⟩⟩⟩⟩
      have s1 : Yu H H1 := by obtain ⟨_, _, _, _, _, _, _, _, _, r⟩ := hSh; exact r.sm
      exact ⟨H, sv, _, es, f, q, n, _, rfl, hB.its, hSh, hO, h40, kk.same s1⟩
    | owner q d kn =>
      have hq := of_decide_eq_true hs
      rw [ygO f q d kn hq] at kk
      refine ⟨_, rfl, zx hS rfl ?_⟩
      refine ⟨_, rfl, rfl, _, rfl, brF (by decide) ?_⟩
      refine ⟨_, rfl, rfl, _, rfl, brF (by decide) ?_⟩
      refine ⟨_, rfl, b, dx, _, rfl, hB.ob, rfl, _, rfl, zx hS rfl ⟨_, rfl, zx hS rfl ⟨_, rfl, zx hS rfl ⟨b, f, dx, oa, ea, es, q, d, kn, rfl, hB, hW, hA, hq, fun H1 sv hSh => ?_⟩⟩⟩⟩
      have s1 : Yu H H1 := by obtain ⟨_, _, _, _, _, _, _, _, _, r⟩ := hSh; exact r.sm
      refine ⟨_, rfl, rfl, _, rfl, brT (by decide) ?_⟩
      exact ⟨_, rfl, H, sv, _, _, _, rfl, hSh, kk.same s1⟩
    | charges q d kn =>
      have hq := of_decide_eq_true hs
      rw [ygi hW q d kn hq] at kk
      obtain ⟨n, h40, hO⟩ := yfy hW d kn hq
      refine ⟨_, rfl, zx hS rfl ?_⟩
      refine ⟨_, rfl, rfl, _, rfl, brF (by decide) ?_⟩
      refine ⟨_, rfl, rfl, _, rfl, brF (by decide) ?_⟩
      refine ⟨_, rfl, b, dx, _, rfl, hB.ob, rfl, _, rfl, zx hS rfl ⟨_, rfl, zx hS rfl ⟨_, rfl, zx hS rfl ⟨b, f, dx, oa, ea, es, q, d, kn, rfl, hB, hW, hA, hq, fun H1 sv hSh => ?_⟩⟩⟩⟩
      have s1 : Yu H H1 := by obtain ⟨_, _, _, _, _, _, _, _, _, r⟩ := hSh; exact r.sm
      refine ⟨_, rfl, rfl, _, rfl, brF (by decide) ?_⟩
      refine ⟨_, rfl, rfl, _, rfl, brT (by decide) ?_⟩
      exact ⟨_, rfl, H, sv, _, es, f, q, n, _, rfl, hB.its, hSh, hO, h40, kk.same s1⟩
    | rely q d kn =>
      have hq := of_decide_eq_true hs
      rw [yg6 f q d kn hq] at kk
      obtain ⟨n, h40, hO⟩ := yfy hW d kn hq
      have hl := hO.len
      refine ⟨_, rfl, zx hS rfl ?_⟩
      refine ⟨_, rfl, rfl, _, rfl, brF (by decide) ?_⟩
      refine ⟨_, rfl, rfl, _, rfl, brF (by decide) ?_⟩
      refine ⟨_, rfl, b, dx, _, rfl, hB.ob, rfl, _, rfl, zx hS rfl ⟨_, rfl, zx hS rfl ⟨_, rfl, zx hS rfl ⟨b, f, dx, oa, ea, es, q, d, kn, rfl, hB, hW, hA, hq, fun H1 sv hSh => ?_⟩⟩⟩⟩
      have s1 : Yu H H1 := by obtain ⟨_, _, _, _, _, _, _, _, _, r⟩ := hSh; exact r.sm
      refine ⟨_, rfl, rfl, _, rfl, brF (by decide) ?_⟩
      refine ⟨_, rfl, rfl, _, rfl, brF (by decide) ?_⟩
      refine ⟨_, rfl, rfl, _, rfl, brT (by decide) ?_⟩
      exact ⟨_, rfl, H, sv, _, es, f.items, _, rfl, hB.its, hSh, by omega, kk.same s1⟩
    | sale q d kn m =>
      have hs : (decide (q < f.owners.length) && decide (m ≤ 1000000)) = true := hs
      rw [Bool.and_eq_true] at hs
      have hq := of_decide_eq_true hs.1
      rw [Yg6 hW q d kn m hq (of_decide_eq_true hs.2)] at kk
      obtain ⟨n, h40, hO⟩ := yfy hW d kn hq
      refine ⟨_, rfl, zx hS rfl ?_⟩
      refine ⟨_, rfl, rfl, _, rfl, brF (by decide) ?_⟩
      refine ⟨_, rfl, rfl, _, rfl, brF (by decide) ?_⟩
      refine ⟨_, rfl, b, dx, _, rfl, hB.ob, rfl, _, rfl, zx hS rfl ⟨_, rfl, zx hS rfl ⟨_, rfl, zx hS rfl ⟨b, f, dx, oa, ea, es, q, d, kn, rfl, hB, hW, hA, hq, fun H1 sv hSh => ?_⟩⟩⟩⟩
      have s1 : Yu H H1 := by obtain ⟨_, _, _, _, _, _, _, _, _, r⟩ := hSh; exact r.sm
      refine ⟨_, rfl, rfl, _, rfl, brF (by decide) ?_⟩
      refine ⟨_, rfl, rfl, _, rfl, brF (by decide) ?_⟩
      refine ⟨_, rfl, rfl, _, rfl, brF (by decide) ?_⟩
      rw [← zgC _ _ (zeO _ _ _)] at kk
      exact ⟨_, rfl, _, rfl, zx (s1.seq hS) rfl ⟨H, sv, _, es, f, q, n, m, _, rfl, hB.its, hSh, hO, h40, kk.same s1⟩⟩
end
end Lr
namespace Lr
open PySem hiding Act
open PySem.Spec
open PyProof.Rows hiding St
open L2
open Sy33 (Act Item File bit Call step)
theorem jhO (a b c : V) (xs : List V) : yfA (a :: b :: c :: xs) (some 3) none = xs := by
  unfold yfA
  have e1 : HT.sIx (a :: b :: c :: xs).length 0 (some 3) = 3 := by
    have := HT.jge (a :: b :: c :: xs).length 0 3
    rw [show ((3 : Nat) : Int) = 3 from rfl] at this
    rw [this]
    simp only [List.length_cons]
    omega
  have e2 : HT.sIx (a :: b :: c :: xs).length (a :: b :: c :: xs).length none = xs.length + 3 := rfl
  rw [e1, e2, Nat.add_sub_cancel]
  exact List.take_length
theorem Jhu (pre l rest : List V) (s e : Int) (hs : s = (pre.length : Nat)) (he : e = ((pre.length + l.length : Nat) : Int)) : yfA (pre ++ (l ++ rest)) (some s) (some e) = l := by
  subst hs he
  unfold yfA
  rw [HT.jge, HT.jge]
  have h1 : (pre ++ (l ++ rest)).length = pre.length + (l.length + rest.length) := by rw [List.length_append, List.length_append]
  rw [h1, Nat.min_eq_left (by omega), Nat.min_eq_left (by omega), List.drop_left, Nat.add_sub_cancel_left, List.take_left]
theorem JhO {f : File} {d : Nat} {a : Act} : yeC (step f (.act d a)).2 = [(step f (.act d a)).2.v] := by
  by_cases h : refuse f d a = 0
  · obtain ⟨_, _, _, _, e⟩ := ye8 h
    rw [e]
    rfl
  · rw [Zdq h]
    rfl
theorem Jhm {f : File} {p : Nat} {o : List Nat} : yeC (step f (.begins p o)).2 = [(step f (.begins p o)).2.v] := by
  have : step f (.begins p o) = if p = 0 ∨ Sy33.PERSONS < p ∨ o.length = 0 ∨ Sy33.PLOTS < o.length ∨ (o.any fun (x : Nat) => decide (p ≤ x)) = true then (f, Sy33.ok (-1)) else (⟨o, p, []⟩, Sy33.ok 0) := rfl
  rw [this]
  split <;> rfl
section
variable {P : Program} {w : World} {K : PySem.W.Frag} {mg : Str → Option Value} {base : Heap} {A : Adr}
def zdZ (K : PySem.W.Frag) : Sp := fun vs H Q _ => ∃ (ca : Addr) (pre l rest : List Int) (c : Call), vs = [.ref ca, .int (pre.length : Nat)] ∧ SqL K H ca ((pre ++ (l ++ rest)).map V.int) ∧ zad l c ∧ Q (.int (l.length : Nat)) H
theorem zhn {pre l rest : List Int} {i : Nat} {x : Int} (h : l[i]? = some x) : atI ((pre ++ (l ++ rest)).map V.int) ((pre.length + i : Nat) : Int) = some (.int x) := by
  refine Ydn ?_
  have hi : i < l.length := (List.getElem?_eq_some_iff.mp h).1
  rw [List.getElem?_map, List.getElem?_append_right (by omega), Nat.add_sub_cancel_left, List.getElem?_append_left hi, h]
  rfl
theorem YfL (T : Txt K mg A) : Zf P w K mg base CX0 1 A.JS A.ya1 ["calls", "start"] (zdZ K) := by
  refine T.yc4.ok ZdQ (fun vs H Q E h => ?_) (fun cdv B outer s H vs Q E hr h => ?_)
  · obtain ⟨_, _, _, _, _, rfl, _⟩ := h
    rfl
  · obtain ⟨ca, pre, l, rest, c, rfl, hS, hc, k⟩ := h
    obtain ⟨kd, r, hl, _⟩ := Je8 hc
    have h0 : atI ((pre ++ (l ++ rest)).map V.int) ((pre.length : Nat) : Int) = some (.int kd) := zhn (i := 0) (by rw [hl]; rfl)
    refine ⟨_, (Yc (jab (i := 2) ZdQ.nd rfl (by first | exact Or.inl rfl | exact Or.inr rfl) (Jj (Ye (K := K) rfl) (pv 0) (pv 1) (fun _ _ => rfl))) (Yc (JN (Yq ZaL (pv 2) (jg (by rfl) T.yeM T.YeM) (jm _)) (jb (yf (ZeH yge (Jj (Ye (K := K) rfl) (jg (by rfl) T.je5 T.Je5) (jg (by rfl) T.yeM T.YeM) (fun _ _ => rfl)) (Jj (Ye (K := K) rfl) (pv 0) (ZeH yge (pv 1) je) (fun _ _ => rfl))))) Zo) (jb (yf (Jj (Ye (K := K) rfl) (jg (by rfl) T.je5 T.Je5) (pv 2) (fun _ _ => rfl)))))), ?_⟩
    refine ⟨_, rfl, _, rfl, zx hS h0 ?_⟩
    cases hc with
    | begins p o hp h60 ho =>
      have e0 : kd = 0 := (List.cons.inj hl).1.symm
      subst e0
      refine ⟨_, rfl, rfl, _, rfl, brT (by decide) ?_⟩
      have h2 : atI ((pre ++ ((((0 : Int) :: (p : Int) :: (o.length : Int) :: casts o)) ++ rest)).map V.int) (((pre.length : Nat) : Int) + 2) = some (.int (o.length : Nat)) := zhn (i := 2) rfl
      refine .inr (.inl ⟨A.Yw, _, 0, .int 3, rfl, rfl, T.zP H, rfl, _, rfl, _, rfl, _, _, rfl, rfl, zx hS h2 ⟨_, _, rfl, rfl, ?_⟩⟩)
      have e3 : (3 : Int) + ((o.length : Nat) : Int) = ((((0 : Int) :: (p : Int) :: (o.length : Int) :: casts o).length : Nat) : Int) := by
        simp only [List.length_cons, List.length_map]
        omega
      dsimp only
      rw [e3]
      exact k
    | transfer => obtain ⟨rfl, _⟩ := List.cons.inj hl; exact ⟨_, rfl, rfl, _, rfl, brF (by decide) ⟨_, rfl, .inr (.inl ⟨A.Yw, _, _, _, rfl, rfl, T.zP H, rfl, k⟩)⟩⟩
    | charge => obtain ⟨rfl, _⟩ := List.cons.inj hl; exact ⟨_, rfl, rfl, _, rfl, brF (by decide) ⟨_, rfl, .inr (.inl ⟨A.Yw, _, _, _, rfl, rfl, T.zP H, rfl, k⟩)⟩⟩
    | notice => obtain ⟨rfl, _⟩ := List.cons.inj hl; exact ⟨_, rfl, rfl, _, rfl, brF (by decide) ⟨_, rfl, .inr (.inl ⟨A.Yw, _, _, _, rfl, rfl, T.zP H, rfl, k⟩)⟩⟩
    | fulfil => obtain ⟨rfl, _⟩ := List.cons.inj hl; exact ⟨_, rfl, rfl, _, rfl, brF (by decide) ⟨_, rfl, .inr (.inl ⟨A.Yw, _, _, _, rfl, rfl, T.zP H, rfl, k⟩)⟩⟩
    | objection => obtain ⟨rfl, _⟩ := List.cons.inj hl; exact ⟨_, rfl, rfl, _, rfl, brF (by decide) ⟨_, rfl, .inr (.inl ⟨A.Yw, _, _, _, rfl, rfl, T.zP H, rfl, k⟩)⟩⟩
    | strike => obtain ⟨rfl, _⟩ := List.cons.inj hl; exact ⟨_, rfl, rfl, _, rfl, brF (by decide) ⟨_, rfl, .inr (.inl ⟨A.Yw, _, _, _, rfl, rfl, T.zP H, rfl, k⟩)⟩⟩
    | ahead => obtain ⟨rfl, _⟩ := List.cons.inj hl; exact ⟨_, rfl, rfl, _, rfl, brF (by decide) ⟨_, rfl, .inr (.inl ⟨A.Yw, _, _, _, rfl, rfl, T.zP H, rfl, k⟩)⟩⟩
    | correct => obtain ⟨rfl, _⟩ := List.cons.inj hl; exact ⟨_, rfl, rfl, _, rfl, brF (by decide) ⟨_, rfl, .inr (.inl ⟨A.Yw, _, _, _, rfl, rfl, T.zP H, rfl, k⟩)⟩⟩
    | void_ => obtain ⟨rfl, _⟩ := List.cons.inj hl; exact ⟨_, rfl, rfl, _, rfl, brF (by decide) ⟨_, rfl, .inr (.inl ⟨A.Yw, _, _, _, rfl, rfl, T.zP H, rfl, k⟩)⟩⟩
    | owner => obtain ⟨rfl, _⟩ := List.cons.inj hl; exact ⟨_, rfl, rfl, _, rfl, brF (by decide) ⟨_, rfl, .inr (.inl ⟨A.Yw, _, _, _, rfl, rfl, T.zP H, rfl, k⟩)⟩⟩
    | charges => obtain ⟨rfl, _⟩ := List.cons.inj hl; exact ⟨_, rfl, rfl, _, rfl, brF (by decide) ⟨_, rfl, .inr (.inl ⟨A.Yw, _, _, _, rfl, rfl, T.zP H, rfl, k⟩)⟩⟩
    | rely => obtain ⟨rfl, _⟩ := List.cons.inj hl; exact ⟨_, rfl, rfl, _, rfl, brF (by decide) ⟨_, rfl, .inr (.inl ⟨A.Yw, _, _, _, rfl, rfl, T.zP H, rfl, k⟩)⟩⟩
    | sale => obtain ⟨rfl, _⟩ := List.cons.inj hl; exact ⟨_, rfl, rfl, _, rfl, brF (by decide) ⟨_, rfl, .inr (.inl ⟨A.Yw, _, _, _, rfl, rfl, T.zP H, rfl, k⟩)⟩⟩
    | stands => obtain ⟨rfl, _⟩ := List.cons.inj hl; exact ⟨_, rfl, rfl, _, rfl, brF (by decide) ⟨_, rfl, .inr (.inl ⟨A.Yw, _, _, _, rfl, rfl, T.zP H, rfl, k⟩)⟩⟩
    | days => obtain ⟨rfl, _⟩ := List.cons.inj hl; exact ⟨_, rfl, rfl, _, rfl, brF (by decide) ⟨_, rfl, .inr (.inl ⟨A.Yw, _, _, _, rfl, rfl, T.zP H, rfl, k⟩)⟩⟩
def jga (K : PySem.W.Frag) (A : Adr) : Sp := fun vs H Q _ => ∃ (G : Hp) (b ca : Addr) (f : File) (l : List Int) (c : Call), vs = [.ref b, .ref ca] ∧ ja3 A G H b f ∧ H ca = some (.lst (l.map V.int)) ∧ zad l c ∧ ∀ (H' : Hp) (r : Addr), ja3 A G H' b (step f c).1 → G r = Option.none → H' r = some (.lst ((yeC (step f c).2).map V.int)) → Q (.ref r) H'
theorem Zg8 (T : Txt K mg A) : Zf P w K mg base CX0 9 A.Zbm A.Jdb ["book", "call"] (jga K A) := by
  have zgl : Zf P w K mg base CX0 1 A.zV A.Jbl ["self", "persons", "owners"] (YgD K A) := yfX T
  have zgF : Zf P w K mg base CX0 8 A.yac A.ybA ["self", "entry"] (JgY A) := Zgj T
  have jgP : Zf P w K mg base CX0 7 A.ZaC A.Jb1 ["call"] (Jfl K A) := ZgE T
  have zek : Zf P w K mg base CX0 2 A.Yt A.Yac ["book", "call"] (ZfL K A) := JdY T
  have ZhD : Zf P w K mg base CX0 7 A.jc3 A.jeJ ["book", "call"] (ZgZ K A) := jhu T
  refine T.JfE.ok Jg3 (fun vs H Q E h => ?_) (fun cdv B outer s H vs Q E hr h => ?_)
  · obtain ⟨_, _, _, _, _, _, rfl, _⟩ := h
    rfl
  · obtain ⟨G, b, ca, f, l, c, rfl, hBk, hca, hc, kk⟩ := h
    obtain ⟨dx, oa, ea, es, hG, gb, go, ge, noe, hB, hW, hA⟩ := id hBk
    obtain ⟨kd, r, hl, hh⟩ := Je8 hc
    have hS : SqL K H ca (l.map V.int) := SqL.of hca
    have h0 : atI (l.map V.int) 0 = some (.int kd) := by rw [hl]; exact Ydn (j := 0) rfl
    have gfree : ∀ {H1 : Hp} {x : Addr}, ja3 A G H1 b f → H1 x = Option.none → G x = Option.none := fun {H1 x} hb hx => by
      obtain ⟨_, _, _, _, hG1, _⟩ := hb
      exact hG1.free hx
    have gfree2 : ∀ {H1 : Hp} {x : Addr} {f' : File}, ja3 A G H1 b f' → H1 x = Option.none → G x = Option.none := fun {H1 x f'} hb hx => by
      obtain ⟨_, _, _, _, hG1, _⟩ := hb
      exact hG1.free hx
    refine ⟨_, (Yc (JN (Yq ZaL (Jj (Ye (K := K) rfl) (pv 1) je (fun _ _ => rfl)) (jg (by rfl) T.yeM T.YeM) (jm _)) (jb (yf (zaw (Za (j8 (pv 0) T.Zab T.JeL zgl (hr.mono (by decide)) T.ZeL .nil Jh (Za (Jj (Ye (K := K) rfl) (pv 1) je (fun _ _ => rfl)) (Za (ZfA (yfC (K := K) rfl) (pv 1) (Jfw je) JgT) yc))) yc)))) Zo) (Yc (JN (Yq yem (Jj (Ye (K := K) rfl) (pv 1) je (fun _ _ => rfl)) (jg (by rfl) T.Yhg T.jhg) (jm _)) (jb (yf (zaw (Za (j8 (pv 0) T.Zab T.Yfj zgF (hr.mono (by decide)) T.zfi .nil Jh (Za (jD jgP (hr.mono (by decide)) (by rfl) T.ZfF T.ZeA.kp T.zfF .nil Jh (Za (pv 1) yc)) yc)) yc)))) Zo) (Yc (JN (Jdm (Yby (jD zek (hr.mono (by decide)) (by rfl) T.ycl T.Zbh.kp T.Zcl .nil Jh (Za (pv 0) (Za (pv 1) yc))))) (jb (yf (zaw (Za (jg (by rfl) T.Jb5 T.zb6) yc)))) Zo) (jb (yf (jD ZhD (hr.mono (by decide)) (by rfl) T.Jhf T.YgM.kp T.jhf .nil Jh (Za (pv 0) (Za (pv 1) yc)))))))), ?_⟩
    refine ⟨_, rfl, zx hS h0 ⟨rfl, _, rfl, ?_⟩⟩
    by_cases hq : isQ c = true
    · have hkd : 10 ≤ kd := by
        cases c with
        | begins => cases hq
        | act => cases hq
        | _ => exact hh
      refine brF (decide_eq_false (fun z => by injection z with z; omega)) ?_
      refine ⟨_, rfl, zx hS h0 ⟨_, _, rfl, rfl, _, rfl, brF (decide_eq_false (by omega)) ?_⟩⟩
      refine ⟨_, rfl, _, rfl, b, f, dx, oa, ea, es, ca, l, c, rfl, hB, hS, hc, hq, _, rfl, ?_⟩
      refine br (fun h => ?_) (fun h => ?_)
      · rw [jhm hq, zg8 hq (by simpa using h)] at kk
        exact ⟨(by show 1 ≤ sizeLine; decide), fun r hr => kk _ r (hBk.same (Jd hr)) (gfree hBk hr) Ja⟩
      · rw [jhm hq] at kk
        exact ⟨_, rfl, _, rfl, b, f, dx, oa, ea, es, ca, l, c, rfl, hB, hW, hA, hS, hc, hq, by simpa using h, fun H' r sH hr hr' => kk H' r (hBk.same sH) (gfree hBk hr) hr'⟩
    · cases c with
      | begins p o =>
        have e0 : kd = 0 := hh
        subst e0
        rw [Jhm] at kk
        cases hc with
        | begins _ _ hp h60 ho =>
          refine brT (by decide) ?_
          have h1 : atI (((0 : Int) :: (p : Int) :: (o.length : Int) :: casts o).map V.int) 1 = some (.int (p : Nat)) := Ydn (j := 1) rfl
          refine ⟨_, rfl, b, dx, _, rfl, hB.ob, rfl, _, rfl, zx hS h1 ⟨_, rfl, _, rfl, ca, _, rfl, hS, fun la hla => ?_⟩⟩
          have e1 : yfA (((0 : Int) :: (p : Int) :: (o.length : Int) :: casts o).map V.int) (some 3) none = o.map fun (n : Nat) => V.int (n : Int) := by
            show yfA (V.int 0 :: V.int (p : Int) :: V.int (o.length : Int) :: (casts o).map V.int) (some 3) none = _
            rw [jhO, List.map_map]
            rfl
          refine ⟨G, b, la, f, p, o, rfl, hBk.same (Jd hla), ?_, h60, fun H' hB' => ⟨(by show 1 ≤ sizeLine; decide), fun r hr => kk _ r (hB'.same (Jd hr)) (gfree2 hB' hr) Ja⟩⟩
          rw [Ja, e1]
      | act d a =>
        have hh : 1 ≤ kd ∧ kd ≤ 9 := hh
        rw [JhO] at kk
        refine brF (decide_eq_false (fun z => by injection z with z; omega)) ?_
        refine ⟨_, rfl, zx hS h0 ⟨_, _, rfl, rfl, _, rfl, brT (decide_eq_true (by omega)) ?_⟩⟩
        exact ⟨_, rfl, b, dx, _, rfl, hB.ob, rfl, _, rfl, ca, l, d, a, rfl, hS, hc, fun H1 e s1 he hE => ⟨G, H, b, e, f, d, a, rfl, hBk, s1, he, hE, fun H2 hB2 => ⟨(by show 1 ≤ sizeLine; decide), fun r hr => kk _ r (hB2.same (Jd hr)) (gfree2 hB2 hr) Ja⟩⟩⟩
      | _ => exact absurd rfl hq
theorem ja3.tick {G H : Hp} {b an : Addr} {f : File} {xs ys : List V} (h : ja3 A G H b f) (ha : G an = some (.lst xs)) : ja3 A (upd G an (.lst ys)) (upd H an (.lst ys)) b f := by
  obtain ⟨dx, oa, ea, es, hG, gb, go, ge, noe, hB, hW, hA⟩ := h
  have hHa := hG _ _ ha
  have nb : b ≠ an := Ne.symm (yd ha gb)
  have no : oa ≠ an := Ne.symm (yd ha go)
  have ne : ea ≠ an := Ne.symm (yd ha ge)
  refine ⟨dx, oa, ea, es, fun c u e => ?_, by rw [Zc nb]; exact gb, by rw [Zc no]; exact go, by rw [Zc ne]; exact ge, noe, ⟨by rw [Zc nb]; exact hB.ob, by rw [Zc no]; exact hB.oo, by rw [Zc ne]; exact hB.eo, ?_⟩, hW, hA⟩
  · by_cases hc : c = an
    · subst hc
      rw [Ja] at e ⊢
      exact e
    · rw [Zc hc] at e ⊢
      exact hG _ _ e
  · exact Paired.Yei hB.its fun v x ⟨c, cdx, e1, hc⟩ => ⟨c, cdx, e1, by
      rw [Zc (zaR hc hHa (by intro z; cases z))]
      exact hc⟩
def jfL (K : PySem.W.Frag) : Sp := fun vs H Q _ => ∃ (a : Addr) (ns : List Int), vs = [.ref a] ∧ SqL K H a (ns.map V.int) ∧ ns.length ≤ 4000 ∧ (∀ x ∈ ns, (0 : Int) ≤ x ∧ x ≤ 4294967295) ∧ PySy33.answers_asked ns = true ∧ ∀ (H' : Hp) (p : Addr), H' p = some (.lst ((PySy33.answers ns).map V.int)) → Q (.ref p) H'
theorem zad.pos {l : List Int} {c : Call} (h : zad l c) : 0 < l.length := by
  obtain ⟨k, r, e, _⟩ := Je8 h
  rw [e]
  exact Nat.succ_pos _
theorem ZgF : ∀ l : List (List Int), (PyFlat.told l).length = l.flatten.length + l.length
  | [] => rfl
  | a :: l => by
    show (((a.length : Int) :: a) ++ PyFlat.told l).length = _
    rw [List.length_append, ZgF l, List.flatten_cons, List.length_append, List.length_cons, List.length_cons]
    omega
theorem Jga : ∀ (cs : List Call) (f : File), (ZdB f cs).length = cs.length
  | [], _ => rfl
  | c :: cs, f => by
    show (_ :: ZdB _ cs).length = _
    rw [List.length_cons, List.length_cons, Jga cs]
theorem JgP (T : Txt K mg A) : Zf P w K mg base CX0 10 A.jaw A.zbr ["calls"] (jfL K) := by
  have ygF : Zf P w K mg base CX0 1 A.Zac A.ZbA ["self"] (ZeP A) := ygj T
  have YfY : Zf P w K mg base CX0 1 A.JS A.ya1 ["calls", "start"] (zdZ K) := YfL T
  have Zhn : Zf P w K mg base CX0 9 A.Zbm A.Jdb ["book", "call"] (jga K A) := Zg8 T
  refine T.jf6.ok Jbq (fun vs H Q E h => ?_) (fun cdv B outer s H vs Q E hr h => ?_)
  · obtain ⟨_, _, rfl, _⟩ := h
    rfl
  · obtain ⟨a, ns, rfl, hS, h4000, _, hask, kk⟩ := h
    obtain ⟨ls, cs, hns, hbo, h60, hans, hmill⟩ := decoded hask
    have htl : (PySy33.answers ns).length ≤ 1000060 := by
      rw [hans, ZgF, Jga]
      omega
    refine ⟨_, (Yc (jab (i := 1) Jbq.nd rfl (by first | exact Or.inl rfl | exact Or.inr rfl) (Yhc T.Zee ygF (hr.mono (by decide)) (by rfl) T.zhg T.jfh .nil Jh)) (Yc (jab (i := 2) Jbq.nd rfl (by first | exact Or.inl rfl | exact Or.inr rfl) (zaw yc)) (Yc (jab (i := 3) Jbq.nd rfl (by first | exact Or.inl rfl | exact Or.inr rfl) je) (Yc (zhb PassesOwn.never (Yq Yff (pv 3) (zu (Yx (K := K) rfl) (by rfl) T.YcD PySem.boot_len (Za (pv 0) yc)) (jm _)) (Yc (jab (i := 4) Jbq.nd rfl (by first | exact Or.inl rfl | exact Or.inr rfl) (ZeH yge (pv 3) (jD YfY (hr.mono (by decide)) (by rfl) T.zep T.yc4.kp T.Jeo .nil Jh (Za (pv 0) (Za (pv 3) yc))))) (Yc (jab (i := 5) Jbq.nd rfl (by first | exact Or.inl rfl | exact Or.inr rfl) (jD Zhn (hr.mono (by decide)) (by rfl) T.jgx T.JfE.kp T.Ygx .nil Jh (Za (pv 1) (Za (ZfA (yfC (K := K) rfl) (pv 0) (Jfw (pv 3)) (Jfw (pv 4))) yc)))) (Yc (yD (Yem PySem.F.plainAttrs_list PySem.F.slot_list_append PySem.F.type_list_append zbU (pv 2) (Za (zu (Yx (K := K) rfl) (by rfl) T.YcD PySem.boot_len (Za (pv 5) yc)) yc))) (Yc (yD (Yem PySem.F.plainAttrs_list PySem.F.slot_list_extend PySem.F.type_list_extend Ze3 (pv 2) (Za (pv 5) yc))) (jb (jab (i := 3) Jbq.nd rfl (by first | exact Or.inl rfl | exact Or.inr rfl) (pv 4)))))))) (jb (yf (pv 2))))))), ?_⟩
    intro b bdx hb hbdx hne
    have s1 : Yu H (upd (upd H bdx (.own b)) b (.ins A.JC bdx [])) := (Jd hbdx).jG hb
    refine ⟨H, b, bdx, rfl, s1, hb, Ja, fun H1 hB1 => ⟨rfl, ?_⟩⟩
    refine ⟨Nat.zero_le _, fun an han => ?_⟩
    have hHan : H an = Option.none := by
      obtain ⟨_, _, _, _, hG1, _⟩ := hB1
      exact hG1.free han
    have inv0 : ja3 A (upd H an (.lst [])) (upd H1 an (.lst [])) b Sy33.start := by
      obtain ⟨dx, oa, ea, es, hG, gb, go, ge, noe, hB, hW, hA⟩ := hB1
      have nb : b ≠ an := yd hB.ob han
      have no : oa ≠ an := yd hB.oo han
      have ne : ea ≠ an := yd hB.eo han
      refine ⟨dx, oa, ea, es, fun c u e => ?_, by rw [Zc nb]; exact gb, by rw [Zc no]; exact go, by rw [Zc ne]; exact ge, noe, hB.same (Jd han), hW, hA⟩
      by_cases hc : c = an
      · subst hc
        rw [Ja] at e ⊢
        exact e
      · rw [Zc hc] at e ⊢
        exact hG _ _ e
    refine Zhb (fun σ H' => ∃ (v4 v5 : Option V) (G : Hp) (pre acc : List Int) (ls' : List (List Int)) (cs' : List Call) (f : File), σ = [some (.ref a), some (.ref b), some (.ref an), some (.int (pre.length : Nat)), v4, v5] ∧ Yu H G ∧ G an = some (.lst (acc.map V.int)) ∧ ja3 A G H' b f ∧ ns = pre ++ ls'.flatten ∧ Both ls' cs' ∧ PySy33.answers ns = acc ++ PyFlat.told (ZdB f cs'))
      (fun σ _ => match σ with | [_, _, _, some (.int n), _, _] => ns.length - n.toNat | _ => 0) ⟨_, _, _, [], [], ls, cs, Sy33.start, rfl, Jd hHan, Ja, inv0, hns, hbo, hans⟩ ?_ ?_
    · rintro σ H' ⟨v4, v5, G, pre, acc, ls', cs', f, rfl, sG, hGa, hBk, hn, hbo', ha⟩
      have sH : Yu G H' := by obtain ⟨_, _, _, _, hG1, _⟩ := hBk; exact hG1
      have hSa := (sG.trans sH).seq hS
      refine ⟨_, rfl, _, rfl, a, _, rfl, .inl hSa, _, _, rfl, rfl, _, rfl, ?_⟩
      rw [List.length_map, zdY]
      cases hbo' with
      | nil =>
        have e1 : ns = pre := by rw [hn]; exact List.append_nil pre
        refine brF (decide_eq_false (by rw [e1]; omega)) ?_
        refine ⟨_, rfl, kk H' an ?_⟩
        rw [ha]
        show H' an = some (.lst ((acc ++ []).map V.int))
        rw [List.append_nil]
        exact sH _ _ hGa
      | @cons l c ls2 cs2 hc hbt =>
        have hpos := hc.pos
        have hn2 : ns = pre ++ (l ++ ls2.flatten) := hn
        have hlen : ns.length = pre.length + (l.length + ls2.flatten.length) := by rw [hn2, List.length_append, List.length_append]
        refine brT (decide_eq_true (by omega)) ?_
        have hSa2 : SqL K H' a ((pre ++ (l ++ ls2.flatten)).map V.int) := by rw [← hn2]; exact hSa
        refine ⟨_, rfl, _, rfl, _, rfl, a, pre, l, ls2.flatten, c, rfl, hSa2, hc, _, _, rfl, rfl, ?_⟩
        refine ⟨_, rfl, _, rfl, _, rfl, _, rfl, _, rfl, _, rfl, a, _, rfl, hSa2, fun ca hca => ?_⟩
        have ecut : yfA ((pre ++ (l ++ ls2.flatten)).map V.int) (some ((pre.length : Nat) : Int)) (some (((pre.length : Nat) : Int) + ((l.length : Nat) : Int))) = l.map V.int := by
          rw [List.map_append, List.map_append]
          refine Jhu _ _ _ _ _ (by rw [List.length_map]) ?_
          rw [List.length_map, List.length_map]
          omega
        refine ⟨G, b, ca, f, l, c, rfl, hBk.same (Jd hca), by rw [Ja, ecut], hc, fun H2 r hB2 hGr hr2 => ?_⟩
        have sG2 : Yu G H2 := by obtain ⟨_, _, _, _, hG1, _⟩ := hB2; exact hG1
        have han2 := sG2 _ _ hGa
        have nra : r ≠ an := Ne.symm (yd hGa hGr)
        have hal : acc.length + ((yeC (step f c).2).length + 1) ≤ 1000060 := by
          rw [ha] at htl
          have e1 : PyFlat.told (ZdB f (c :: cs2)) = ((((yeC (step f c).2).length : Nat) : Int) :: yeC (step f c).2) ++ PyFlat.told (ZdB (step f c).1 cs2) := rfl
          rw [e1, List.length_append, List.length_append, List.length_cons] at htl
          omega
        refine ⟨_, rfl, .inl ⟨rfl, _, SqL.of han2⟩, _, rfl, r, _, rfl, .inl (SqL.of hr2), an, _, _, rfl, rfl, han2, ?_, ?_⟩
        · rw [List.length_map]
          exact Nat.lt_of_le_of_lt (show _ ≤ 1000060 by omega) (by decide)
        refine ⟨_, rfl, .inl ⟨rfl, _, SqL.of Ja⟩, _, rfl, an, r, _, _, rfl, rfl, Ja, (by rw [Zc nra]; exact hr2), ?_, ?_⟩
        · rw [List.length_append, List.length_map, List.length_map, List.length_singleton]
          exact Nat.le_trans (show _ ≤ 1000060 by omega) (by decide)
        rw [Yai, List.length_map]
        refine ⟨_, rfl, ?_⟩
        have e5 : (acc.map V.int ++ [V.int ((yeC (step f c).2).length : Nat)]) ++ (yeC (step f c).2).map V.int = ((acc ++ [((yeC (step f c).2).length : Int)]) ++ yeC (step f c).2).map V.int := by
          rw [List.map_append, List.map_append]
          rfl
        rw [e5]
        have e6 : ((pre.length : Nat) : Int) + ((l.length : Nat) : Int) = (((pre ++ l).length : Nat) : Int) := by
          rw [List.length_append]
          omega
        dsimp only
        rw [e6]
        refine ⟨⟨_, _, upd G an (.lst (((acc ++ [((yeC (step f c).2).length : Int)]) ++ yeC (step f c).2).map V.int)), pre ++ l, _, ls2, cs2, (step f c).1, rfl, sG.jG hHan, Ja, hB2.tick hGa, ?_, hbt, ?_⟩, ?_⟩
        · rw [hn2, List.append_assoc]
        · rw [ha]
          show acc ++ (((((yeC (step f c).2).length : Nat) : Int) :: yeC (step f c).2) ++ PyFlat.told (ZdB (step f c).1 cs2)) = _
          simp [List.append_assoc]
        · show ns.length - ((((pre ++ l).length : Nat) : Int)).toNat < ns.length - (((pre.length : Nat) : Int)).toNat
          rw [Int.toNat_natCast, Int.toNat_natCast, List.length_append]
          omega
    · rintro σ H1 R R' hm ⟨v, e1, v2, e2, p, ys, e3, e4, i, j, e5, e6, bb, e7, z⟩
      exact ⟨v, e1, v2, e2, p, ys, e3, e4, i, j, e5, e6, bb, e7, hm _ _ z⟩
end
end Lr
namespace Lr
open PySem PySem.Spec PyProof.Rows L2
theorem yhD {K : W.Frag} {h : Heap} {mg : Str → Option Value} (X : K.In h) (G : h.Ns mainGlobals mg)
    {JaD : Addr}
    {jZ : Addr}
    {yG : Addr}
    {zaX : Addr}
    {Jb : Addr}
    {jc : Addr}
    {Zd : Addr}
    {Yb : Addr}
    {Yd : Addr}
    {Jf : Addr}
    {Jg : Addr}
    {Je : Addr}
    {yg : Addr}
    {Jk : Addr}
    {JC : Addr}
    {Zbl : Addr} {yg8 zgb Zgb ygb ze9 Ygb : Value} {Yg8 jgb : Option Addr} {jg8 : Array (Option Value)}
    {YaT : Addr} {zgQ JfL zfM ZfM YeC yfM : Value} {ZgQ YfM : Option Addr} {ygQ : Array (Option Value)}
    {ZL : Addr} {Jfr zdC ZdC ydC zcf YdC : Value} {zfs jdC : Option Addr} {Zfs : Array (Option Value)}
    {Yam : Addr} {Zgl ZeQ yeQ YeQ ydq jeQ : Value} {ygl JeQ : Option Addr} {Ygl : Array (Option Value)}
    {yL : Addr} {yfs JdC zdD ZdD Zcf ydD : Value} {Yfs YdD : Option Addr} {jfs : Array (Option Value)}
    {ybl : Addr} {Jg8 Jgb zgc Zgc Ze9 ygc : Value} {zg9 Ygc : Option Addr} {Zg9 : Array (Option Value)}
    {Z4 : Addr} {YgF zfm Zfm yfm ZdZ Yfm : Value} {jgF jfm : Option Addr} {JgF : Array (Option Value)}
    {jw : Addr} {jfY Jeq zer Zer yc5 yer : Value} {JfY Yer : Option Addr} {zfZ : Array (Option Value)}
    {yl : Addr} {zeR YcT jcT JcT ZbE zcU : Value} {ZeR ZcU : Option Addr} {yeR : Array (Option Value)}
    {jd : Addr} {JcE Ja3 za4 Za4 jas ya4 : Value} {zcF Ya4 : Option Addr} {ZcF : Array (Option Value)}
    {Yj : Addr} {ydZ Zb7 yb7 Yb7 ja4 jb7 : Value} {YdZ Jb7 : Option Addr} {jdZ : Array (Option Value)}
    {zg : Addr} {Jfs jdD JdD zdE ycf ZdE : Value} {zft ydE : Option Addr} {Zft : Array (Option Value)}
    {jf : Addr} {JdZ zb8 Zb8 yb8 Ja4 Yb8 : Value} {zd0 jb8 : Option Addr} {Zd0 : Array (Option Value)}
    {YL : Addr} {jfM yd0 Yd0 jd0 ycF Jd0 : Value} {JfM zd1 : Option Addr} {zfN : Array (Option Value)}
    {Zq : Addr} {YeR ycU YcU jcU ybE JcU : Value} {jeR zcV : Option Addr} {JeR : Array (Option Value)}
    {ym : Addr} {ydL jbP JbP zbQ YaU ZbQ : Value} {YdL ybQ : Option Addr} {jdL : Array (Option Value)}
    {ye : Addr} {jdg zbv Zbv ybv YaJ Ybv : Value} {Jdg jbv : Option Addr} {zdh : Array (Option Value)}
    {Zj : Addr} {Zek zcn Zcn ycn jbh Ycn : Value} {yek jcn : Option Addr} {Yek : Array (Option Value)}
    {zf : Addr} {Zdh Jbv zbw Zbw jaJ ybw : Value} {ydh Ybw : Option Addr} {Ydh : Array (Option Value)}
    {yj : Addr} {jdh jbw Jbw zbx JaJ Zbx : Value} {Jdh ybx : Option Addr} {zdi : Array (Option Value)}
    {Jw : Addr} {ZfZ jer Jer zes Yc5 Zes : Value} {yfZ Yes : Option Addr} {YfZ : Array (Option Value)}
    {Zg : Addr} {Ydq YbE jbE JbE ZaO zbF : Value} {jdq ZbF : Option Addr} {Jdq : Array (Option Value)}
    {yq : Addr} {zeS ZcV ycV YcV ybF jcV : Value} {ZeS JcV : Option Addr} {yeS : Array (Option Value)}
    {Yg : Addr} {Zd1 Jb8 zb9 Zb9 za5 yb9 : Value} {yd1 Yb9 : Option Addr} {Yd1 : Array (Option Value)}
    {jj : Addr} {jd1 jb9 Jb9 zca Za5 Zca : Value} {Jd1 yca : Option Addr} {zd2 : Array (Option Value)}
    {Zm : Addr} {Zdi Ybx jbx Jbx zaK zby : Value} {ydi Zby : Option Addr} {Ydi : Array (Option Value)}
    {yC : Addr} {YeS zcW ZcW ycW YbF YcW : Value} {jeS jcW : Option Addr} {JeS : Array (Option Value)}
    {jR : Addr} {ZfN Zd2 yd2 Yd2 YcF jd2 : Value} {yfN Jd2 : Option Addr} {YfN : Array (Option Value)}
    {Yy : Addr} {jeC jcF JcF zcG Jbr ZcG : Value} {JeC ycG : Option Addr} {zeD : Array (Option Value)}
    {jL : Addr} {yft YdE jdE JdE Ycf zdF : Value} {Yft ZdF : Option Addr} {jft : Array (Option Value)}
    {JL : Addr} {Jft ydF YdF jdF jcf JdF : Value} {zfu zdG : Option Addr} {Zfu : Array (Option Value)}
    {jy : Addr} {ZeD YcG jcG JcG zbs zcH : Value} {yeD ZcH : Option Addr} {YeD : Array (Option Value)}
    {JR : Addr} {jfN zd3 Zd3 yd3 ycH Yd3 : Value} {JfN jd3 : Option Addr} {zfO : Array (Option Value)}
    {Yh : Addr} {Jcs jaX JaX zaY Yaj ZaY : Value} {zct yaY : Option Addr} {Zct : Array (Option Value)}
    {Js : Addr} {Jd3 Yca jca Jca ya5 zcb : Value} {zd4 Zcb : Option Addr} {Zd4 : Array (Option Value)}
    {Yp : Addr} {JdL YbQ jbQ JbQ jaU zbR : Value} {zdM ZbR : Option Addr} {ZdM : Array (Option Value)}
    {Jp : Addr} {ydM ybR YbR jbR JaU JbR : Value} {YdM zbS : Option Addr} {jdM : Array (Option Value)}
    {zM : Addr} {yfu ZdG ydG YdG Jcf jdG : Value} {Yfu JdG : Option Addr} {jfu : Array (Option Value)}
    {ZS : Addr} {ZfO yd4 Yd4 jd4 YcH Jd4 : Value} {yfO zd5 : Option Addr} {YfO : Array (Option Value)}
    {Jy : Addr} {jeD jcH JcH zcI Zbs ZcI : Value} {JeD ycI : Option Addr} {zeE : Array (Option Value)}
    {jh : Addr} {yct YaY jaY JaY jaj zaZ : Value} {Yct ZaZ : Option Addr} {jct : Array (Option Value)}
    {Zt : Addr} {Zd5 ycb Ycb jcb Ya5 Jcb : Value} {yd5 zcc : Option Addr} {Yd5 : Array (Option Value)}
    {zq : Addr} {JdM ZbS ybS YbS zaV jbS : Value} {zdN JbS : Option Addr} {ZdN : Array (Option Value)}
    {ZM : Addr} {Jfu zdH ZdH ydH zcg YdH : Value} {zfv jdH : Option Addr} {Zfv : Array (Option Value)}
    {Yaa : Addr} {jfZ jes Jes zet jc5 Zet : Value} {JfZ Yet : Option Addr} {zf0 : Array (Option Value)}
    {ji : Addr} {YcI ja5 Ja5 za6 Jas Za6 : Value} {jcI ya6 : Option Addr} {JcI : Array (Option Value)}
    {Jv : Addr} {jek Jcn zco Zco Jbh yco : Value} {Jek Yco : Option Addr} {zel : Array (Option Value)}
    {yt : Addr} {jd5 Zcc ycc Ycc Ya6 jcc : Value} {Jd5 Jcc : Option Addr} {zd6 : Array (Option Value)}
    {yS : Addr} {jfO Zd6 yd6 Yd6 zcJ jd6 : Value} {JfO Jd6 : Option Addr} {zfP : Array (Option Value)}
    {yM : Addr} {yfv JdH zdI ZdI Zcg ydI : Value} {Yfv YdI : Option Addr} {jfv : Array (Option Value)}
    {YC : Addr} {zeT JcW zcX ZcX jbF ycX : Value} {ZeT YcX : Option Addr} {yeT : Array (Option Value)}
    {ZG : Addr} {ye9 jdi Jdi zdj YbV Zdj : Value} {Ye9 ydj : Option Addr} {je9 : Array (Option Value)}
    {jam : Addr} {jgl YeT jeT JeT zdr zeU : Value} {Jgl ZeU : Option Addr} {zgm : Array (Option Value)}
    {zj : Addr} {zcO Jbf zbg Zbg Zaw ybg : Value} {ZcO Ybg : Option Addr} {ycO : Array (Option Value)}
    {zz : Addr} {ZeE ZcJ ycJ YcJ ybs jcJ : Value} {yeE JcJ : Option Addr} {YeE : Array (Option Value)}
    {Zw : Addr} {Zel jco Jco zcp zbi Zcp : Value} {yel ycp : Option Addr} {Yel : Array (Option Value)}
    {yU : Addr} {Zf0 jet Jet zeu Jc5 Zeu : Value} {yf0 yeu : Option Addr} {Yf0 : Array (Option Value)}
    {jq : Addr} {jel Ycp jcp Jcp Zbi zcq : Value} {Jel Zcq : Option Addr} {zem : Array (Option Value)}
    {Zn : Addr} {yeU jcX JcX zcY JbF ZcY : Value} {YeU ycY : Option Addr} {jeU : Array (Option Value)}
    {jk : Addr} {Zdr zbG ZbG ybG yaO YbG : Value} {ydr jbG : Option Addr} {Ydr : Array (Option Value)}
    {jC : Addr} {ZfP zd7 Zd7 yd7 zcK Yd7 : Value} {yfP jd7 : Option Addr} {YfP : Array (Option Value)}
    {yN : Addr} {jf0 Yeu jeu Jeu zc6 Zev : Value} {Jf0 yev : Option Addr} {zf1 : Array (Option Value)}
    {Zac : Addr} {Zgm JeU zeV ZeV jdr yeV : Value} {ygm YeV : Option Addr} {Ygm : Array (Option Value)}
    {zV : Addr} {Zf1 Yev jev Jev Zc6 zew : Value} {yf1 Zew : Option Addr} {Yf1 : Array (Option Value)}
    {yac : Addr} {jgm jeV JeV zeW Jdr ZeW : Value} {Jgm yeW : Option Addr} {zgn : Array (Option Value)}
    {yE : Addr} {Jfv jdI JdI zdJ ycg ZdJ : Value} {zfw ydJ : Option Addr} {Zfw : Array (Option Value)}
    {yx : Addr} {Je9 Ydj jdj Jdj jbV zdk : Value} {zfa Zdk : Option Addr} {Zfa : Array (Option Value)}
    {Yz : Addr} {yfa ydk Ydk jdk JbV Jdk : Value} {Yfa zdl : Option Addr} {jfa : Array (Option Value)}
    {Jt : Addr} {Jfa Zdl ydl Ydl zbW jdl : Value} {zfb Jdl : Option Addr} {Zfb : Array (Option Value)}
    {Ym : Addr} {ydN zbT ZbT ybT ZaV YbT : Value} {YdN jbT : Option Addr} {jdN : Array (Option Value)}
    {YD : Addr} {jf1 yew Yew jew yc6 Jew : Value} {Jf1 zex : Option Addr} {zf2 : Array (Option Value)}
    {Jaa : Addr} {Zf2 Zex yex Yex Yc6 jex : Value} {yf2 Jex : Option Addr} {Yf2 : Array (Option Value)}
    {YM : Addr} {yfw YdJ jdJ JdJ Ycg zdK : Value} {Yfw ZdK : Option Addr} {jfw : Array (Option Value)}
    {Jam : Addr} {Zgn YeW jeW JeW zds zeX : Value} {ygn ZeX : Option Addr} {Ygn : Array (Option Value)}
    {zan : Addr} {jgn yeX YeX jeX Zds JeX : Value} {Jgn zeY : Option Addr} {zgo : Array (Option Value)}
    {Zan : Addr} {Zgo ZeY yeY YeY yds jeY : Value} {ygo JeY : Option Addr} {Ygo : Array (Option Value)}
    {YS : Addr} {jfP Jd7 zd8 Zd8 ZcK yd8 : Value} {JfP Yd8 : Option Addr} {zfQ : Array (Option Value)}
    {yan : Addr} {jgo zeZ ZeZ yeZ Yds YeZ : Value} {Jgo jeZ : Option Addr} {zgp : Array (Option Value)}
    {jaw : Addr} {YgQ ZfQ yfQ YfQ jeE jfQ : Value} {jgQ JfQ : Option Addr} {JgQ : Array (Option Value)}
    {JS : Addr} {zfR jd8 Jd8 zd9 ycK Zd9 : Value} {ZfR yd9 : Option Addr} {yfR : Array (Option Value)}
    {Zbm : Addr} {yg9 jgc Jgc zgd yfb Zgd : Value} {Yg9 ygd : Option Addr} {jg9 : Array (Option Value)}
    {ZaC : Addr} {zgG Jfm zfn Zfn Yd9 yfn : Value} {ZgG Yfn : Option Addr} {ygG : Array (Option Value)}
    {Yt : Addr} {jd9 zcd Zcd ycd ja6 Ycd : Value} {Jd9 jcd : Option Addr} {zea : Array (Option Value)}
    {jc3 : Addr} {zhv ygZ YgZ jgZ Zgp JgZ : Value} {Zhv zg0 : Option Addr} {yhv : Array (Option Value)}
    {zey : Tok}
    {Zea : Tok}
    {JeZ : Tok}
    {YfR : Tok}
    {yea : Tok}
    {jfn : Tok}
    {Jfn : Tok}
    {zfo : Tok}
    {yhn : Tok}
    {Zey : Tok}
    {YgG : Tok}
    {jfR : Tok}
    {jgG : Tok}
    {JgG : Tok}
    {zgH : Tok}
    {Zfo : Tok}
    {ZgH : Tok}
    {Zg0 : Tok}
    {Ygd : Tok}
    {Yhn : Tok}
    {yg0 : Tok}
    {jgd : Tok}
    {jhn : Tok}
    {Jhn : Tok}
    {ygH : Tok}
    {zho : Tok}
    {Yw : Addr}
    {zgR : Option Addr} {ZgR : Nat} {ygR : Array (Option Value)} {YgH : Tok} {jgH : Tok} {JgH : Tok} {zgI : Tok} {ZgI : Tok} {ygI : Tok} {YgI : Tok} {jgI : Tok} {JgI : Tok} {zgJ : Tok} {ygp : Tok} {Ygp : Tok} {jgp : Tok} {Jgp : Tok} {zgq : Tok} {Zgq : Tok}
    (JfR : W.nsIn K mainGlobals "Entry" = some (some (.ref JaD)))
    (jds : W.nsIn K mainGlobals "PlotEntry" = some (some (.ref jZ)))
    (YcK : W.nsIn K mainGlobals "PersonEntry" = some (some (.ref yG)))
    (zfS : W.nsIn K mainGlobals "Grant" = some (some (.ref zaX)))
    (Yea : W.nsIn K mainGlobals "Transfer" = some (some (.ref Jb)))
    (Yfb : W.nsIn K mainGlobals "Charge" = some (some (.ref jc)))
    (jfb : W.nsIn K mainGlobals "Notice" = some (some (.ref Zd)))
    (Jds : W.nsIn K mainGlobals "Objection" = some (some (.ref Yb)))
    (Jfb : W.nsIn K mainGlobals "Fulfil" = some (some (.ref Yd)))
    (zfc : W.nsIn K mainGlobals "Strike" = some (some (.ref Jf)))
    (ZfS : W.nsIn K mainGlobals "Ahead" = some (some (.ref Jg)))
    (JeE : W.nsIn K mainGlobals "Correct" = some (some (.ref Je)))
    (ygq : W.nsIn K mainGlobals "Void" = some (some (.ref yg)))
    (yfS : W.nsIn K mainGlobals "Sheet" = some (some (.ref Jk)))
    (Ygq : W.nsIn K mainGlobals "Book" = some (some (.ref JC)))
    (YfS : W.nsIn K mainGlobals "all_of" = some (some (.ref Zbl)))
    (ze0 : K.lookup Zbl = some ⟨yg8, Yg8, .func (W.fnOf "all_of" "all_of" (Zb za1) (zb za1) (za za1) .none zgb Zgb ygb jgb ze9 Ygb), jg8⟩)
    (Ze0 : W.codeIn K ze9 "all_of" = true)
    (ye0 : W.keepIn K (.ref Zbl) = true)
    (Zfc : W.nsIn K mainGlobals "without" = some (some (.ref YaT)))
    (Jee : K.lookup YaT = some ⟨zgQ, ZgQ, .func (W.fnOf "without" "without" (Zb YaH) (zb YaH) (za YaH) .none JfL zfM ZfM YfM YeC yfM), ygQ⟩)
    (zef : W.codeIn K YeC "without" = true)
    (Zef : W.keepIn K (.ref YaT) = true)
    (jcK : W.nsIn K mainGlobals "stands_first" = some (some (.ref ZL)))
    (JbG : K.lookup ZL = some ⟨Jfr, zfs, .func (W.fnOf "stands_first" "stands_first" (Zb jJ) (zb jJ) (za jJ) .none zdC ZdC ydC jdC zcf YdC), Zfs⟩)
    (zbH : W.codeIn K zcf "stands_first" = true)
    (ZbH : W.keepIn K (.ref ZL) = true)
    (jea : W.nsIn K mainGlobals "put_ahead" = some (some (.ref Yam)))
    (YcY : K.lookup Yam = some ⟨Zgl, ygl, .func (W.fnOf "put_ahead" "put_ahead" (Zb Yal) (zb Yal) (za Yal) .none ZeQ yeQ YeQ JeQ ydq jeQ), Ygl⟩)
    (jcY : W.codeIn K ydq "put_ahead" = true)
    (JcY : W.keepIn K (.ref Yam) = true)
    (JcK : W.nsIn K mainGlobals "shared_place" = some (some (.ref yL)))
    (ybH : K.lookup yL = some ⟨yfs, Yfs, .func (W.fnOf "shared_place" "shared_place" (Zb JD) (zb JD) (za JD) .none JdC zdD ZdD YdD Zcf ydD), jfs⟩)
    (YbH : W.codeIn K Zcf "shared_place" = true)
    (jbH : W.keepIn K (.ref yL) = true)
    (jfS : W.nsIn K mainGlobals "shares" = some (some (.ref ybl)))
    (Ye0 : K.lookup ybl = some ⟨Jg8, zg9, .func (W.fnOf "shares" "shares" (Zb Jbk) (zb Jbk) (za Jbk) .none Jgb zgc Zgc Ygc Ze9 ygc), Zg9⟩)
    (je0 : W.codeIn K Ze9 "shares" = true)
    (Je0 : W.keepIn K (.ref ybl) = true)
    (zeF : W.nsIn K mainGlobals "entry_at" = some (some (.ref Z4)))
    (zdt : K.lookup Z4 = some ⟨YgF, jgF, .func (W.fnOf "entry_at" "entry_at" (Zb JaB) (zb JaB) (za JaB) .none zfm Zfm yfm jfm ZdZ Yfm), JgF⟩)
    (Zdt : W.codeIn K ZdZ "entry_at" = true)
    (ydt : W.keepIn K (.ref Z4) = true)
    (ze1 : W.findIn K (.ref JaD) "__init__" = some (some (.ref jw)))
    (Ze1 : W.isFn K (.ref jw) = true)
    (Jct : K.lookup jw = some ⟨jfY, JfY, .func (W.fnOf "__init__" "Entry.__init__" (Zb z9) (zb z9) (za z9) .none Jeq zer Zer Yer yc5 yer), zfZ⟩)
    (zcu : W.codeIn K yc5 "Entry.__init__" = true)
    (jN : W.keepIn K (.ref jw) = true)
    (zdm : W.findIn K (.ref JaD) "is_sound" = some (some (.ref yl)))
    (ZaK : W.isFn K (.ref yl) = true)
    (zbd : K.lookup yl = some ⟨zeR, ZeR, .func (W.fnOf "is_sound" "Entry.is_sound" (Zb jA) (zb jA) (za jA) .none YcT jcT JcT ZcU ZbE zcU), yeR⟩)
    (Zbd : W.codeIn K ZbE "Entry.is_sound" = true)
    (Y8 : W.keepIn K (.ref yl) = true)
    (jbg : W.findIn K (.ref JaD) "finds_its_entries" = some (some (.ref jd)))
    (jt : W.isFn K (.ref jd) = true)
    (J0 : K.lookup jd = some ⟨JcE, zcF, .func (W.fnOf "finds_its_entries" "Entry.finds_its_entries" (Zb Zi) (zb Zi) (za Zi) .none Ja3 za4 Za4 Ya4 jas ya4), ZcF⟩)
    (Z1 : W.codeIn K jas "Entry.finds_its_entries" = true)
    (Zk : W.keepIn K (.ref jd) = true)
    (ycq : W.findIn K (.ref JaD) "may_be_made" = some (some (.ref Yj)))
    (ZaE : W.isFn K (.ref Yj) = true)
    (yaE : K.lookup Yj = some ⟨ydZ, YdZ, .func (W.fnOf "may_be_made" "Entry.may_be_made" (Zb Jq) (zb Jq) (za Jq) .none Zb7 yb7 Yb7 Jb7 ja4 jb7), jdZ⟩)
    (YaE : W.codeIn K ja4 "Entry.may_be_made" = true)
    (yZ : W.keepIn K (.ref Yj) = true)
    (Jea : W.findIn K (.ref JaD) "settle" = some (some (.ref zg)))
    (jM : W.isFn K (.ref zg) = true)
    (JbH : K.lookup zg = some ⟨Jfs, zft, .func (W.fnOf "settle" "Entry.settle" (Zb zK) (zb zK) (za zK) .none jdD JdD zdE ydE ycf ZdE), Zft⟩)
    (zbI : W.codeIn K ycf "Entry.settle" = true)
    (Jz : W.keepIn K (.ref zg) = true)
    (Ycq : W.findIn K (.ref JaD) "take_effect" = some (some (.ref jf)))
    (yI : W.isFn K (.ref jf) = true)
    (jaE : K.lookup jf = some ⟨JdZ, zd0, .func (W.fnOf "take_effect" "Entry.take_effect" (Zb zr) (zb zr) (za zr) .none zb8 Zb8 yb8 jb8 Ja4 Yb8), Zd0⟩)
    (JaE : W.codeIn K Ja4 "Entry.take_effect" = true)
    (Zx : W.keepIn K (.ref jf) = true)
    (yey : W.findIn K (.ref JaD) "enter" = some (some (.ref YL)))
    (jc6 : W.isFn K (.ref YL) = true)
    (ybY : K.lookup YL = some ⟨jfM, JfM, .func (W.fnOf "enter" "Entry.enter" (Zb ZQ) (zb ZQ) (za ZQ) .none yd0 Yd0 jd0 zd1 ycF Jd0), zfN⟩)
    (YbY : W.codeIn K ycF "Entry.enter" = true)
    (Jbn : W.keepIn K (.ref YL) = true)
    (Zdm : W.findIn K (.ref jZ) "__init__" = some (some (.ref Zq)))
    (ydm : W.isFn K (.ref Zq) = true)
    (ybd : K.lookup Zq = some ⟨YeR, jeR, .func (W.fnOf "__init__" "PlotEntry.__init__" (Zb zB) (zb zB) (za zB) .none ycU YcU jcU zcV ybE JcU), JeR⟩)
    (Ybd : W.codeIn K ybE "PlotEntry.__init__" = true)
    (yH : W.keepIn K (.ref Zq) = true)
    (Jcd : W.findIn K (.ref jZ) "is_sound" = some (some (.ref ym)))
    (Ja6 : W.isFn K (.ref ym) = true)
    (Yaz : K.lookup ym = some ⟨ydL, YdL, .func (W.fnOf "is_sound" "PlotEntry.is_sound" (Zb Yo) (zb Yo) (za Yo) .none jbP JbP zbQ ybQ YaU ZbQ), jdL⟩)
    (jaz : W.codeIn K YaU "PlotEntry.is_sound" = true)
    (Zad : W.keepIn K (.ref ym) = true)
    (ZbI : W.findIn K (.ref jZ) "plot_among" = some (some (.ref ye)))
    (yz : W.isFn K (.ref ye) = true)
    (Jaj : K.lookup ye = some ⟨jdg, Jdg, .func (W.fnOf "plot_among" "PlotEntry.plot_among" (Zb Yl) (zb Yl) (za Yl) .none zbv Zbv ybv jbv YaJ Ybv), zdh⟩)
    (zak : W.codeIn K YaJ "PlotEntry.plot_among" = true)
    (yo : W.keepIn K (.ref ye) = true)
    (zcL : W.findIn K (.ref yG) "__init__" = some (some (.ref Zj)))
    (Ybs : W.isFn K (.ref Zj) = true)
    (YaO : K.lookup Zj = some ⟨Zek, yek, .func (W.fnOf "__init__" "PersonEntry.__init__" (Zb ju) (zb ju) (za ju) .none zcn Zcn ycn jcn jbh Ycn), Yek⟩)
    (jaO : W.codeIn K jbh "PersonEntry.__init__" = true)
    (zF : W.keepIn K (.ref Zj) = true)
    (ybI : W.findIn K (.ref yG) "is_there" = some (some (.ref zf)))
    (jH : W.isFn K (.ref zf) = true)
    (Zak : K.lookup zf = some ⟨Zdh, ydh, .func (W.fnOf "is_there" "PersonEntry.is_there" (Zb jl) (zb jl) (za jl) .none Jbv zbw Zbw Ybw jaJ ybw), Ydh⟩)
    (yak : W.codeIn K jaJ "PersonEntry.is_there" = true)
    (yu : W.keepIn K (.ref zf) = true)
    (YbI : W.findIn K (.ref yG) "is_sound" = some (some (.ref yj)))
    (JaO : W.isFn K (.ref yj) = true)
    (Yak : K.lookup yj = some ⟨jdh, Jdh, .func (W.fnOf "is_sound" "PersonEntry.is_sound" (Zb Jl) (zb Jl) (za Jl) .none jbw Jbw zbx ybx JaJ Zbx), zdi⟩)
    (jak : W.codeIn K JaJ "PersonEntry.is_sound" = true)
    (ZW : W.keepIn K (.ref yj) = true)
    (ye1 : W.findIn K (.ref zaX) "__init__" = some (some (.ref Jw)))
    (Zcu : W.isFn K (.ref Jw) = true)
    (ycu : K.lookup Jw = some ⟨ZfZ, yfZ, .func (W.fnOf "__init__" "Grant.__init__" (Zb Z9) (zb Z9) (za Z9) .none jer Jer zes Yes Yc5 Zes), YfZ⟩)
    (Ycu : W.codeIn K Yc5 "Grant.__init__" = true)
    (zaz : W.keepIn K (.ref Jw) = true)
    (JbT : W.findIn K (.ref zaX) "has_its_giver" = some (some (.ref Zg)))
    (Z3 : W.isFn K (.ref Zg) = true)
    (yav : K.lookup Zg = some ⟨Ydq, jdq, .func (W.fnOf "has_its_giver" "Grant.has_its_giver" (Zb jn) (zb jn) (za jn) .none YbE jbE JbE ZbF ZaO zbF), Jdq⟩)
    (Yav : W.codeIn K ZaO "Grant.has_its_giver" = true)
    (ZD : W.keepIn K (.ref Zg) = true)
    (Ydm : W.findIn K (.ref zaX) "is_sound" = some (some (.ref yq)))
    (jbd : W.isFn K (.ref yq) = true)
    (Jbd : K.lookup yq = some ⟨zeS, ZeS, .func (W.fnOf "is_sound" "Grant.is_sound" (Zb YB) (zb YB) (za YB) .none ZcV ycV YcV JcV ybF jcV), yeS⟩)
    (zbe : W.codeIn K ybF "Grant.is_sound" = true)
    (jaq : W.keepIn K (.ref yq) = true)
    (jcq : W.findIn K (.ref zaX) "may_be_made" = some (some (.ref Yg)))
    (Jah : W.isFn K (.ref Yg) = true)
    (zaF : K.lookup Yg = some ⟨Zd1, yd1, .func (W.fnOf "may_be_made" "Grant.may_be_made" (Zb Zr) (zb Zr) (za Zr) .none Jb8 zb9 Zb9 Yb9 za5 yb9), Yd1⟩)
    (ZaF : W.codeIn K za5 "Grant.may_be_made" = true)
    (zJ : W.keepIn K (.ref Yg) = true)
    (Jcq : W.findIn K (.ref zaX) "take_effect" = some (some (.ref jj)))
    (yaF : W.isFn K (.ref jj) = true)
    (YaF : K.lookup jj = some ⟨jd1, Jd1, .func (W.fnOf "take_effect" "Grant.take_effect" (Zb yr) (zb yr) (za yr) .none jb9 Jb9 zca yca Za5 Zca), zd2⟩)
    (jaF : W.codeIn K Za5 "Grant.take_effect" = true)
    (YZ : W.keepIn K (.ref jj) = true)
    (zaP : W.findIn K (.ref Jb) "take_effect" = some (some (.ref Zm)))
    (ZaP : W.isFn K (.ref Zm) = true)
    (Jak : K.lookup Zm = some ⟨Zdi, ydi, .func (W.fnOf "take_effect" "Transfer.take_effect" (Zb zm) (zb zm) (za zm) .none Ybx jbx Jbx Zby zaK zby), Ydi⟩)
    (zal : W.codeIn K zaK "Transfer.take_effect" = true)
    (yW : W.keepIn K (.ref Zm) = true)
    (ZbW : W.findIn K (.ref Jb) "enter" = some (some (.ref yC)))
    (ybW : W.isFn K (.ref yC) = true)
    (Zbe : K.lookup yC = some ⟨YeS, jeS, .func (W.fnOf "enter" "Transfer.enter" (Zb jB) (zb jB) (za jB) .none zcW ZcW ycW jcW YbF YcW), JeS⟩)
    (ybe : W.codeIn K YbF "Transfer.enter" = true)
    (yaK : W.keepIn K (.ref yC) = true)
    (Jc6 : W.findIn K (.ref jc) "__init__" = some (some (.ref jR)))
    (zc7 : W.isFn K (.ref jR) = true)
    (jbY : K.lookup jR = some ⟨ZfN, yfN, .func (W.fnOf "__init__" "Charge.__init__" (Zb yQ) (zb yQ) (za yQ) .none Zd2 yd2 Yd2 Jd2 YcF jd2), YfN⟩)
    (JbY : W.codeIn K YcF "Charge.__init__" = true)
    (zbZ : W.keepIn K (.ref jR) = true)
    (jbI : W.findIn K (.ref jc) "is_sound" = some (some (.ref Yy)))
    (JbI : W.isFn K (.ref Yy) = true)
    (yaZ : K.lookup Yy = some ⟨jeC, JeC, .func (W.fnOf "is_sound" "Charge.is_sound" (Zb jx) (zb jx) (za jx) .none jcF JcF zcG ycG Jbr ZcG), zeD⟩)
    (YaZ : W.codeIn K Jbr "Charge.is_sound" = true)
    (Jaz : W.keepIn K (.ref Yy) = true)
    (ZcL : W.findIn K (.ref jc) "enter" = some (some (.ref jL)))
    (ycL : W.isFn K (.ref jL) = true)
    (zbJ : K.lookup jL = some ⟨yft, Yft, .func (W.fnOf "enter" "Charge.enter" (Zb ZK) (zb ZK) (za ZK) .none YdE jdE JdE ZdF Ycf zdF), jft⟩)
    (ZbJ : W.codeIn K Ycf "Charge.enter" = true)
    (za7 : W.keepIn K (.ref jL) = true)
    (YcL : W.findIn K (.ref Zd) "enter" = some (some (.ref JL)))
    (jcL : W.isFn K (.ref JL) = true)
    (ybJ : K.lookup JL = some ⟨Jft, zfu, .func (W.fnOf "enter" "Notice.enter" (Zb yK) (zb yK) (za yK) .none ydF YdF jdF zdG jcf JdF), Zfu⟩)
    (YbJ : W.codeIn K jcf "Notice.enter" = true)
    (Za7 : W.keepIn K (.ref JL) = true)
    (jbJ : W.findIn K (.ref Yb) "enter" = some (some (.ref jy)))
    (JbJ : W.isFn K (.ref jy) = true)
    (jaZ : K.lookup jy = some ⟨ZeD, yeD, .func (W.fnOf "enter" "Objection.enter" (Zb Jx) (zb Jx) (za Jx) .none YcG jcG JcG ZcH zbs zcH), YeD⟩)
    (JaZ : W.codeIn K zbs "Objection.enter" = true)
    (zaA : W.keepIn K (.ref jy) = true)
    (Zc7 : W.findIn K (.ref Yd) "__init__" = some (some (.ref JR)))
    (yc7 : W.isFn K (.ref JR) = true)
    (ZbZ : K.lookup JR = some ⟨jfN, JfN, .func (W.fnOf "__init__" "Fulfil.__init__" (Zb YQ) (zb YQ) (za YQ) .none zd3 Zd3 yd3 jd3 ycH Yd3), zfO⟩)
    (ybZ : W.codeIn K ycH "Fulfil.__init__" = true)
    (YbZ : W.keepIn K (.ref JR) = true)
    (zat : W.findIn K (.ref Yd) "finds_its_entries" = some (some (.ref Yh)))
    (Zat : W.isFn K (.ref Yh) = true)
    (YW : K.lookup Yh = some ⟨Jcs, zct, .func (W.fnOf "finds_its_entries" "Fulfil.finds_its_entries" (Zb Zh) (zb Zh) (za Zh) .none jaX JaX zaY yaY Yaj ZaY), Zct⟩)
    (jW : W.codeIn K Yaj "Fulfil.finds_its_entries" = true)
    (ZF : W.keepIn K (.ref Yh) = true)
    (ybi : W.findIn K (.ref Yd) "plot_among" = some (some (.ref Js)))
    (Ybi : W.isFn K (.ref Js) = true)
    (JaF : K.lookup Js = some ⟨Jd3, zd4, .func (W.fnOf "plot_among" "Fulfil.plot_among" (Zb Yr) (zb Yr) (za Yr) .none Yca jca Jca Zcb ya5 zcb), Zd4⟩)
    (zaG : W.codeIn K ya5 "Fulfil.plot_among" = true)
    (zai : W.keepIn K (.ref Js) = true)
    (ya7 : W.findIn K (.ref Yd) "may_be_made" = some (some (.ref Yp)))
    (Ya7 : W.isFn K (.ref Yp) = true)
    (ZaA : K.lookup Yp = some ⟨JdL, zdM, .func (W.fnOf "may_be_made" "Fulfil.may_be_made" (Zb jo) (zb jo) (za jo) .none YbQ jbQ JbQ ZbR jaU zbR), ZdM⟩)
    (yaA : W.codeIn K jaU "Fulfil.may_be_made" = true)
    (yad : W.keepIn K (.ref Yp) = true)
    (ja7 : W.findIn K (.ref Yd) "take_effect" = some (some (.ref Jp)))
    (Ja7 : W.isFn K (.ref Jp) = true)
    (YaA : K.lookup Jp = some ⟨ydM, YdM, .func (W.fnOf "take_effect" "Fulfil.take_effect" (Zb Jo) (zb Jo) (za Jo) .none ybR YbR jbR zbS JaU JbR), jdM⟩)
    (jaA : W.codeIn K JaU "Fulfil.take_effect" = true)
    (Yad : W.keepIn K (.ref Jp) = true)
    (JcL : W.findIn K (.ref Yd) "enter" = some (some (.ref zM)))
    (zcM : W.isFn K (.ref zM) = true)
    (zbK : K.lookup zM = some ⟨yfu, Yfu, .func (W.fnOf "enter" "Fulfil.enter" (Zb YK) (zb YK) (za YK) .none ZdG ydG YdG JdG Jcf jdG), jfu⟩)
    (ZbK : W.codeIn K Jcf "Fulfil.enter" = true)
    (za8 : W.keepIn K (.ref zM) = true)
    (Yc7 : W.findIn K (.ref Jf) "__init__" = some (some (.ref ZS)))
    (jc7 : W.isFn K (.ref ZS) = true)
    (jbZ : K.lookup ZS = some ⟨ZfO, yfO, .func (W.fnOf "__init__" "Strike.__init__" (Zb jQ) (zb jQ) (za jQ) .none yd4 Yd4 jd4 zd5 YcH Jd4), YfO⟩)
    (JbZ : W.codeIn K YcH "Strike.__init__" = true)
    (zb0 : W.keepIn K (.ref ZS) = true)
    (ybK : W.findIn K (.ref Jf) "is_sound" = some (some (.ref Jy)))
    (YbK : W.isFn K (.ref Jy) = true)
    (za0 : K.lookup Jy = some ⟨jeD, JeD, .func (W.fnOf "is_sound" "Strike.is_sound" (Zb zy) (zb zy) (za zy) .none jcH JcH zcI ycI Zbs ZcI), zeE⟩)
    (Za0 : W.codeIn K Zbs "Strike.is_sound" = true)
    (JaA : W.keepIn K (.ref Jy) = true)
    (yat : W.findIn K (.ref Jf) "finds_its_entries" = some (some (.ref jh)))
    (Yat : W.isFn K (.ref jh) = true)
    (JW : K.lookup jh = some ⟨yct, Yct, .func (W.fnOf "finds_its_entries" "Strike.finds_its_entries" (Zb yh) (zb yh) (za yh) .none YaY jaY JaY ZaZ jaj zaZ), jct⟩)
    (zX : W.codeIn K jaj "Strike.finds_its_entries" = true)
    (yF : W.keepIn K (.ref jh) = true)
    (jbi : W.findIn K (.ref Jf) "plot_among" = some (some (.ref Zt)))
    (Jbi : W.isFn K (.ref Zt) = true)
    (ZaG : K.lookup Zt = some ⟨Zd5, yd5, .func (W.fnOf "plot_among" "Strike.plot_among" (Zb jr) (zb jr) (za jr) .none ycb Ycb jcb zcc Ya5 Jcb), Yd5⟩)
    (yaG : W.codeIn K Ya5 "Strike.plot_among" = true)
    (Zai : W.keepIn K (.ref Zt) = true)
    (Za8 : W.findIn K (.ref Jf) "may_be_made" = some (some (.ref zq)))
    (ya8 : W.isFn K (.ref zq) = true)
    (zaB : K.lookup zq = some ⟨JdM, zdN, .func (W.fnOf "may_be_made" "Strike.may_be_made" (Zb zp) (zb zp) (za zp) .none ZbS ybS YbS JbS zaV jbS), ZdN⟩)
    (ZaB : W.codeIn K zaV "Strike.may_be_made" = true)
    (jad : W.keepIn K (.ref zq) = true)
    (ZcM : W.findIn K (.ref Jf) "enter" = some (some (.ref ZM)))
    (ycM : W.isFn K (.ref ZM) = true)
    (jbK : K.lookup ZM = some ⟨Jfu, zfv, .func (W.fnOf "enter" "Strike.enter" (Zb jK) (zb jK) (za jK) .none zdH ZdH ydH jdH zcg YdH), Zfv⟩)
    (JbK : W.codeIn K zcg "Strike.enter" = true)
    (Ya8 : W.keepIn K (.ref ZM) = true)
    (Ydt : W.findIn K (.ref Jg) "__init__" = some (some (.ref Yaa)))
    (jdt : W.isFn K (.ref Yaa) = true)
    (jcu : K.lookup Yaa = some ⟨jfZ, JfZ, .func (W.fnOf "__init__" "Ahead.__init__" (Zb Y9) (zb Y9) (za Y9) .none jes Jes zet Yet jc5 Zet), zf0⟩)
    (Jcu : W.codeIn K jc5 "Ahead.__init__" = true)
    (zcv : W.keepIn K (.ref Yaa) = true)
    (yaw : W.findIn K (.ref Jg) "finds_its_entries" = some (some (.ref ji)))
    (Yaw : W.isFn K (.ref ji) = true)
    (J1 : K.lookup ji = some ⟨YcI, jcI, .func (W.fnOf "finds_its_entries" "Ahead.finds_its_entries" (Zb Yi) (zb Yi) (za Yi) .none ja5 Ja5 za6 ya6 Jas Za6), JcI⟩)
    (Z2 : W.codeIn K Jas "Ahead.finds_its_entries" = true)
    (JH : W.keepIn K (.ref ji) = true)
    (jbs : W.findIn K (.ref Jg) "plot_among" = some (some (.ref Jv)))
    (Jbs : W.isFn K (.ref Jv) = true)
    (yaP : K.lookup Jv = some ⟨jek, Jek, .func (W.fnOf "plot_among" "Ahead.plot_among" (Zb Ju) (zb Ju) (za Ju) .none Jcn zco Zco Yco Jbh yco), zel⟩)
    (YaP : W.codeIn K Jbh "Ahead.plot_among" = true)
    (jat : W.keepIn K (.ref Jv) = true)
    (zbj : W.findIn K (.ref Jg) "may_be_made" = some (some (.ref yt)))
    (Zbj : W.isFn K (.ref yt) = true)
    (YaG : K.lookup yt = some ⟨jd5, Jd5, .func (W.fnOf "may_be_made" "Ahead.may_be_made" (Zb Jr) (zb Jr) (za Jr) .none Zcc ycc Ycc Jcc Ya6 jcc), zd6⟩)
    (jaG : W.codeIn K Ya6 "Ahead.may_be_made" = true)
    (yai : W.keepIn K (.ref yt) = true)
    (Jc7 : W.findIn K (.ref Jg) "enter" = some (some (.ref yS)))
    (zc8 : W.isFn K (.ref yS) = true)
    (Zb0 : K.lookup yS = some ⟨jfO, JfO, .func (W.fnOf "enter" "Ahead.enter" (Zb JQ) (zb JQ) (za JQ) .none Zd6 yd6 Yd6 Jd6 zcJ jd6), zfP⟩)
    (yb0 : W.codeIn K zcJ "Ahead.enter" = true)
    (zbo : W.keepIn K (.ref yS) = true)
    (YcM : W.findIn K (.ref Je) "__init__" = some (some (.ref yM)))
    (jcM : W.isFn K (.ref yM) = true)
    (zbL : K.lookup yM = some ⟨yfv, Yfv, .func (W.fnOf "__init__" "Correct.__init__" (Zb JK) (zb JK) (za JK) .none JdH zdI ZdI YdI Zcg ydI), jfv⟩)
    (ZbL : W.codeIn K Zcg "Correct.__init__" = true)
    (ybL : W.keepIn K (.ref yM) = true)
    (YbW : W.findIn K (.ref Je) "settle" = some (some (.ref YC)))
    (jbW : W.isFn K (.ref YC) = true)
    (Ybe : K.lookup YC = some ⟨zeT, ZeT, .func (W.fnOf "settle" "Correct.settle" (Zb JB) (zb JB) (za JB) .none JcW zcX ZcX YcX jbF ycX), yeT⟩)
    (jbe : W.codeIn K jbF "Correct.settle" = true)
    (YaK : W.keepIn K (.ref YC) = true)
    (jcg : W.findIn K (.ref Je) "enter" = some (some (.ref ZG)))
    (Jcg : W.isFn K (.ref ZG) = true)
    (Ybp : K.lookup ZG = some ⟨ye9, Ye9, .func (W.fnOf "enter" "Correct.enter" (Zb YF) (zb YF) (za YF) .none jdi Jdi zdj ydj YbV Zdj), je9⟩)
    (jbp : W.codeIn K YbV "Correct.enter" = true)
    (jaS : W.keepIn K (.ref ZG) = true)
    (zeb : W.findIn K (.ref yg) "__init__" = some (some (.ref jam)))
    (Zeb : W.isFn K (.ref jam) = true)
    (zcZ : K.lookup jam = some ⟨jgl, Jgl, .func (W.fnOf "__init__" "Void.__init__" (Zb jal) (zb jal) (za jal) .none YeT jeT JeT ZeU zdr zeU), zgm⟩)
    (ZcZ : W.codeIn K zdr "Void.__init__" = true)
    (ycZ : W.keepIn K (.ref jam) = true)
    (zaD : W.findIn K (.ref yg) "finds_its_entries" = some (some (.ref zj)))
    (ZaD : W.isFn K (.ref zj) = true)
    (yab : K.lookup zj = some ⟨zcO, ZcO, .func (W.fnOf "finds_its_entries" "Void.finds_its_entries" (Zb Ji) (zb Ji) (za Ji) .none Jbf zbg Zbg Ybg Zaw ybg), ycO⟩)
    (Yab : W.codeIn K Zaw "Void.finds_its_entries" = true)
    (JM : W.keepIn K (.ref zj) = true)
    (YbL : W.findIn K (.ref yg) "plot_among" = some (some (.ref zz)))
    (jbL : W.isFn K (.ref zz) = true)
    (ya0 : K.lookup zz = some ⟨ZeE, yeE, .func (W.fnOf "plot_among" "Void.plot_among" (Zb Zy) (zb Zy) (za Zy) .none ZcJ ycJ YcJ JcJ ybs jcJ), YeE⟩)
    (Ya0 : W.codeIn K ybs "Void.plot_among" = true)
    (yaB : W.keepIn K (.ref zz) = true)
    (zbt : W.findIn K (.ref yg) "may_be_made" = some (some (.ref Zw)))
    (Zbt : W.isFn K (.ref Zw) = true)
    (jaP : K.lookup Zw = some ⟨Zel, yel, .func (W.fnOf "may_be_made" "Void.may_be_made" (Zb Zv) (zb Zv) (za Zv) .none jco Jco zcp ycp zbi Zcp), Yel⟩)
    (JaP : W.codeIn K zbi "Void.may_be_made" = true)
    (Jat : W.keepIn K (.ref Zw) = true)
    (Jdt : W.findIn K (.ref Jk) "__init__" = some (some (.ref yU)))
    (zdu : W.isFn K (.ref yU) = true)
    (Zcv : K.lookup yU = some ⟨Zf0, yf0, .func (W.fnOf "__init__" "Sheet.__init__" (Zb j9) (zb j9) (za j9) .none jet Jet zeu yeu Jc5 Zeu), Yf0⟩)
    (ycv : W.codeIn K Jc5 "Sheet.__init__" = true)
    (Ycv : W.keepIn K (.ref yU) = true)
    (ybt : W.findIn K (.ref Jk) "go_through" = some (some (.ref jq)))
    (Ybt : W.isFn K (.ref jq) = true)
    (zaQ : K.lookup jq = some ⟨jel, Jel, .func (W.fnOf "go_through" "Sheet.go_through" (Zb Yv) (zb Yv) (za Yv) .none Ycp jcp Jcp Zcq Zbi zcq), zem⟩)
    (ZaQ : W.codeIn K Zbi "Sheet.go_through" = true)
    (zau : W.keepIn K (.ref jq) = true)
    (JbW : W.findIn K (.ref Jk) "acquires" = some (some (.ref Zn)))
    (zbX : W.isFn K (.ref Zn) = true)
    (Jbe : K.lookup Zn = some ⟨yeU, YeU, .func (W.fnOf "acquires" "Sheet.acquires" (Zb ZC) (zb ZC) (za ZC) .none jcX JcX zcY ycY JbF ZcY), jeU⟩)
    (zbf : W.codeIn K JbF "Sheet.acquires" = true)
    (jaK : W.keepIn K (.ref Zn) = true)
    (yaV : W.findIn K (.ref Jk) "has_objection" = some (some (.ref jk)))
    (YaV : W.isFn K (.ref jk) = true)
    (jav : K.lookup jk = some ⟨Zdr, ydr, .func (W.fnOf "has_objection" "Sheet.has_objection" (Zb Yk) (zb Yk) (za Yk) .none zbG ZbG ybG jbG yaO YbG), Ydr⟩)
    (Jav : W.codeIn K yaO "Sheet.has_objection" = true)
    (J3 : W.keepIn K (.ref jk) = true)
    (Zc8 : W.findIn K (.ref Jk) "stand" = some (some (.ref jC)))
    (yc8 : W.isFn K (.ref jC) = true)
    (Yb0 : K.lookup jC = some ⟨ZfP, yfP, .func (W.fnOf "stand" "Sheet.stand" (Zb zR) (zb zR) (za zR) .none zd7 Zd7 yd7 jd7 zcK Yd7), YfP⟩)
    (jb0 : W.codeIn K zcK "Sheet.stand" = true)
    (Zbo : W.keepIn K (.ref jC) = true)
    (Zdu : W.findIn K (.ref Jk) "drop" = some (some (.ref yN)))
    (ydu : W.isFn K (.ref yN) = true)
    (jcv : K.lookup yN = some ⟨jf0, Jf0, .func (W.fnOf "drop" "Sheet.drop" (Zb J9) (zb J9) (za J9) .none Yeu jeu Jeu yev zc6 Zev), zf1⟩)
    (Jcv : W.codeIn K zc6 "Sheet.drop" = true)
    (JbL : W.keepIn K (.ref yN) = true)
    (yeb : W.findIn K (.ref JC) "__init__" = some (some (.ref Zac)))
    (Yeb : W.isFn K (.ref Zac) = true)
    (YcZ : K.lookup Zac = some ⟨Zgm, ygm, .func (W.fnOf "__init__" "Book.__init__" (Zb Jal) (zb Jal) (za Jal) .none JeU zeV ZeV YeV jdr yeV), Ygm⟩)
    (jcZ : W.codeIn K jdr "Book.__init__" = true)
    (JcZ : W.keepIn K (.ref Zac) = true)
    (Ydu : W.findIn K (.ref JC) "begin" = some (some (.ref zV)))
    (jdu : W.isFn K (.ref zV) = true)
    (zcw : K.lookup zV = some ⟨Zf1, yf1, .func (W.fnOf "begin" "Book.begin" (Zb jT) (zb jT) (za jT) .none Yev jev Jev Zew Zc6 zew), Yf1⟩)
    (Zcw : W.codeIn K Zc6 "Book.begin" = true)
    (zbM : W.keepIn K (.ref zV) = true)
    (jeb : W.findIn K (.ref JC) "make" = some (some (.ref yac)))
    (Jeb : W.isFn K (.ref yac) = true)
    (zc0 : K.lookup yac = some ⟨jgm, Jgm, .func (W.fnOf "make" "Book.make" (Zb zam) (zb zam) (za zam) .none jeV JeV zeW yeW Jdr ZeW), zgn⟩)
    (Zc0 : W.codeIn K Jdr "Book.make" = true)
    (zce : W.keepIn K (.ref yac) = true)
    (JcM : W.findIn K (.ref JC) "refusal" = some (some (.ref yE)))
    (zcN : W.isFn K (.ref yE) = true)
    (ZbM : K.lookup yE = some ⟨Jfv, zfw, .func (W.fnOf "refusal" "Book.refusal" (Zb zL) (zb zL) (za zL) .none jdI JdI zdJ ydJ ycg ZdJ), Zfw⟩)
    (ybM : W.codeIn K ycg "Book.refusal" = true)
    (ja8 : W.keepIn K (.ref yE) = true)
    (zch : W.findIn K (.ref JC) "sheet_of" = some (some (.ref yx)))
    (Zch : W.isFn K (.ref yx) = true)
    (Jbp : K.lookup yx = some ⟨Je9, zfa, .func (W.fnOf "sheet_of" "Book.sheet_of" (Zb jF) (zb jF) (za jF) .none Ydj jdj Jdj Zdk jbV zdk), Zfa⟩)
    (zbq : W.codeIn K jbV "Book.sheet_of" = true)
    (JaS : W.keepIn K (.ref yx) = true)
    (ych : W.findIn K (.ref JC) "has_plot" = some (some (.ref Yz)))
    (Ych : W.isFn K (.ref Yz) = true)
    (Zbq : K.lookup Yz = some ⟨yfa, Yfa, .func (W.fnOf "has_plot" "Book.has_plot" (Zb JF) (zb JF) (za JF) .none ydk Ydk jdk zdl JbV Jdk), jfa⟩)
    (ybq : W.codeIn K JbV "Book.has_plot" = true)
    (zaT : W.keepIn K (.ref Yz) = true)
    (jch : W.findIn K (.ref JC) "sheet_on" = some (some (.ref Jt)))
    (Jch : W.isFn K (.ref Jt) = true)
    (Ybq : K.lookup Jt = some ⟨Jfa, zfb, .func (W.fnOf "sheet_on" "Book.sheet_on" (Zb zG) (zb zG) (za zG) .none Zdl ydl Ydl Jdl zbW jdl), Zfb⟩)
    (jbq : W.codeIn K zbW "Book.sheet_on" = true)
    (ZaT : W.keepIn K (.ref Jt) = true)
    (Ja8 : W.findIn K (.ref JC) "void_as_known" = some (some (.ref Ym)))
    (za9 : W.isFn K (.ref Ym) = true)
    (YaB : K.lookup Ym = some ⟨ydN, YdN, .func (W.fnOf "void_as_known" "Book.void_as_known" (Zb yp) (zb yp) (za yp) .none zbT ZbT ybT jbT ZaV YbT), jdN⟩)
    (jaB : W.codeIn K ZaV "Book.void_as_known" = true)
    (Jad : W.keepIn K (.ref Ym) = true)
    (Jdu : W.nsIn K mainGlobals "with_lists" = some (some (.ref YD)))
    (ycw : K.lookup YD = some ⟨jf1, Jf1, .func (W.fnOf "with_lists" "with_lists" (Zb zaa) (zb zaa) (za zaa) .none yew Yew jew zex yc6 Jew), zf2⟩)
    (Ycw : W.codeIn K yc6 "with_lists" = true)
    (jcw : W.keepIn K (.ref YD) = true)
    (zdv : W.nsIn K mainGlobals "tell_owner" = some (some (.ref Jaa)))
    (Jcw : K.lookup Jaa = some ⟨Zf2, yf2, .func (W.fnOf "tell_owner" "tell_owner" (Zb Zaa) (zb Zaa) (za Zaa) .none Zex yex Yex Jex Yc6 jex), Yf2⟩)
    (zcx : W.codeIn K Yc6 "tell_owner" = true)
    (Zcx : W.keepIn K (.ref Jaa) = true)
    (ZcN : W.nsIn K mainGlobals "tell_charges" = some (some (.ref YM)))
    (YbM : K.lookup YM = some ⟨yfw, Yfw, .func (W.fnOf "tell_charges" "tell_charges" (Zb zE) (zb zE) (za zE) .none YdJ jdJ JdJ ZdK Ycg zdK), jfw⟩)
    (jbM : W.codeIn K Ycg "tell_charges" = true)
    (JbM : W.keepIn K (.ref YM) = true)
    (zec : W.nsIn K mainGlobals "place_row" = some (some (.ref Jam)))
    (yc0 : K.lookup Jam = some ⟨Zgn, ygn, .func (W.fnOf "place_row" "place_row" (Zb Zam) (zb Zam) (za Zam) .none YeW jeW JeW ZeX zds zeX), Ygn⟩)
    (Yc0 : W.codeIn K zds "place_row" = true)
    (jc0 : W.keepIn K (.ref Jam) = true)
    (Zec : W.nsIn K mainGlobals "tell_rely" = some (some (.ref zan)))
    (Jc0 : K.lookup zan = some ⟨jgn, Jgn, .func (W.fnOf "tell_rely" "tell_rely" (Zb yam) (zb yam) (za yam) .none yeX YeX jeX zeY Zds JeX), zgo⟩)
    (zc1 : W.codeIn K Zds "tell_rely" = true)
    (Zc1 : W.keepIn K (.ref zan) = true)
    (yec : W.nsIn K mainGlobals "tell_sale" = some (some (.ref Zan)))
    (yc1 : K.lookup Zan = some ⟨Zgo, ygo, .func (W.fnOf "tell_sale" "tell_sale" (Zb Jab) (zb Jab) (za Jab) .none ZeY yeY YeY JeY yds jeY), Ygo⟩)
    (Yc1 : W.codeIn K yds "tell_sale" = true)
    (jc1 : W.keepIn K (.ref Zan) = true)
    (Yc8 : W.nsIn K mainGlobals "tell_stands" = some (some (.ref YS)))
    (Jb0 : K.lookup YS = some ⟨jfP, JfP, .func (W.fnOf "tell_stands" "tell_stands" (Zb ZR) (zb ZR) (za ZR) .none Jd7 zd8 Zd8 Yd8 ZcK yd8), zfQ⟩)
    (zb1 : W.codeIn K ZcK "tell_stands" = true)
    (Zb1 : W.keepIn K (.ref YS) = true)
    (Yec : W.nsIn K mainGlobals "tell_days" = some (some (.ref yan)))
    (Jc1 : K.lookup yan = some ⟨jgo, Jgo, .func (W.fnOf "tell_days" "tell_days" (Zb zac) (zb zac) (za zac) .none zeZ ZeZ yeZ jeZ Yds YeZ), zgp⟩)
    (zc2 : W.codeIn K Yds "tell_days" = true)
    (Zc2 : W.keepIn K (.ref yan) = true)
    (yfc : W.nsIn K mainGlobals "answers" = some (some (.ref jaw)))
    (yef : K.lookup jaw = some ⟨YgQ, jgQ, .func (W.fnOf "answers" "answers" (Zb yaT) (zb yaT) (za yaT) .none ZfQ yfQ YfQ JfQ jeE jfQ), JgQ⟩)
    (Yef : W.codeIn K jeE "answers" = true)
    (jef : W.keepIn K (.ref jaw) = true)
    (jc8 : W.nsIn K mainGlobals "call_length" = some (some (.ref JS)))
    (yb1 : K.lookup JS = some ⟨zfR, ZfR, .func (W.fnOf "call_length" "call_length" (Zb yR) (zb yR) (za yR) .none jd8 Jd8 zd9 yd9 ycK Zd9), yfR⟩)
    (Yb1 : W.codeIn K ycK "call_length" = true)
    (jb1 : W.keepIn K (.ref JS) = true)
    (JfS : W.nsIn K mainGlobals "answer" = some (some (.ref Zbm)))
    (Ye1 : K.lookup Zbm = some ⟨yg9, Yg9, .func (W.fnOf "answer" "answer" (Zb zbl) (zb zbl) (za zbl) .none jgc Jgc zgd ygd yfb Zgd), jg9⟩)
    (je1 : W.codeIn K yfb "answer" = true)
    (Je1 : W.keepIn K (.ref Zbm) = true)
    (ZeF : W.nsIn K mainGlobals "entry_of" = some (some (.ref ZaC)))
    (Zdv : K.lookup ZaC = some ⟨zgG, ZgG, .func (W.fnOf "entry_of" "entry_of" (Zb zaC) (zb zaC) (za zaC) .none Jfm zfn Zfn Yfn Yd9 yfn), ygG⟩)
    (ydv : W.codeIn K Yd9 "entry_of" = true)
    (Ydv : W.keepIn K (.ref ZaC) = true)
    (ybj : W.nsIn K mainGlobals "is_sound_question" = some (some (.ref Yt)))
    (JaG : K.lookup Yt = some ⟨jd9, Jd9, .func (W.fnOf "is_sound_question" "is_sound_question" (Zb Ys) (zb Ys) (za Ys) .none zcd Zcd ycd jcd ja6 Ycd), zea⟩)
    (zaH : W.codeIn K ja6 "is_sound_question" = true)
    (ZaH : W.keepIn K (.ref Yt) = true)
    (YgR : W.nsIn K mainGlobals "told" = some (some (.ref jc3)))
    (jgq : K.lookup jc3 = some ⟨zhv, Zhv, .func (W.fnOf "told" "told" (Zb Zc3) (zb Zc3) (za Zc3) .none ygZ YgZ jgZ zg0 Zgp JgZ), yhv⟩)
    (Jgq : W.codeIn K Zgp "told" = true)
    (zgr : W.keepIn K (.ref jc3) = true)
    (yc2 : W.plainGet K Jb Str.empty = true)
    (Yc2 : W.hasDictIn K Jb = true)
    (jc2 : W.plainOver K Jb = true)
    (Jc2 : W.findIn K (.ref Jb) "__setattr__" = some (some (.builtin "object.__setattr__")))
    (Zbu : W.makesIn K Jb = true)
    (jec : W.keepIn K (.ref Jb) = true)
    (zci : W.findIn K (.ref Jb) "__init__" = some (some (.ref Jw)))
    (yaD : W.findIn K (.ref Jb) "has_its_giver" = some (some (.ref Zg)))
    (Ybj : W.findIn K (.ref Jb) "is_sound" = some (some (.ref yq)))
    (yaQ : W.findIn K (.ref Jb) "may_be_made" = some (some (.ref Yg)))
    (jbj : W.findIn K (.ref Jb) "is_there" = some (some (.ref zf)))
    (jaV : W.findIn K (.ref Jb) "plot_among" = some (some (.ref ye)))
    (yah : W.findIn K (.ref Jb) "finds_its_entries" = some (some (.ref jd)))
    (zbN : W.findIn K (.ref Jb) "settle" = some (some (.ref zg)))
    (J4 : W.findIn K (.ref Jb) "knows" = some none)
    (jV : W.findIn K (.ref Jb) "person" = some none)
    (Z5 : W.findIn K (.ref Jb) "giver" = some none)
    (Yag : W.findIn K (.ref Jb) "plot" = some none)
    (zar : W.findIn K (.ref Jb) "day" = some none)
    (Jef : W.plainGet K jc Str.empty = true)
    (zeg : W.hasDictIn K jc = true)
    (Zeg : W.plainOver K jc = true)
    (yeg : W.findIn K (.ref jc) "__setattr__" = some (some (.builtin "object.__setattr__")))
    (ycy : W.makesIn K jc = true)
    (Yfc : W.keepIn K (.ref jc) = true)
    (YaQ : W.findIn K (.ref jc) "has_its_giver" = some (some (.ref Zg)))
    (Za9 : W.findIn K (.ref jc) "may_be_made" = some (some (.ref Yg)))
    (ya9 : W.findIn K (.ref jc) "take_effect" = some (some (.ref jj)))
    (ZbN : W.findIn K (.ref jc) "is_there" = some (some (.ref zf)))
    (Jbj : W.findIn K (.ref jc) "plot_among" = some (some (.ref ye)))
    (Zau : W.findIn K (.ref jc) "finds_its_entries" = some (some (.ref jd)))
    (Zci : W.findIn K (.ref jc) "settle" = some (some (.ref zg)))
    (JZ : W.findIn K (.ref jc) "amount" = some none)
    (Zar : W.findIn K (.ref jc) "giver" = some none)
    (yar : W.findIn K (.ref jc) "knows" = some none)
    (jag : W.findIn K (.ref jc) "person" = some none)
    (yaC : W.findIn K (.ref jc) "plot" = some none)
    (JaM : W.findIn K (.ref jc) "day" = some none)
    (Yeg : W.plainGet K Zd Str.empty = true)
    (jeg : W.hasDictIn K Zd = true)
    (Jeg : W.plainOver K Zd = true)
    (zeh : W.findIn K (.ref Zd) "__setattr__" = some (some (.builtin "object.__setattr__")))
    (Ycy : W.makesIn K Zd = true)
    (jfc : W.keepIn K (.ref Zd) = true)
    (Jc8 : W.findIn K (.ref Zd) "__init__" = some (some (.ref Jw)))
    (jaQ : W.findIn K (.ref Zd) "has_its_giver" = some (some (.ref Zg)))
    (ybN : W.findIn K (.ref Zd) "is_sound" = some (some (.ref yq)))
    (Ya9 : W.findIn K (.ref Zd) "may_be_made" = some (some (.ref Yg)))
    (ja9 : W.findIn K (.ref Zd) "take_effect" = some (some (.ref jj)))
    (YbN : W.findIn K (.ref Zd) "is_there" = some (some (.ref zf)))
    (zbk : W.findIn K (.ref Zd) "plot_among" = some (some (.ref ye)))
    (yau : W.findIn K (.ref Zd) "finds_its_entries" = some (some (.ref jd)))
    (yci : W.findIn K (.ref Zd) "settle" = some (some (.ref zg)))
    (Yar : W.findIn K (.ref Zd) "giver" = some none)
    (jar : W.findIn K (.ref Zd) "knows" = some none)
    (Jag : W.findIn K (.ref Zd) "person" = some none)
    (YaC : W.findIn K (.ref Zd) "plot" = some none)
    (zaN : W.findIn K (.ref Zd) "day" = some none)
    (ycx : W.plainGet K Yb Str.empty = true)
    (Ycx : W.hasDictIn K Yb = true)
    (jcx : W.plainOver K Yb = true)
    (Jcx : W.findIn K (.ref Yb) "__setattr__" = some (some (.builtin "object.__setattr__")))
    (jbb : W.makesIn K Yb = true)
    (jdv : W.keepIn K (.ref Yb) = true)
    (ZbX : W.findIn K (.ref Yb) "__init__" = some (some (.ref Zj)))
    (Ja9 : W.findIn K (.ref Yb) "is_there" = some (some (.ref zf)))
    (zba : W.findIn K (.ref Yb) "is_sound" = some (some (.ref yj)))
    (JaQ : W.findIn K (.ref Yb) "plot_among" = some (some (.ref ye)))
    (zae : W.findIn K (.ref Yb) "finds_its_entries" = some (some (.ref jd)))
    (JaK : W.findIn K (.ref Yb) "may_be_made" = some (some (.ref Yj)))
    (jbt : W.findIn K (.ref Yb) "settle" = some (some (.ref zg)))
    (zaL : W.findIn K (.ref Yb) "take_effect" = some (some (.ref jf)))
    (zO : W.findIn K (.ref Yb) "person" = some none)
    (Y5 : W.findIn K (.ref Yb) "plot" = some none)
    (zah : W.findIn K (.ref Yb) "day" = some none)
    (Zeh : W.plainGet K Yd Str.empty = true)
    (yeh : W.hasDictIn K Yd = true)
    (Yeh : W.plainOver K Yd = true)
    (jeh : W.findIn K (.ref Yd) "__setattr__" = some (some (.builtin "object.__setattr__")))
    (jcy : W.makesIn K Yd = true)
    (Jfc : W.keepIn K (.ref Yd) = true)
    (jbN : W.findIn K (.ref Yd) "is_sound" = some (some (.ref yl)))
    (Yci : W.findIn K (.ref Yd) "settle" = some (some (.ref zg)))
    (jE : W.findIn K (.ref Yd) "noted" = some none)
    (Jar : W.findIn K (.ref Yd) "knows" = some none)
    (ZaN : W.findIn K (.ref Yd) "day" = some none)
    (Jeh : W.plainGet K Jf Str.empty = true)
    (zei : W.hasDictIn K Jf = true)
    (Zei : W.plainOver K Jf = true)
    (yei : W.findIn K (.ref Jf) "__setattr__" = some (some (.builtin "object.__setattr__")))
    (Jcy : W.makesIn K Jf = true)
    (zfd : W.keepIn K (.ref Jf) = true)
    (jci : W.findIn K (.ref Jf) "settle" = some (some (.ref zg)))
    (Zba : W.findIn K (.ref Jf) "take_effect" = some (some (.ref jf)))
    (YG : W.findIn K (.ref Jf) "struck" = some none)
    (jO : W.findIn K (.ref Jf) "striker" = some none)
    (yaN : W.findIn K (.ref Jf) "day" = some none)
    (ze2 : W.plainGet K Jg Str.empty = true)
    (Ze2 : W.hasDictIn K Jg = true)
    (ye2 : W.plainOver K Jg = true)
    (Ye2 : W.findIn K (.ref Jg) "__setattr__" = some (some (.builtin "object.__setattr__")))
    (jdd : W.makesIn K Jg = true)
    (zfT : W.keepIn K (.ref Jg) = true)
    (ybX : W.findIn K (.ref Jg) "is_sound" = some (some (.ref yl)))
    (ycN : W.findIn K (.ref Jg) "settle" = some (some (.ref zg)))
    (Zbk : W.findIn K (.ref Jg) "take_effect" = some (some (.ref jf)))
    (Yan : W.findIn K (.ref Jg) "one" = some none)
    (zab : W.findIn K (.ref Jg) "other" = some none)
    (Ja2 : W.findIn K (.ref Jg) "day" = some none)
    (Jdv : W.plainGet K Je Str.empty = true)
    (zdw : W.hasDictIn K Je = true)
    (Zdw : W.plainOver K Je = true)
    (ydw : W.findIn K (.ref Je) "__setattr__" = some (some (.builtin "object.__setattr__")))
    (zbV : W.makesIn K Je = true)
    (yeF : W.keepIn K (.ref Je) = true)
    (Jbt : W.findIn K (.ref Je) "is_sound" = some (some (.ref ym)))
    (yba : W.findIn K (.ref Je) "plot_among" = some (some (.ref ye)))
    (Zal : W.findIn K (.ref Je) "finds_its_entries" = some (some (.ref jd)))
    (JaV : W.findIn K (.ref Je) "may_be_made" = some (some (.ref Yj)))
    (zaW : W.findIn K (.ref Je) "take_effect" = some (some (.ref jf)))
    (Z0 : W.findIn K (.ref Je) "owner" = some none)
    (zas : W.findIn K (.ref Je) "plot" = some none)
    (jaC : W.findIn K (.ref Je) "day" = some none)
    (Yfy : W.plainGet K yg Str.empty = true)
    (jfy : W.hasDictIn K yg = true)
    (Jfy : W.plainOver K yg = true)
    (zfz : W.findIn K (.ref yg) "__setattr__" = some (some (.builtin "object.__setattr__")))
    (zee : W.makesIn K yg = true)
    (Zgr : W.keepIn K (.ref yg) = true)
    (Jci : W.findIn K (.ref yg) "is_sound" = some (some (.ref yl)))
    (zc9 : W.findIn K (.ref yg) "settle" = some (some (.ref zg)))
    (zbu : W.findIn K (.ref yg) "take_effect" = some (some (.ref jf)))
    (Ydw : W.findIn K (.ref yg) "enter" = some (some (.ref YL)))
    (zT : W.findIn K (.ref yg) "voided" = some none)
    (Ybr : W.findIn K (.ref yg) "day" = some none)
    (ZfT : W.plainGet K Jk Str.empty = true)
    (yfT : W.hasDictIn K Jk = true)
    (YfT : W.plainOver K Jk = true)
    (jfT : W.findIn K (.ref Jk) "__setattr__" = some (some (.builtin "object.__setattr__")))
    (Zde : W.makesIn K Jk = true)
    (JfT : W.keepIn K (.ref Jk) = true)
    (yw : W.findIn K (.ref Jk) "registered" = some none)
    (YT : W.findIn K (.ref Jk) "owner" = some none)
    (YaN : W.findIn K (.ref Jk) "void" = some none)
    (zH : W.findIn K (.ref Jk) "standing" = some none)
    (JV : W.findIn K (.ref Jk) "places" = some none)
    (JaC : W.findIn K (.ref Jk) "given" = some none)
    (ygr : W.plainGet K JC Str.empty = true)
    (Ygr : W.hasDictIn K JC = true)
    (jgr : W.plainOver K JC = true)
    (Jgr : W.findIn K (.ref JC) "__setattr__" = some (some (.builtin "object.__setattr__")))
    (Zee : W.makesIn K JC = true)
    (zgs : W.keepIn K (.ref JC) = true)
    (jac : W.findIn K (.ref JC) "persons" = some none)
    (jan : W.findIn K (.ref JC) "owners" = some none)
    (Jac : W.findIn K (.ref JC) "entries" = some none)
    (Zc9 : W.specialIn K (.ref JaD) "__getattribute__" = some (some (.builtin "type.__getattribute__")))
    (yc9 : W.readsIn K JaD (.type "type") = true)
    (Yc9 : W.findCls K (.ref JaD) (.type "type") "__init__" = some (.val (.ref jw)))
    (jc9 : W.specialIn K (.ref zaX) "__getattribute__" = some (some (.builtin "type.__getattribute__")))
    (Jc9 : W.readsIn K zaX (.type "type") = true)
    (zda : W.findCls K (.ref zaX) (.type "type") "__init__" = some (.val (.ref Jw)))
    (ybk : W.specialIn K (.ref yG) "__getattribute__" = some (some (.builtin "type.__getattribute__")))
    (Ybk : W.readsIn K yG (.type "type") = true)
    (jbk : W.findCls K (.ref yG) (.type "type") "__init__" = some (.val (.ref Zj)))
    (JbN : W.specialIn K (.ref jZ) "__getattribute__" = some (some (.builtin "type.__getattribute__")))
    (zbO : W.readsIn K jZ (.type "type") = true)
    (ZbO : W.findCls K (.ref jZ) (.type "type") "__init__" = some (.val (.ref Zq)))
    (YcN : W.nsIn K mainGlobals "MOST_AMOUNT" = some (some (.int (1000000) zey)))
    (zcj : W.nsIn K mainGlobals "MOST_PERSONS" = some (some (.int (10) Zea)))
    (Zda : W.nsIn K mainGlobals "MOST_PLOTS" = some (some (.int (6) JeZ)))
    (Jec : W.nsIn K mainGlobals "LAST_DAY" = some (some (.int (1000000) YfR)))
    (Zcj : W.nsIn K mainGlobals "MOST_ENTRIES" = some (some (.int (40) yea)))
    (jdw : W.nsIn K mainGlobals "NOT_SOUND" = some (some (.int (-1) jfn)))
    (Jdw : W.nsIn K mainGlobals "NOT_FOUND" = some (some (.int (-2) Jfn)))
    (zdx : W.nsIn K mainGlobals "TOO_EARLY" = some (some (.int (-4) zfo)))
    (Zgs : W.nsIn K mainGlobals "FULL" = some (some (.int (-5) yhn)))
    (jcN : W.nsIn K mainGlobals "NOT_ALLOWED" = some (some (.int (-6) Zey)))
    (Zfd : W.nsIn K mainGlobals "BEGINS" = some (some (.int (0) YgG)))
    (zed : W.nsIn K mainGlobals "TRANSFER" = some (some (.int (1) jfR)))
    (yfd : W.nsIn K mainGlobals "CHARGE" = some (some (.int (2) jgG)))
    (Yfd : W.nsIn K mainGlobals "NOTICE" = some (some (.int (3) JgG)))
    (jfd : W.nsIn K mainGlobals "FULFIL" = some (some (.int (4) zgH)))
    (Zdx : W.nsIn K mainGlobals "OBJECTION" = some (some (.int (5) Zfo)))
    (Jfd : W.nsIn K mainGlobals "STRIKE" = some (some (.int (6) ZgH)))
    (zfU : W.nsIn K mainGlobals "AHEAD" = some (some (.int (7) Zg0)))
    (YeF : W.nsIn K mainGlobals "CORRECT" = some (some (.int (8) Ygd)))
    (ygs : W.nsIn K mainGlobals "VOID" = some (some (.int (9) Yhn)))
    (ZfU : W.nsIn K mainGlobals "OWNER" = some (some (.int (10) yg0)))
    (jeF : W.nsIn K mainGlobals "CHARGES" = some (some (.int (11) jgd)))
    (Ygs : W.nsIn K mainGlobals "RELY" = some (some (.int (12) jhn)))
    (jgs : W.nsIn K mainGlobals "SALE" = some (some (.int (13) Jhn)))
    (zfe : W.nsIn K mainGlobals "STANDS" = some (some (.int (14) ygH)))
    (Jgs : W.nsIn K mainGlobals "DAYS" = some (some (.int (15) zho)))
    (JeF : W.nsIn K mainGlobals "LENGTHS" = some (some (.ref Yw)))
    (zeG : K.lookup Yw = some ⟨.type "tuple", zgR, .seq #[.int (3) YgH, .int (6) jgH, .int (7) JgH, .int (6) zgI, .int (4) ZgI, .int (4) ygI, .int (4) YgI, .int (4) jgI, .int (3) JgI, .int (3) zgJ, .int (4) ygp, .int (4) Ygp, .int (4) jgp, .int (5) Jgp, .int (3) zgq, .int (3) Zgq] ZgR, ygR⟩)
    (jgR : W.nsIn K mainGlobals "any" = some none)
    (ydx : W.nsIn K mainGlobals "enumerate" = some none)
    (yda : W.nsIn K mainGlobals "isinstance" = some none)
    (JgR : W.nsIn K mainGlobals "len" = some none)
    (zgt : W.nsIn K mainGlobals "list" = some none)
    (zgS : W.nsIn K mainGlobals "min" = some none)
    (ZgS : W.nsIn K mainGlobals "sum" = some none)
    (Zed : W.findIn K (.ref Jb) "__class__" = some (some (.builtin "object.__class__")))
    (yed : W.mroIn K Jb (.type "object") = some true)
    (Zfe : W.findIn K (.ref jc) "__class__" = some (some (.builtin "object.__class__")))
    (yfe : W.mroIn K jc (.type "object") = some true)
    (Yfe : W.findIn K (.ref Zd) "__class__" = some (some (.builtin "object.__class__")))
    (jfe : W.mroIn K Zd (.type "object") = some true)
    (Jfe : W.findIn K (.ref Yd) "__class__" = some (some (.builtin "object.__class__")))
    (zff : W.mroIn K Yd (.type "object") = some true)
    (Ydx : W.findIn K (.ref Yb) "__class__" = some (some (.builtin "object.__class__")))
    (jdx : W.mroIn K Yb (.type "object") = some true)
    (Zff : W.findIn K (.ref Jf) "__class__" = some (some (.builtin "object.__class__")))
    (yff : W.mroIn K Jf (.type "object") = some true)
    (yfU : W.findIn K (.ref Jg) "__class__" = some (some (.builtin "object.__class__")))
    (YfU : W.mroIn K Jg (.type "object") = some true)
    (ZeG : W.findIn K (.ref Je) "__class__" = some (some (.builtin "object.__class__")))
    (yeG : W.mroIn K Je (.type "object") = some true)
    (Zgt : W.findIn K (.ref yg) "__class__" = some (some (.builtin "object.__class__")))
    (ygt : W.mroIn K yg (.type "object") = some true)
    (zcz : W.kitOne K (.type "NoneType") (.ref Zd) = some false)
    (J5 : W.kitOne K (.ref Jb) (.ref Zd) = some false)
    (Zao : W.kitOne K (.ref jc) (.ref Zd) = some false)
    (yao : W.kitOne K (.ref Zd) (.ref Zd) = some true)
    (Yao : W.kitOne K (.ref Yd) (.ref Zd) = some false)
    (yX : W.kitOne K (.ref Yb) (.ref Zd) = some false)
    (jao : W.kitOne K (.ref Jf) (.ref Zd) = some false)
    (Jaw : W.kitOne K (.ref Jg) (.ref Zd) = some false)
    (zaf : W.kitOne K (.ref Je) (.ref Zd) = some false)
    (ZaI : W.kitOne K (.ref yg) (.ref Zd) = some false)
    (Zcz : W.kitOne K (.type "NoneType") (.ref jc) = some false)
    (Z6 : W.kitOne K (.ref Jb) (.ref jc) = some false)
    (Jao : W.kitOne K (.ref jc) (.ref jc) = some true)
    (zap : W.kitOne K (.ref Zd) (.ref jc) = some false)
    (Zap : W.kitOne K (.ref Yd) (.ref jc) = some false)
    (YX : W.kitOne K (.ref Yb) (.ref jc) = some false)
    (yap : W.kitOne K (.ref Jf) (.ref jc) = some false)
    (zax : W.kitOne K (.ref Jg) (.ref jc) = some false)
    (Zaf : W.kitOne K (.ref Je) (.ref jc) = some false)
    (yaI : W.kitOne K (.ref yg) (.ref jc) = some false)
    (zbc : W.kitOne K (.type "NoneType") (.ref Yb) = some false)
    (yJ : W.kitOne K (.ref Jb) (.ref Yb) = some false)
    (jX : W.kitOne K (.ref jc) (.ref Yb) = some false)
    (JX : W.kitOne K (.ref Zd) (.ref Yb) = some false)
    (zY : W.kitOne K (.ref Yd) (.ref Yb) = some false)
    (YH : W.kitOne K (.ref Yb) (.ref Yb) = some true)
    (jY : W.kitOne K (.ref Jf) (.ref Yb) = some false)
    (Y6 : W.kitOne K (.ref Jg) (.ref Yb) = some false)
    (ZP : W.kitOne K (.ref Je) (.ref Yb) = some false)
    (yaf : W.kitOne K (.ref yg) (.ref Yb) = some false)
    (Jbu : W.kitOne K (.type "NoneType") (.ref Jb) = some false)
    (yP : W.kitOne K (.ref Jb) (.ref Jb) = some true)
    (J6 : W.kitOne K (.ref jc) (.ref Jb) = some false)
    (Z7 : W.kitOne K (.ref Zd) (.ref Jb) = some false)
    (Y7 : W.kitOne K (.ref Yd) (.ref Jb) = some false)
    (YJ : W.kitOne K (.ref Yb) (.ref Jb) = some false)
    (j7 : W.kitOne K (.ref Jf) (.ref Jb) = some false)
    (Yaf : W.kitOne K (.ref Jg) (.ref Jb) = some false)
    (zZ : W.kitOne K (.ref Je) (.ref Jb) = some false)
    (Yap : W.kitOne K (.ref yg) (.ref Jb) = some false)
    (ycz : W.kitOne K (.type "NoneType") (.ref Yd) = some false)
    (J7 : W.kitOne K (.ref Jb) (.ref Yd) = some false)
    (jap : W.kitOne K (.ref jc) (.ref Yd) = some false)
    (Jap : W.kitOne K (.ref Zd) (.ref Yd) = some false)
    (zaq : W.kitOne K (.ref Yd) (.ref Yd) = some true)
    (ZZ : W.kitOne K (.ref Yb) (.ref Yd) = some false)
    (Zaq : W.kitOne K (.ref Jf) (.ref Yd) = some false)
    (Zax : W.kitOne K (.ref Jg) (.ref Yd) = some false)
    (jaf : W.kitOne K (.ref Je) (.ref Yd) = some false)
    (YaI : W.kitOne K (.ref yg) (.ref Yd) = some false)
    (yee : W.kitOne K (.type "NoneType") (.ref yg) = some false)
    (yaq : W.kitOne K (.ref Jb) (.ref yg) = some false)
    (jaI : W.kitOne K (.ref jc) (.ref yg) = some false)
    (JaI : W.kitOne K (.ref Zd) (.ref yg) = some false)
    (zaJ : W.kitOne K (.ref Yd) (.ref yg) = some false)
    (Jaf : W.kitOne K (.ref Yb) (.ref yg) = some false)
    (ZaJ : W.kitOne K (.ref Jf) (.ref yg) = some false)
    (JaT : W.kitOne K (.ref Jg) (.ref yg) = some false)
    (yax : W.kitOne K (.ref Je) (.ref yg) = some false)
    (Zbc : W.kitOne K (.ref yg) (.ref yg) = some true)
    (hn0 : W.specialIn K (.builtin "object.__class__") "__get__" = some (some (.builtin "getset_descriptor.__get__")))
    (htk0 : W.takesIn K (.builtin "object.__class__") = some true) :
    ∃ A : Adr, Txt K mg A ∧ A.jaw = jaw ∧ ∀ (s : Shared) (us : List Value), us.length = (["calls"] : List Str).length → BindsTo s A.zbr ⟨us, []⟩ ((["calls"] : List Str).zip us) :=
  ⟨{ JaD := JaD,
     jZ := jZ,
     yG := yG,
     zaX := zaX,
     Jb := Jb,
     jc := jc,
     Zd := Zd,
     Yb := Yb,
     Yd := Yd,
     Jf := Jf,
     Jg := Jg,
     Je := Je,
     yg := yg,
     Jk := Jk,
     JC := JC,
     Zbl := Zbl,
     Ydb := (W.fnOf "all_of" "all_of" (Zb za1) (zb za1) (za za1) .none zgb Zgb ygb jgb ze9 Ygb),
     YaT := YaT,
     zcA := (W.fnOf "without" "without" (Zb YaH) (zb YaH) (za YaH) .none JfL zfM ZfM YfM YeC yfM),
     ZL := ZL,
     yaR := (W.fnOf "stands_first" "stands_first" (Zb jJ) (zb jJ) (za jJ) .none zdC ZdC ydC jdC zcf YdC),
     Yam := Yam,
     Zbz := (W.fnOf "put_ahead" "put_ahead" (Zb Yal) (zb Yal) (za Yal) .none ZeQ yeQ YeQ JeQ ydq jeQ),
     yL := yL,
     YaR := (W.fnOf "shared_place" "shared_place" (Zb JD) (zb JD) (za JD) .none JdC zdD ZdD YdD Zcf ydD),
     ybl := ybl,
     jdb := (W.fnOf "shares" "shares" (Zb Jbk) (zb Jbk) (za Jbk) .none Jgb zgc Zgc Ygc Ze9 ygc),
     Z4 := Z4,
     yaL := (W.fnOf "entry_at" "entry_at" (Zb JaB) (zb JaB) (za JaB) .none zfm Zfm yfm jfm ZdZ Yfm),
     jw := jw,
     yaa := (W.fnOf "__init__" "Entry.__init__" (Zb z9) (zb z9) (za z9) .none Jeq zer Zer Yer yc5 yer),
     yl := yl,
     yaW := (W.fnOf "is_sound" "Entry.is_sound" (Zb jA) (zb jA) (za jA) .none YcT jcT JcT ZcU ZbE zcU),
     jd := jd,
     JT := (W.fnOf "finds_its_entries" "Entry.finds_its_entries" (Zb Zi) (zb Zi) (za Zi) .none Ja3 za4 Za4 Ya4 jas ya4),
     Yj := Yj,
     Jax := (W.fnOf "may_be_made" "Entry.may_be_made" (Zb Jq) (zb Jq) (za Jq) .none Zb7 yb7 Yb7 Jb7 ja4 jb7),
     zg := zg,
     ybo := (W.fnOf "settle" "Entry.settle" (Zb zK) (zb zK) (za zK) .none jdD JdD zdE ydE ycf ZdE),
     jf := jf,
     zay := (W.fnOf "take_effect" "Entry.take_effect" (Zb zr) (zb zr) (za zr) .none zb8 Zb8 yb8 jb8 Ja4 Yb8),
     YL := YL,
     ybz := (W.fnOf "enter" "Entry.enter" (Zb ZQ) (zb ZQ) (za ZQ) .none yd0 Yd0 jd0 zd1 ycF Jd0),
     Zq := Zq,
     Zae := (W.fnOf "__init__" "PlotEntry.__init__" (Zb zB) (zb zB) (za zB) .none ycU YcU jcU zcV ybE JcU),
     ym := ym,
     Yau := (W.fnOf "is_sound" "PlotEntry.is_sound" (Zb Yo) (zb Yo) (za Yo) .none jbP JbP zbQ ybQ YaU ZbQ),
     ye := ye,
     yae := (W.fnOf "plot_among" "PlotEntry.plot_among" (Zb Yl) (zb Yl) (za Yl) .none zbv Zbv ybv jbv YaJ Ybv),
     Zj := Zj,
     Yah := (W.fnOf "__init__" "PersonEntry.__init__" (Zb ju) (zb ju) (za ju) .none zcn Zcn ycn jcn jbh Ycn),
     zf := zf,
     Yae := (W.fnOf "is_there" "PersonEntry.is_there" (Zb jl) (zb jl) (za jl) .none Jbv zbw Zbw Ybw jaJ ybw),
     yj := yj,
     jae := (W.fnOf "is_sound" "PersonEntry.is_sound" (Zb Jl) (zb Jl) (za Jl) .none jbw Jbw zbx ybx JaJ Zbx),
     Jw := Jw,
     Ybl := (W.fnOf "__init__" "Grant.__init__" (Zb Z9) (zb Z9) (za Z9) .none jer Jer zes Yes Yc5 Zes),
     Zg := Zg,
     Jai := (W.fnOf "has_its_giver" "Grant.has_its_giver" (Zb jn) (zb jn) (za jn) .none YbE jbE JbE ZbF ZaO zbF),
     yq := yq,
     YaW := (W.fnOf "is_sound" "Grant.is_sound" (Zb YB) (zb YB) (za YB) .none ZcV ycV YcV JcV ybF jcV),
     Yg := Yg,
     Zay := (W.fnOf "may_be_made" "Grant.may_be_made" (Zb Zr) (zb Zr) (za Zr) .none Jb8 zb9 Zb9 Yb9 za5 yb9),
     jj := jj,
     yay := (W.fnOf "take_effect" "Grant.take_effect" (Zb yr) (zb yr) (za yr) .none jb9 Jb9 zca yca Za5 Zca),
     Zm := Zm,
     Jae := (W.fnOf "take_effect" "Transfer.take_effect" (Zb zm) (zb zm) (za zm) .none Ybx jbx Jbx Zby zaK zby),
     yC := yC,
     jaW := (W.fnOf "enter" "Transfer.enter" (Zb jB) (zb jB) (za jB) .none zcW ZcW ycW jcW YbF YcW),
     jR := jR,
     Ybz := (W.fnOf "__init__" "Charge.__init__" (Zb yQ) (zb yQ) (za yQ) .none Zd2 yd2 Yd2 Jd2 YcF jd2),
     Yy := Yy,
     zaM := (W.fnOf "is_sound" "Charge.is_sound" (Zb jx) (zb jx) (za jx) .none jcF JcF zcG ycG Jbr ZcG),
     jL := jL,
     Ybo := (W.fnOf "enter" "Charge.enter" (Zb ZK) (zb ZK) (za ZK) .none YdE jdE JdE ZdF Ycf zdF),
     JL := JL,
     jbo := (W.fnOf "enter" "Notice.enter" (Zb yK) (zb yK) (za yK) .none ydF YdF jdF zdG jcf JdF),
     jy := jy,
     ZaM := (W.fnOf "enter" "Objection.enter" (Zb Jx) (zb Jx) (za Jx) .none YcG jcG JcG ZcH zbs zcH),
     JR := JR,
     jbz := (W.fnOf "__init__" "Fulfil.__init__" (Zb YQ) (zb YQ) (za YQ) .none zd3 Zd3 yd3 jd3 ycH Yd3),
     Yh := Yh,
     jP := (W.fnOf "finds_its_entries" "Fulfil.finds_its_entries" (Zb Zh) (zb Zh) (za Zh) .none jaX JaX zaY yaY Yaj ZaY),
     Js := Js,
     Yay := (W.fnOf "plot_among" "Fulfil.plot_among" (Zb Yr) (zb Yr) (za Yr) .none Yca jca Jca Zcb ya5 zcb),
     Yp := Yp,
     jau := (W.fnOf "may_be_made" "Fulfil.may_be_made" (Zb jo) (zb jo) (za jo) .none YbQ jbQ JbQ ZbR jaU zbR),
     Jp := Jp,
     Jau := (W.fnOf "take_effect" "Fulfil.take_effect" (Zb Jo) (zb Jo) (za Jo) .none ybR YbR jbR zbS JaU JbR),
     zM := zM,
     Jbo := (W.fnOf "enter" "Fulfil.enter" (Zb YK) (zb YK) (za YK) .none ZdG ydG YdG JdG Jcf jdG),
     ZS := ZS,
     Jbz := (W.fnOf "__init__" "Strike.__init__" (Zb jQ) (zb jQ) (za jQ) .none yd4 Yd4 jd4 zd5 YcH Jd4),
     Jy := Jy,
     yaM := (W.fnOf "is_sound" "Strike.is_sound" (Zb zy) (zb zy) (za zy) .none jcH JcH zcI ycI Zbs ZcI),
     jh := jh,
     JP := (W.fnOf "finds_its_entries" "Strike.finds_its_entries" (Zb yh) (zb yh) (za yh) .none YaY jaY JaY ZaZ jaj zaZ),
     Zt := Zt,
     jay := (W.fnOf "plot_among" "Strike.plot_among" (Zb jr) (zb jr) (za jr) .none ycb Ycb jcb zcc Ya5 Jcb),
     zq := zq,
     zav := (W.fnOf "may_be_made" "Strike.may_be_made" (Zb zp) (zb zp) (za zp) .none ZbS ybS YbS JbS zaV jbS),
     ZM := ZM,
     zbp := (W.fnOf "enter" "Strike.enter" (Zb jK) (zb jK) (za jK) .none zdH ZdH ydH jdH zcg YdH),
     Yaa := Yaa,
     jbX := (W.fnOf "__init__" "Ahead.__init__" (Zb Y9) (zb Y9) (za Y9) .none jes Jes zet Yet jc5 Zet),
     ji := ji,
     zU := (W.fnOf "finds_its_entries" "Ahead.finds_its_entries" (Zb Yi) (zb Yi) (za Yi) .none ja5 Ja5 za6 ya6 Jas Za6),
     Jv := Jv,
     YaD := (W.fnOf "plot_among" "Ahead.plot_among" (Zb Ju) (zb Ju) (za Ju) .none Jcn zco Zco Yco Jbh yco),
     yt := yt,
     Jay := (W.fnOf "may_be_made" "Ahead.may_be_made" (Zb Jr) (zb Jr) (za Jr) .none Zcc ycc Ycc Jcc Ya6 jcc),
     yS := yS,
     zbA := (W.fnOf "enter" "Ahead.enter" (Zb JQ) (zb JQ) (za JQ) .none Zd6 yd6 Yd6 Jd6 zcJ jd6),
     yM := yM,
     Zbp := (W.fnOf "__init__" "Correct.__init__" (Zb JK) (zb JK) (za JK) .none JdH zdI ZdI YdI Zcg ydI),
     YC := YC,
     JaW := (W.fnOf "settle" "Correct.settle" (Zb JB) (zb JB) (za JB) .none JcW zcX ZcX YcX jbF ycX),
     ZG := ZG,
     Jba := (W.fnOf "enter" "Correct.enter" (Zb YF) (zb YF) (za YF) .none jdi Jdi zdj ydj YbV Zdj),
     jam := jam,
     jcr := (W.fnOf "__init__" "Void.__init__" (Zb jal) (zb jal) (za jal) .none YeT jeT JeT ZeU zdr zeU),
     zj := zj,
     j0 := (W.fnOf "finds_its_entries" "Void.finds_its_entries" (Zb Ji) (zb Ji) (za Ji) .none Jbf zbg Zbg Ybg Zaw ybg),
     zz := zz,
     YaM := (W.fnOf "plot_among" "Void.plot_among" (Zb Zy) (zb Zy) (za Zy) .none ZcJ ycJ YcJ JcJ ybs jcJ),
     Zw := Zw,
     jaD := (W.fnOf "may_be_made" "Void.may_be_made" (Zb Zv) (zb Zv) (za Zv) .none jco Jco zcp ycp zbi Zcp),
     yU := yU,
     jbl := (W.fnOf "__init__" "Sheet.__init__" (Zb j9) (zb j9) (za j9) .none jet Jet zeu yeu Jc5 Zeu),
     jq := jq,
     jah := (W.fnOf "go_through" "Sheet.go_through" (Zb Yv) (zb Yv) (za Yv) .none Ycp jcp Jcp Zcq Zbi zcq),
     Zn := Zn,
     ZJ := (W.fnOf "acquires" "Sheet.acquires" (Zb ZC) (zb ZC) (za ZC) .none jcX JcX zcY ycY JbF ZcY),
     jk := jk,
     jU := (W.fnOf "has_objection" "Sheet.has_objection" (Zb Yk) (zb Yk) (za Yk) .none zbG ZbG ybG jbG yaO YbG),
     jC := jC,
     Jaq := (W.fnOf "stand" "Sheet.stand" (Zb zR) (zb zR) (za zR) .none zd7 Zd7 yd7 jd7 zcK Yd7),
     yN := yN,
     jaT := (W.fnOf "drop" "Sheet.drop" (Zb J9) (zb J9) (za J9) .none Yeu jeu Jeu yev zc6 Zev),
     Zac := Zac,
     ZbA := (W.fnOf "__init__" "Book.__init__" (Zb Jal) (zb Jal) (za Jal) .none JeU zeV ZeV YeV jdr yeV),
     zV := zV,
     Jbl := (W.fnOf "begin" "Book.begin" (Zb jT) (zb jT) (za jT) .none Yev jev Jev Zew Zc6 zew),
     yac := yac,
     ybA := (W.fnOf "make" "Book.make" (Zb zam) (zb zam) (za zam) .none jeV JeV zeW yeW Jdr ZeW),
     yE := yE,
     jaR := (W.fnOf "refusal" "Book.refusal" (Zb zL) (zb zL) (za zL) .none jdI JdI zdJ ydJ ycg ZdJ),
     yx := yx,
     zao := (W.fnOf "sheet_of" "Book.sheet_of" (Zb jF) (zb jF) (za jF) .none Ydj jdj Jdj Zdk jbV zdk),
     Yz := Yz,
     jaH := (W.fnOf "has_plot" "Book.has_plot" (Zb JF) (zb JF) (za JF) .none ydk Ydk jdk zdl JbV Jdk),
     Jt := Jt,
     Y4 := (W.fnOf "sheet_on" "Book.sheet_on" (Zb zG) (zb zG) (za zG) .none Zdl ydl Ydl Jdl zbW jdl),
     Ym := Ym,
     J2 := (W.fnOf "void_as_known" "Book.void_as_known" (Zb yp) (zb yp) (za yp) .none zbT ZbT ybT jbT ZaV YbT),
     YD := YD,
     jaa := (W.fnOf "with_lists" "with_lists" (Zb zaa) (zb zaa) (za zaa) .none yew Yew jew zex yc6 Jew),
     Jaa := Jaa,
     zbm := (W.fnOf "tell_owner" "tell_owner" (Zb Zaa) (zb Zaa) (za Zaa) .none Zex yex Yex Jex Yc6 jex),
     YM := YM,
     JaR := (W.fnOf "tell_charges" "tell_charges" (Zb zE) (zb zE) (za zE) .none YdJ jdJ JdJ ZdK Ycg zdK),
     Jam := Jam,
     YbA := (W.fnOf "place_row" "place_row" (Zb Zam) (zb Zam) (za Zam) .none YeW jeW JeW ZeX zds zeX),
     zan := zan,
     jbA := (W.fnOf "tell_rely" "tell_rely" (Zb yam) (zb yam) (za yam) .none yeX YeX jeX zeY Zds JeX),
     Zan := Zan,
     JbA := (W.fnOf "tell_sale" "tell_sale" (Zb Jab) (zb Jab) (za Jab) .none ZeY yeY YeY JeY yds jeY),
     YS := YS,
     Za1 := (W.fnOf "tell_stands" "tell_stands" (Zb ZR) (zb ZR) (za ZR) .none Jd7 zd8 Zd8 Yd8 ZcK yd8),
     yan := yan,
     zbB := (W.fnOf "tell_days" "tell_days" (Zb zac) (zb zac) (za zac) .none zeZ ZeZ yeZ jeZ Yds YeZ),
     jaw := jaw,
     zbr := (W.fnOf "answers" "answers" (Zb yaT) (zb yaT) (za yaT) .none ZfQ yfQ YfQ JfQ jeE jfQ),
     JS := JS,
     ya1 := (W.fnOf "call_length" "call_length" (Zb yR) (zb yR) (za yR) .none jd8 Jd8 zd9 yd9 ycK Zd9),
     Zbm := Zbm,
     Jdb := (W.fnOf "answer" "answer" (Zb zbl) (zb zbl) (za zbl) .none jgc Jgc zgd ygd yfb Zgd),
     ZaC := ZaC,
     Jb1 := (W.fnOf "entry_of" "entry_of" (Zb zaC) (zb zaC) (za zaC) .none Jfm zfn Zfn Yfn Yd9 yfn),
     Yt := Yt,
     Yac := (W.fnOf "is_sound_question" "is_sound_question" (Zb Ys) (zb Ys) (za Ys) .none zcd Zcd ycd jcd ja6 Ycd),
     jc3 := jc3,
     jeJ := (W.fnOf "told" "told" (Zb Zc3) (zb Zc3) (za Zc3) .none ygZ YgZ jgZ zg0 Zgp JgZ),
     Jc3 := .int (1000000) zey,
     ZcA := .int (10) Zea,
     Zdo := .int (6) JeZ,
     Jez := .int (1000000) YfR,
     ycA := .int (40) yea,
     YdQ := .int (-1) jfn,
     jdQ := .int (-2) Jfn,
     JdQ := .int (-4) zfo,
     jgL := .int (-5) yhn,
     zc4 := .int (-6) Zey,
     YfD := .int (0) YgG,
     zeA := .int (1) jfR,
     jfD := .int (2) jgG,
     JfD := .int (3) JgG,
     zfE := .int (4) zgH,
     zdR := .int (5) Zfo,
     ZfE := .int (6) ZgH,
     ygh := .int (7) Zg0,
     Je4 := .int (8) Ygd,
     JgL := .int (9) Yhn,
     Ygh := .int (10) yg0,
     ze5 := .int (11) jgd,
     zgM := .int (12) jhn,
     ZgM := .int (13) Jhn,
     yfE := .int (14) ygH,
     ygM := .int (15) zho,
     Ze5 := .ref Yw,
     Yw := Yw },
   { Jed := W.mg_of X G JfR,
     ZdV := W.mg_of X G jds,
     Zep := W.mg_of X G YcK,
     ygV := W.mg_of X G zfS,
     yeA := W.mg_of X G Yea,
     jb3 := W.mg_of X G Yfb,
     ZcC := W.mg_of X G jfb,
     ZcR := W.mg_of X G Jds,
     yfF := W.mg_of X G Jfb,
     Jgx := W.mg_of X G zfc,
     YgV := W.mg_of X G ZfS,
     zf7 := W.mg_of X G JeE,
     jgM := W.mg_of X G ygq,
     jgV := W.mg_of X G yfS,
     zhg := W.mg_of X G Ygq,
     zgx := W.mg_of X G YfS,
     YfE := zc (st := za1) ze0 Ze0 ye0,
     Jgw := (zc (st := za1) ze0 Ze0 ye0).binds (ps := ["places", "charge"]) fun _ _ _ _ _ _ us hl => match us, hl with | [_, _], _ => rfl,
     Yf6 := W.mg_of X G Zfc,
     ye5 := zc (st := YaH) Jee zef Zef,
     yf6 := (zc (st := YaH) Jee zef Zef).binds (ps := ["places", "charge"]) fun _ _ _ _ _ _ us hl => match us, hl with | [_, _], _ => rfl,
     ydR := W.mg_of X G jcK,
     YcA := zc (st := jJ) JbG zbH ZbH,
     ZdR := (zc (st := jJ) JbG zbH ZbH).binds (ps := ["places", "one", "other"]) fun _ _ _ _ _ _ us hl => match us, hl with | [_, _, _], _ => rfl,
     zfh := W.mg_of X G jea,
     YdR := zc (st := Yal) YcY jcY JcY,
     Jfg := (zc (st := Yal) YcY jcY JcY).binds (ps := ["places", "one", "other"]) fun _ _ _ _ _ _ us hl => match us, hl with | [_, _, _], _ => rfl,
     JdR := W.mg_of X G JcK,
     jcA := zc (st := JD) ybH YbH jbH,
     jdR := (zc (st := JD) ybH YbH jbH).binds (ps := ["one", "part", "other", "rest"]) fun _ _ _ _ _ _ us hl => match us, hl with | [_, _, _, _], _ => rfl,
     ygx := W.mg_of X G jfS,
     jfE := zc (st := Jbk) Ye0 je0 Je0,
     Zgx := (zc (st := Jbk) Ye0 je0 Je0).binds (ps := ["places", "given", "amount"]) fun _ _ _ _ _ _ us hl => match us, hl with | [_, _, _], _ => rfl,
     YbU := W.mg_of X G zeF,
     Zbr := zc (st := JaB) zdt Zdt ydt,
     ybU := (zc (st := JaB) zdt Zdt ydt).binds (ps := ["entries", "number"]) fun _ _ _ _ _ _ us hl => match us, hl with | [_, _], _ => rfl,
     JeJ := zc (st := z9) Jct zcu jN,
     zbb := (zc (st := z9) Jct zcu jN).binds (ps := ["self", "day"]) fun _ _ _ _ _ _ us hl => match us, hl with | [_, _], _ => rfl,
     zdc := zc (st := jA) zbd Zbd Y8,
     Zbb := (zc (st := jA) zbd Zbd Y8).binds (ps := ["self", "persons", "plots"]) fun _ _ _ _ _ _ us hl => match us, hl with | [_, _, _], _ => rfl,
     Zbf := zc (st := Zi) J0 Z1 Zk,
     Zz := (zc (st := Zi) J0 Z1 Zk).binds (ps := ["self", "entries"]) fun _ _ _ _ _ _ us hl => match us, hl with | [_, _], _ => rfl,
     Ycj := zc (st := Jq) yaE YaE yZ,
     Jbg := (zc (st := Jq) yaE YaE yZ).binds (ps := ["self", "sheet"]) fun _ _ _ _ _ _ us hl => match us, hl with | [_, _], _ => rfl,
     zdS := zc (st := zK) JbH zbI Jz,
     ZV := (zc (st := zK) JbH zbI Jz).binds (ps := ["self", "sheet"]) fun _ _ _ _ _ _ us hl => match us, hl with | [_, _], _ => rfl,
     jcj := zc (st := zr) jaE JaE Zx,
     ZX := (zc (st := zr) jaE JaE Zx).binds (ps := ["self", "number", "sheet"]) fun _ _ _ _ _ _ us hl => match us, hl with | [_, _, _], _ => rfl,
     jem := zc (st := ZQ) ybY YbY Jbn,
     Jem := (zc (st := ZQ) ybY YbY Jbn).binds (ps := ["self", "number", "sheet"]) fun _ _ _ _ _ _ us hl => match us, hl with | [_, _, _], _ => rfl,
     Zdc := zc (st := zB) ybd Ybd yH,
     jbU := (zc (st := zB) ybd Ybd yH).binds (ps := ["self", "day", "plot"]) fun _ _ _ _ _ _ us hl => match us, hl with | [_, _, _], _ => rfl,
     zb2 := zc (st := Yo) Yaz jaz Zad,
     Zb2 := (zc (st := Yo) Yaz jaz Zad).binds (ps := ["self", "persons", "plots"]) fun _ _ _ _ _ _ us hl => match us, hl with | [_, _, _], _ => rfl,
     ZbB := zc (st := Yl) Jaj zak yo,
     JG := (zc (st := Yl) Jaj zak yo).binds (ps := ["self", "entries"]) fun _ _ _ _ _ _ us hl => match us, hl with | [_, _], _ => rfl,
     JcA := zc (st := ju) YaO jaO zF,
     ybr := (zc (st := ju) YaO jaO zF).binds (ps := ["self", "day", "plot", "person"]) fun _ _ _ _ _ _ us hl => match us, hl with | [_, _, _, _], _ => rfl,
     ybB := zc (st := jl) Zak yak yu,
     yV := (zc (st := jl) Zak yak yu).binds (ps := ["self", "persons", "plots"]) fun _ _ _ _ _ _ us hl => match us, hl with | [_, _, _], _ => rfl,
     YbB := zc (st := Jl) Yak jak ZW,
     jbB := (zc (st := Jl) Yak jak ZW).binds (ps := ["self", "persons", "plots"]) fun _ _ _ _ _ _ us hl => match us, hl with | [_, _, _], _ => rfl,
     zeK := zc (st := Z9) ycu Ycu zaz,
     Jcr := (zc (st := Z9) ycu Ycu zaz).binds (ps := ["self", "day", "plot", "giver", "person", "knows"]) fun _ _ _ _ _ _ us hl => match us, hl with | [_, _, _, _, _, _], _ => rfl,
     YbO := zc (st := jn) yav Yav ZD,
     Zav := (zc (st := jn) yav Yav ZD).binds (ps := ["self", "persons"]) fun _ _ _ _ _ _ us hl => match us, hl with | [_, _], _ => rfl,
     ydc := zc (st := YB) Jbd zbe jaq,
     JbU := (zc (st := YB) Jbd zbe jaq).binds (ps := ["self", "persons", "plots"]) fun _ _ _ _ _ _ us hl => match us, hl with | [_, _, _], _ => rfl,
     Jcj := zc (st := Zr) zaF ZaF zJ,
     zaE := (zc (st := Zr) zaF ZaF zJ).binds (ps := ["self", "sheet"]) fun _ _ _ _ _ _ us hl => match us, hl with | [_, _], _ => rfl,
     zck := zc (st := yr) YaF jaF YZ,
     zbh := (zc (st := yr) YaF jaF YZ).binds (ps := ["self", "number", "sheet"]) fun _ _ _ _ _ _ us hl => match us, hl with | [_, _, _], _ => rfl,
     JbB := zc (st := zm) Jak zal yW,
     zbC := (zc (st := zm) Jak zal yW).binds (ps := ["self", "number", "sheet"]) fun _ _ _ _ _ _ us hl => match us, hl with | [_, _, _], _ => rfl,
     Ydc := zc (st := jB) Zbe ybe yaK,
     jdc := (zc (st := jB) Zbe ybe yaK).binds (ps := ["self", "number", "sheet"]) fun _ _ _ _ _ _ us hl => match us, hl with | [_, _, _], _ => rfl,
     zen := zc (st := yQ) jbY JbY zbZ,
     Zen := (zc (st := yQ) jbY JbY zbZ).binds (ps := ["self", "day", "plot", "giver", "person", "amount", "knows"]) fun _ _ _ _ _ _ us hl => match us, hl with | [_, _, _, _, _, _, _], _ => rfl,
     zcP := zc (st := jx) yaZ YaZ Jaz,
     ZcP := (zc (st := jx) yaZ YaZ Jaz).binds (ps := ["self", "persons", "plots"]) fun _ _ _ _ _ _ us hl => match us, hl with | [_, _, _], _ => rfl,
     ZdS := zc (st := ZK) zbJ ZbJ za7,
     ydS := (zc (st := ZK) zbJ ZbJ za7).binds (ps := ["self", "number", "sheet"]) fun _ _ _ _ _ _ us hl => match us, hl with | [_, _, _], _ => rfl,
     YdS := zc (st := yK) ybJ YbJ Za7,
     jdS := (zc (st := yK) ybJ YbJ Za7).binds (ps := ["self", "number", "sheet"]) fun _ _ _ _ _ _ us hl => match us, hl with | [_, _, _], _ => rfl,
     ycP := zc (st := Jx) jaZ JaZ zaA,
     YcP := (zc (st := Jx) jaZ JaZ zaA).binds (ps := ["self", "number", "sheet"]) fun _ _ _ _ _ _ us hl => match us, hl with | [_, _, _], _ => rfl,
     yen := zc (st := YQ) ZbZ ybZ YbZ,
     Yen := (zc (st := YQ) ZbZ ybZ YbZ).binds (ps := ["self", "day", "noted", "knows"]) fun _ _ _ _ _ _ us hl => match us, hl with | [_, _, _, _], _ => rfl,
     Ya1 := zc (st := Zh) YW jW ZF,
     ja1 := (zc (st := Zh) YW jW ZF).binds (ps := ["self", "entries"]) fun _ _ _ _ _ _ us hl => match us, hl with | [_, _], _ => rfl,
     Zck := zc (st := Yr) JaF zaG zai,
     yck := (zc (st := Yr) JaF zaG zai).binds (ps := ["self", "entries"]) fun _ _ _ _ _ _ us hl => match us, hl with | [_, _], _ => rfl,
     yb2 := zc (st := jo) ZaA yaA yad,
     Yb2 := (zc (st := jo) ZaA yaA yad).binds (ps := ["self", "sheet"]) fun _ _ _ _ _ _ us hl => match us, hl with | [_, _], _ => rfl,
     jb2 := zc (st := Jo) YaA jaA Yad,
     Jb2 := (zc (st := Jo) YaA jaA Yad).binds (ps := ["self", "number", "sheet"]) fun _ _ _ _ _ _ us hl => match us, hl with | [_, _, _], _ => rfl,
     JdS := zc (st := YK) zbK ZbK za8,
     zdT := (zc (st := YK) zbK ZbK za8).binds (ps := ["self", "number", "sheet"]) fun _ _ _ _ _ _ us hl => match us, hl with | [_, _, _], _ => rfl,
     jen := zc (st := jQ) jbZ JbZ zb0,
     Jen := (zc (st := jQ) jbZ JbZ zb0).binds (ps := ["self", "day", "struck", "striker"]) fun _ _ _ _ _ _ us hl => match us, hl with | [_, _, _, _], _ => rfl,
     jcP := zc (st := zy) za0 Za0 JaA,
     JcP := (zc (st := zy) za0 Za0 JaA).binds (ps := ["self", "persons", "plots"]) fun _ _ _ _ _ _ us hl => match us, hl with | [_, _, _], _ => rfl,
     Ja1 := zc (st := yh) JW zX yF,
     za2 := (zc (st := yh) JW zX yF).binds (ps := ["self", "entries"]) fun _ _ _ _ _ _ us hl => match us, hl with | [_, _], _ => rfl,
     Yck := zc (st := jr) ZaG yaG Zai,
     jck := (zc (st := jr) ZaG yaG Zai).binds (ps := ["self", "entries"]) fun _ _ _ _ _ _ us hl => match us, hl with | [_, _], _ => rfl,
     zb3 := zc (st := zp) zaB ZaB jad,
     Zb3 := (zc (st := zp) zaB ZaB jad).binds (ps := ["self", "sheet"]) fun _ _ _ _ _ _ us hl => match us, hl with | [_, _], _ => rfl,
     ZdT := zc (st := jK) jbK JbK Ya8,
     ydT := (zc (st := jK) jbK JbK Ya8).binds (ps := ["self", "number", "sheet"]) fun _ _ _ _ _ _ us hl => match us, hl with | [_, _, _], _ => rfl,
     ZeK := zc (st := Y9) jcu Jcu zcv,
     yeK := (zc (st := Y9) jcu Jcu zcv).binds (ps := ["self", "day", "one", "other"]) fun _ _ _ _ _ _ us hl => match us, hl with | [_, _, _, _], _ => rfl,
     ybf := zc (st := Yi) J1 Z2 JH,
     Ybf := (zc (st := Yi) J1 Z2 JH).binds (ps := ["self", "entries"]) fun _ _ _ _ _ _ us hl => match us, hl with | [_, _], _ => rfl,
     zcB := zc (st := Ju) yaP YaP jat,
     ZcB := (zc (st := Ju) yaP YaP jat).binds (ps := ["self", "entries"]) fun _ _ _ _ _ _ us hl => match us, hl with | [_, _], _ => rfl,
     Jck := zc (st := Jr) YaG jaG yai,
     zcl := (zc (st := Jr) YaG jaG yai).binds (ps := ["self", "sheet"]) fun _ _ _ _ _ _ us hl => match us, hl with | [_, _], _ => rfl,
     zeo := zc (st := JQ) Zb0 yb0 zbo,
     Zeo := (zc (st := JQ) Zb0 yb0 zbo).binds (ps := ["self", "number", "sheet"]) fun _ _ _ _ _ _ us hl => match us, hl with | [_, _, _], _ => rfl,
     YdT := zc (st := JK) zbL ZbL ybL,
     jdT := (zc (st := JK) zbL ZbL ybL).binds (ps := ["self", "day", "plot"]) fun _ _ _ _ _ _ us hl => match us, hl with | [_, _, _], _ => rfl,
     Jdc := zc (st := JB) Ybe jbe YaK,
     zdd := (zc (st := JB) Ybe jbe YaK).binds (ps := ["self", "sheet"]) fun _ _ _ _ _ _ us hl => match us, hl with | [_, _], _ => rfl,
     jdy := zc (st := YF) Ybp jbp jaS,
     Jdy := (zc (st := YF) Ybp jbp jaS).binds (ps := ["self", "number", "sheet"]) fun _ _ _ _ _ _ us hl => match us, hl with | [_, _, _], _ => rfl,
     Zfh := zc (st := jal) zcZ ZcZ ycZ,
     yfh := (zc (st := jal) zcZ ZcZ ycZ).binds (ps := ["self", "day", "voided"]) fun _ _ _ _ _ _ us hl => match us, hl with | [_, _, _], _ => rfl,
     ybm := zc (st := Ji) yab Yab JM,
     Ybm := (zc (st := Ji) yab Yab JM).binds (ps := ["self", "entries"]) fun _ _ _ _ _ _ us hl => match us, hl with | [_, _], _ => rfl,
     zcQ := zc (st := Zy) ya0 Ya0 yaB,
     ZcQ := (zc (st := Zy) ya0 Ya0 yaB).binds (ps := ["self", "entries"]) fun _ _ _ _ _ _ us hl => match us, hl with | [_, _], _ => rfl,
     ycB := zc (st := Zv) jaP JaP Jat,
     YcB := (zc (st := Zv) jaP JaP Jat).binds (ps := ["self", "sheet"]) fun _ _ _ _ _ _ us hl => match us, hl with | [_, _], _ => rfl,
     YeK := zc (st := j9) Zcv ycv Ycv,
     jeK := (zc (st := j9) Zcv ycv Ycv).binds (ps := ["self", "owner", "void"]) fun _ _ _ _ _ _ us hl => match us, hl with | [_, _, _], _ => rfl,
     jcB := zc (st := Yv) zaQ ZaQ zau,
     JcB := (zc (st := Yv) zaQ ZaQ zau).binds (ps := ["self", "number", "entry"]) fun _ _ _ _ _ _ us hl => match us, hl with | [_, _, _], _ => rfl,
     Zdd := zc (st := ZC) Jbe zbf jaK,
     JaH := (zc (st := ZC) Jbe zbf jaK).binds (ps := ["self", "knows"]) fun _ _ _ _ _ _ us hl => match us, hl with | [_, _], _ => rfl,
     jbO := zc (st := Yk) jav Jav J3,
     JbO := (zc (st := Yk) jav Jav J3).binds (ps := ["self"]) fun _ _ _ _ _ _ us hl => match us, hl with | [_], _ => rfl,
     yeo := zc (st := zR) Yb0 jb0 Zbo,
     JbX := (zc (st := zR) Yb0 jb0 Zbo).binds (ps := ["self", "number", "entry"]) fun _ _ _ _ _ _ us hl => match us, hl with | [_, _, _], _ => rfl,
     JeK := zc (st := J9) jcv Jcv JbL,
     ydo := (zc (st := J9) jcv Jcv JbL).binds (ps := ["self", "number"]) fun _ _ _ _ _ _ us hl => match us, hl with | [_, _], _ => rfl,
     Yfh := zc (st := Jal) YcZ jcZ JcZ,
     jfh := (zc (st := Jal) YcZ jcZ JcZ).binds (ps := ["self"]) fun _ _ _ _ _ _ us hl => match us, hl with | [_], _ => rfl,
     zeL := zc (st := jT) zcw Zcw zbM,
     ZeL := (zc (st := jT) zcw Zcw zbM).binds (ps := ["self", "persons", "owners"]) fun _ _ _ _ _ _ us hl => match us, hl with | [_, _, _], _ => rfl,
     Jfh := zc (st := zam) zc0 Zc0 zce,
     zfi := (zc (st := zam) zc0 Zc0 zce).binds (ps := ["self", "entry"]) fun _ _ _ _ _ _ us hl => match us, hl with | [_, _], _ => rfl,
     JdT := zc (st := zL) ZbM ybM ja8,
     zdU := (zc (st := zL) ZbM ybM ja8).binds (ps := ["self", "entry"]) fun _ _ _ _ _ _ us hl => match us, hl with | [_, _], _ => rfl,
     zdz := zc (st := jF) Jbp zbq JaS,
     Yce := (zc (st := jF) Jbp zbq JaS).binds (ps := ["self", "entry"]) fun _ _ _ _ _ _ us hl => match us, hl with | [_, _], _ => rfl,
     Zdz := zc (st := JF) Zbq ybq zaT,
     ydz := (zc (st := JF) Zbq ybq zaT).binds (ps := ["self", "plot"]) fun _ _ _ _ _ _ us hl => match us, hl with | [_, _], _ => rfl,
     Ydz := zc (st := zG) Ybq jbq ZaT,
     zaS := (zc (st := zG) Ybq jbq ZaT).binds (ps := ["self", "plot", "day", "known"]) fun _ _ _ _ _ _ us hl => match us, hl with | [_, _, _, _], _ => rfl,
     yb3 := zc (st := yp) YaB jaB Jad,
     Yb3 := (zc (st := yp) YaB jaB Jad).binds (ps := ["self", "known"]) fun _ _ _ _ _ _ us hl => match us, hl with | [_, _], _ => rfl,
     Ybb := W.mg_of X G Jdu,
     jaM := zc (st := zaa) ycw Ycw jcw,
     ybb := (zc (st := zaa) ycw Ycw jcw).binds (ps := ["number", "rows"]) fun _ _ _ _ _ _ us hl => match us, hl with | [_, _], _ => rfl,
     YeL := W.mg_of X G zdv,
     Ydo := zc (st := Zaa) Jcw zcx Zcx,
     yeL := (zc (st := Zaa) Jcw zcx Zcx).binds (ps := ["sheet"]) fun _ _ _ _ _ _ us hl => match us, hl with | [_], _ => rfl,
     ydU := W.mg_of X G ZcN,
     zcC := zc (st := zE) YbM jbM JbM,
     ZdU := (zc (st := zE) YbM jbM JbM).binds (ps := ["sheet"]) fun _ _ _ _ _ _ us hl => match us, hl with | [_], _ => rfl,
     yfi := W.mg_of X G zec,
     YdU := zc (st := Zam) yc0 Yc0 jc0,
     Zfi := (zc (st := Zam) yc0 Yc0 jc0).binds (ps := ["sheet", "charge", "amount"]) fun _ _ _ _ _ _ us hl => match us, hl with | [_, _, _], _ => rfl,
     jfi := W.mg_of X G Zec,
     jdU := zc (st := yam) Jc0 zc1 Zc1,
     Yfi := (zc (st := yam) Jc0 zc1 Zc1).binds (ps := ["sheet"]) fun _ _ _ _ _ _ us hl => match us, hl with | [_], _ => rfl,
     zfj := W.mg_of X G yec,
     JdU := zc (st := Jab) yc1 Yc1 jc1,
     Jfi := (zc (st := Jab) yc1 Yc1 jc1).binds (ps := ["sheet", "amount"]) fun _ _ _ _ _ _ us hl => match us, hl with | [_, _], _ => rfl,
     jeo := W.mg_of X G Yc8,
     Zc4 := zc (st := ZR) Jb0 zb1 Zb1,
     Yeo := (zc (st := ZR) Jb0 zb1 Zb1).binds (ps := ["sheet"]) fun _ _ _ _ _ _ us hl => match us, hl with | [_], _ => rfl,
     yfj := W.mg_of X G Yec,
     zdV := zc (st := zac) Jc1 zc2 Zc2,
     Zfj := (zc (st := zac) Jc1 zc2 Zc2).binds (ps := ["book", "plot", "known"]) fun _ _ _ _ _ _ us hl => match us, hl with | [_, _, _], _ => rfl,
     Jf6 := W.mg_of X G yfc,
     jf6 := zc (st := yaT) yef Yef jef,
     zg4 := (zc (st := yaT) yef Yef jef).binds (ps := ["calls"]) fun _ _ _ _ _ _ us hl => match us, hl with | [_], _ => rfl,
     zep := W.mg_of X G jc8,
     yc4 := zc (st := yR) yb1 Yb1 jb1,
     Jeo := (zc (st := yR) yb1 Yb1 jb1).binds (ps := ["calls", "start"]) fun _ _ _ _ _ _ us hl => match us, hl with | [_, _], _ => rfl,
     jgx := W.mg_of X G JfS,
     JfE := zc (st := zbl) Ye1 je1 Je1,
     Ygx := (zc (st := zbl) Ye1 je1 Je1).binds (ps := ["book", "call"]) fun _ _ _ _ _ _ us hl => match us, hl with | [_, _], _ => rfl,
     ZfF := W.mg_of X G ZeF,
     ZeA := zc (st := zaC) Zdv ydv Ydv,
     zfF := (zc (st := zaC) Zdv ydv Ydv).binds (ps := ["call"]) fun _ _ _ _ _ _ us hl => match us, hl with | [_], _ => rfl,
     ycl := W.mg_of X G ybj,
     Zbh := zc (st := Ys) JaG zaH ZaH,
     Zcl := (zc (st := Ys) JaG zaH ZaH).binds (ps := ["book", "call"]) fun _ _ _ _ _ _ us hl => match us, hl with | [_, _], _ => rfl,
     Jhf := W.mg_of X G YgR,
     YgM := zc (st := Zc3) jgq Jgq zgr,
     jhf := (zc (st := Zc3) jgq Jgq zgr).binds (ps := ["book", "call"]) fun _ _ _ _ _ _ us hl => match us, hl with | [_, _], _ => rfl,
     ydV := ⟨yc2, Yc2, jc2, Jc2⟩,
     Zbu := ⟨Zbu, zci, Zcu, jec⟩,
     ZbC := ⟨zaP, ZaP, yW⟩,
     ydd := ⟨ZbW, ybW, yaK⟩,
     jbm := ⟨yaD, Z3, ZD⟩,
     Ycl := ⟨Ybj, jbd, jaq⟩,
     ybC := ⟨yaQ, Jah, zJ⟩,
     jcl := ⟨jbj, jH, yu⟩,
     zbP := ⟨jaV, yz, yo⟩,
     ZaS := ⟨yah, jt, Zk⟩,
     ycQ := ⟨zbN, jM, Jz⟩,
     J4 := J4,
     jV := jV,
     Z5 := Z5,
     Yag := Yag,
     zar := zar,
     Ydd := ⟨Jef, zeg, Zeg, yeg⟩,
     ycy := ⟨ycy, Jc6, zc7, Yfc⟩,
     YcQ := ⟨jbI, JbI, Jaz⟩,
     YdV := ⟨ZcL, ycL, za7⟩,
     YbC := ⟨YaQ, Z3, ZD⟩,
     Jb3 := ⟨Za9, Jah, zJ⟩,
     zb4 := ⟨ya9, yaF, YZ⟩,
     jcQ := ⟨ZbN, jH, yu⟩,
     Jcl := ⟨Jbj, yz, yo⟩,
     Za2 := ⟨Zau, jt, Zk⟩,
     jdz := ⟨Zci, jM, Jz⟩,
     JZ := JZ,
     Zar := Zar,
     yar := yar,
     jag := jag,
     yaC := yaC,
     JaM := JaM,
     Ye5 := ⟨Yeg, jeg, Jeg, zeh⟩,
     Ycy := ⟨Ycy, Jc8, Zcu, jfc⟩,
     jdV := ⟨YcL, jcL, Za7⟩,
     jbC := ⟨jaQ, Z3, ZD⟩,
     JcQ := ⟨ybN, jbd, jaq⟩,
     Zb4 := ⟨Ya9, Jah, zJ⟩,
     yb4 := ⟨ja9, yaF, YZ⟩,
     zcR := ⟨YbN, jH, yu⟩,
     zcm := ⟨zbk, yz, yo⟩,
     ya2 := ⟨yau, jt, Zk⟩,
     Jdz := ⟨yci, jM, Jz⟩,
     Yar := Yar,
     jar := jar,
     Jag := Jag,
     YaC := YaC,
     zaN := zaN,
     jdo := ⟨ycx, Ycx, jcx, Jcx⟩,
     jbb := ⟨jbb, ZbX, Ybs, jdv⟩,
     ycR := ⟨jbJ, JbJ, zaA⟩,
     Yb4 := ⟨Ja9, jH, yu⟩,
     jb4 := ⟨zba, JaO, ZW⟩,
     JbC := ⟨JaQ, yz, yo⟩,
     YaL := ⟨zae, jt, Zk⟩,
     ybu := ⟨JaK, ZaE, yZ⟩,
     ycC := ⟨jbt, jM, Jz⟩,
     Ybu := ⟨zaL, yI, Zx⟩,
     zO := zO,
     Y5 := Y5,
     zah := zah,
     jbu := ⟨Zeh, yeh, Yeh, jeh⟩,
     jcy := ⟨jcy, Zc7, yc7, Jfc⟩,
     Ya2 := ⟨zat, Zat, ZF⟩,
     Zcm := ⟨ybi, Ybi, zai⟩,
     Jb4 := ⟨ya7, Ya7, yad⟩,
     zb5 := ⟨ja7, Ja7, Yad⟩,
     JdV := ⟨JcL, zcM, za8⟩,
     YcR := ⟨jbN, ZaK, Y8⟩,
     zdA := ⟨Yci, jM, Jz⟩,
     jE := jE,
     Jar := Jar,
     ZaN := ZaN,
     Jbb := ⟨Jeh, zei, Zei, yei⟩,
     Jcy := ⟨Jcy, Yc7, jc7, zfd⟩,
     jcR := ⟨ybK, YbK, JaA⟩,
     ja2 := ⟨yat, Yat, yF⟩,
     ycm := ⟨jbi, Jbi, Zai⟩,
     Zb5 := ⟨Za8, ya8, jad⟩,
     zdW := ⟨ZcM, ycM, Ya8⟩,
     ZdA := ⟨jci, jM, Jz⟩,
     yb5 := ⟨Zba, yI, Zx⟩,
     YG := YG,
     jO := jO,
     yaN := yaN,
     Jbm := ⟨ze2, Ze2, ye2, Ye2⟩,
     jdd := ⟨jdd, Ydt, jdt, zfT⟩,
     jbf := ⟨yaw, Yaw, JH⟩,
     YcC := ⟨jbs, Jbs, jat⟩,
     Ycm := ⟨zbj, Zbj, yai⟩,
     yep := ⟨Jc7, zc8, zbo⟩,
     Jdd := ⟨ybX, ZaK, Y8⟩,
     ZdW := ⟨ycN, jM, Jz⟩,
     jcm := ⟨Zbk, yI, Zx⟩,
     Yan := Yan,
     zab := zab,
     Ja2 := Ja2,
     jcC := ⟨Jdv, zdw, Zdw, ydw⟩,
     zbV := ⟨zbV, YcM, jcM, yeF⟩,
     zde := ⟨YbW, jbW, YaK⟩,
     ydA := ⟨jcg, Jcg, jaS⟩,
     JcC := ⟨Jbt, Ja6, Zad⟩,
     Yb5 := ⟨yba, yz, yo⟩,
     ZaX := ⟨Zal, jt, Zk⟩,
     ZbP := ⟨JaV, ZaE, yZ⟩,
     ybP := ⟨zaW, yI, Zx⟩,
     Z0 := Z0,
     zas := zas,
     jaC := jaC,
     JcR := ⟨Yfy, jfy, Jfy, zfz⟩,
     zee := ⟨zee, zeb, Zeb, Zgr⟩,
     zbn := ⟨zaD, ZaD, JM⟩,
     zcS := ⟨YbL, jbL, yaB⟩,
     zcD := ⟨zbt, Zbt, Jat⟩,
     YdA := ⟨Jci, ZaK, Y8⟩,
     Yep := ⟨zc9, jM, Jz⟩,
     ZcD := ⟨zbu, yI, Zx⟩,
     jeL := ⟨Ydw, jc6, Jbn⟩,
     zT := zT,
     Ybr := Ybr,
     Yn := ⟨ZfT, yfT, YfT, jfT⟩,
     Zde := ⟨Zde, Jdt, zdu, JfT⟩,
     ycD := ⟨ybt, Ybt, zau⟩,
     zaI := ⟨JbW, zbX, jaK⟩,
     YbP := ⟨yaV, YaV, J3⟩,
     zbY := ⟨Zc8, yc8, Zbo⟩,
     Jdo := ⟨Zdu, ydu, JbL⟩,
     yw := yw,
     YT := YT,
     YaN := YaN,
     zH := zH,
     JV := JV,
     JaC := JaC,
     Zab := ⟨ygr, Ygr, jgr, Jgr⟩,
     Zee := ⟨Zee, yeb, Yeb, zgs⟩,
     JeL := ⟨Ydu, jdu, zbM⟩,
     Yfj := ⟨jeb, Jeb, zce⟩,
     ydW := ⟨JcM, zcN, ja8⟩,
     jce := ⟨zch, Zch, JaS⟩,
     jdA := ⟨ych, Ych, zaT⟩,
     yaS := ⟨jch, Jch, ZaT⟩,
     jb5 := ⟨Ja8, za9, Jad⟩,
     jac := jac,
     jan := jan,
     Jac := Jac,
     jN := ⟨Zc9, yc9, Yc9, jN⟩,
     zaz := ⟨jc9, Jc9, zda, zaz⟩,
     zF := ⟨ybk, Ybk, jbk, zF⟩,
     yH := ⟨JbN, zbO, ZbO, yH⟩,
     Yc4 := W.mg_of X G YcN,
     jc4 := ⟨_, rfl⟩,
     YdW := W.mg_of X G zcj,
     jdW := ⟨_, rfl⟩,
     zeM := W.mg_of X G Zda,
     ZeM := ⟨_, rfl⟩,
     zdp := W.mg_of X G Jec,
     Zdp := ⟨_, rfl⟩,
     JdW := W.mg_of X G Zcj,
     zdX := ⟨_, rfl⟩,
     Jb5 := W.mg_of X G jdw,
     zb6 := ⟨_, rfl⟩,
     jfj := W.mg_of X G Jdw,
     Jfj := ⟨_, rfl⟩,
     zfk := W.mg_of X G zdx,
     Zfk := ⟨_, rfl⟩,
     Zhg := W.mg_of X G Zgs,
     yhg := ⟨_, rfl⟩,
     jep := W.mg_of X G jcN,
     Jep := ⟨_, rfl⟩,
     yeM := W.mg_of X G Zfd,
     YeM := ⟨_, rfl⟩,
     YfF := W.mg_of X G zed,
     jfF := ⟨_, rfl⟩,
     zgy := W.mg_of X G yfd,
     Zgy := ⟨_, rfl⟩,
     ygy := W.mg_of X G Yfd,
     Ygy := ⟨_, rfl⟩,
     jgy := W.mg_of X G jfd,
     Jgy := ⟨_, rfl⟩,
     yfk := W.mg_of X G Zdx,
     Yfk := ⟨_, rfl⟩,
     zgz := W.mg_of X G Jfd,
     Zgz := ⟨_, rfl⟩,
     JgV := W.mg_of X G zfU,
     zgW := ⟨_, rfl⟩,
     Zf7 := W.mg_of X G YeF,
     yf7 := ⟨_, rfl⟩,
     Yhg := W.mg_of X G ygs,
     jhg := ⟨_, rfl⟩,
     ZgW := W.mg_of X G ZfU,
     ygW := ⟨_, rfl⟩,
     Yf7 := W.mg_of X G jeF,
     jf7 := ⟨_, rfl⟩,
     Jhg := W.mg_of X G Ygs,
     zhh := ⟨_, rfl⟩,
     Zhh := W.mg_of X G jgs,
     yhh := ⟨_, rfl⟩,
     ygz := W.mg_of X G zfe,
     Ygz := ⟨_, rfl⟩,
     Yhh := W.mg_of X G Jgs,
     jhh := ⟨_, rfl⟩,
     je5 := W.mg_of X G JeF,
     Je5 := rfl,
     zP := fun H => .inr ⟨_, _, _, zeG, rfl, rfl, (by show 16 ≤ sizeLine; decide), (.cons ⟨_, rfl⟩ (.cons ⟨_, rfl⟩ (.cons ⟨_, rfl⟩ (.cons ⟨_, rfl⟩ (.cons ⟨_, rfl⟩ (.cons ⟨_, rfl⟩ (.cons ⟨_, rfl⟩ (.cons ⟨_, rfl⟩ (.cons ⟨_, rfl⟩ (.cons ⟨_, rfl⟩ (.cons ⟨_, rfl⟩ (.cons ⟨_, rfl⟩ (.cons ⟨_, rfl⟩ (.cons ⟨_, rfl⟩ (.cons ⟨_, rfl⟩ (.cons ⟨_, rfl⟩ .nil))))))))))))))))⟩,
     Jhh := W.mg_none_of X G jgR,
     jfk := W.mg_none_of X G ydx,
     zW := W.mg_none_of X G yda,
     YcD := W.mg_none_of X G JgR,
     JgM := W.mg_none_of X G zgt,
     zhi := W.mg_none_of X G zgS,
     Zhi := W.mg_none_of X G ZgS,
     Jfk := fun e => .ins e ⟨yc2, Yc2, jc2, Jc2⟩ Zed hn0 htk0 yed,
     Jf7 := fun e => .ins e ⟨Jef, zeg, Zeg, yeg⟩ Zfe hn0 htk0 yfe,
     zf8 := fun e => .ins e ⟨Yeg, jeg, Jeg, zeh⟩ Yfe hn0 htk0 jfe,
     Zf8 := fun e => .ins e ⟨Zeh, yeh, Yeh, jeh⟩ Jfe hn0 htk0 zff,
     jeM := fun e => .ins e ⟨ycx, Ycx, jcx, Jcx⟩ Ydx hn0 htk0 jdx,
     yf8 := fun e => .ins e ⟨Jeh, zei, Zei, yei⟩ Zff hn0 htk0 yff,
     jgz := fun e => .ins e ⟨ze2, Ze2, ye2, Ye2⟩ yfU hn0 htk0 YfU,
     JfF := fun e => .ins e ⟨Jdv, zdw, Zdw, ydw⟩ ZeG hn0 htk0 yeG,
     YgW := fun e => .ins e ⟨Yfy, jfy, Jfy, zfz⟩ Zgt hn0 htk0 ygt,
     zcz := zcz,
     J5 := J5,
     Zao := Zao,
     yao := yao,
     Yao := Yao,
     yX := yX,
     jao := jao,
     Jaw := Jaw,
     zaf := zaf,
     ZaI := ZaI,
     Zcz := Zcz,
     Z6 := Z6,
     Jao := Jao,
     zap := zap,
     Zap := Zap,
     YX := YX,
     yap := yap,
     zax := zax,
     Zaf := Zaf,
     yaI := yaI,
     zbc := zbc,
     yJ := yJ,
     jX := jX,
     JX := JX,
     zY := zY,
     YH := YH,
     jY := jY,
     Y6 := Y6,
     ZP := ZP,
     yaf := yaf,
     Jbu := Jbu,
     yP := yP,
     J6 := J6,
     Z7 := Z7,
     Y7 := Y7,
     YJ := YJ,
     j7 := j7,
     Yaf := Yaf,
     zZ := zZ,
     Yap := Yap,
     ycz := ycz,
     J7 := J7,
     jap := jap,
     Jap := Jap,
     zaq := zaq,
     ZZ := ZZ,
     Zaq := Zaq,
     Zax := Zax,
     jaf := jaf,
     YaI := YaI,
     yee := yee,
     yaq := yaq,
     jaI := jaI,
     JaI := JaI,
     zaJ := zaJ,
     Jaf := Jaf,
     ZaJ := ZaJ,
     JaT := JaT,
     yax := yax,
     Zbc := Zbc }, rfl, fun s us hu => match us, hu with | [_], _ => .of_eq rfl⟩
end Lr
namespace PySem.W.Fast
def tw2285066325513771842 : Unit := ()
def tw4632973110377919272 : Unit := ()
def tw13045658891415225711 : Unit := ()
def tw14719041337841918684 : Unit := ()
def tw2491435323864608683 : Unit := ()
def tw10955664243935795559 : Unit := ()
def tw10639018419278022931 : Unit := ()
def tw9446125453304693159 : Unit := ()
def tw9953571077795960443 : Unit := ()
def tw1424889056806482832 : Unit := ()
def tw17206186744881610133 : Unit := ()
def tw13632962851984173390 : Unit := ()
def tw16179304178679525714 : Unit := ()
def tw4264534416172855086 : Unit := ()
def tw13634022557730780211 : Unit := ()
def tw6898711289846295074 : Unit := ()
def tw9475529528677185870 : Unit := ()
def tw16631114090044930046 : Unit := ()
def tw15920658086918423491 : Unit := ()
def tw15606114683545156268 : Unit := ()
def tw7393313046788145797 : Unit := ()
def tw5359926955047854192 : Unit := ()
def tw5990783273760725528 : Unit := ()
end PySem.W.Fast
open PySem PySem.W PyProof.Rows
set_option maxHeartbeats 0 in
theorem PySem.Challenge.cw_landregister_s01_answers_holds : PySem.Challenge.rw_landregister_s01_answers.Holds := by
  w_on; k_headS; (case hw => exact ⟨[.list [.int 0, .int 1, .int 1, .int 0]], by decide +kernel, by decide +kernel⟩)
  k_fillS
  refine L2.YgL (r := PySem.Challenge.rw_landregister_s01_answers) (k := 10) (CX := L2.CX0) (ps := ["calls"]) (sp := Lr.jfL) (by decide +kernel) rfl rfl ⟨rfl, by decide, by decide⟩ (fun w h Y => PySem.W.kIn_of Y) ?F ?S (fun _ _ _ _ z => z)
  case F =>
    intro w mg fa h Y KX G hmg
    obtain ⟨A, T, e1, hb⟩ : ∃ A : Lr.Adr, Lr.Txt _ mg A ∧ A.jaw = fa ∧ ∀ (s : Shared) (us : List Value), us.length = (["calls"] : List Str).length → BindsTo s A.zbr ⟨us, []⟩ ((["calls"] : List Str).zip us) := by
      have hfa := hmg
      refine' (fun z => Exists.elim z fun A q => ⟨A, q.1, ?E, q.2.2⟩) (Lr.yhD KX G ?JfR ?jds ?YcK ?zfS ?Yea ?Yfb ?jfb ?Jds ?Jfb ?zfc ?ZfS ?JeE ?ygq ?yfS ?Ygq ?YfS ?ze0 ?Ze0 ?ye0 ?Zfc ?Jee ?zef ?Zef ?jcK ?JbG ?zbH ?ZbH ?jea ?YcY ?jcY ?JcY ?JcK ?ybH ?YbH ?jbH ?jfS ?Ye0 ?je0 ?Je0 ?zeF ?zdt ?Zdt ?ydt ?ze1 ?Ze1 ?Jct ?zcu ?jN ?zdm ?ZaK ?zbd ?Zbd ?Y8 ?jbg ?jt ?J0 ?Z1 ?Zk ?ycq ?ZaE ?yaE ?YaE ?yZ ?Jea ?jM ?JbH ?zbI ?Jz ?Ycq ?yI ?jaE ?JaE ?Zx ?yey ?jc6 ?ybY ?YbY ?Jbn ?Zdm ?ydm ?ybd ?Ybd ?yH ?Jcd ?Ja6 ?Yaz ?jaz ?Zad ?ZbI ?yz ?Jaj ?zak ?yo ?zcL ?Ybs ?YaO ?jaO ?zF ?ybI ?jH ?Zak ?yak ?yu ?YbI ?JaO ?Yak ?jak ?ZW ?ye1 ?Zcu ?ycu ?Ycu ?zaz ?JbT ?Z3 ?yav ?Yav ?ZD ?Ydm ?jbd ?Jbd ?zbe ?jaq ?jcq ?Jah ?zaF ?ZaF ?zJ ?Jcq ?yaF ?YaF ?jaF ?YZ ?zaP ?ZaP ?Jak ?zal ?yW ?ZbW ?ybW ?Zbe ?ybe ?yaK ?Jc6 ?zc7 ?jbY ?JbY ?zbZ ?jbI ?JbI ?yaZ ?YaZ ?Jaz ?ZcL ?ycL ?zbJ ?ZbJ ?za7 ?YcL ?jcL ?ybJ ?YbJ ?Za7 ?jbJ ?JbJ ?jaZ ?JaZ ?zaA ?Zc7 ?yc7 ?ZbZ ?ybZ ?YbZ ?zat ?Zat ?YW ?jW ?ZF ?ybi ?Ybi ?JaF ?zaG ?zai ?ya7 ?Ya7 ?ZaA ?yaA ?yad ?ja7 ?Ja7 ?YaA ?jaA ?Yad ?JcL ?zcM ?zbK ?ZbK ?za8 ?Yc7 ?jc7 ?jbZ ?JbZ ?zb0 ?ybK ?YbK ?za0 ?Za0 ?JaA ?yat ?Yat ?JW ?zX ?yF ?jbi ?Jbi ?ZaG ?yaG ?Zai ?Za8 ?ya8 ?zaB ?ZaB ?jad ?ZcM ?ycM ?jbK ?JbK ?Ya8 ?Ydt ?jdt ?jcu ?Jcu ?zcv ?yaw ?Yaw ?J1 ?Z2 ?JH ?jbs ?Jbs ?yaP ?YaP ?jat ?zbj ?Zbj ?YaG ?jaG ?yai ?Jc7 ?zc8 ?Zb0 ?yb0 ?zbo ?YcM ?jcM ?zbL ?ZbL ?ybL ?YbW ?jbW ?Ybe ?jbe ?YaK ?jcg ?Jcg ?Ybp ?jbp ?jaS ?zeb ?Zeb ?zcZ ?ZcZ ?ycZ ?zaD ?ZaD ?yab ?Yab ?JM ?YbL ?jbL ?ya0 ?Ya0 ?yaB ?zbt ?Zbt ?jaP ?JaP ?Jat ?Jdt ?zdu ?Zcv ?ycv ?Ycv ?ybt ?Ybt ?zaQ ?ZaQ ?zau ?JbW ?zbX ?Jbe ?zbf ?jaK ?yaV ?YaV ?jav ?Jav ?J3 ?Zc8 ?yc8 ?Yb0 ?jb0 ?Zbo ?Zdu ?ydu ?jcv ?Jcv ?JbL ?yeb ?Yeb ?YcZ ?jcZ ?JcZ ?Ydu ?jdu ?zcw ?Zcw ?zbM ?jeb ?Jeb ?zc0 ?Zc0 ?zce ?JcM ?zcN ?ZbM ?ybM ?ja8 ?zch ?Zch ?Jbp ?zbq ?JaS ?ych ?Ych ?Zbq ?ybq ?zaT ?jch ?Jch ?Ybq ?jbq ?ZaT ?Ja8 ?za9 ?YaB ?jaB ?Jad ?Jdu ?ycw ?Ycw ?jcw ?zdv ?Jcw ?zcx ?Zcx ?ZcN ?YbM ?jbM ?JbM ?zec ?yc0 ?Yc0 ?jc0 ?Zec ?Jc0 ?zc1 ?Zc1 ?yec ?yc1 ?Yc1 ?jc1 ?Yc8 ?Jb0 ?zb1 ?Zb1 ?Yec ?Jc1 ?zc2 ?Zc2 ?yfc ?yef ?Yef ?jef ?jc8 ?yb1 ?Yb1 ?jb1 ?JfS ?Ye1 ?je1 ?Je1 ?ZeF ?Zdv ?ydv ?Ydv ?ybj ?JaG ?zaH ?ZaH ?YgR ?jgq ?Jgq ?zgr ?yc2 ?Yc2 ?jc2 ?Jc2 ?Zbu ?jec ?zci ?yaD ?Ybj ?yaQ ?jbj ?jaV ?yah ?zbN ?J4 ?jV ?Z5 ?Yag ?zar ?Jef ?zeg ?Zeg ?yeg ?ycy ?Yfc ?YaQ ?Za9 ?ya9 ?ZbN ?Jbj ?Zau ?Zci ?JZ ?Zar ?yar ?jag ?yaC ?JaM ?Yeg ?jeg ?Jeg ?zeh ?Ycy ?jfc ?Jc8 ?jaQ ?ybN ?Ya9 ?ja9 ?YbN ?zbk ?yau ?yci ?Yar ?jar ?Jag ?YaC ?zaN ?ycx ?Ycx ?jcx ?Jcx ?jbb ?jdv ?ZbX ?Ja9 ?zba ?JaQ ?zae ?JaK ?jbt ?zaL ?zO ?Y5 ?zah ?Zeh ?yeh ?Yeh ?jeh ?jcy ?Jfc ?jbN ?Yci ?jE ?Jar ?ZaN ?Jeh ?zei ?Zei ?yei ?Jcy ?zfd ?jci ?Zba ?YG ?jO ?yaN ?ze2 ?Ze2 ?ye2 ?Ye2 ?jdd ?zfT ?ybX ?ycN ?Zbk ?Yan ?zab ?Ja2 ?Jdv ?zdw ?Zdw ?ydw ?zbV ?yeF ?Jbt ?yba ?Zal ?JaV ?zaW ?Z0 ?zas ?jaC ?Yfy ?jfy ?Jfy ?zfz ?zee ?Zgr ?Jci ?zc9 ?zbu ?Ydw ?zT ?Ybr ?ZfT ?yfT ?YfT ?jfT ?Zde ?JfT ?yw ?YT ?YaN ?zH ?JV ?JaC ?ygr ?Ygr ?jgr ?Jgr ?Zee ?zgs ?jac ?jan ?Jac ?Zc9 ?yc9 ?Yc9 ?jc9 ?Jc9 ?zda ?ybk ?Ybk ?jbk ?JbN ?zbO ?ZbO ?YcN ?zcj ?Zda ?Jec ?Zcj ?jdw ?Jdw ?zdx ?Zgs ?jcN ?Zfd ?zed ?yfd ?Yfd ?jfd ?Zdx ?Jfd ?zfU ?YeF ?ygs ?ZfU ?jeF ?Ygs ?jgs ?zfe ?Jgs ?JeF ?zeG ?jgR ?ydx ?yda ?JgR ?zgt ?zgS ?ZgS ?Zed ?yed ?Zfe ?yfe ?Yfe ?jfe ?Jfe ?zff ?Ydx ?jdx ?Zff ?yff ?yfU ?YfU ?ZeG ?yeG ?Zgt ?ygt ?zcz ?J5 ?Zao ?yao ?Yao ?yX ?jao ?Jaw ?zaf ?ZaI ?Zcz ?Z6 ?Jao ?zap ?Zap ?YX ?yap ?zax ?Zaf ?yaI ?zbc ?yJ ?jX ?JX ?zY ?YH ?jY ?Y6 ?ZP ?yaf ?Jbu ?yP ?J6 ?Z7 ?Y7 ?YJ ?j7 ?Yaf ?zZ ?Yap ?ycz ?J7 ?jap ?Jap ?zaq ?ZZ ?Zaq ?Zax ?jaf ?YaI ?yee ?yaq ?jaI ?JaI ?zaJ ?Jaf ?ZaJ ?JaT ?yax ?Zbc ?hn0 ?htk0)
      (case E => exact Value.ref.inj (Option.some.inj (q.1.Jf6.symm.trans hfa)))
      (case JfR => k_is)
      (case jds => k_is)
      (case YcK => k_is)
      (case zfS => k_is)
      (case Yea => k_is)
      (case Yfb => k_is)
      (case jfb => k_is)
      (case Jds => k_is)
      (case Jfb => k_is)
      (case zfc => k_is)
      (case ZfS => k_is)
      (case JeE => k_is)
      (case ygq => k_is)
      (case yfS => k_is)
      (case Ygq => k_is)
      (case YfS => k_is)
      (case ze0 => k_is)
      (case Ze0 => k_is)
      (case ye0 => k_is)
      (case Zfc => k_is)
      (case Jee => k_is)
      (case zef => k_is)
      (case Zef => k_is)
      (case jcK => k_is)
      (case JbG => k_is)
      (case zbH => k_is)
      (case ZbH => k_is)
      (case jea => k_is)
      (case YcY => k_is)
      (case jcY => k_is)
      (case JcY => k_is)
      (case JcK => k_is)
      (case ybH => k_is)
      (case YbH => k_is)
      (case jbH => k_is)
      (case jfS => k_is)
      (case Ye0 => k_is)
      (case je0 => k_is)
      (case Je0 => k_is)
      (case zeF => k_is)
      (case zdt => k_is)
      (case Zdt => k_is)
      (case ydt => k_is)
      (case ze1 => k_is)
      (case Ze1 => k_is)
      (case Jct => k_is)
      (case zcu => k_is)
      (case jN => k_is)
      (case zdm => k_is)
      (case ZaK => k_is)
      (case zbd => k_is)
      (case Zbd => k_is)
      (case Y8 => k_is)
      (case jbg => k_is)
      (case jt => k_is)
      (case J0 => k_is)
      (case Z1 => k_is)
      (case Zk => k_is)
      (case ycq => k_is)
      (case ZaE => k_is)
      (case yaE => k_is)
      (case YaE => k_is)
      (case yZ => k_is)
      (case Jea => k_is)
      (case jM => k_is)
      (case JbH => k_is)
      (case zbI => k_is)
      (case Jz => k_is)
      (case Ycq => k_is)
      (case yI => k_is)
      (case jaE => k_is)
      (case JaE => k_is)
      (case Zx => k_is)
      (case yey => k_is)
      (case jc6 => k_is)
      (case ybY => k_is)
      (case YbY => k_is)
      (case Jbn => k_is)
      (case Zdm => k_is)
      (case ydm => k_is)
      (case ybd => k_is)
      (case Ybd => k_is)
      (case yH => k_is)
      (case Jcd => k_is)
      (case Ja6 => k_is)
      (case Yaz => k_is)
      (case jaz => k_is)
      (case Zad => k_is)
      (case ZbI => k_is)
      (case yz => k_is)
      (case Jaj => k_is)
      (case zak => k_is)
      (case yo => k_is)
      (case zcL => k_is)
      (case Ybs => k_is)
      (case YaO => k_is)
      (case jaO => k_is)
      (case zF => k_is)
      (case ybI => k_is)
      (case jH => k_is)
      (case Zak => k_is)
      (case yak => k_is)
      (case yu => k_is)
      (case YbI => k_is)
      (case JaO => k_is)
      (case Yak => k_is)
      (case jak => k_is)
      (case ZW => k_is)
      (case ye1 => k_is)
      (case Zcu => k_is)
      (case ycu => k_is)
      (case Ycu => k_is)
      (case zaz => k_is)
      (case JbT => k_is)
      (case Z3 => k_is)
      (case yav => k_is)
      (case Yav => k_is)
      (case ZD => k_is)
      (case Ydm => k_is)
      (case jbd => k_is)
      (case Jbd => k_is)
      (case zbe => k_is)
      (case jaq => k_is)
      (case jcq => k_is)
      (case Jah => k_is)
      (case zaF => k_is)
      (case ZaF => k_is)
      (case zJ => k_is)
      (case Jcq => k_is)
      (case yaF => k_is)
      (case YaF => k_is)
      (case jaF => k_is)
      (case YZ => k_is)
      (case zaP => k_is)
      (case ZaP => k_is)
      (case Jak => k_is)
      (case zal => k_is)
      (case yW => k_is)
      (case ZbW => k_is)
      (case ybW => k_is)
      (case Zbe => k_is)
      (case ybe => k_is)
      (case yaK => k_is)
      (case Jc6 => k_is)
      (case zc7 => k_is)
      (case jbY => k_is)
      (case JbY => k_is)
      (case zbZ => k_is)
      (case jbI => k_is)
      (case JbI => k_is)
      (case yaZ => k_is)
      (case YaZ => k_is)
      (case Jaz => k_is)
      (case ZcL => k_is)
      (case ycL => k_is)
      (case zbJ => k_is)
      (case ZbJ => k_is)
      (case za7 => k_is)
      (case YcL => k_is)
      (case jcL => k_is)
      (case ybJ => k_is)
      (case YbJ => k_is)
      (case Za7 => k_is)
      (case jbJ => k_is)
      (case JbJ => k_is)
      (case jaZ => k_is)
      (case JaZ => k_is)
      (case zaA => k_is)
      (case Zc7 => k_is)
      (case yc7 => k_is)
      (case ZbZ => k_is)
      (case ybZ => k_is)
      (case YbZ => k_is)
      (case zat => k_is)
      (case Zat => k_is)
      (case YW => k_is)
      (case jW => k_is)
      (case ZF => k_is)
      (case ybi => k_is)
      (case Ybi => k_is)
      (case JaF => k_is)
      (case zaG => k_is)
      (case zai => k_is)
      (case ya7 => k_is)
      (case Ya7 => k_is)
      (case ZaA => k_is)
      (case yaA => k_is)
      (case yad => k_is)
      (case ja7 => k_is)
      (case Ja7 => k_is)
      (case YaA => k_is)
      (case jaA => k_is)
      (case Yad => k_is)
      (case JcL => k_is)
      (case zcM => k_is)
      (case zbK => k_is)
      (case ZbK => k_is)
      (case za8 => k_is)
      (case Yc7 => k_is)
      (case jc7 => k_is)
      (case jbZ => k_is)
      (case JbZ => k_is)
      (case zb0 => k_is)
      (case ybK => k_is)
      (case YbK => k_is)
      (case za0 => k_is)
      (case Za0 => k_is)
      (case JaA => k_is)
      (case yat => k_is)
      (case Yat => k_is)
      (case JW => k_is)
      (case zX => k_is)
      (case yF => k_is)
      (case jbi => k_is)
      (case Jbi => k_is)
      (case ZaG => k_is)
      (case yaG => k_is)
      (case Zai => k_is)
      (case Za8 => k_is)
      (case ya8 => k_is)
      (case zaB => k_is)
      (case ZaB => k_is)
      (case jad => k_is)
      (case ZcM => k_is)
      (case ycM => k_is)
      (case jbK => k_is)
      (case JbK => k_is)
      (case Ya8 => k_is)
      (case Ydt => k_is)
      (case jdt => k_is)
      (case jcu => k_is)
      (case Jcu => k_is)
      (case zcv => k_is)
      (case yaw => k_is)
      (case Yaw => k_is)
      (case J1 => k_is)
      (case Z2 => k_is)
      (case JH => k_is)
      (case jbs => k_is)
      (case Jbs => k_is)
      (case yaP => k_is)
      (case YaP => k_is)
      (case jat => k_is)
      (case zbj => k_is)
      (case Zbj => k_is)
      (case YaG => k_is)
      (case jaG => k_is)
      (case yai => k_is)
      (case Jc7 => k_is)
      (case zc8 => k_is)
      (case Zb0 => k_is)
      (case yb0 => k_is)
      (case zbo => k_is)
      (case YcM => k_is)
      (case jcM => k_is)
      (case zbL => k_is)
      (case ZbL => k_is)
      (case ybL => k_is)
      (case YbW => k_is)
      (case jbW => k_is)
      (case Ybe => k_is)
      (case jbe => k_is)
      (case YaK => k_is)
      (case jcg => k_is)
      (case Jcg => k_is)
      (case Ybp => k_is)
      (case jbp => k_is)
      (case jaS => k_is)
      (case zeb => k_is)
      (case Zeb => k_is)
      (case zcZ => k_is)
      (case ZcZ => k_is)
      (case ycZ => k_is)
      (case zaD => k_is)
      (case ZaD => k_is)
      (case yab => k_is)
      (case Yab => k_is)
      (case JM => k_is)
      (case YbL => k_is)
      (case jbL => k_is)
      (case ya0 => k_is)
      (case Ya0 => k_is)
      (case yaB => k_is)
      (case zbt => k_is)
      (case Zbt => k_is)
      (case jaP => k_is)
      (case JaP => k_is)
      (case Jat => k_is)
      (case Jdt => k_is)
      (case zdu => k_is)
      (case Zcv => k_is)
      (case ycv => k_is)
      (case Ycv => k_is)
      (case ybt => k_is)
      (case Ybt => k_is)
      (case zaQ => k_is)
      (case ZaQ => k_is)
      (case zau => k_is)
      (case JbW => k_is)
      (case zbX => k_is)
      (case Jbe => k_is)
      (case zbf => k_is)
      (case jaK => k_is)
      (case yaV => k_is)
      (case YaV => k_is)
      (case jav => k_is)
      (case Jav => k_is)
      (case J3 => k_is)
      (case Zc8 => k_is)
      (case yc8 => k_is)
      (case Yb0 => k_is)
      (case jb0 => k_is)
      (case Zbo => k_is)
      (case Zdu => k_is)
      (case ydu => k_is)
      (case jcv => k_is)
      (case Jcv => k_is)
      (case JbL => k_is)
      (case yeb => k_is)
      (case Yeb => k_is)
      (case YcZ => k_is)
      (case jcZ => k_is)
      (case JcZ => k_is)
      (case Ydu => k_is)
      (case jdu => k_is)
      (case zcw => k_is)
      (case Zcw => k_is)
      (case zbM => k_is)
      (case jeb => k_is)
      (case Jeb => k_is)
      (case zc0 => k_is)
      (case Zc0 => k_is)
      (case zce => k_is)
      (case JcM => k_is)
      (case zcN => k_is)
      (case ZbM => k_is)
      (case ybM => k_is)
      (case ja8 => k_is)
      (case zch => k_is)
      (case Zch => k_is)
      (case Jbp => k_is)
      (case zbq => k_is)
      (case JaS => k_is)
      (case ych => k_is)
      (case Ych => k_is)
      (case Zbq => k_is)
      (case ybq => k_is)
      (case zaT => k_is)
      (case jch => k_is)
      (case Jch => k_is)
      (case Ybq => k_is)
      (case jbq => k_is)
      (case ZaT => k_is)
      (case Ja8 => k_is)
      (case za9 => k_is)
      (case YaB => k_is)
      (case jaB => k_is)
      (case Jad => k_is)
      (case Jdu => k_is)
      (case ycw => k_is)
      (case Ycw => k_is)
      (case jcw => k_is)
      (case zdv => k_is)
      (case Jcw => k_is)
      (case zcx => k_is)
      (case Zcx => k_is)
      (case ZcN => k_is)
      (case YbM => k_is)
      (case jbM => k_is)
      (case JbM => k_is)
      (case zec => k_is)
      (case yc0 => k_is)
      (case Yc0 => k_is)
      (case jc0 => k_is)
      (case Zec => k_is)
      (case Jc0 => k_is)
      (case zc1 => k_is)
      (case Zc1 => k_is)
      (case yec => k_is)
      (case yc1 => k_is)
      (case Yc1 => k_is)
      (case jc1 => k_is)
      (case Yc8 => k_is)
      (case Jb0 => k_is)
      (case zb1 => k_is)
      (case Zb1 => k_is)
      (case Yec => k_is)
      (case Jc1 => k_is)
      (case zc2 => k_is)
      (case Zc2 => k_is)
      (case yfc => k_is)
      (case yef => k_is)
      (case Yef => k_is)
      (case jef => k_is)
      (case jc8 => k_is)
      (case yb1 => k_is)
      (case Yb1 => k_is)
      (case jb1 => k_is)
      (case JfS => k_is)
      (case Ye1 => k_is)
      (case je1 => k_is)
      (case Je1 => k_is)
      (case ZeF => k_is)
      (case Zdv => k_is)
      (case ydv => k_is)
      (case Ydv => k_is)
      (case ybj => k_is)
      (case JaG => k_is)
      (case zaH => k_is)
      (case ZaH => k_is)
      (case YgR => k_is)
      (case jgq => k_is)
      (case Jgq => k_is)
      (case zgr => k_is)
      (case yc2 => k_is)
      (case Yc2 => k_is)
      (case jc2 => k_is)
      (case Jc2 => k_is)
      (case Zbu => k_is)
      (case jec => k_is)
      (case zci => k_is)
      (case yaD => k_is)
      (case Ybj => k_is)
      (case yaQ => k_is)
      (case jbj => k_is)
      (case jaV => k_is)
      (case yah => k_is)
      (case zbN => k_is)
      (case J4 => k_is)
      (case jV => k_is)
      (case Z5 => k_is)
      (case Yag => k_is)
      (case zar => k_is)
      (case Jef => k_is)
      (case zeg => k_is)
      (case Zeg => k_is)
      (case yeg => k_is)
      (case ycy => k_is)
      (case Yfc => k_is)
      (case YaQ => k_is)
      (case Za9 => k_is)
      (case ya9 => k_is)
      (case ZbN => k_is)
      (case Jbj => k_is)
      (case Zau => k_is)
      (case Zci => k_is)
      (case JZ => k_is)
      (case Zar => k_is)
      (case yar => k_is)
      (case jag => k_is)
      (case yaC => k_is)
      (case JaM => k_is)
      (case Yeg => k_is)
      (case jeg => k_is)
      (case Jeg => k_is)
      (case zeh => k_is)
      (case Ycy => k_is)
      (case jfc => k_is)
      (case Jc8 => k_is)
      (case jaQ => k_is)
      (case ybN => k_is)
      (case Ya9 => k_is)
      (case ja9 => k_is)
      (case YbN => k_is)
      (case zbk => k_is)
      (case yau => k_is)
      (case yci => k_is)
      (case Yar => k_is)
      (case jar => k_is)
      (case Jag => k_is)
      (case YaC => k_is)
      (case zaN => k_is)
      (case ycx => k_is)
      (case Ycx => k_is)
      (case jcx => k_is)
      (case Jcx => k_is)
      (case jbb => k_is)
      (case jdv => k_is)
      (case ZbX => k_is)
      (case Ja9 => k_is)
      (case zba => k_is)
      (case JaQ => k_is)
      (case zae => k_is)
      (case JaK => k_is)
      (case jbt => k_is)
      (case zaL => k_is)
      (case zO => k_is)
      (case Y5 => k_is)
      (case zah => k_is)
      (case Zeh => k_is)
      (case yeh => k_is)
      (case Yeh => k_is)
      (case jeh => k_is)
      (case jcy => k_is)
      (case Jfc => k_is)
      (case jbN => k_is)
      (case Yci => k_is)
      (case jE => k_is)
      (case Jar => k_is)
      (case ZaN => k_is)
      (case Jeh => k_is)
      (case zei => k_is)
      (case Zei => k_is)
      (case yei => k_is)
      (case Jcy => k_is)
      (case zfd => k_is)
      (case jci => k_is)
      (case Zba => k_is)
      (case YG => k_is)
      (case jO => k_is)
      (case yaN => k_is)
      (case ze2 => k_is)
      (case Ze2 => k_is)
      (case ye2 => k_is)
      (case Ye2 => k_is)
      (case jdd => k_is)
      (case zfT => k_is)
      (case ybX => k_is)
      (case ycN => k_is)
      (case Zbk => k_is)
      (case Yan => k_is)
      (case zab => k_is)
      (case Ja2 => k_is)
      (case Jdv => k_is)
      (case zdw => k_is)
      (case Zdw => k_is)
      (case ydw => k_is)
      (case zbV => k_is)
      (case yeF => k_is)
      (case Jbt => k_is)
      (case yba => k_is)
      (case Zal => k_is)
      (case JaV => k_is)
      (case zaW => k_is)
      (case Z0 => k_is)
      (case zas => k_is)
      (case jaC => k_is)
      (case Yfy => k_is)
      (case jfy => k_is)
      (case Jfy => k_is)
      (case zfz => k_is)
      (case zee => k_is)
      (case Zgr => k_is)
      (case Jci => k_is)
      (case zc9 => k_is)
      (case zbu => k_is)
      (case Ydw => k_is)
      (case zT => k_is)
      (case Ybr => k_is)
      (case ZfT => k_is)
      (case yfT => k_is)
      (case YfT => k_is)
      (case jfT => k_is)
      (case Zde => k_is)
      (case JfT => k_is)
      (case yw => k_is)
      (case YT => k_is)
      (case YaN => k_is)
      (case zH => k_is)
      (case JV => k_is)
      (case JaC => k_is)
      (case ygr => k_is)
      (case Ygr => k_is)
      (case jgr => k_is)
      (case Jgr => k_is)
      (case Zee => k_is)
      (case zgs => k_is)
      (case jac => k_is)
      (case jan => k_is)
      (case Jac => k_is)
      (case Zc9 => k_is)
      (case yc9 => k_is)
      (case Yc9 => k_is)
      (case jc9 => k_is)
      (case Jc9 => k_is)
      (case zda => k_is)
      (case ybk => k_is)
      (case Ybk => k_is)
      (case jbk => k_is)
      (case JbN => k_is)
      (case zbO => k_is)
      (case ZbO => k_is)
      (case YcN => k_is)
      (case zcj => k_is)
      (case Zda => k_is)
      (case Jec => k_is)
      (case Zcj => k_is)
      (case jdw => k_is)
      (case Jdw => k_is)
      (case zdx => k_is)
      (case Zgs => k_is)
      (case jcN => k_is)
      (case Zfd => k_is)
      (case zed => k_is)
      (case yfd => k_is)
      (case Yfd => k_is)
      (case jfd => k_is)
      (case Zdx => k_is)
      (case Jfd => k_is)
      (case zfU => k_is)
      (case YeF => k_is)
      (case ygs => k_is)
      (case ZfU => k_is)
      (case jeF => k_is)
      (case Ygs => k_is)
      (case jgs => k_is)
      (case zfe => k_is)
      (case Jgs => k_is)
      (case JeF => k_is)
      (case zeG => k_is)
      (case jgR => k_is)
      (case ydx => k_is)
      (case yda => k_is)
      (case JgR => k_is)
      (case zgt => k_is)
      (case zgS => k_is)
      (case ZgS => k_is)
      (case Zed => k_is)
      (case yed => k_is)
      (case Zfe => k_is)
      (case yfe => k_is)
      (case Yfe => k_is)
      (case jfe => k_is)
      (case Jfe => k_is)
      (case zff => k_is)
      (case Ydx => k_is)
      (case jdx => k_is)
      (case Zff => k_is)
      (case yff => k_is)
      (case yfU => k_is)
      (case YfU => k_is)
      (case ZeG => k_is)
      (case yeG => k_is)
      (case Zgt => k_is)
      (case ygt => k_is)
      (case zcz => kit_is)
      (case J5 => kit_is)
      (case Zao => kit_is)
      (case yao => kit_is)
      (case Yao => kit_is)
      (case yX => kit_is)
      (case jao => kit_is)
      (case Jaw => kit_is)
      (case zaf => kit_is)
      (case ZaI => kit_is)
      (case Zcz => kit_is)
      (case Z6 => kit_is)
      (case Jao => kit_is)
      (case zap => kit_is)
      (case Zap => kit_is)
      (case YX => kit_is)
      (case yap => kit_is)
      (case zax => kit_is)
      (case Zaf => kit_is)
      (case yaI => kit_is)
      (case zbc => kit_is)
      (case yJ => kit_is)
      (case jX => kit_is)
      (case JX => kit_is)
      (case zY => kit_is)
      (case YH => kit_is)
      (case jY => kit_is)
      (case Y6 => kit_is)
      (case ZP => kit_is)
      (case yaf => kit_is)
      (case Jbu => kit_is)
      (case yP => kit_is)
      (case J6 => kit_is)
      (case Z7 => kit_is)
      (case Y7 => kit_is)
      (case YJ => kit_is)
      (case j7 => kit_is)
      (case Yaf => kit_is)
      (case zZ => kit_is)
      (case Yap => kit_is)
      (case ycz => kit_is)
      (case J7 => kit_is)
      (case jap => kit_is)
      (case Jap => kit_is)
      (case zaq => kit_is)
      (case ZZ => kit_is)
      (case Zaq => kit_is)
      (case Zax => kit_is)
      (case jaf => kit_is)
      (case YaI => kit_is)
      (case yee => kit_is)
      (case yaq => kit_is)
      (case jaI => kit_is)
      (case JaI => kit_is)
      (case zaJ => kit_is)
      (case Jaf => kit_is)
      (case ZaJ => kit_is)
      (case JaT => kit_is)
      (case yax => kit_is)
      (case Zbc => kit_is)
      (case hn0 => k_is)
      (case htk0 => k_is)
    subst e1
    exact ⟨A.zbr, hb, fun base _ _ => Lr.JgP T⟩
  case S =>
    intro K H xs a hO hwi hask hx
    cases hx with
    | cons h1 h2 =>
      cases h2
      cases h1 with
      | lst hs ha =>
        have e := L2.JgU a.1 _ ha
        subst e
        have q : ((Codec.inLen 0 4000 a.1 && a.1.all (Codec.inInt 0 4294967295)) && true) = true := hwi
        rw [Bool.and_eq_true, Bool.and_eq_true] at q
        exact ⟨_, a.1, rfl, hs, (Codec.inNat_iff.mp q.1.1).2, fun x hx => Codec.inInt_iff.mp (List.all_eq_true.mp q.1.2 x hx), hask, fun H' p hp => .lst (L2.SqL.of hp) (L2.jgU _)⟩
