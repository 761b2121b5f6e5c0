import PyProof.Rows.All
import Wide.All
import OpenK.AllK
import Wide.FinOn
import PyProof.EqAt
import PyProof.EqKinds
import PyProof.TupleCall
import KE.BitLaws
import Open.SpecLaws
import KE.OsHead
import KE.OsGo
import KE.KDictList
import KE.KDictSum
import PyFlatLaws
import KE.RegKIsAll
import PySem.Challenge.RW_landregister_s01_answers
set_option Elab.async false
set_option linter.all false
set_option maxRecDepth 100000
namespace L2
open PySem PySem.Spec PyProof.Rows
abbrev Key := Sum Int Str
def Jem : Key → Value → Bool
  | .inl k, v => Value.isInt k v
  | .inr x, v => Value.isStrOf x v
def JhL (w : World) : Key → Int
  | .inl k => hashInt k
  | .inr x => hashStr w x
theorem jal : ∀ {k : Key} {v : Value}, Jem k v = true → (∃ i t, k = Sum.inl i ∧ v = Value.int i t) ∨ (∃ x t, k = Sum.inr x ∧ v = Value.str x t)
  | .inl i, v, h => by
    obtain ⟨t, e⟩ := Value.isInt_shape (k := i) (v := v) h
    exact .inl ⟨i, t, rfl, e⟩
  | .inr x, v, h => by
    obtain ⟨t, e⟩ := Value.isStrOf_shape (x := x) (v := v) h
    exact .inr ⟨x, t, rfl, e⟩
theorem Zg1 (i : Int) (t : Tok) : Jem (.inl i) (.int i t) = true := by simp [Jem, Value.isInt]
theorem yg1 (x : Str) (t : Tok) : Jem (.inr x) (.str x t) = true := by simp [Jem, Value.isStrOf]
theorem Jhy (a b : Int) : decide ((Sum.inl a : Key) = Sum.inl b) = (a == b) := by
  by_cases e : a = b
  · subst e; simp
  · have h : ¬ (Sum.inl a : Key) = Sum.inl b := fun q => e (Sum.inl.inj q)
    rw [decide_eq_false h]
    exact (beq_eq_false_iff_ne.mpr e).symm
theorem zhz (a b : Str) : decide ((Sum.inr a : Key) = Sum.inr b) = decide (a = b) := by
  by_cases e : a = b
  · subst e; simp
  · have h : ¬ (Sum.inr a : Key) = Sum.inr b := fun q => e (Sum.inr.inj q)
    rw [decide_eq_false h, decide_eq_false e]
theorem Zhz (a : Int) (b : Str) : decide ((Sum.inl a : Key) = Sum.inr b) = false := decide_eq_false (fun q => nomatch q)
theorem yhz (a : Str) (b : Int) : decide ((Sum.inr a : Key) = Sum.inl b) = false := decide_eq_false (fun q => nomatch q)
def jN (prog : Program) (w : World) : PySem.KeyKind prog w Key where
  is := Jem
  hash := JhL w
  inj := fun v a b ha hb => by
    rcases jal ha with ⟨i, t, rfl, rfl⟩ | ⟨x, t, rfl, rfl⟩
    · rcases jal hb with ⟨j, u, rfl, e⟩ | ⟨y, u, rfl, e⟩
      · injection e with e1 _; rw [e1]
      · exact nomatch e
    · rcases jal hb with ⟨j, u, rfl, e⟩ | ⟨y, u, rfl, e⟩
      · exact nomatch e
      · injection e with e1 _; rw [e1]
  byValue := fun k v h => by
    rcases jal h with ⟨i, t, rfl, rfl⟩ | ⟨x, t, rfl, rfl⟩ <;> rfl
  pyHash := fun hv h => by
    rcases jal hv with ⟨i, t, rfl, rfl⟩ | ⟨x, t, rfl, rfl⟩
    · exact wpAny_pyHash_int h
    · exact wpAny_pyHash_str h
  eqBool := fun hu hv h => by
    rcases jal hu with ⟨i, t, rfl, rfl⟩ | ⟨x, t, rfl, rfl⟩
    · rcases jal hv with ⟨j, u, rfl, rfl⟩ | ⟨y, u, rfl, rfl⟩
      · rw [Jhy] at h; exact wpAny_eqBool_int h
      · rw [Zhz] at h; exact SeqAt.EqAt.int_str i t y u _ _ _ _ h
    · rcases jal hv with ⟨j, u, rfl, rfl⟩ | ⟨y, u, rfl, rfl⟩
      · rw [yhz] at h; exact SeqAt.EqAt.str_int x t j u _ _ _ _ h
      · rw [zhz] at h; exact wpAny_eqBool_str h
  «strs» := fun k x t v h => by
    rcases jal h with ⟨i, u, rfl, e⟩ | ⟨y, u, rfl, e⟩
    · exact nomatch e
    · injection e with e1 _
      subst e1
      cases v <;> rfl
theorem Zgu (prog : Program) (w : World) (i : Int) (t : Tok) : (jN prog w).is (.inl i) (.int i t) = true := Zg1 i t
theorem ygu (prog : Program) (w : World) (x : Str) (t : Tok) : (jN prog w).is (.inr x) (.str x t) = true := yg1 x t
end L2
namespace L2
open PySem PySem.Spec PyProof.Rows
inductive V where
  | non | bl (b : Bool) | int (i : Int) | str (x : Str) | byt (b : Array UInt8) | flt (b : UInt64) | ref (a : Addr) | ty (n : String)
  deriving DecidableEq
def RelV : V → Value → Prop
  | .non, u => u = Value.none
  | .bl b, u => u = Value.bool b
  | .int i, u => ∃ t, u = Value.int i t
  | .str x, u => ∃ t, u = Value.str x t
  | .byt b, u => ∃ t, u = Value.bytes b t
  | .flt b, u => ∃ t, u = Value.float b t
  | .ref a, u => u = Value.ref a
  | .ty n, u => u = Value.type n
abbrev Vals : List V → List Value → Prop := Paired RelV
theorem Vals.length {xs : List V} {us : List Value} (r : Vals xs us) : xs.length = us.length := Paired.length r
theorem Vals.get : ∀ {xs : List V} {us : List Value} {i : Nat} {x : V}, Vals xs us → xs[i]? = some x → ∃ u, us[i]? = some u ∧ RelV x u
  | _, _, _, _, .nil, e => by simp at e
  | _, _, 0, _, .cons r _, e => by simp at e; subst e; exact ⟨_, rfl, r⟩
  | _, _, i + 1, x, .cons _ t, e => by
    obtain ⟨u, h1, h2⟩ := Vals.get (i := i) (x := x) t (by simpa using e)
    exact ⟨u, by simpa using h1, h2⟩
theorem Vals.append : ∀ {xs ys : List V} {us ws : List Value}, Vals xs us → Vals ys ws → Vals (xs ++ ys) (us ++ ws)
  | _, _, _, _, .nil, s => s
  | _, _, _, _, .cons r t, s => .cons r (Vals.append t s)
theorem Vals.take : ∀ {xs : List V} {us : List Value} (n : Nat), Vals xs us → Vals (xs.take n) (us.take n)
  | _, _, 0, _ => .nil
  | _, _, _ + 1, .nil => .nil
  | _, _, n + 1, .cons r t => .cons r (Vals.take n t)
theorem Vals.drop : ∀ {xs : List V} {us : List Value} (n : Nat), Vals xs us → Vals (xs.drop n) (us.drop n)
  | _, _, 0, r => r
  | _, _, _ + 1, .nil => .nil
  | _, _, n + 1, .cons _ t => Vals.drop n t
def Zdn : Option V → Option Value → Prop
  | some v, some u => RelV v u
  | none, none => True
  | _, _ => False
def KV {κ : Type} : List (κ × V) → List (κ × Value) → Prop := Paired fun (p : κ × V) (q : κ × Value) => p.1 = q.1 ∧ RelV p.2 q.2
def kV : Key → V
  | .inl i => .int i
  | .inr x => .str x
inductive HO where
    | lst (xs : List V)
    | tup (xs : List V)
    | dK (kvs : List (Key × V)) | dT (kvs : List (List Key × V))
    | set (S : Int → Bool) (n : Nat)
    | ins (C dx : Addr) (fs : List (Str × V))
    | own (x : Addr)
    | xd (fs : List (Str × V))
    | met (f x : Addr)
    | rng (lo hi : Int)
    | frz (o : Obj) (u : HO)
    | tbl (ps : Array Value)
    | ext (φ : Heap → Prop)
abbrev Hp := Addr → Option HO
def upd (H : Hp) (a : Addr) (o : HO) : Hp := fun b => if b = a then some o else H b
theorem Ja {H : Hp} {a : Addr} {o : HO} : upd H a o a = some o := by unfold upd; rw [if_pos rfl]
theorem Zc {H : Hp} {a b : Addr} {o : HO} (h : b ≠ a) : upd H a o b = H b := by unfold upd; rw [if_neg h]
theorem Jai {H : Hp} {a : Addr} {o u : HO} : upd (upd H a o) a u = upd H a u := by
  funext b; unfold upd; split <;> rfl
theorem yaR {H : Hp} {a b : Addr} {o u : HO} (h : H a = some o) (h' : H b = some u) (d : o ≠ u) : a ≠ b := by
  intro e; subst e; rw [h] at h'; exact d (Option.some.inj h')
theorem yd {H : Hp} {a b : Addr} {o : HO} (h : H a = some o) (h' : H b = none) : a ≠ b := by
  intro e; subst e; rw [h] at h'; cases h'
section
variable (P : Program) (w : World)
def zP (H : Hp) (h : Heap) (a : Addr) : HO → Prop
  | .lst xs => xs.length ≤ sizeLine ∧ ∃ (its : List Value) (n : Nat), Vals xs its ∧ h.get? a = some { cls := .type "list", data := .seq its.toArray n }
  | .tup xs => xs.length ≤ sizeLine ∧ ∃ its : List Value, Vals xs its ∧ IsTup h a its.toArray
  | .dK kvs => kvs.length ≤ sizeLine ∧ (a == sysModules) = false ∧ ∃ vs, KV kvs vs ∧ h.DictOf (jN P w) a vs
  | .dT kvs => kvs.length ≤ sizeLine ∧ (a == sysModules) = false ∧ ∃ xs : List (List Key × Addr × Value),
      Paired (fun (p : List Key × V) (q : List Key × Addr × Value) => p.1 = q.1 ∧ H q.2.1 = some (.tup (p.1.map kV)) ∧ RelV p.2 q.2.2) kvs xs ∧
      ∃ o es ep, h.get? a = some o ∧ o.ExactDict ∧ o.data = .dict es ep ∧ es.toList = xs.map (entryOfKey (tupleKind (jN P w))) ∧ (xs.map (·.1)).Nodup
  | .set S n => h.SetOf (intKind P w) a S n
  | .ins C dx fs => H dx = some (.own a) ∧ fs.length ≤ 1000 ∧ dx ≠ a ∧ h.get? a = some (PySem.W.instObj C dx) ∧
      ∃ mA, h.Ns1 dx mA ∧ (∀ f, Zdn (fs.lookup f) (mA f)) ∧ PySem.Within mA (fs.map (·.1))
  | .own _ => ∃ o, h.get? a = some o
  | .xd fs => ∃ mA, h.Ns1 a mA ∧ ∀ f, Zdn (fs.lookup f) (mA f)
  | .rng lo hi => ∃ t u v, h.get? a = some { cls := .type "range", data := .fields #[.int lo t, .int hi u, .int 1 v] }
  | .frz o u => h.get? a = some o ∧ zP H h a u
  | .tbl ps => h.get? a = some { cls := .none, data := .fields ps }
  | .met f x => h.get? a = some (PySem.W.methodObj (.ref f) (.ref x))
  | .ext φ => φ h ∧ (∃ o, h.get? a = some o) ∧ ∀ h1 h2 : Heap, φ h1 → (∀ o, h1.get? a = some o → h2.get? a = some o) → φ h2
def HOk (H : Hp) (h : Heap) : Prop := ∀ a o, H a = some o → zP P w H h a o
end
section
variable {P : Program} {w : World} {H H' : Hp} {h h' : Heap} {a : Addr} {o : HO}
theorem zP.lt (x : zP P w H h a o) : a < h.objs.size := by
  cases o with
  | lst xs => obtain ⟨_, _, _, _, e⟩ := x; exact Heap.lt_size e
  | tup xs => obtain ⟨_, _, _, p⟩ := x; exact p.lt
  | dK kvs => obtain ⟨_, _, _, _, o, _, _, e, _⟩ := x; exact Heap.lt_size e
  | dT kvs => obtain ⟨_, _, _, _, o, _, _, e, _⟩ := x; exact Heap.lt_size e
  | set S n => obtain ⟨o, _, _, _, e, _⟩ := x; exact Heap.lt_size e
  | ins C dx fs => obtain ⟨_, _, _, e, _⟩ := x; exact Heap.lt_size e
  | own y => obtain ⟨_, e⟩ := x; exact Heap.lt_size e
  | xd fs => obtain ⟨_, ⟨_, _, _, e, _⟩, _⟩ := x; exact Heap.lt_size e
  | rng lo hi => obtain ⟨_, _, _, e⟩ := x; exact Heap.lt_size e
  | frz ob u => obtain ⟨e, _⟩ := x; exact Heap.lt_size e
  | tbl ps => exact Heap.lt_size (show h.get? a = some _ from x)
  | met f y => exact Heap.lt_size (show h.get? a = some _ from x)
  | ext φ => obtain ⟨_, ⟨_, e⟩, _⟩ := x; exact Heap.lt_size e
theorem Paired.Zej {α β : Type} {F G : α → β → Prop} : ∀ {l₁ : List α} {l₂ : List β}, Paired F l₁ l₂ → (∀ a b, F a b → G a b) → Paired G l₁ l₂
  | _, _, .nil, _ => .nil
  | _, _, .cons r t, f => .cons (f _ _ r) (Paired.Zej t f)
theorem zP.stay (x : zP P w H h a o) (k : ∀ b u, (b = a ∨ H b = some (.own a)) → h.get? b = some u → h'.get? b = some u)
    (ho : ∀ b, H b = some (.own a) → H' b = some (.own a)) (ht : ∀ b xs, H b = some (.tup xs) → H' b = some (.tup xs)) : zP P w H' h' a o := by
  induction o with
  | lst xs => obtain ⟨z, its, n, r, e⟩ := x; exact ⟨z, its, n, r, k _ _ (.inl rfl) e⟩
  | tup xs => obtain ⟨z, its, r, ob, e, c⟩ := x; exact ⟨z, its, r, ob, k _ _ (.inl rfl) e, c⟩
  | dK kvs => obtain ⟨z, y, vs, r, ob, es, ep, e, c⟩ := x; exact ⟨z, y, vs, r, ob, es, ep, k _ _ (.inl rfl) e, c⟩
  | dT kvs =>
    obtain ⟨z, y, xs, r, ob, es, ep, e, c⟩ := x
    exact ⟨z, y, xs, Paired.Zej r fun p q z => ⟨z.1, ht _ _ z.2.1, z.2.2⟩, ob, es, ep, k _ _ (.inl rfl) e, c⟩
  | set S n => obtain ⟨ob, es, ep, t, e, c⟩ := x; exact ⟨ob, es, ep, t, k _ _ (.inl rfl) e, c⟩
  | ins C dx fs =>
    obtain ⟨d, z, ne, e, mA, ⟨od, es, ep, e2, c⟩, r⟩ := x
    exact ⟨ho _ d, z, ne, k _ _ (.inl rfl) e, mA, ⟨od, es, ep, k _ _ (.inr d) e2, c⟩, r⟩
  | own y => obtain ⟨ob, e⟩ := x; exact ⟨ob, k _ _ (.inl rfl) e⟩
  | xd fs => obtain ⟨mA, ⟨od, es, ep, e, c⟩, r⟩ := x; exact ⟨mA, ⟨od, es, ep, k _ _ (.inl rfl) e, c⟩, r⟩
  | rng lo hi => obtain ⟨t, u, v, e⟩ := x; exact ⟨t, u, v, k _ _ (.inl rfl) e⟩
  | frz ob u ih => obtain ⟨e, q⟩ := x; exact ⟨k _ _ (.inl rfl) e, ih q⟩
  | tbl ps =>
    have e : h.get? a = some { cls := .none, data := .fields ps } := x
    show h'.get? a = some { cls := .none, data := .fields ps }
    exact k a _ (.inl rfl) e
  | met f y =>
    have e : h.get? a = some (PySem.W.methodObj (.ref f) (.ref y)) := x
    show h'.get? a = some (PySem.W.methodObj (.ref f) (.ref y))
    exact k a _ (.inl rfl) e
  | ext φ => obtain ⟨p, ⟨o, e⟩, st⟩ := x; exact ⟨st _ _ p fun o q => k _ _ (.inl rfl) q, ⟨o, k _ _ (.inl rfl) e⟩, st⟩
theorem HOk.lt (x : HOk P w H h) (e : H a = some o) : a < h.objs.size := (x a o e).lt
theorem HOk.fresh (x : HOk P w H h) (e : h.objs.size ≤ a) : H a = none := by
  cases q : H a with
  | none => rfl
  | some u => exact absurd (Nat.lt_of_lt_of_le (x.lt q) e) (Nat.lt_irrefl _)
theorem HOk.kept (x : HOk P w H h) (k : ∀ b u, h.get? b = some u → h'.get? b = some u) : HOk P w H h' := fun a o e =>
  (x a o e).stay (fun b u _ q => k b u q) (fun _ q => q) fun _ _ q => q
theorem HOk.laid (x : HOk P w H h) (k : ∀ b u, h.get? b = some u → h'.get? b = some u) (hp : h.objs.size ≤ a) (new : zP P w (upd H a o) h' a o) : HOk P w (upd H a o) h' := fun b u e => by
  have hn := x.fresh hp
  by_cases hb : b = a
  · subst hb; rw [Ja] at e; cases e; exact new
  · rw [Zc hb] at e
    exact (x b u e).stay (fun c v _ q => k c v q) (fun c q => by rw [Zc (yd q hn)]; exact q) fun c xs q => by rw [Zc (yd q hn)]; exact q
end
def Rd (H : Hp) (a : Addr) (u : HO) : Prop := H a = some u ∨ ∃ o, H a = some (.frz o u)
theorem Rd.ok {P : Program} {w : World} {H : Hp} {h : Heap} {a : Addr} {u : HO} (r : Rd H a u) (x : HOk P w H h) : zP P w H h a u := by
  rcases r with r | ⟨o, r⟩
  · exact x a u r
  · obtain ⟨_, q⟩ := x a _ r
    exact q
def Mut : Option HO → Prop
  | some (.lst _) => True
  | some (.dK _) => True
  | some (.dT _) => True
  | some (.set _ _) => True
  | some (.ins _ _ _) => True
  | some (.ext _) => True
  | _ => False
section
variable {P : Program} {w : World} {H : Hp} {h h' : Heap} {x e : Addr} {o' : HO}
theorem HOk.write (ok : HOk P w H h) (mu : Mut (H x)) (he : e = x ∨ H e = some (.own x)) (k : ∀ b u, b ≠ e → h.get? b = some u → h'.get? b = some u) (heo : ∃ u, h'.get? e = some u)
    (new : zP P w (upd H x o') h' x o') : HOk P w (upd H x o') h' := fun b u q => by
  have nown : ∀ c y, H c = some (.own y) → c ≠ x := fun c y r z => by subst z; rw [r] at mu; exact mu
  have ntup : ∀ c xs, H c = some (.tup xs) → c ≠ x := fun c xs r z => by subst z; rw [r] at mu; exact mu
  by_cases hb : b = x
  · subst hb; rw [Ja] at q; cases q; exact new
  · rw [Zc hb] at q
    by_cases hbe : b = e
    · have q' : H b = some (.own x) := by
        rcases he with z | z
        · exact absurd (hbe.trans z) hb
        · rw [hbe]; exact z
      rw [q] at q'; cases q'
      obtain ⟨v, hv⟩ := heo
      exact ⟨v, by rw [hbe]; exact hv⟩
    · refine (ok b u q).stay (fun c v hc r => k c v ?_ r) (fun c r => by rw [Zc (nown c b r)]; exact r) fun c xs r => by rw [Zc (ntup c xs r)]; exact r
      rcases hc with rfl | hc
      · exact hbe
      · rintro rfl
        rcases he with z | z
        · exact nown c b hc z
        · rw [hc] at z; cases z; exact hb rfl
end
structure Un (fs ex : List Addr) (H H' : Hp) (h h' : Heap) : Prop where
  keep : ∀ b o, h.get? b = some o → H b = none → b ∉ fs → b ∉ ex → h'.get? b = some o
  slot : ∀ b o, h.get? b = some o → H b = none → b ∈ fs → b ∉ ex → ∃ sl, h'.get? b = some { o with slots := sl }
  free : ∀ b o, h.get? b = some o → H b = none → b ∉ ex → H' b = none
  there : ∀ b o, h.get? b = some o → b ∉ ex → ∃ o', h'.get? b = some o'
  tups : ∀ b xs, H b = some (.tup xs) → H' b = some (.tup xs)
  frzs : ∀ b o u, H b = some (.frz o u) → H' b = some (.frz o u)
  tbls : ∀ b ps, H b = some (.tbl ps) → ∃ more, H' b = some (.tbl (ps ++ more))
section
variable {fs fs' ex ex' : List Addr} {H H1 H2 : Hp} {h h1 h2 h' : Heap} {a x e : Addr} {o : HO}
theorem Un.any (u : Un fs ex H H1 h h1) {b : Addr} {ob : Obj} (q : h.get? b = some ob) (n : H b = none) (hx : b ∉ ex) : ∃ sl, h1.get? b = some { ob with slots := sl } := by
  by_cases hb : b ∈ fs
  · exact u.slot b ob q n hb hx
  · exact ⟨ob.slots, u.keep b ob q n hb hx⟩
theorem Un.kept (k : ∀ b u, h.get? b = some u → h'.get? b = some u) : Un fs ex H H h h' :=
  ⟨fun b ob q _ _ _ => k b ob q, fun b ob q _ _ _ => ⟨ob.slots, k b ob q⟩, fun _ _ _ n _ => n, fun b ob q _ => ⟨ob, k b ob q⟩, fun _ _ q => q, fun _ _ _ q => q, fun _ ps q => ⟨#[], by rw [q]; simp⟩⟩
theorem Un.refl : Un fs ex H H h h := Un.kept fun _ _ q => q
theorem Un.laid (k : ∀ b u, h.get? b = some u → h'.get? b = some u) (hp : h.objs.size ≤ a) (hn : H a = none) : Un fs ex H (upd H a o) h h' where
  keep := fun b u q _ _ _ => k b u q
  slot := fun b u q _ _ _ => ⟨u.slots, k b u q⟩
  free := fun b u q n _ => by rw [Zc (Nat.ne_of_lt (Nat.lt_of_lt_of_le (Heap.lt_size q) hp))]; exact n
  there := fun b u q _ => ⟨u, k b u q⟩
  tups := fun b xs q => by rw [Zc (yd q hn)]; exact q
  frzs := fun b u xs q => by rw [Zc (yd q hn)]; exact q
  tbls := fun b ps q => ⟨#[], by rw [Zc (yd q hn), q]; simp⟩
theorem Un.write (mu : Mut (H x)) (he : e = x ∨ H e = some (.own x)) (k : ∀ b u, b ≠ e → h.get? b = some u → h'.get? b = some u) (heo : ∃ u, h'.get? e = some u) : Un fs ex H (upd H x o) h h' := by
  have hx : ∀ b, H b = none → b ≠ x := fun b n z => by subst z; rw [n] at mu; exact mu
  have hb : ∀ b, H b = none → b ≠ e := fun b n z => by
    subst z
    rcases he with r | r
    · exact hx b n r
    · rw [n] at r; cases r
  have hm : ∀ b u, H b = some u → ¬ Mut (some u) → b ≠ x := fun b u q nm z => by subst z; rw [q] at mu; exact nm mu
  refine ⟨fun b u q n _ _ => k b u (hb b n) q, fun b u q n _ _ => ⟨u.slots, k b u (hb b n) q⟩, fun b u q n _ => by rw [Zc (hx b n)]; exact n, fun b u q _ => ?_,
    fun b xs q => by rw [Zc (hm b _ q fun z => z)]; exact q, fun b u xs q => by rw [Zc (hm b _ q fun z => z)]; exact q, fun b ps q => ⟨#[], by rw [Zc (hm b _ q fun z => z), q]; simp⟩⟩
  by_cases hbe : b = e
  · subst hbe; exact heo
  · exact ⟨u, k b u hbe q⟩
end
def trk (h : Heap) (H : Hp) : List Addr := (List.range h.objs.size).filter fun a => (H a).isSome
def Yge (h : Heap) (H : Hp) : Heap := PySem.W.hideAll h (trk h H)
theorem Yg1 (h : Heap) (H : Hp) : (Yge h H).objs.size = h.objs.size := PySem.W.hideAll_size _ _
theorem Yha {h : Heap} {H : Hp} {b : Addr} {o : Obj} (e : h.get? b = some o) (n : H b = none) : (Yge h H).get? b = some o :=
  PySem.W.hideAll_get _ e fun hm => by
    have q : (H b).isSome = true := (List.mem_filter.mp hm).2
    rw [n] at q; simp at q
theorem Jho {h : Heap} {H : Hp} {b : Addr} {o : Obj} (e : (Yge h H).get? b = some o) : h.get? b = some o ∧ H b = none := by
  have e' : h.get? b = some o := PySem.W.of_hideAll (trk h H) e
  refine ⟨e', ?_⟩
  cases q : H b with
  | none => rfl
  | some x =>
    have hm : b ∈ trk h H := List.mem_filter.mpr ⟨List.mem_range.mpr (Heap.lt_size e'), by simp [q]⟩
    have z : (Yge h H).get? b = none := PySem.W.hideAll_none (trk h H) hm
    rw [z] at e; cases e
end L2
namespace L2
open PySem PySem.Spec PyProof.Rows
structure Mod (K : PySem.W.Frag) (mg : Str → Option Value) (base : Heap) : Prop where
  kin : K.In base
  glob : base.Ns mainGlobals mg
  blt : ∃ mb, base.Ns builtinsNs mb ∧ ∀ x : Str, x ≠ "__name__" → mb x = bootBuiltins x
  nolimit : base.NoLimit
structure Cx where
  prog : Program
  w : World
  K : PySem.W.Frag
  mg : Str → Option Value
  base : Heap
  A : Around
  N : List Str
  s_0 : Shared
  H_0 : Hp
  env : Env
  outer : List Env
  stack : List Env
  ex : List Addr
  fn : Str → Bool
  calm : Bool
  pn : List (Addr × Obj)
  xe : Value → Shared → Prop
def frs (l : List Env) : List Addr := l.filterMap (·.frame)
abbrev Cx.fs (X : Cx) : List Addr := frs X.outer
def Vis (sc : Scope) (x : Str) : Prop := sc.names.lookup x = some .local ∨ sc.names.lookup x = some .cell ∨ sc.names.lookup x = some .free
def Loc (sc : Scope) (x : Str) : Prop := sc.names.lookup x = some .local ∨ sc.names.lookup x = some .cell
def Look (env : Env) (h : Heap) (m : Str → Option Value) (x : Str) (u : Value) : Prop :=
  (env.kindOf x = some .local ∧ m x = some u) ∨ ((env.kindOf x = some .cell ∨ env.kindOf x = some .free) ∧ ∃ c, env.cells.lookup x = some c ∧ h.IsCell c (some u))
structure Cx.Ok (X : Cx) : Prop where
  mod : Mod X.K X.mg X.base
  kind : X.env.scope.kind = .function
  glob : X.env.globals = mainGlobals
  blt : X.env.builtins = builtinsNs
  above : X.s_0.heap.objs.size ≤ X.env.locals
  inj : ∀ x y c, X.env.cells.lookup x = some c → X.env.cells.lookup y = some c → x = y
  has : ∀ x, (X.env.kindOf x = some .cell ∨ X.env.kindOf x = some .free) → ∃ c, X.env.cells.lookup x = some c
  cab : ∀ x c, X.fn x = true → X.env.cells.lookup x = some c → X.s_0.heap.objs.size ≤ c
  hd : X.calm = true → X.A.handled = none
  frames : X.A.frames = some X.stack
  stk : X.stack = X.outer ∨ (X.stack = X.env :: X.outer ∧ X.env.frame = some X.env.locals)
  exf : ∀ b ∈ X.ex, b ≠ X.env.locals ∧ ∀ x c, X.env.cells.lookup x = some c → c ≠ b
  bs : ∀ b o, X.base.get? b = some o → X.s_0.heap.get? b = some o ∧ X.H_0 b = none
  bsz : X.base.objs.size ≤ X.s_0.heap.objs.size
  noex : ∀ b o, X.base.get? b = some o → b ∉ X.ex
  exfs : ∀ b ∈ X.ex, b ∉ X.fs
  zfp : X.s_0.heap.FunFrames X.base X.outer
  frf : ∀ b ∈ X.fs, X.H_0 b = none
structure Inv (X : Cx) (pins : List (Addr × Obj)) (σ : List (Option V)) (H : Hp) (s : Shared) : Prop where
  ok : X.Ok
  os : s.os = X.s_0.os
  bare : AllBare s.gens
  base : Un X.fs X.ex X.H_0 H X.s_0.heap s.heap
  loc : ∃ m, s.heap.Ns X.env.locals m ∧ ∀ (i : Nat) (x : Str) (v : V), X.N[i]? = some x → σ[i]? = some (some v) → Vis X.env.scope x → ∃ u, RelV v u ∧ Look X.env s.heap m x u
  cell : ∀ x c, X.env.cells.lookup x = some c → ∃ v, s.heap.IsCell c v
  free : H X.env.locals = none
  freeC : ∀ x c, X.env.cells.lookup x = some c → H c = none
  pin : ∀ p ∈ X.pn ++ pins, s.heap.get? p.1 = some p.2 ∧ H p.1 = none ∧ p.1 ≠ X.env.locals ∧ p.1 ∉ X.fs ∧ ∀ v, p.2.data ≠ .cell v
  hok : HOk X.prog X.w H s.heap
  len : σ.length = X.N.length
section
variable {X : Cx} {pins : List (Addr × Obj)} {σ : List (Option V)} {H H' : Hp} {s : Shared} {h' : Heap}
theorem Cx.Ok.zhM (ok : X.Ok) {b : Addr} {o : Obj} (e : X.base.get? b = some o) : b ∉ X.fs := fun hb => by
  have := (ok.zfp.mem hb).1
  rw [e] at this; cases this
theorem Inv.bs (I : Inv X pins σ H s) : ∀ b o, X.base.get? b = some o → s.heap.get? b = some o ∧ H b = none := fun b o e =>
  ⟨I.base.keep b o (I.ok.bs b o e).1 (I.ok.bs b o e).2 (I.ok.zhM e) (I.ok.noex b o e), I.base.free b o (I.ok.bs b o e).1 (I.ok.bs b o e).2 (I.ok.noex b o e)⟩
theorem Inv.bk (I : Inv X pins σ H s) : ∀ b o, X.base.get? b = some o → s.heap.get? b = some o := fun b o e => (I.bs b o e).1
theorem Inv.mod (I : Inv X pins σ H s) : Mod X.K X.mg X.base := I.ok.mod
theorem Inv.kIn (I : Inv X pins σ H s) : X.K.In s.heap := I.ok.mod.kin.keeps I.bk
theorem Inv.fr (I : Inv X pins σ H s) : ∃ m, Fr X.base X.env.locals s.heap m :=
  let ⟨m, hn, _⟩ := I.loc
  ⟨m, hn, I.bk, Nat.le_trans I.ok.bsz I.ok.above⟩
theorem Inv.lt (I : Inv X pins σ H s) : X.env.locals < s.heap.objs.size := let ⟨_, hn, _⟩ := I.loc; hn.lt
theorem Inv.sz (I : Inv X pins σ H s) : X.s_0.heap.objs.size ≤ s.heap.objs.size := Nat.le_trans I.ok.above (Nat.le_of_lt I.lt)
theorem Inv.ZhM (I : Inv X pins σ H s) {a : Addr} (h : s.heap.objs.size ≤ a) : a ∉ X.fs := fun hb => by
  obtain ⟨_, o, ho, _⟩ := I.ok.zfp.mem hb
  exact absurd (Nat.lt_of_lt_of_le (Heap.lt_size ho) (Nat.le_trans I.sz h)) (Nat.lt_irrefl _)
theorem Inv.cne (I : Inv X pins σ H s) : ∀ x c, X.env.cells.lookup x = some c → c ≠ X.env.locals := fun x c e z => by
  obtain ⟨v, o, ho, hd⟩ := I.cell x c e
  obtain ⟨m, ⟨o', es, ep, ho', hd', _⟩, _⟩ := I.loc
  rw [z, ho'] at ho; cases ho; rw [hd'] at hd; cases hd
theorem Inv.zfp (I : Inv X pins σ H s) : s.heap.FunFrames X.base X.outer := by
  have all : ∀ (l : List Env), (∀ b ∈ frs l, b ∈ X.fs) → X.s_0.heap.FunFrames X.base l → s.heap.FunFrames X.base l := by
    intro l
    induction l with
    | nil => intro _ _; trivial
    | cons env r ih =>
      intro hs hl
      obtain ⟨hk, ⟨L, o, hf, hn, ho, hd⟩, hr⟩ := hl
      have hL : L ∈ X.fs := hs L (by unfold frs; rw [List.filterMap_cons, hf]; exact List.mem_cons_self)
      obtain ⟨sl, e⟩ := I.base.slot L o ho (I.ok.frf L hL) hL fun z => I.ok.exfs L z hL
      exact ⟨hk, ⟨L, _, hf, hn, e, hd⟩, ih (fun b hb => hs b (by unfold frs; rw [List.filterMap_cons, hf]; exact List.mem_cons_of_mem _ hb)) hr⟩
  exact all X.outer (fun _ hb => hb) I.ok.zfp
theorem Inv.stack (I : Inv X pins σ H s) : s.heap.FunFrames X.base X.stack := by
  rcases I.ok.stk with e | ⟨e, hf⟩
  · rw [e]; exact I.zfp
  · rw [e]
    obtain ⟨m, hn, _⟩ := I.loc
    refine .cons (by rw [I.ok.kind]; decide) hf hn ?_ I.zfp
    exact Heap.get?_none_of_le (Nat.le_trans I.ok.bsz I.ok.above)
theorem Inv.JgJ (I : Inv X pins σ H s) : ∀ b ∈ frs X.stack, b ∈ X.env.locals :: X.fs := fun b hb => by
  rcases I.ok.stk with e | ⟨e, hf⟩
  · rw [e] at hb; exact List.mem_cons_of_mem _ hb
  · rw [e] at hb
    unfold frs at hb
    rw [List.filterMap_cons, hf] at hb
    exact hb
theorem Inv.zgT (I : Inv X pins σ H s) : ∀ b ∈ frs X.stack, H b = none := fun b hb => by
  rcases List.mem_cons.mp (I.JgJ b hb) with e | hb
  · rw [e]; exact I.free
  · obtain ⟨_, o, ho, _⟩ := I.ok.zfp.mem hb
    exact I.base.free b o ho (I.ok.frf b hb) fun z => I.ok.exfs b z hb
theorem Inv.step {g' : Array GenState} {t' : Nat} {d' : Drawn} {ch : List Addr} (I : Inv X pins σ H s)
    (hch : ∀ b ∈ ch, (b ∈ X.ex ∨ X.s_0.heap.objs.size ≤ b) ∧ b ≠ X.env.locals ∧ (∀ x c, X.env.cells.lookup x = some c → c ≠ b) ∧ ∀ p ∈ X.pn ++ pins, p.1 ≠ b)
    (keep : ∀ b o, b ≠ X.env.locals → b ∉ X.fs → b ∉ ch → s.heap.get? b = some o → H b = none → h'.get? b = some o)
    (slot : ∀ b o, b ≠ X.env.locals → b ∈ X.fs → b ∉ ch → s.heap.get? b = some o → H b = none → ∃ sl, h'.get? b = some { o with slots := sl }) (free : ∀ b o, b ∉ ch → s.heap.get? b = some o → H b = none → H' b = none)
    (there : ∀ b o, b ∉ ch → s.heap.get? b = some o → ∃ o', h'.get? b = some o')
    (tups : ∀ b xs, H b = some (.tup xs) → H' b = some (.tup xs)) (frzs : ∀ b o u, H b = some (.frz o u) → H' b = some (.frz o u)) (tbls : ∀ b ps, H b = some (.tbl ps) → ∃ more, H' b = some (.tbl (ps ++ more)))
    (ns : ∀ m, s.heap.Ns X.env.locals m → h'.Ns X.env.locals m) (hok : HOk X.prog X.w H' h') (hg : AllBare g') :
    Inv X pins σ H' { s with heap := h', gens := g', drawn := d', toks := t' } := by
  have neL : ∀ b o, X.s_0.heap.get? b = some o → b ≠ X.env.locals := fun b o e => Nat.ne_of_lt (Nat.lt_of_lt_of_le (Heap.lt_size e) I.ok.above)
  have neC : ∀ b o, X.s_0.heap.get? b = some o → b ∉ X.ex → b ∉ ch := fun b o e hx hb => by
    rcases (hch b hb).1 with z | z
    · exact hx z
    · exact absurd (Nat.lt_of_lt_of_le (Heap.lt_size e) z) (Nat.lt_irrefl _)
  have cellK : ∀ x c, X.env.cells.lookup x = some c → ∀ v, s.heap.IsCell c v → h'.IsCell c v := fun x c e v ⟨o, ho, hd⟩ => by
    have nch : c ∉ ch := fun z => (hch c z).2.2.1 x c e rfl
    by_cases hc : c ∈ X.fs
    · obtain ⟨sl, q⟩ := slot c o (I.cne x c e) hc nch ho (I.freeC x c e)
      exact ⟨_, q, hd⟩
    · exact ⟨o, keep c o (I.cne x c e) hc nch ho (I.freeC x c e), hd⟩
  refine ⟨I.ok, I.os, hg, ⟨fun b o e n hb hx => ?_, fun b o e n hb hx => ?_, fun b o e n hx => ?_, fun b o e hx => ?_, fun b xs e => tups b xs (I.base.tups b xs e), fun b o xs e => frzs b o xs (I.base.frzs b o xs e), fun b ps e => ?_⟩, ?_, fun x c e => ?_, ?_, fun x c e => ?_, fun p hp => ?_, hok, I.len⟩
  · exact keep b o (neL b o e) hb (neC b o e hx) (I.base.keep b o e n hb hx) (I.base.free b o e n hx)
  · obtain ⟨sl, e1⟩ := I.base.slot b o e n hb hx
    obtain ⟨sl', e2⟩ := slot b _ (neL b o e) hb (neC b o e hx) e1 (I.base.free b o e n hx)
    exact ⟨sl', e2⟩
  · obtain ⟨o', e1⟩ := I.base.there b o e hx
    exact free b o' (neC b o e hx) e1 (I.base.free b o e n hx)
  · obtain ⟨o', e1⟩ := I.base.there b o e hx
    exact there b o' (neC b o e hx) e1
  · obtain ⟨m1, e1⟩ := I.base.tbls b ps e
    obtain ⟨m2, e2⟩ := tbls b _ e1
    exact ⟨m1 ++ m2, by rw [e2, Array.append_assoc]⟩
  · obtain ⟨m, hn, hl⟩ := I.loc
    refine ⟨m, ns m hn, fun i x v e1 e2 e3 => ?_⟩
    obtain ⟨u, r, l⟩ := hl i x v e1 e2 e3
    refine ⟨u, r, ?_⟩
    rcases l with l | ⟨k, c, e, z⟩
    · exact .inl l
    · exact .inr ⟨k, c, e, cellK x c e _ z⟩
  · obtain ⟨v, z⟩ := I.cell x c e
    exact ⟨v, cellK x c e v z⟩
  · obtain ⟨m, ⟨o, _, _, ho, _⟩, _⟩ := I.loc
    exact free _ o (fun z => (hch _ z).2.1 rfl) ho I.free
  · obtain ⟨v, o, ho, hd⟩ := I.cell x c e
    exact free c o (fun z => (hch c z).2.2.1 x c e rfl) ho (I.freeC x c e)
  · obtain ⟨e, n, ne, nf, d⟩ := I.pin p hp
    have nch : p.1 ∉ ch := fun z => (hch p.1 z).2.2.2 p hp rfl
    exact ⟨keep p.1 p.2 ne nf nch e n, free p.1 p.2 nch e n, ne, nf, d⟩
theorem Inv.un {t' : Nat} (I : Inv X pins σ H s) (u : Un X.fs [] H H' s.heap h') (hok : HOk X.prog X.w H' h') : Inv X pins σ H' { s with heap := h', toks := t' } := by
  obtain ⟨m, ⟨o, es, ep, ho, r⟩, _⟩ := id I.loc
  obtain ⟨sl, hL⟩ := u.any ho I.free (by simp)
  exact I.step (g' := s.gens) (d' := s.drawn) (ch := []) (fun _ z => nomatch z) (fun b o _ hb _ e n => u.keep b o e n hb (by simp)) (fun b o _ hb _ e n => u.slot b o e n hb (by simp)) (fun b o _ e n => u.free b o e n (by simp)) (fun b o _ e => u.there b o e (by simp)) u.tups u.frzs u.tbls (fun m' hm => by
    obtain ⟨o', es', ep', ho', r'⟩ := hm
    rw [ho] at ho'; cases ho'
    exact ⟨_, es', ep', hL, r'⟩) hok I.bare
theorem Inv.call {g' : Array GenState} {t' : Nat} {d' : Drawn} {ch : List Addr} (I : Inv X pins σ H s) (u : Un (frs X.stack) ch H H' s.heap h') (hok : HOk X.prog X.w H' h') (hg : AllBare g')
    (hch : ∀ b ∈ ch, (b ∈ X.ex ∨ X.s_0.heap.objs.size ≤ b) ∧ b ≠ X.env.locals ∧ (∀ x c, X.env.cells.lookup x = some c → c ≠ b) ∧ ∀ p ∈ X.pn ++ pins, p.1 ≠ b) :
    Inv X pins σ H' { s with heap := h', gens := g', drawn := d', toks := t' } := by
  obtain ⟨m, ⟨o, es, ep, ho, r⟩, _⟩ := id I.loc
  obtain ⟨sl, hL⟩ := u.any ho I.free fun z => (hch _ z).2.1 rfl
  exact I.step (ch := ch) hch (fun b o hL hb hc e n => u.keep b o e n (fun z => (List.mem_cons.mp (I.JgJ b z)).elim hL hb) hc) (fun b o _ _ hc e n => u.any e n hc) (fun b o hc e n => u.free b o e n hc) (fun b o hc e => u.there b o e hc) u.tups u.frzs u.tbls (fun m' hm => by
    obtain ⟨o', es', ep', ho', r'⟩ := hm
    rw [ho] at ho'; cases ho'
    exact ⟨_, es', ep', hL, r'⟩) hok hg
theorem Inv.turned {t' : Nat} {it : Addr} (I : Inv X pins σ H s) (k : ∀ b o, b ≠ it → s.heap.get? b = some o → h'.get? b = some o) (hn : H it = none) (hL : it ≠ X.env.locals)
    (h1 : it ∈ X.ex ∨ X.s_0.heap.objs.size ≤ it) (h2 : ∀ x c, X.env.cells.lookup x = some c → c ≠ it) (h3 : ∀ p ∈ X.pn ++ pins, p.1 ≠ it) : Inv X pins σ H { s with heap := h', toks := t' } := by
  have nit : ∀ b u, H b = some u → b ≠ it := fun b u e z => by rw [z, hn] at e; cases e
  refine I.step (g' := s.gens) (d' := s.drawn) (ch := [it]) (fun b hb => ?_) (fun b o _ _ hc e _ => k b o (fun z => hc (by simp [z])) e) (fun b o _ _ hc e _ => ⟨o.slots, k b o (fun z => hc (by simp [z])) e⟩) (fun _ _ _ _ n => n)
    (fun b o hc e => ⟨o, k b o (fun z => hc (by simp [z])) e⟩) (fun _ _ e => e) (fun _ _ _ e => e) (fun b ps e => ⟨#[], by rw [e]; simp⟩) (fun m hm => ?_) (fun b u e => ?_) I.bare
  · have e : b = it := by simpa using hb
    subst e
    exact ⟨h1, hL, h2, h3⟩
  · obtain ⟨o, es, ep, ho, r⟩ := hm
    exact ⟨o, es, ep, k _ o (Ne.symm hL) ho, r⟩
  · refine (I.hok b u e).stay (fun c v hc q => k c v ?_ q) (fun _ q => q) fun _ _ q => q
    rcases hc with z | z
    · rw [z]; exact nit b u e
    · exact nit c _ z
theorem Inv.tok (I : Inv X pins σ H s) (t : Nat) : Inv X pins σ H { s with toks := t } := I.un (h' := s.heap) (t' := t) Un.refl I.hok
theorem Inv.kept {t' : Nat} (I : Inv X pins σ H s) (k : ∀ b u, s.heap.get? b = some u → h'.get? b = some u) : Inv X pins σ H { s with heap := h', toks := t' } := I.un (Un.kept k) (I.hok.kept k)
theorem Inv.laid {a : Addr} {o : HO} {t' : Nat} (I : Inv X pins σ H s) (k : ∀ b u, s.heap.get? b = some u → h'.get? b = some u) (hp : s.heap.objs.size ≤ a) (new : zP X.prog X.w (upd H a o) h' a o) :
    Inv X pins σ (upd H a o) { s with heap := h', toks := t' } := I.un (Un.laid k hp (I.hok.fresh hp)) (I.hok.laid k hp new)
theorem Inv.write {x e : Addr} {o : HO} {t' : Nat} (I : Inv X pins σ H s) (mu : Mut (H x)) (he : e = x ∨ H e = some (.own x)) (k : ∀ b u, b ≠ e → s.heap.get? b = some u → h'.get? b = some u) (heo : ∃ u, h'.get? e = some u)
    (new : zP X.prog X.w (upd H x o) h' x o) : Inv X pins σ (upd H x o) { s with heap := h', toks := t' } := I.un (Un.write mu he k heo) (I.hok.write mu he k heo new)
theorem Inv.weak {σ' : List (Option V)} (I : Inv X pins σ H s) (hl : σ'.length = σ.length) (w : ∀ (i : Nat) v, σ'[i]? = some (some v) → σ[i]? = some (some v)) : Inv X pins σ' H s :=
  ⟨I.ok, I.os, I.bare, I.base, let ⟨m, hn, hl'⟩ := I.loc; ⟨m, hn, fun i x v e1 e2 e3 => hl' i x v e1 (w i v e2) e3⟩, I.cell, I.free, I.freeC, I.pin, I.hok, hl.trans I.len⟩
theorem Inv.ZgT {pins' : List (Addr × Obj)} (I : Inv X pins σ H s) (h : ∀ p ∈ pins', s.heap.get? p.1 = some p.2 ∧ H p.1 = none ∧ p.1 ≠ X.env.locals ∧ p.1 ∉ X.fs ∧ ∀ v, p.2.data ≠ .cell v) : Inv X pins' σ H s :=
  ⟨I.ok, I.os, I.bare, I.base, I.loc, I.cell, I.free, I.freeC, fun p hp => (List.mem_append.mp hp).elim (fun z => I.pin p (List.mem_append_left _ z)) (h p), I.hok, I.len⟩
theorem Jfz {N : List Str} (hN : N.Nodup) {i j : Nat} {x : Str} (a : N[i]? = some x) (b : N[j]? = some x) : i = j := by
  obtain ⟨h1, e1⟩ := List.getElem?_eq_some_iff.mp a
  obtain ⟨h2, e2⟩ := List.getElem?_eq_some_iff.mp b
  exact (List.getElem_inj hN).mp (e1.trans e2.symm)
theorem yf3 {M : Model} {A : Around} {E : Value → Shared → Prop} {i : Nat} {x : Str} {v : V} {u : Value} {Q : Unit → Shared → Prop} (I : Inv X pins σ H s) (hN : X.N.Nodup) (hi : X.N[i]? = some x) (hx : Loc X.env.scope x) (r : RelV v u)
    (h : ∀ s', Inv X pins (σ.set i (some v)) H s' → (∃ a, Heap.SameBut a s.heap s'.heap ∧ (a = X.env.locals ∨ X.env.cells.lookup x = some a)) → Q () s') (hf : X.fn x = true ∨ X.env.scope.names.lookup x = some .local := by first | exact .inl rfl | exact .inr rfl | assumption) : wpAny M A (storeName X.env x u) Q E s := by
  obtain ⟨m, hn, hl⟩ := id I.loc
  have hcls : (X.env.scope.kind == .class || (X.env.scope.kind == .module && X.env.locals != X.env.globals)) = false := by rw [I.ok.kind]; rfl
  have hiσ : i < σ.length := by rw [I.len]; exact (List.getElem?_eq_some_iff.mp hi).1
  have cne := I.cne
  have tracked : ∀ {a : Addr} {h' : Heap}, (∃ o, s.heap.get? a = some o ∧ H a = none) → Heap.SameBut a s.heap h' → HOk X.prog X.w H h' := fun {a h'} ha hs b ob e => by
    obtain ⟨_, _, hfree⟩ := ha
    refine (I.hok b ob e).stay (fun c w' hc q => (hs.2 c ?_).trans q) (fun _ q => q) fun _ _ q => q
    rintro rfl
    rcases hc with rfl | hc
    · rw [hfree] at e; cases e
    · rw [hfree] at hc; cases hc
  rcases hx with hk | hk
  · refine wpAny_storeName_local hk hn (fun h' hn' hs => ?_) hcls
    obtain ⟨oL, _, _, hoL, _⟩ := id hn
    refine h _ ⟨I.ok, I.os, I.bare, ⟨fun b o e n hb hx => ?_, fun b o e n hb hx => ?_, I.base.free, fun b o e hx => ?_, I.base.tups, I.base.frzs, I.base.tbls⟩, ⟨_, hn', fun j y v' e1 e2 e3 => ?_⟩, fun y c e => ?_, I.free, I.freeC, fun p hp => ?_, tracked ⟨oL, hoL, I.free⟩ hs, by simpa using I.len⟩ ⟨_, hs, .inl rfl⟩
    · exact (hs.2 b (Nat.ne_of_lt (Nat.lt_of_lt_of_le (Heap.lt_size e) I.ok.above))).trans (I.base.keep b o e n hb hx)
    · obtain ⟨sl, e1⟩ := I.base.slot b o e n hb hx
      exact ⟨sl, (hs.2 b (Nat.ne_of_lt (Nat.lt_of_lt_of_le (Heap.lt_size e) I.ok.above))).trans e1⟩
    · obtain ⟨o', e1⟩ := I.base.there b o e hx
      exact ⟨o', (hs.2 b (Nat.ne_of_lt (Nat.lt_of_lt_of_le (Heap.lt_size e) I.ok.above))).trans e1⟩
    · by_cases hj : j = i
      · subst hj
        rw [hi] at e1; cases e1
        rw [List.getElem?_set_self hiσ] at e2
        cases e2
        exact ⟨u, r, .inl ⟨hk, by simp⟩⟩
      · rw [List.getElem?_set_ne (Ne.symm hj)] at e2
        obtain ⟨u', r', q⟩ := hl j y v' e1 e2 e3
        refine ⟨u', r', ?_⟩
        rcases q with ⟨k, e⟩ | ⟨k, c, e, z⟩
        · refine .inl ⟨k, ?_⟩
          have : y ≠ x := fun e => hj (Jfz hN e1 (e ▸ hi))
          simp [this, e]
        · exact .inr ⟨k, c, e, z.sameBut hs (cne y c e)⟩
    · obtain ⟨w', z⟩ := I.cell y c e
      exact ⟨w', z.sameBut hs (cne y c e)⟩
    · obtain ⟨e, n, ne, nf, d⟩ := I.pin p hp
      exact ⟨(hs.2 p.1 ne).trans e, n, ne, nf, d⟩
  · have hfn : X.fn x = true := by
      rcases hf with z | z
      · exact z
      · rw [z] at hk; cases hk
    obtain ⟨c, hc⟩ := I.ok.has x (.inl hk)
    obtain ⟨w', z⟩ := I.cell x c hc
    refine wpAny_storeName_cell I.ok.kind hk hc z (fun h' hc' hs => ?_)
    obtain ⟨oc, hoc, hocd⟩ := id z
    refine h { s with heap := h' } ⟨I.ok, I.os, I.bare, ⟨fun b o e n hb hx => ?_, fun b o e n hb hx => ?_, I.base.free, fun b o e hx => ?_, I.base.tups, I.base.frzs, I.base.tbls⟩, ⟨m, hn.sameBut hs (Ne.symm (cne x c hc)), fun j y v' e1 e2 e3 => ?_⟩, fun y c' e => ?_, I.free, I.freeC, fun p hp => ?_, tracked ⟨oc, hoc, I.freeC x c hc⟩ hs, by simpa using I.len⟩ ⟨c, hs, .inr hc⟩
    · exact (hs.2 b (Nat.ne_of_lt (Nat.lt_of_lt_of_le (Heap.lt_size e) (I.ok.cab x c hfn hc)))).trans (I.base.keep b o e n hb hx)
    · obtain ⟨sl, e1⟩ := I.base.slot b o e n hb hx
      exact ⟨sl, (hs.2 b (Nat.ne_of_lt (Nat.lt_of_lt_of_le (Heap.lt_size e) (I.ok.cab x c hfn hc)))).trans e1⟩
    · obtain ⟨o', e1⟩ := I.base.there b o e hx
      exact ⟨o', (hs.2 b (Nat.ne_of_lt (Nat.lt_of_lt_of_le (Heap.lt_size e) (I.ok.cab x c hfn hc)))).trans e1⟩
    · by_cases hj : j = i
      · subst hj
        rw [hi] at e1; cases e1
        rw [List.getElem?_set_self hiσ] at e2
        cases e2
        exact ⟨u, r, .inr ⟨.inl hk, c, hc, hc'⟩⟩
      · rw [List.getElem?_set_ne (Ne.symm hj)] at e2
        obtain ⟨u', r', q⟩ := hl j y v' e1 e2 e3
        refine ⟨u', r', ?_⟩
        rcases q with q | ⟨k, c', e, z'⟩
        · exact .inl q
        · refine .inr ⟨k, c', e, z'.sameBut hs ?_⟩
          rintro rfl
          exact hj (Jfz hN e1 (I.ok.inj _ _ _ e hc ▸ hi))
    · by_cases hcc : c' = c
      · subst hcc; exact ⟨_, hc'⟩
      · obtain ⟨w2, z2⟩ := I.cell y c' e
        exact ⟨w2, z2.sameBut hs hcc⟩
    · obtain ⟨e, n, ne, nf, d⟩ := I.pin p hp
      refine ⟨(hs.2 p.1 ?_).trans e, n, ne, nf, d⟩
      intro q
      rw [q, hoc] at e
      have q' : oc = p.2 := Option.some.inj e
      exact d w' (by rw [← q']; exact hocd)
theorem zfA {M : Model} {A : Around} {E : Value → Shared → Prop} {i : Nat} {x : Str} {v : V} {u : Value} {Q : Unit → Shared → Prop} (I : Inv X pins σ H s) (hN : X.N.Nodup) (hi : X.N[i]? = some x) (hx : Loc X.env.scope x) (r : RelV v u)
    (h : ∀ s', Inv X pins (σ.set i (some v)) H s' → Q () s') (hf : X.fn x = true ∨ X.env.scope.names.lookup x = some .local := by first | exact .inl rfl | exact .inr rfl | assumption) : wpAny M A (storeName X.env x u) Q E s :=
  yf3 I hN hi hx r (fun s' I' _ => h s' I') hf
theorem Inv.call' {s' : Shared} {ch : List Addr} (I : Inv X pins σ H s) (ho : s'.os = s.os) (u : Un (frs X.stack) ch H H' s.heap s'.heap) (hok : HOk X.prog X.w H' s'.heap) (hg : AllBare s'.gens)
    (hch : ∀ b ∈ ch, (b ∈ X.ex ∨ X.s_0.heap.objs.size ≤ b) ∧ b ≠ X.env.locals ∧ (∀ x c, X.env.cells.lookup x = some c → c ≠ b) ∧ ∀ p ∈ X.pn ++ pins, p.1 ≠ b) : Inv X pins σ H' s' := by
  obtain ⟨h', g', d', t', o'⟩ := s'
  have e : o' = s.os := ho
  subst e
  exact I.call (g' := g') (t' := t') (d' := d') u hok hg hch
end
abbrev XK := Value → Option Addr → Hp → Prop
abbrev St := List (Option V)
abbrev VK := V → Hp → Prop
abbrev TE := St → Hp → VK → Prop
abbrev TT := St → Hp → (Bool → Hp → Prop) → Prop
abbrev TA := St → Hp → (List V → Hp → Prop) → Prop
structure Ends where
  nx : St → Hp → Prop
  rt : VK
  bk : St → Hp → Prop := fun _ _ => False
  ct : St → Hp → Prop := fun _ _ => False
abbrev TS := Ends → St → Hp → Prop
def EP (X : Cx) (pins : List (Addr × Obj)) (σ : St) (Q : VK) (u : Value) (s' : Shared) : Prop := ∃ v H', Inv X pins σ H' s' ∧ RelV v u ∧ Q v H'
def TP (X : Cx) (pins : List (Addr × Obj)) (σ : St) (Q : Bool → Hp → Prop) (b : Bool) (s' : Shared) : Prop := ∃ H', Inv X pins σ H' s' ∧ Q b H'
def AP (X : Cx) (pins : List (Addr × Obj)) (σ : St) (Q : List V → Hp → Prop) (us : List Value) (s' : Shared) : Prop := ∃ vs H', Inv X pins σ H' s' ∧ Vals vs us ∧ Q vs H'
def SP (X : Cx) (pins : List (Addr × Obj)) (D : Ends) (f : Flow) (s' : Shared) : Prop :=
  match f with
  | .next => ∃ σ' H', Inv X pins σ' H' s' ∧ D.nx σ' H'
  | .brk => ∃ σ' H', Inv X pins σ' H' s' ∧ D.bk σ' H'
  | .cont => ∃ σ' H', Inv X pins σ' H' s' ∧ D.ct σ' H'
  | .ret u => ∃ v σ' H', Inv X pins σ' H' s' ∧ RelV v u ∧ D.rt v H'
def PE (X : Cx) (e : Expr) (t : TE) : Prop :=
  ∀ (pins : List (Addr × Obj)) (s : Shared) (σ : St) (H : Hp) (Q : VK), Inv X pins σ H s → t σ H Q → wpAny (model X.prog X.w) X.A (eval e X.env) (EP X pins σ Q) X.xe s
def PT (X : Cx) (e : Expr) (t : TT) : Prop :=
  ∀ (pins : List (Addr × Obj)) (s : Shared) (σ : St) (H : Hp) (Q : Bool → Hp → Prop), Inv X pins σ H s → t σ H Q → wpAny (model X.prog X.w) X.A (isTrue e X.env (eval e X.env)) (TP X pins σ Q) X.xe s
def PW (X : Cx) (e : Expr) (t : TT) : Prop :=
  ∀ (whole : Sem Value) (pins : List (Addr × Obj)) (s : Shared) (σ : St) (H : Hp) (Q : Bool → Hp → Prop), Inv X pins σ H s → t σ H Q → wpAny (model X.prog X.w) X.A (isTrue e X.env whole) (TP X pins σ Q) X.xe s
theorem PW.pt {X : Cx} {e : Expr} {t : TT} (h : PW X e t) : PT X e t := h _
def PA (X : Cx) (es : List Expr) (t : TA) : Prop :=
  ∀ (pos : Pos) (pins : List (Addr × Obj)) (s : Shared) (σ : St) (H : Hp) (Q : List V → Hp → Prop), Inv X pins σ H s → t σ H Q → wpAny (model X.prog X.w) X.A (spliced (backTo pos (starEach es X.env))) (AP X pins σ Q) X.xe s
def PS (X : Cx) (st : Stmt) (t : TS) : Prop :=
  ∀ (pins : List (Addr × Obj)) (s : Shared) (σ : St) (H : Hp) (D : Ends), Inv X pins σ H s → t D σ H → wpAny (model X.prog X.w) X.A (exec st X.env) (SP X pins D) X.xe s
def PSs (X : Cx) (st : List Stmt) (t : TS) : Prop :=
  ∀ (pins : List (Addr × Obj)) (s : Shared) (σ : St) (H : Hp) (D : Ends), Inv X pins σ H s → t D σ H → wpAny (model X.prog X.w) X.A (execs st X.env) (SP X pins D) X.xe s
theorem thn {α : Type} {t : Sem α} {Q Q' : α → Shared → Prop} {M : Model} {A : Around} {E : Value → Shared → Prop} {s : Shared} (h : wpAny M A t Q E s) (hQ : ∀ a s, Q a s → Q' a s) : wpAny M A t Q' E s := wpAny_mono h hQ fun _ _ x => x
end L2
namespace L2
open PySem PySem.Spec PyProof.Rows
section
variable {X : Cx}
theorem bin {a b : Expr} {ta tb : TE} (ha : PE X a ta) (hb : PE X b tb) {pins : List (Addr × Obj)} {s : Shared} {σ : St} {H : Hp} {R : V → V → Hp → Prop} (I : Inv X pins σ H s) (h : ta σ H fun x H1 => tb σ H1 fun y H2 => R x y H2)
    {α : Type} {Q : α → Shared → Prop} {f : Value → Value → Sem α}
    (hf : ∀ v u s2 x y H2, Inv X pins σ H2 s2 → RelV x v → RelV y u → R x y H2 → wpAny (model X.prog X.w) X.A (f v u) Q X.xe s2) :
    wpAny (model X.prog X.w) X.A (eval a X.env) (fun v s₁ => wpAny (model X.prog X.w) X.A (eval b X.env) (fun u s₂ => wpAny (model X.prog X.w) X.A (f v u) Q X.xe s₂) X.xe s₁) X.xe s := by
  refine thn (ha pins s σ H _ I h) fun v s1 ⟨x, H1, I1, r1, q1⟩ => ?_
  refine thn (hb pins s1 σ H1 _ I1 q1) fun u s2 ⟨y, H2, I2, r2, q2⟩ => ?_
  exact hf v u s2 x y H2 I2 r1 r2 q2
def jha (i : Nat) : TE := fun σ H Q => ∃ v, σ[i]? = some (some v) ∧ Q v H
def tC (v : V) : TE := fun _ H Q => Q v H
theorem Yhz {i : Nat} {x : Str} {pos : Pos} (hN : X.N[i]? = some x) (hv : Vis X.env.scope x) (hd : (x == ("__debug__" : Str)) = false := by decide) (hcd : (x == ("__classdict__" : Str)) = false := by decide) : PE X (.Name x pos) (jha i) := by
  intro pins s σ H Q I h
  obtain ⟨v, e, h⟩ := h
  obtain ⟨m, hn, hl⟩ := I.loc
  obtain ⟨u, r, l⟩ := hl i x v hN e hv
  have fin : EP X pins σ Q u s := ⟨v, H, I, r, h⟩
  rcases l with ⟨hk, hm⟩ | ⟨hk, c, hc, hcell⟩
  · exact wpAny_Name (wpAny_loadName_local I.ok.kind hk hn hm fin) hd
  · rcases hk with hk | hk
    · exact wpAny_Name (wpAny_loadName_cell I.ok.kind hk hc hcell fin) hd
    · exact wpAny_Name (wpAny_loadName_free I.ok.kind hk hc hcell fin hcd) hd
theorem je {i j pos} : PE X (.Constant (.int i) j pos) (tC (.int i)) := fun _ _ _ H _ I h => wpAny_Constant_int ⟨.int i, H, I.tok _, ⟨_, rfl⟩, h⟩
theorem ydO {b j pos} : PE X (.Constant (.bool b) j pos) (tC (.bl b)) := fun _ _ _ H _ I h => Constant_bool ⟨.bl b, H, I, rfl, h⟩
theorem Jha {j pos} : PE X (.Constant .none j pos) (tC .non) := fun _ _ _ H _ I h => Constant_none ⟨.non, H, I, rfl, h⟩
def Gl (X : Cx) (x : Str) : Prop := X.env.kindOf x = some .globalImplicit
theorem ZeH {E : Value → Shared → Prop} {pins : List (Addr × Obj)} {s : Shared} {σ : St} {H : Hp} {x : Str} {u : Value} {pos : Pos} {Q : Value → Shared → Prop} (I : Inv X pins σ H s) (hg : Gl X x) (hm : X.mg x = some u) (h : Q u s)
    (hd : (x == ("__debug__" : Str)) = false := by decide) : wpAny (model X.prog X.w) X.A (eval (.Name x pos) X.env) Q E s :=
  Calls.Name_function_global I.ok.kind hg (Calls.loadGlobal_global (by rw [I.ok.glob]; exact I.mod.glob.keeps I.bk) hm h) hd
theorem jge {E : Value → Shared → Prop} {pins : List (Addr × Obj)} {s : Shared} {σ : St} {H : Hp} {x : Str} {u : Value} {pos : Pos} {Q : Value → Shared → Prop} (I : Inv X pins σ H s) (hg : Gl X x) (hm : X.mg x = none) (hv : bootBuiltins x = some u) (h : Q u s)
    (hn : x ≠ "__name__" := by decide) (hd : (x == ("__debug__" : Str)) = false := by decide) : wpAny (model X.prog X.w) X.A (eval (.Name x pos) X.env) Q E s := by
  obtain ⟨mb, h1, h2⟩ := I.mod.blt
  exact Calls.Name_function_global I.ok.kind hg (Calls.loadGlobal_builtin (by rw [I.ok.glob]; exact I.mod.glob.keeps I.bk) hm (by rw [I.ok.blt]; exact h1.keeps I.bk) ((h2 x hn).trans hv) h) hd
theorem jg {x : Str} {v : V} {u : Value} {pos : Pos} (hg : Gl X x) (hm : X.mg x = some u) (r : RelV v u) (hd : (x == ("__debug__" : Str)) = false := by decide) : PE X (.Name x pos) (tC v) :=
  fun _ _ _ H _ I h => ZeH I hg hm ⟨v, H, I, r, h⟩ hd
variable {a b : Expr} {ta tb : TE} {pos : Pos}
def PC (X : Cx) (op : CmpOp) (a b : Expr) (t : TE) : Prop :=
  ∀ (pins : List (Addr × Obj)) (s : Shared) (σ : St) (H : Hp) (Q : VK), Inv X pins σ H s → t σ H Q →
    wpAny (model X.prog X.w) X.A (eval a X.env) (fun v s₁ => wpAny (model X.prog X.w) X.A (eval b X.env) (fun u s₂ => wpAny (model X.prog X.w) X.A (compareOp op v u) (EP X pins σ Q) X.xe s₂) X.xe s₁) X.xe s
def tB (t : TE) : TT := fun σ H Q => t σ H fun x H1 => ∃ c, x = .bl c ∧ Q c H1
theorem zgK {op : CmpOp} {t : TE} (h : PC X op a b t) (h1 : behindInMarks op b = false := by first | exact nobehind _ (by decide) (by decide) | rfl) : PE X (.Compare a [op] [b] pos) t := fun pins s σ H Q I hw => wpAny_Compare1 (h pins s σ H Q I hw) h1
theorem ye3 {op : CmpOp} {t : TE} (h : PC X op a b t) (h1 : behindInMarks op b = false := by first | exact nobehind _ (by decide) (by decide) | rfl) : PT X (.Compare a [op] [b] pos) (tB t) := by
  intro pins s σ H Q I hw
  refine wpAny_isTrue_Compare1 (thn (h pins s σ H _ I hw) fun v s1 h1 => thn h1 fun u s2 h2 => thn h2 fun c s3 ⟨x, H1, I1, r1, q1⟩ => ?_) h1
  obtain ⟨d, rfl, q⟩ := q1
  cases r1
  exact wpAny_truthy_bool ⟨H1, I1, q⟩
theorem Jby {e : Expr} {t : TE} (h : PE X e t) (he : ∀ whole, isTrue e X.env whole = (do let v ← whole; standAt e.pos; holding [v] (truthy v)) := by intro _; rfl) : PT X e (tB t) := by
  intro pins s σ H Q I hw
  refine isTrue_plain (thn (h pins s σ H _ I hw) fun v s1 ⟨x, H1, I1, r1, q1⟩ => ?_) (he _)
  obtain ⟨d, rfl, q⟩ := q1
  cases r1
  exact wpAny_truthy_bool ⟨H1, I1, q⟩
variable {tA tB' : TT} {rest : List Expr}
def jhE (t u : TT) : TT := fun σ H Q => t σ H fun c H1 => if c = true then u σ H1 Q else Q false H1
def tOr (t u : TT) : TT := fun σ H Q => t σ H fun c H1 => if c = true then Q true H1 else u σ H1 Q
def yhM (t : TT) : TT := fun σ H Q => t σ H fun c H1 => Q (!c) H1
theorem pw_and1 (ha : PT X a tA) : PW X (.BoolOp .And [a] pos) tA := by
  intro wh pins s σ H Q I h
  refine isTrue_and (thn (ha pins s σ H Q I h) fun c s1 e => ?_)
  cases c with
  | true => exact isTrue_and_nil e
  | false => exact e
theorem pw_or1 (ha : PT X a tA) : PW X (.BoolOp .Or [a] pos) tA := by
  intro wh pins s σ H Q I h
  refine isTrue_or (thn (ha pins s σ H Q I h) fun c s1 e => ?_)
  cases c with
  | false => exact isTrue_or_nil e
  | true => exact e
theorem pw_and (ha : PT X a tA) (hb : PW X (.BoolOp .And (b :: rest) pos) tB') : PW X (.BoolOp .And (a :: b :: rest) pos) (jhE tA tB') := by
  intro wh pins s σ H Q I h
  refine isTrue_and (thn (ha pins s σ H _ I h) fun c s1 ⟨H1, I1, q1⟩ => ?_)
  cases c with
  | true => exact hb wh pins s1 σ H1 Q I1 q1
  | false => exact ⟨H1, I1, q1⟩
theorem pw_or (ha : PT X a tA) (hb : PW X (.BoolOp .Or (b :: rest) pos) tB') : PW X (.BoolOp .Or (a :: b :: rest) pos) (tOr tA tB') := by
  intro wh pins s σ H Q I h
  refine isTrue_or (thn (ha pins s σ H _ I h) fun c s1 ⟨H1, I1, q1⟩ => ?_)
  cases c with
  | true => exact ⟨H1, I1, q1⟩
  | false => exact hb wh pins s1 σ H1 Q I1 q1
theorem ydn (ha : PT X a tA) : PT X (.UnaryOp .Not a pos) (yhM tA) := by
  intro pins s σ H Q I h
  exact isTrue_not (ha pins s σ H (fun c H1 => Q (!c) H1) I h)
def Yhw (ta tb : TE) : TE := fun σ H Q => ta σ H fun x H1 => ∃ c, x = .bl c ∧ if c = true then tb σ H1 Q else Q (.bl false) H1
def JhE (ta tb : TE) : TE := fun σ H Q => ta σ H fun x H1 => ∃ c, x = .bl c ∧ if c = true then Q (.bl true) H1 else tb σ H1 Q
def zhF (ta : TE) : TE := fun σ H Q => ta σ H fun x H1 => ∃ c, x = .bl c ∧ Q (.bl (!c)) H1
theorem Ydn {op} {t : TE} (h : PE X a t) : PE X (.BoolOp op [a] pos) t := fun pins s σ H Q I hw => BoolOp_one (h pins s σ H Q I hw)
theorem Zez (ha : PE X a ta) (hb : PE X (.BoolOp .And (b :: rest) pos) tb) : PE X (.BoolOp .And (a :: b :: rest) pos) (Yhw ta tb) := by
  intro pins s σ H Q I h
  refine BoolOp_and (thn (ha pins s σ H _ I h) fun v s1 ⟨x, H1, I1, r1, q1⟩ => ?_)
  obtain ⟨c, rfl, q1⟩ := q1
  cases r1
  refine wpAny_truthy_bool ?_
  cases c with
  | true => exact hb pins s1 σ H1 Q I1 q1
  | false => exact ⟨.bl false, H1, I1, rfl, q1⟩
theorem jhw (ha : PE X a ta) (hb : PE X (.BoolOp .Or (b :: rest) pos) tb) : PE X (.BoolOp .Or (a :: b :: rest) pos) (JhE ta tb) := by
  intro pins s σ H Q I h
  refine BoolOp_or (thn (ha pins s σ H _ I h) fun v s1 ⟨x, H1, I1, r1, q1⟩ => ?_)
  obtain ⟨c, rfl, q1⟩ := q1
  cases r1
  refine wpAny_truthy_bool ?_
  cases c with
  | false => exact hb pins s1 σ H1 Q I1 q1
  | true => exact ⟨.bl true, H1, I1, rfl, q1⟩
theorem jhz (ha : PE X a ta) : PE X (.UnaryOp .Not a pos) (zhF ta) := by
  intro pins s σ H Q I h
  refine UnaryOp_ (thn (ha pins s σ H _ I h) fun v s1 ⟨x, H1, I1, r1, q1⟩ => ?_)
  obtain ⟨c, rfl, q1⟩ := q1
  cases r1
  exact not_of (wpAny_truthy_bool ⟨.bl (!c), H1, I1, rfl, q1⟩)
def tIf (t : TT) (ta tb : TE) : TE := fun σ H Q => t σ H fun c H1 => if c = true then ta σ H1 Q else tb σ H1 Q
theorem yeH {c : Expr} (hc : PT X c tA) (ha : PE X a ta) (hb : PE X b tb) : PE X (.IfExp c a b pos) (tIf tA ta tb) := by
  intro pins s σ H Q I h
  refine wpAny_IfExp (thn (hc pins s σ H _ I h) fun d s1 ⟨H1, I1, q1⟩ => ?_)
  cases d with
  | true => exact ha pins s1 σ H1 Q I1 q1
  | false => exact hb pins s1 σ H1 Q I1 q1
end
end L2
namespace L2
open PySem PySem.Spec PyProof.Rows
def SqL (K : PySem.W.Frag) (H : Hp) (a : Addr) (xs : List V) : Prop :=
  Rd H a (.lst xs) ∨
    ∃ (o : Obj) (its : Array Value) (n : Nat), K.lookup a = some o ∧ o.cls = .type "list" ∧ o.dict = none ∧ o.data = .seq its n ∧ its.size ≤ sizeLine ∧ Vals xs its.toList
def SqT (K : PySem.W.Frag) (H : Hp) (a : Addr) (xs : List V) : Prop :=
  Rd H a (.tup xs) ∨
    ∃ (o : Obj) (its : Array Value) (n : Nat), K.lookup a = some o ∧ o.cls = .type "tuple" ∧ o.data = .seq its n ∧ its.size ≤ sizeLine ∧ Vals xs its.toList
def YhM : Value → Option V
  | .none => some .non
  | .bool b => some (.bl b)
  | .int i _ => some (.int i)
  | .str x _ => some (.str x)
  | .bytes b _ => some (.byt b)
  | .float b _ => some (.flt b)
  | .ref a => some (.ref a)
  | .type n => some (.ty n)
  | _ => none
theorem RelV.abs {x : V} {u : Value} (r : RelV x u) : YhM u = some x := by
  cases x with
  | non => cases r; rfl
  | bl _ => cases r; rfl
  | int _ => obtain ⟨t, rfl⟩ := r; rfl
  | str _ => obtain ⟨t, rfl⟩ := r; rfl
  | byt _ => obtain ⟨t, rfl⟩ := r; rfl
  | flt _ => obtain ⟨t, rfl⟩ := r; rfl
  | ref _ => cases r; rfl
  | ty _ => cases r; rfl
theorem RelV.inj {x y : V} {u : Value} (r : RelV x u) (q : RelV y u) : x = y := Option.some.inj (r.abs.symm.trans q.abs)
theorem Vals.inj : ∀ {xs ys : List V} {us : List Value}, Vals xs us → Vals ys us → xs = ys
  | _, _, _, .nil, .nil => rfl
  | _, _, _, .cons r t, .cons r' t' => by rw [r.inj r', Vals.inj t t']
section
variable {X : Cx} {pins : List (Addr × Obj)} {σ : St} {H : Hp} {s : Shared} {a : Addr} {xs ys : List V}
theorem SqL.of {K : PySem.W.Frag} (h : H a = some (.lst xs)) : SqL K H a xs := .inl (.inl h)
theorem SqT.of {K : PySem.W.Frag} (h : H a = some (.tup xs)) : SqT K H a xs := .inl (.inl h)
theorem Inv.list (I : Inv X pins σ H s) (h : SqL X.K H a xs) : ∃ its : List Value, Vals xs its ∧ PlainL s.heap a its.toArray ∧ xs.length ≤ sizeLine := by
  rcases h with h | ⟨o, its, n, hk, hc, hd, hs, hz, r⟩
  · obtain ⟨z, its, n, r, e⟩ := h.ok I.hok
    exact ⟨its, r, ⟨_, n, e, rfl, rfl, rfl⟩, z⟩
  · refine ⟨its.toList, r, ⟨o, n, I.kIn a o hk, hc, hd, by simpa using hs⟩, ?_⟩
    have e := r.length
    simp only [Array.length_toList] at e
    omega
theorem Inv.tuple (I : Inv X pins σ H s) (h : SqT X.K H a xs) : ∃ its : List Value, Vals xs its ∧ IsTup s.heap a its.toArray ∧ xs.length ≤ sizeLine := by
  rcases h with h | ⟨o, its, n, hk, hc, hs, hz, r⟩
  · obtain ⟨z, its, r, p⟩ := h.ok I.hok
    exact ⟨its, r, p, z⟩
  · refine ⟨its.toList, r, ⟨o, I.kIn a o hk, hc, n, by simpa using hs⟩, ?_⟩
    have e := r.length
    simp only [Array.length_toList] at e
    omega
theorem Inv.Ygu (I : Inv X pins σ H s) (h : SqL X.K H a xs) (h' : SqL X.K H a ys) : xs = ys := by
  obtain ⟨its, r, ⟨o, n, e, _, _, d⟩, _⟩ := I.list h
  obtain ⟨its', r', ⟨o', n', e', _, _, d'⟩, _⟩ := I.list h'
  rw [e] at e'; cases e'
  rw [d] at d'
  injection d' with d1 _
  have : its = its' := by simpa using congrArg Array.toList d1
  subst this
  exact r.inj r'
end
abbrev Cx.wish (X : Cx) (E : Value → Shared → Prop) : Cx := { X with xe := E }
abbrev Cx.nox (X : Cx) : Cx := X.wish fun _ _ => False
theorem Cx.Ok.wish {X : Cx} (ok : X.Ok) (E : Value → Shared → Prop) : (X.wish E).Ok :=
  ⟨ok.mod, ok.kind, ok.glob, ok.blt, ok.above, ok.inj, ok.has, ok.cab, ok.hd, ok.frames, ok.stk, ok.exf, ok.bs, ok.bsz, ok.noex, ok.exfs, ok.zfp, ok.frf⟩
theorem Cx.Ok.YdO {X : Cx} {E : Value → Shared → Prop} (ok : (X.wish E).Ok) : X.Ok :=
  ⟨ok.mod, ok.kind, ok.glob, ok.blt, ok.above, ok.inj, ok.has, ok.cab, ok.hd, ok.frames, ok.stk, ok.exf, ok.bs, ok.bsz, ok.noex, ok.exfs, ok.zfp, ok.frf⟩
section
variable {X : Cx} {pins : List (Addr × Obj)} {σ : St} {H : Hp} {s : Shared} {E : Value → Shared → Prop}
theorem Inv.wish (I : Inv X pins σ H s) (E : Value → Shared → Prop) : Inv (X.wish E) pins σ H s := ⟨I.ok.wish E, I.os, I.bare, I.base, I.loc, I.cell, I.free, I.freeC, I.pin, I.hok, I.len⟩
theorem Inv.YdO (I : Inv (X.wish E) pins σ H s) : Inv X pins σ H s := ⟨I.ok.YdO, I.os, I.bare, I.base, I.loc, I.cell, I.free, I.freeC, I.pin, I.hok, I.len⟩
theorem SP.YdO {D : Ends} {f : Flow} {s' : Shared} (h : SP (X.wish E) pins D f s') : SP X pins D f s' := by
  cases f with
  | next => obtain ⟨σ', H', I, q⟩ := h; exact ⟨σ', H', I.YdO, q⟩
  | brk => obtain ⟨σ', H', I, q⟩ := h; exact ⟨σ', H', I.YdO, q⟩
  | cont => obtain ⟨σ', H', I, q⟩ := h; exact ⟨σ', H', I.YdO, q⟩
  | ret u => obtain ⟨v, σ', H', I, r, q⟩ := h; exact ⟨v, σ', H', I.YdO, r, q⟩
theorem PSs.nox {st : List Stmt} {t : TS} (h : PSs X.nox st t) : PSs X st t := fun pins s σ H D I hw =>
  wpAny_mono (h pins s σ H D (I.wish _) hw) (fun _ _ q => q.YdO) fun _ _ z => False.elim z
end
section
variable {X : Cx} {st : Stmt} {rest : List Stmt} {t u : TS} {e : Expr} {te : TE} {pos : Pos}
def ygT : TS := fun D σ H => D.nx σ H
def ZhF (t u : TS) : TS := fun D σ H => t { D with nx := u D } σ H
theorem Zo : PSs X [] ygT := fun _ _ σ H _ I h => wpAny_execs_nil ⟨σ, H, I, h⟩
theorem Yc (h1 : PS X st t) (h2 : PSs X rest u) : PSs X (st :: rest) (ZhF t u) := by
  intro pins s σ H D I h
  refine wpAny_execs_cons (thn (h1 pins s σ H { D with nx := u D } I h) fun f s1 q => ?_)
  cases f with
  | next =>
    obtain ⟨σ', H', I', q⟩ := q
    exact h2 pins s1 σ' H' D I' q
  | ret v => exact q
  | brk => exact q
  | cont => exact q
theorem jb (h1 : PS X st t) : PSs X [st] t := by
  intro pins s σ H D I h
  refine wpAny_execs_cons (thn (h1 pins s σ H D I h) fun f s1 q => ?_)
  cases f with
  | next => exact wpAny_execs_nil q
  | ret v => exact q
  | brk => exact q
  | cont => exact q
theorem Jge : PS X (.Pass pos) ygT := fun _ _ σ H _ I h => wpAny_Pass ⟨σ, H, I, h⟩
theorem Inv.quiet {pins : List (Addr × Obj)} {σ : St} {H : Hp} {s : Shared} (I : Inv X pins σ H s) : interactive X.env = false := by simp [interactive, I.ok.kind]
def yhF (te : TE) : TS := fun D σ H => te σ H fun _ H1 => D.nx σ H1
theorem jD (he : PE X e te) (hs : swapsWith e none pos.line X.env = pure false := by rfl) : PS X (.Expr e pos) (yhF te) := by
  intro pins s σ H D I h
  exact wpAny_Expr_any (thn (he pins s σ H _ I h) fun v s1 ⟨x, H1, I1, r1, q1⟩ => ⟨σ, H1, I1, q1⟩) I.quiet hs
def YhF (te : TE) : TS := fun D σ H => te σ H D.rt
theorem yf (he : PE X e te) : PS X (.Return (some e) pos) (YhF te) := by
  intro pins s σ H D I h
  exact wpAny_Return_some (thn (he pins s σ H _ I h) fun v s1 ⟨x, H1, I1, r1, q1⟩ => ⟨x, σ, H1, I1, r1, q1⟩)
def jhF (c : TT) (t u : TS) : TS := fun D σ H => c σ H fun b H1 => if b = true then t D σ H1 else u D σ H1
theorem yO {c : Expr} {a b : List Stmt} {tc : TT} (hc : PT X c tc) (ha : PSs X a t) (hb : PSs X b u) : PS X (.If c a b pos) (jhF tc t u) := by
  intro pins s σ H D I h
  refine wpAny_If (thn (hc pins s σ H _ I h) fun d s1 ⟨H1, I1, q1⟩ => ?_)
  cases d with
  | true => exact ha pins s1 σ H1 D I1 q1
  | false => exact hb pins s1 σ H1 D I1 q1
end
abbrev TG := V → St → Hp → (St → Hp → Prop) → Prop
abbrev TGs := List V → St → Hp → (St → Hp → Prop) → Prop
def PG (X : Cx) (target : Expr) (t : TG) : Prop :=
  ∀ (pins : List (Addr × Obj)) (s : Shared) (σ : St) (H : Hp) (v : V) (u : Value) (Q : St → Hp → Prop), Inv X pins σ H s → RelV v u → t v σ H Q →
    wpAny (model X.prog X.w) X.A (assign target X.env u) (fun _ s' => ∃ σ' H', Inv X pins σ' H' s' ∧ Q σ' H') X.xe s
def PGs (X : Cx) (ts : List Expr) (t : TGs) : Prop :=
  ∀ (pins : List (Addr × Obj)) (s : Shared) (σ : St) (H : Hp) (vs : List V) (us : List Value) (Q : St → Hp → Prop), Inv X pins σ H s → Vals vs us → t vs σ H Q →
    wpAny (model X.prog X.w) X.A (assignInOrder ((assignEach ts X.env).map (·.2)) us) (fun _ s' => ∃ σ' H', Inv X pins σ' H' s' ∧ Q σ' H') X.xe s
abbrev TIp := V → V → Hp → VK → Prop
def PIp (X : Cx) (op : Operator) (t : TIp) : Prop :=
  ∀ (pins : List (Addr × Obj)) (s : Shared) (σ : St) (H : Hp) (x y : V) (v u : Value) (Q : VK), Inv X pins σ H s → RelV x v → RelV y u → t x y H Q →
    wpAny (model X.prog X.w) X.A (inplaceOp op v u) (EP X pins σ Q) X.xe s
section
variable {X : Cx} {pos : Pos}
def Yf3 (i : Nat) : TG := fun v σ H Q => Q (σ.set i (some v)) H
theorem zaj {i : Nat} {x : Str} (hN : X.N.Nodup) (hi : X.N[i]? = some x) (hx : Loc X.env.scope x) (hf : X.fn x = true ∨ X.env.scope.names.lookup x = some .local := by first | exact .inl rfl | exact .inr rfl | assumption) : PG X (.Name x pos) (Yf3 i) := by
  intro pins s σ H v u Q I r h
  exact wpAny_assign_Name (zfA I hN hi hx r (fun s' I' => ⟨_, H, I', h⟩) hf)
def jhM : TGs := fun vs σ H Q => vs = [] ∧ Q σ H
def JhF (t : TG) (u : TGs) : TGs := fun vs σ H Q => ∃ v r, vs = v :: r ∧ t v σ H fun σ' H' => u r σ' H' Q
theorem YgT : PGs X [] jhM := by
  intro pins s σ H vs us Q I r h
  obtain ⟨e, h⟩ := h
  subst e
  cases r
  exact assignInOrder_nil ⟨σ, H, I, h⟩
theorem YeH {e : Expr} {es : List Expr} {t : TG} {u : TGs} (h1 : PG X e t) (h2 : PGs X es u)
    (hs : (assignEach (e :: es) X.env).map (·.2) = assign e X.env :: (assignEach es X.env).map (·.2) := by rfl) : PGs X (e :: es) (JhF t u) := by
  intro pins s σ H vs us Q I r h
  obtain ⟨v, vr, e1, h⟩ := h
  subst e1
  cases r with
  | cons r rr =>
    rw [hs]
    refine assignInOrder_cons (thn (h1 pins s σ H _ _ _ I r h) fun _ s1 ⟨σ1, H1, I1, q1⟩ => ?_)
    exact h2 pins s1 σ1 H1 _ _ Q I1 rr q1
def JhM (K : PySem.W.Frag) (n : Nat) (t : TGs) : TG := fun v σ H Q => ∃ a xs, v = .ref a ∧ SqT K H a xs ∧ xs.length = n ∧ t xs σ H Q
theorem zhb {es : List Expr} {k : Nat} {t : TGs} {n : Nat} (hc : X.calm = true) (h : PGs X es t)
    (hn : (assignEach es X.env).length = n := by rfl) (hst : (assignEach es X.env).findIdx? (·.1) = none := by rfl) : PG X (.Tuple es k pos) (JhM X.K n t) := by
  intro pins s σ H v u Q I r hw
  obtain ⟨a, xs, e1, hq, hl, hw⟩ := hw
  subst e1
  cases r
  obtain ⟨its, rv, ht, hz⟩ := I.tuple hq
  refine assign_Tuple_tuple (I.ok.hd hc) ht (by simp [hn, ← hl, rv.length]) hst fun h' hx => ?_
  have I1 : Inv X pins σ H { s with heap := h' } := I.kept (t' := s.toks) fun b o e => hx b o (Nat.ne_of_lt (Heap.lt_size e)) e
  exact h pins _ σ H xs _ Q I1 (by simpa using rv) hw
def zhG (te : TE) (g : TG) : TS := fun D σ H => te σ H fun x H1 => g x σ H1 D.nx
theorem zac {i : Nat} {x : Str} {e : Expr} {te : TE} {pos' : Pos} (hN : X.N.Nodup) (hi : X.N[i]? = some x) (hx : Loc X.env.scope x) (he : PE X e te) (hs : swapsWith e (some (.Name x pos')) pos.line X.env = pure false := by rfl) (hf : X.fn x = true ∨ X.env.scope.names.lookup x = some .local := by first | exact .inl rfl | exact .inr rfl | assumption) :
    PS X (.Assign [.Name x pos'] e pos) (zhG te (Yf3 i)) := by
  intro pins s σ H D I h
  refine wpAny_Assign_Name (thn (he pins s σ H _ I h) fun v s1 ⟨y, H1, I1, r1, q1⟩ => ?_) hs
  exact zfA I1 hN hi hx r1 (fun s2 I2 => ⟨_, H1, I2, q1⟩) hf
def zhN (i : Nat) (te : TE) (ti : TIp) : TS := fun D σ H => ∃ x, σ[i]? = some (some x) ∧ te σ H fun y H1 => ti x y H1 fun z H2 => D.nx (σ.set i (some z)) H2
theorem Zhb {i : Nat} {x : Str} {e : Expr} {te : TE} {op : Operator} {ti : TIp} {pos' : Pos} (hN : X.N.Nodup) (hi : X.N[i]? = some x) (hx : Loc X.env.scope x) (he : PE X e te) (ho : PIp X op ti) (hf : X.fn x = true ∨ X.env.scope.names.lookup x = some .local := by first | exact .inl rfl | exact .inr rfl | assumption) :
    PS X (.AugAssign (.Name x pos') op e pos) (zhN i te ti) := by
  intro pins s σ H D I h
  obtain ⟨v, e1, h⟩ := h
  obtain ⟨m, hn, hl⟩ := I.loc
  have vis : Vis X.env.scope x := by rcases hx with k | k; exact .inl k; exact .inr (.inl k)
  obtain ⟨u, r, l⟩ := hl i x v hi e1 vis
  refine wpAny_AugAssign_Name ?_
  have go : wpAny (model X.prog X.w) X.A (eval e X.env) (fun w s₂ => wpAny (model X.prog X.w) X.A (inplaceOp op u w) (fun r s₃ => wpAny (model X.prog X.w) X.A (storeName X.env x r) (fun _ => SP X pins D .next) X.xe s₃) X.xe s₂) X.xe s := by
    refine thn (he pins s σ H _ I h) fun w s1 ⟨y, H1, I1, r1, q1⟩ => ?_
    refine thn (ho pins s1 σ H1 v y u w _ I1 r r1 q1) fun z s2 ⟨zv, H2, I2, r2, q2⟩ => ?_
    exact zfA I2 hN hi hx r2 (fun s3 I3 => ⟨_, H2, I3, q2⟩) hf
  rcases l with ⟨hk, hm⟩ | ⟨hk, c, hc, hcell⟩
  · exact wpAny_loadName_local I.ok.kind hk hn hm go
  · rcases hk with hk | hk
    · exact wpAny_loadName_cell I.ok.kind hk hc hcell go
    · rcases hx with k | k
      · have : X.env.scope.names.lookup x = some .free := hk
        rw [k] at this; cases this
      · have : X.env.scope.names.lookup x = some .free := hk
        rw [k] at this; cases this
def ipI (f : Int → Int → Int) : TIp := fun x y H Q => ∃ i j, x = .int i ∧ y = .int j ∧ Q (.int (f i j)) H
theorem yhb : PIp X .Sub (ipI fun i j => i - j) := by
  intro pins s σ H x y v u Q I r1 r2 h
  obtain ⟨i, j, e1, e2, q⟩ := h
  subst e1; subst e2
  obtain ⟨t, rfl⟩ := r1
  obtain ⟨t', rfl⟩ := r2
  exact isub_int ⟨.int _, H, I.tok _, ⟨_, rfl⟩, q⟩
end
section
variable {X : Cx} {pos : Pos}
def Yhb (c : TT) (tb : TS) : TS := fun D σ H => ∃ W : Nat → St → Hp → Prop, (∃ m, W m σ H) ∧ ∀ m σ H, W m σ H →
  c σ H fun b H1 => if b = true then ∃ N : St → Hp → Prop, (∀ σ' H', N σ' H' → ∃ m', m' < m ∧ W m' σ' H') ∧ tb { D with nx := N, ct := N, bk := D.nx } σ H1 else D.nx σ H1
theorem jhb {c : Expr} {body : List Stmt} {tc : TT} {tb : TS} (hp : PassesOwn (model X.prog X.w) X.A X.env X.xe) (hc : PT X c tc) (hb : PSs X body tb) : PS X (.While c body [] pos) (Yhb tc tb) := by
  intro pins s σ H D I h
  obtain ⟨W, ⟨m0, w0⟩, turn⟩ := h
  refine wpAny_While (codeAny_whileLoop (fun n s' => ∃ σ' H', Inv X pins σ' H' s' ∧ W n σ' H') ?_ m0 ⟨σ, H, I, w0⟩)
  rintro n s1 ⟨σ1, H1, I1, w1⟩
  refine wpAny_passesOwn hp (thn (hc pins s1 σ1 H1 _ I1 (turn n σ1 H1 w1)) fun b s2 ⟨H2, I2, q2⟩ => ?_)
  cases b with
  | true =>
    obtain ⟨N, hN, q2⟩ := q2
    rw [if_pos rfl]
    refine wpAny_passesOwn hp (thn (hb pins s2 σ1 H2 _ I2 q2) fun f s3 q3 => ?_)
    cases f with
    | next =>
      obtain ⟨σ3, H3, I3, n3⟩ := q3
      obtain ⟨m', hm, w3⟩ := hN σ3 H3 n3
      exact ⟨m', hm, σ3, H3, I3, w3⟩
    | cont =>
      obtain ⟨σ3, H3, I3, n3⟩ := q3
      obtain ⟨m', hm, w3⟩ := hN σ3 H3 n3
      exact ⟨m', hm, σ3, H3, I3, w3⟩
    | brk => exact q3
    | ret v => exact q3
  | false =>
    rw [if_neg Bool.false_ne_true]
    exact wpAny_execs_nil ⟨σ1, H2, I2, q2⟩
end
structure It where
  go : Nat → Hp → Prop
  yld : Nat → Hp → V → Hp → Prop
  stop : Nat → Hp → Prop
def ZfA (X : Cx) (pins : List (Addr × Obj)) (H : Hp) (b : Addr) : Prop :=
  H b = none ∧ b ≠ X.env.locals ∧ b ∉ X.fs ∧ (b ∈ X.ex ∨ X.s_0.heap.objs.size ≤ b) ∧ (∀ x c, X.env.cells.lookup x = some c → c ≠ b) ∧ ∀ p ∈ X.pn ++ pins, p.1 ≠ b
theorem Inv.zhp {X : Cx} {pins : List (Addr × Obj)} {σ : St} {H H' : Hp} {s : Shared} {b : Addr} (I : Inv X pins σ H s) (hb : s.heap.objs.size ≤ b) (hn : H' b = none) : ZfA X pins H' b := by
  refine ⟨hn, Nat.ne_of_gt (Nat.lt_of_lt_of_le I.lt hb), I.ZhM hb, .inr (Nat.le_trans I.sz hb), fun x c e z => ?_, fun p hp z => ?_⟩
  · obtain ⟨v, q⟩ := I.cell x c e
    exact absurd (Nat.lt_of_lt_of_le q.lt (by rw [z]; exact hb)) (Nat.lt_irrefl _)
  · exact absurd (Nat.lt_of_lt_of_le (Heap.lt_size (I.pin p hp).1) (by rw [z]; exact hb)) (Nat.lt_irrefl _)
structure Turn (P : Program) (w : World) (K : PySem.W.Frag) (tg : Expr) (J : It) (fp : List Addr) (it : Addr) (tn : Nat → Heap → Prop) : Prop where
  mem : it ∈ fp
  obj : ∀ i h, tn i h → ∀ b ∈ fp, ∃ o, h.get? b = some o ∧ ∀ v, o.data ≠ .cell v
  keep : ∀ i h h', tn i h → (∀ b ∈ fp, ∀ o, h.get? b = some o → h'.get? b = some o) → tn i h'
  item : ∀ (X : Cx), X.prog = P → X.w = w → X.K = K → X.calm = true → ∀ (i : Nat) (pins : List (Addr × Obj)) (s : Shared) (σ : St) (H : Hp) (E : Value → Shared → Prop), Inv X pins σ H s → (∀ b ∈ fp, ZfA X pins H b) → tn i s.heap → J.go i H →
    wpAny (model P w) X.A (pyNext (.ref it)) (fun r s1 => ∃ u, r = some u ∧
      wpAny (model P w) X.A (letOwnedTupleGo tg (.ref it) u) (fun _ s2 => ∃ x H', Inv X pins σ H' s2 ∧ RelV x u ∧ J.yld i H x H' ∧ tn (i + 1) s2.heap ∧ ∀ b ∈ fp, H' b = none) E s1) E s
  done : ∀ (X : Cx), X.prog = P → X.w = w → X.K = K → X.calm = true → ∀ (i : Nat) (pins : List (Addr × Obj)) (s : Shared) (σ : St) (H : Hp) (E : Value → Shared → Prop), Inv X pins σ H s → (∀ b ∈ fp, ZfA X pins H b) → tn i s.heap → J.stop i H →
    wpAny (model P w) X.A (pyNext (.ref it)) (fun r s1 => r = none ∧ Inv X pins σ H s1) E s
  self : ∀ (A : Around) (i : Nat) (s : Shared) (Q : Value → Shared → Prop) (E : Value → Shared → Prop), tn i s.heap → Q (.ref it) s → wpAny (model P w) A (pyIter (.ref it)) Q E s
abbrev TI := St → Hp → (It → Hp → Prop) → Prop
def PIE (X : Cx) (pins : List (Addr × Obj)) (σ : St) (tg : Expr) (R : It → Hp → Prop) (itv : Value) (s2 : Shared) : Prop :=
  ∃ (it : Addr) (fp : List Addr) (tn : Nat → Heap → Prop) (J : It) (H' : Hp), itv = .ref it ∧ Inv X pins σ H' s2 ∧ Turn X.prog X.w X.K tg J fp it tn ∧ tn 0 s2.heap ∧ (∀ b ∈ fp, ZfA X pins H' b) ∧ R J H'
def PI (X : Cx) (tg iter : Expr) (wi : TI) : Prop :=
  ∀ (pins : List (Addr × Obj)) (s : Shared) (σ : St) (H : Hp) (R : It → Hp → Prop), Inv X pins σ H s → wi σ H R →
    wpAny (model X.prog X.w) X.A (eval iter X.env) (fun v s1 => wpAny (model X.prog X.w) X.A (pyIter v) (PIE X pins σ tg R) X.xe s1) X.xe s
theorem jgT {M : Model} {A : Around} {E : Value → Shared → Prop} {s : Shared} {tg : Expr} {it : Addr} {u : Value} {o : Obj} {n : String} {vs : Array Value} {Q : Unit → Shared → Prop} (ho : s.heap.get? it = some o) (hc : o.cls = .type n) (hd : o.data = .fields vs)
    (hn : ["enumerate", "zip", "dict_itemiterator", "dict_reverseitemiterator", "odict_iterator", "itertools.zip_longest", "itertools.pairwise"].contains n = false) (hQ : Q () s) : wpAny M A (letOwnedTupleGo tg (.ref it) u) Q E s := by
  unfold letOwnedTupleGo
  cases tg <;> first
    | exact wpAny_pure hQ
    | (cases u <;> first
        | exact wpAny_pure hQ
        | (refine wpAny_bind (wpAny_load ho ?_)
           rw [hc, hd]
           show wpAny M A (if (["enumerate", "zip", "dict_itemiterator", "dict_reverseitemiterator", "odict_iterator", "itertools.zip_longest", "itertools.pairwise"].contains n && vs[0]? == some (rawInt _)) = true then _ else _) Q E s
           rw [if_neg (by intro h; rw [hn, Bool.false_and] at h; cases h)]
           exact wpAny_pure hQ))
def Itl (K : PySem.W.Frag) (a : Addr) : It :=
  ⟨fun i H => ∃ xs x, SqL K H a xs ∧ xs[i]? = some x, fun i H x H' => H' = H ∧ ∀ xs, SqL K H a xs → xs[i]? = some x, fun i H => ∃ xs, SqL K H a xs ∧ xs.length ≤ i⟩
theorem jg1 {P : Program} {w : World} {K : PySem.W.Frag} {tg : Expr} (a it : Addr) : Turn P w K tg (Itl K a) [it] it (fun i h => h.IsListIter it a i) where
  mem := by simp
  obj := fun i h st b hb => by
    have e : b = it := by simpa using hb
    subst e
    obtain ⟨o, e, c, d⟩ := st
    exact ⟨o, e, fun v z => by rw [d] at z; cases z⟩
  keep := fun i h h' st k => st.at fun o e => k it (by simp) o e
  item := by
    intro X hP hw hK hc i pins s σ H E I hf st hg
    subst hP hw hK
    obtain ⟨xs, x, hq, hx⟩ := hg
    obtain ⟨its, rv, p, hz⟩ := I.list hq
    obtain ⟨u, hu, ru⟩ := rv.get hx
    obtain ⟨f0, f1, f2, f3, f4, f5⟩ := hf it (by simp)
    refine wpAny_pyNext_list_item st p.isList (x := u) (by simpa using hu) fun h' st' sb => ?_
    have I1 : Inv X pins σ H { s with heap := h' } := I.turned (t' := s.toks) (fun b o hb e => (sb.2 b hb).trans e) f0 f1 f3 f4 f5
    obtain ⟨o, e, c, d⟩ := id st'
    exact ⟨u, rfl, jgT (s := { s with heap := h' }) e c d (by decide) ⟨x, H, I1, ru, ⟨rfl, fun ys hy => by rw [I.Ygu hy hq]; exact hx⟩, st', fun b hb => (hf b hb).1⟩⟩
  done := by
    intro X hP hw hK hc i pins s σ H E I hf st hg
    subst hP hw hK
    obtain ⟨xs, hq, hx⟩ := hg
    obtain ⟨its, rv, p, hz⟩ := I.list hq
    obtain ⟨f0, f1, f2, f3, f4, f5⟩ := hf it (by simp)
    have hl := rv.length
    exact wpAny_pyNext_list_end (I.ok.hd hc) st p.isList (by simp; omega) fun h' eb => ⟨rfl, I.turned (t' := s.toks) (fun b o hb e => eb b o hb e) f0 f1 f3 f4 f5⟩
  self := fun _ _ _ _ _ st h => wpAny_pyIter_listiter st h
end L2
namespace L2
open PySem PySem.Spec PyProof.Rows
section
variable {X : Cx} {tg : Expr}
def Jhw (K : PySem.W.Frag) (tl : TE) : TI := fun σ H R => tl σ H fun x H1 => ∃ a, x = .ref a ∧ (∃ xs, SqL K H1 a xs) ∧ R (Itl K a) H1
theorem Zhp {l : Expr} {tl : TE} (hl : PE X l tl) : PI X tg l (Jhw X.K tl) := by
  intro pins s σ H R I h
  refine thn (hl pins s σ H _ I h) fun v s1 ⟨x, H1, I1, r1, q1⟩ => ?_
  obtain ⟨a, e, ⟨xs, hq⟩, q⟩ := q1
  subst e
  cases r1
  obtain ⟨its, rv, p, hz⟩ := I1.list hq
  refine wpAny_pyIter_list p.isList ?_
  refine ⟨s1.heap.objs.size, [s1.heap.objs.size], _, _, H1, rfl, I1.kept (t' := s1.toks) fun b o e => Heap.get?_push_of_some _ e, jg1 a _, ⟨_, Heap.get?_push_size _ rfl, rfl, rfl⟩, fun b hb => ?_, q⟩
  have e : b = s1.heap.objs.size := by simpa using hb
  subst e
  exact I1.zhp (Nat.le_refl _) (I1.hok.fresh (Nat.le_refl _))
def ZhN (wi : TI) (g : TG) (tb : TS) : TS := fun D σ H => wi σ H fun J H1 => ∃ W : Nat → Nat → St → Hp → Prop, (∃ m, W 0 m σ H1) ∧ ∀ i m σ H, W i m σ H →
  (J.stop i H ∧ D.nx σ H) ∨ (J.go i H ∧ ∃ N : St → Hp → Prop, (∀ σ' H', N σ' H' → ∃ m', m' < m ∧ W (i + 1) m' σ' H') ∧ ∀ x H', J.yld i H x H' → g x σ H' fun σ2 H2 => tb { D with nx := N, ct := N, bk := D.nx } σ2 H2)
def yfA (fp : List Addr) (h : Heap) : List (Addr × Obj) := fp.filterMap fun b => (h.get? b).map fun o => (b, o)
theorem yez {fp : List Addr} {h : Heap} {b : Addr} {o : Obj} (hb : b ∈ fp) (e : h.get? b = some o) : (b, o) ∈ yfA fp h := List.mem_filterMap.mpr ⟨b, hb, by rw [e]; rfl⟩
theorem Jg1 {fp : List Addr} {h : Heap} {p : Addr × Obj} (hp : p ∈ yfA fp h) : p.1 ∈ fp ∧ h.get? p.1 = some p.2 := by
  obtain ⟨b, hb, e⟩ := List.mem_filterMap.mp hp
  cases q : h.get? b with
  | none => rw [q] at e; cases e
  | some o =>
    rw [q] at e
    have e' : (b, o) = p := Option.some.inj e
    subst e'
    exact ⟨hb, q⟩
theorem Inv.pinned {pins : List (Addr × Obj)} {σ : St} {H : Hp} {s : Shared} {fp : List Addr} (I : Inv X pins σ H s) (hf : ∀ b ∈ fp, ZfA X pins H b) (ho : ∀ b ∈ fp, ∃ o, s.heap.get? b = some o ∧ ∀ v, o.data ≠ .cell v) : Inv X (pins ++ yfA fp s.heap) σ H s :=
  I.ZgT fun p hp => (List.mem_append.mp hp).elim (fun z => I.pin p (List.mem_append_right _ z)) fun z => by
    obtain ⟨hb, e⟩ := Jg1 z
    obtain ⟨f0, f1, f2, _⟩ := hf p.1 hb
    obtain ⟨o, e', d⟩ := ho p.1 hb
    rw [e] at e'; cases e'
    exact ⟨e, f0, f1, f2, d⟩
theorem Inv.jeH {pins pl : List (Addr × Obj)} {σ : St} {H : Hp} {s : Shared} (I : Inv X (pins ++ pl) σ H s) : Inv X pins σ H s := I.ZgT fun p hp => I.pin p (List.mem_append_right _ (List.mem_append_left _ hp))
theorem jdn {iter : Expr} {body : List Stmt} {wi : TI} {g : TG} {tb : TS} {pos : Pos} (hp : PassesOwn (model X.prog X.w) X.A X.env X.xe) (hc : X.calm = true) (hi : PI X tg iter wi) (hg : PG X tg g) (hb : PSs X body tb)
    (hs : ∀ x, foldedSetIterable iter X.env x = pure x := by intro _; rfl) : PS X (.For tg iter body [] pos) (ZhN wi g tb) := by
  intro pins s σ H D I h
  refine wpAny_For (thn (hi pins s σ H _ I h) fun v s1 h1 => thn h1 fun itv s2 h2 => ?_) hs
  obtain ⟨it, fp, tn, J, H2, e, I2, T, st2, f2, W, ⟨m0, w0⟩, turn⟩ := h2
  subst e
  have stat : ∀ {H' : Hp}, (∀ b ∈ fp, H' b = none) → ∀ b ∈ fp, ZfA X pins H' b := fun hn b hb => ⟨hn b hb, (f2 b hb).2⟩
  refine codeAny_forLoop_any (fun n s' => ∃ i σ' H', Inv X pins σ' H' s' ∧ tn i s'.heap ∧ (∀ b ∈ fp, H' b = none) ∧ W i n σ' H') ?_ m0 ⟨0, σ, H2, I2, st2, fun b hb => (f2 b hb).1, w0⟩
  rintro n s3 ⟨i, σ3, H3, I3, st3, fr3, w3⟩
  rcases turn i n σ3 H3 w3 with ⟨stop, qn⟩ | ⟨go, N, hN, step⟩
  · refine wpAny_passesOwn hp (thn (T.done X rfl rfl rfl hc i pins s3 σ3 H3 X.xe I3 (stat fr3) st3 stop) fun r s4 ⟨hr, I4⟩ => ?_)
    subst hr
    exact wpAny_execs_nil ⟨σ3, H3, I4, qn⟩
  · refine wpAny_passesOwn hp (thn (T.item X rfl rfl rfl hc i pins s3 σ3 H3 X.xe I3 (stat fr3) st3 go) fun r s4 ⟨u, hr, h4⟩ => ?_)
    subst hr
    refine wpAny_passesOwn hp (thn h4 fun _ s5 ⟨x, H5, I5, r5, y5, st5, fr5⟩ => ?_)
    have I5' := I5.pinned (stat fr5) (T.obj _ _ st5)
    refine wpAny_passesOwn hp (thn (hg _ s5 σ3 H5 x u _ I5' r5 (step x H5 y5)) fun _ s6 ⟨σ6, H6, I6, q6⟩ => ?_)
    refine wpAny_passesOwn hp (thn (hb _ s6 σ6 H6 _ I6 q6) fun f s7 q7 => ?_)
    have again : ∀ {σ7 : St} {H7 : Hp}, Inv X (pins ++ yfA fp s5.heap) σ7 H7 s7 → N σ7 H7 → ∃ m, m < n ∧ ∃ i σ' H', Inv X pins σ' H' s7 ∧ tn i s7.heap ∧ (∀ b ∈ fp, H' b = none) ∧ W i m σ' H' := fun {σ7 H7} I7 n7 => by
      obtain ⟨m', hm, w7⟩ := hN σ7 H7 n7
      refine ⟨m', hm, i + 1, σ7, H7, I7.jeH, T.keep _ _ _ st5 fun b hb o e => (I7.pin (b, o) (List.mem_append_right _ (List.mem_append_right _ (yez hb e)))).1, fun b hb => ?_, w7⟩
      obtain ⟨o, e, d⟩ := T.obj _ _ st5 b hb
      exact (I7.pin (b, o) (List.mem_append_right _ (List.mem_append_right _ (yez hb e)))).2.1
    cases f with
    | next => obtain ⟨σ7, H7, I7, n7⟩ := q7; exact again I7 n7
    | cont => obtain ⟨σ7, H7, I7, n7⟩ := q7; exact again I7 n7
    | brk => obtain ⟨σ7, H7, I7, q7⟩ := q7; exact ⟨σ7, H7, I7.jeH, q7⟩
    | ret v => obtain ⟨x7, σ7, H7, I7, r7, q7⟩ := q7; exact ⟨x7, σ7, H7, I7.jeH, r7, q7⟩
end
theorem Jcz {K : PySem.W.Frag} {a : Addr} {xs : List V} {g : TG} {tb : TS} {D : Ends} {σ : St} {H : Hp} (Pv : Nat → St → Hp → Prop) (h0 : Pv 0 σ H) (hl : ∀ i σ H, i ≤ xs.length → Pv i σ H → SqL K H a xs)
    (hs : ∀ i x σ H, xs[i]? = some x → Pv i σ H → g x σ H fun σ2 H2 => tb { D with nx := Pv (i + 1), ct := Pv (i + 1), bk := D.nx } σ2 H2) (hd : ∀ σ H, Pv xs.length σ H → D.nx σ H) :
    ∃ W : Nat → Nat → St → Hp → Prop, (∃ m, W 0 m σ H) ∧ ∀ i m σ H, W i m σ H →
      ((Itl K a).stop i H ∧ D.nx σ H) ∨ ((Itl K a).go i H ∧ ∃ N : St → Hp → Prop, (∀ σ' H', N σ' H' → ∃ m', m' < m ∧ W (i + 1) m' σ' H') ∧ ∀ x H', (Itl K a).yld i H x H' → g x σ H' fun σ2 H2 => tb { D with nx := N, ct := N, bk := D.nx } σ2 H2) := by
  refine ⟨fun i m σ H => m = xs.length - i ∧ i ≤ xs.length ∧ Pv i σ H, ⟨xs.length, by simp, Nat.zero_le _, h0⟩, ?_⟩
  rintro i m σ H ⟨rfl, hi, p⟩
  have q := hl i σ H hi p
  by_cases hlt : i < xs.length
  · refine .inr ⟨⟨xs, xs[i], q, by simp [hlt]⟩, Pv (i + 1), fun σ' H' p' => ⟨xs.length - (i + 1), by omega, rfl, hlt, p'⟩, fun x H' y => ?_⟩
    obtain ⟨e, y⟩ := y
    subst e
    exact hs i x σ _ (y xs q) p
  · have e : i = xs.length := by omega
    subst e
    exact .inl ⟨⟨xs, q, Nat.le_refl _⟩, hd σ H p⟩
theorem Jhb {c : TT} {tb : TS} {D : Ends} {σ : St} {H : Hp} (Pv : St → Hp → Prop) (μ : St → Hp → Nat) (h0 : Pv σ H)
    (hs : ∀ σ H, Pv σ H → c σ H fun b H1 => if b = true then tb { D with nx := fun σ' H' => Pv σ' H' ∧ μ σ' H' < μ σ H, ct := fun σ' H' => Pv σ' H' ∧ μ σ' H' < μ σ H, bk := D.nx } σ H1 else D.nx σ H1)
    (mono : ∀ σ H Q Q', (∀ b H1, Q b H1 → Q' b H1) → c σ H Q → c σ H Q') : Yhb c tb D σ H := by
  refine ⟨fun m σ H => m = μ σ H ∧ Pv σ H, ⟨_, rfl, h0⟩, ?_⟩
  rintro m σ H ⟨rfl, p⟩
  refine mono σ H _ _ (fun b H1 q => ?_) (hs σ H p)
  cases b with
  | true => exact ⟨_, fun σ' H' ⟨p', l⟩ => ⟨_, l, rfl, p'⟩, q⟩
  | false => exact q
end L2
namespace L2
open PySem PySem.Spec PyProof.Rows
abbrev R2 := V → V → Hp → VK → Prop
def OpR (X : Cx) (f : Value → Value → Sem Value) (r : R2) : Prop :=
  ∀ (pins : List (Addr × Obj)) (s : Shared) (σ : St) (H : Hp) (x y : V) (v u : Value) (Q : VK), Inv X pins σ H s → RelV x v → RelV y u → r x y H Q →
    wpAny (model X.prog X.w) X.A (f v u) (EP X pins σ Q) X.xe s
def UnR (X : Cx) (f : Value → Sem Value) (r : V → Hp → VK → Prop) : Prop :=
  ∀ (pins : List (Addr × Obj)) (s : Shared) (σ : St) (H : Hp) (x : V) (v : Value) (Q : VK), Inv X pins σ H s → RelV x v → r x H Q →
    wpAny (model X.prog X.w) X.A (f v) (EP X pins σ Q) X.xe s
def jcj (X : Cx) (f : Value) (r : List V → Hp → VK → Prop) : Prop :=
  ∀ (pins : List (Addr × Obj)) (s : Shared) (σ : St) (H : Hp) (xs : List V) (us : List Value) (Q : VK), Inv X pins σ H s → Vals xs us → r xs H Q →
    wpAny (model X.prog X.w) X.A (call f us) (EP X pins σ Q) X.xe s
def tOp (r : R2) (ta tb : TE) : TE := fun σ H Q => ta σ H fun x H1 => tb σ H1 fun y H2 => r x y H2 Q
def tUn (r : V → Hp → VK → Prop) (ta : TE) : TE := fun σ H Q => ta σ H fun x H1 => r x H1 Q
def rI0 (g : Int → Int → V) : R2 := fun x y H Q => ∃ i j, x = .int i ∧ y = .int j ∧ Q (g i j) H
def rU (g : Int → V) : V → Hp → VK → Prop := fun x H Q => ∃ i, x = .int i ∧ Q (g i) H
section
variable {X : Cx} {a b c : Expr} {ta tb tc : TE} {pos : Pos}
theorem Jhz (ha : PE X a ta) (hb : PE X b tb) {pins : List (Addr × Obj)} {s : Shared} {σ : St} {H : Hp} {R : V → V → Hp → Prop} (I : Inv X pins σ H s)
    (h : ta σ H fun x H1 => tb σ H1 fun y H2 => R x y H2) {Q : Value → Shared → Prop} {f : Value → Value → Sem Value}
    (hf : ∀ v u s2 x y H2, Inv X pins σ H2 s2 → RelV x v → RelV y u → R x y H2 → wpAny (model X.prog X.w) X.A (f v u) Q X.xe s2) :
    wpAny (model X.prog X.w) X.A (eval a X.env) (fun v s₁ => wpAny (model X.prog X.w) X.A (eval b X.env) (fun u s₂ => wpAny (model X.prog X.w) X.A (f v u) Q X.xe s₂) X.xe s₁) X.xe s := by
  refine thn (ha pins s σ H _ I h) fun v s1 ⟨x, H1, I1, r1, q1⟩ => ?_
  refine thn (hb pins s1 σ H1 _ I1 q1) fun u s2 ⟨y, H2, I2, r2, q2⟩ => ?_
  exact hf v u s2 x y H2 I2 r1 r2 q2
theorem JeH {op : Operator} {r : R2} (ho : OpR X (binaryOp op) r) (ha : PE X a ta) (hb : PE X b tb) : PE X (.BinOp a op b pos) (tOp r ta tb) := by
  intro pins s σ H Q I h
  exact wpAny_BinOp (Jhz ha hb I h fun v u s2 x y H2 I2 rx ry q => ho pins s2 σ H2 x y v u Q I2 rx ry q)
theorem zhx {op : UnaryOp} {r : V → Hp → VK → Prop} (ho : UnR X (unaryOp op) r) (ha : PE X a ta) : PE X (.UnaryOp op a pos) (tUn r ta) := by
  intro pins s σ H Q I h
  exact UnaryOp_ (thn (ha pins s σ H _ I h) fun v s1 ⟨x, H1, I1, r1, q1⟩ => ho pins s1 σ H1 x v Q I1 r1 q1)
theorem ZhG {f : Value → Value → Sem Value} {g : Int → Int → Int}
    (rule : ∀ (i j : Int) (t u : Tok) (s : Shared) (Q : Value → Shared → Prop) (E : Value → Shared → Prop), Q (.int (g i j) s.toks) { s with toks := s.toks + 1 } → wpAny (model X.prog X.w) X.A (f (.int i t) (.int j u)) Q E s) :
    OpR X f (rI0 fun i j => .int (g i j)) := by
  intro pins s σ H x y v u Q I rx ry h
  obtain ⟨i, j, rfl, rfl, q⟩ := h
  obtain ⟨t, rfl⟩ := rx
  obtain ⟨t', rfl⟩ := ry
  exact rule i j t t' s _ _ ⟨.int (g i j), H, I.tok _, ⟨_, rfl⟩, q⟩
theorem yhp {f : Value → Value → Sem Value} {g : Int → Int → Bool}
    (rule : ∀ (i j : Int) (t u : Tok) (s : Shared) (Q : Value → Shared → Prop) (E : Value → Shared → Prop), Q (.bool (g i j)) s → wpAny (model X.prog X.w) X.A (f (.int i t) (.int j u)) Q E s) :
    OpR X f (rI0 fun i j => .bl (g i j)) := by
  intro pins s σ H x y v u Q I rx ry h
  obtain ⟨i, j, rfl, rfl, q⟩ := h
  obtain ⟨t, rfl⟩ := rx
  obtain ⟨t', rfl⟩ := ry
  exact rule i j t t' s _ _ ⟨.bl (g i j), H, I, rfl, q⟩
theorem zgf : OpR X (binaryOp .Add) (rI0 fun i j => .int (i + j)) := ZhG fun _ _ _ _ _ _ _ q => add_int q
theorem ZgK : OpR X (binaryOp .Sub) (rI0 fun i j => .int (i - j)) := ZhG fun _ _ _ _ _ _ _ q => sub_int q
theorem unI {f : Value → Sem Value} {g : Int → Int}
    (rule : ∀ (i : Int) (t : Tok) (s : Shared) (Q : Value → Shared → Prop) (E : Value → Shared → Prop), Q (.int (g i) s.toks) { s with toks := s.toks + 1 } → wpAny (model X.prog X.w) X.A (f (.int i t)) Q E s) :
    UnR X f (rU fun i => .int (g i)) := by
  intro pins s σ H x v Q I rx h
  obtain ⟨i, rfl, q⟩ := h
  obtain ⟨t, rfl⟩ := rx
  exact rule i t s _ _ ⟨.int (g i), H, I.tok _, ⟨_, rfl⟩, q⟩
theorem zhc : UnR X (unaryOp .USub) (rU fun i => .int (-i)) := unI fun _ _ _ _ _ q => neg_int q
end
def yhG : V → V → Bool
  | .non, .non => true | .non, .int _ => true | .int _, .non => true | .non, .bl _ => true | .bl _, .non => true | .non, .str _ => true | .str _, .non => true
  | .int _, .int _ => true | .bl _, .bl _ => true | .str _, .str _ => true | .byt _, .byt _ => true
  | .int _, .str _ => true | .str _, .int _ => true | .bl _, .str _ => true | .str _, .bl _ => true
  | _, _ => false
def rEq : R2 := fun x y H Q => yhG x y = true ∧ Q (.bl (decide (x = y))) H
def rNe : R2 := fun x y H Q => yhG x y = true ∧ Q (.bl (!decide (x = y))) H
theorem JgT {i j : Int} : decide (V.int i = V.int j) = (i == j) := by
  rw [Bool.eq_iff_iff]
  simp
theorem Zhc {i j : Bool} : decide (V.bl i = V.bl j) = (i == j) := by
  rw [Bool.eq_iff_iff]
  simp
theorem zgU {i j : Str} : decide (V.str i = V.str j) = (i == j) := by
  rw [Bool.eq_iff_iff]
  simp
theorem ZgU {i j : Array UInt8} : decide (V.byt i = V.byt j) = (i.toList == j.toList) := by
  rw [Bool.eq_iff_iff]
  cases i
  cases j
  simp
section
variable {X : Cx} {a b c : Expr} {ta tb tc : TE} {pos : Pos}
theorem yQ {pins : List (Addr × Obj)} {σ : St} {H : Hp} {s : Shared} {Q : VK} {k k' : Bool} (I : Inv X pins σ H s) (q : Q (.bl k) H) (e : k = k') : EP X pins σ Q (.bool k') s := by
  subst e
  exact ⟨.bl k, H, I, rfl, q⟩
theorem YaL : OpR X (compareOp .Eq) rEq := by
  intro pins s σ H x y v u Q I rx ry h
  obtain ⟨hs, q⟩ := h
  cases x with
  | non =>
    cases rx
    cases y with
    | non => cases ry; exact PySem.EqNone.eq_none_none (yQ I q (by simp))
    | bl j => cases ry; exact PySem.EqNone.eq_none_bool (yQ I q (by simp))
    | int j => obtain ⟨t', rfl⟩ := ry; exact PySem.EqNone.eq_none_int (yQ I q (by simp))
    | str j => obtain ⟨t', rfl⟩ := ry; exact PySem.EqNone.eq_none_str (yQ I q (by simp))
    | _ => exact absurd (show false = true from hs) Bool.false_ne_true
  | bl i =>
    cases rx
    cases y with
    | non => cases ry; exact PySem.EqNone.eq_bool_none (yQ I q (by simp))
    | bl j => cases ry; exact eq_bool (yQ I q Zhc)
    | str j => obtain ⟨t', rfl⟩ := ry; exact PySem.EqMixed.eq_bool_str (yQ I q (by simp))
    | _ => exact absurd (show false = true from hs) Bool.false_ne_true
  | int i =>
    obtain ⟨t, rfl⟩ := rx
    cases y with
    | non => cases ry; exact PySem.EqNone.eq_int_none (yQ I q (by simp))
    | int j => obtain ⟨t', rfl⟩ := ry; exact eq_int (yQ I q JgT)
    | str j => obtain ⟨t', rfl⟩ := ry; exact PySem.EqMixed.eq_int_str (yQ I q (by simp))
    | _ => exact absurd (show false = true from hs) Bool.false_ne_true
  | str i =>
    obtain ⟨t, rfl⟩ := rx
    cases y with
    | non => cases ry; exact PySem.EqNone.eq_str_none (yQ I q (by simp))
    | bl j => cases ry; exact PySem.EqMixed.eq_str_bool (yQ I q (by simp))
    | int j => obtain ⟨t', rfl⟩ := ry; exact PySem.EqMixed.eq_str_int (yQ I q (by simp))
    | str j => obtain ⟨t', rfl⟩ := ry; exact eq_str (yQ I q zgU)
    | _ => exact absurd (show false = true from hs) Bool.false_ne_true
  | byt i =>
    obtain ⟨t, rfl⟩ := rx
    cases y with
    | byt j => obtain ⟨t', rfl⟩ := ry; exact PySem.W.eq_bytes (yQ I q ZgU)
    | _ => exact absurd (show false = true from hs) Bool.false_ne_true
  | _ => cases y <;> exact absurd (show false = true from hs) Bool.false_ne_true
theorem jf3 : OpR X (compareOp .NotEq) rNe := by
  intro pins s σ H x y v u Q I rx ry h
  obtain ⟨hs, q⟩ := h
  cases x with
  | non =>
    cases rx
    cases y with
    | non => cases ry; exact PySem.EqNone.ne_none_none (yQ I q (by simp))
    | bl j => cases ry; exact PySem.EqNone.ne_none_bool (yQ I q (by simp))
    | int j => obtain ⟨t', rfl⟩ := ry; exact PySem.EqNone.ne_none_int (yQ I q (by simp))
    | str j => obtain ⟨t', rfl⟩ := ry; exact PySem.EqNone.ne_none_str (yQ I q (by simp))
    | _ => exact absurd (show false = true from hs) Bool.false_ne_true
  | bl i =>
    cases rx
    cases y with
    | non => cases ry; exact PySem.EqNone.ne_bool_none (yQ I q (by simp))
    | bl j => cases ry; exact ne_bool (yQ I q (congrArg not Zhc))
    | str j => obtain ⟨t', rfl⟩ := ry; exact PySem.EqMixed.ne_bool_str (yQ I q (by simp))
    | _ => exact absurd (show false = true from hs) Bool.false_ne_true
  | int i =>
    obtain ⟨t, rfl⟩ := rx
    cases y with
    | non => cases ry; exact PySem.EqNone.ne_int_none (yQ I q (by simp))
    | int j => obtain ⟨t', rfl⟩ := ry; exact ne_int (yQ I q (congrArg not JgT))
    | str j => obtain ⟨t', rfl⟩ := ry; exact PySem.EqMixed.ne_int_str (yQ I q (by simp))
    | _ => exact absurd (show false = true from hs) Bool.false_ne_true
  | str i =>
    obtain ⟨t, rfl⟩ := rx
    cases y with
    | non => cases ry; exact PySem.EqNone.ne_str_none (yQ I q (by simp))
    | bl j => cases ry; exact PySem.EqMixed.ne_str_bool (yQ I q (by simp))
    | int j => obtain ⟨t', rfl⟩ := ry; exact PySem.EqMixed.ne_str_int (yQ I q (by simp))
    | str j => obtain ⟨t', rfl⟩ := ry; exact ne_str (yQ I q (congrArg not zgU))
    | _ => exact absurd (show false = true from hs) Bool.false_ne_true
  | byt i =>
    obtain ⟨t, rfl⟩ := rx
    cases y with
    | byt j => obtain ⟨t', rfl⟩ := ry; exact PySem.W.ne_bytes (yQ I q (congrArg not ZgU))
    | _ => exact absurd (show false = true from hs) Bool.false_ne_true
  | _ => cases y <;> exact absurd (show false = true from hs) Bool.false_ne_true
theorem Zfg : OpR X (compareOp .Lt) (rI0 fun i j => .bl (decide (i < j))) := yhp fun _ _ _ _ _ _ _ q => lt_int q
theorem zen : OpR X (compareOp .LtE) (rI0 fun i j => .bl (decide (i ≤ j))) := yhp fun _ _ _ _ _ _ _ q => le_int q
theorem ygU : OpR X (compareOp .Gt) (rI0 fun i j => .bl (decide (j < i))) := yhp fun _ _ _ _ _ _ _ q => gt_int q
theorem yhc : OpR X (compareOp .GtE) (rI0 fun i j => .bl (decide (j ≤ i))) := yhp fun _ _ _ _ _ _ _ q => ge_int q
theorem jm (b : Expr) {op : CmpOp} (h : op ≠ .In := by decide) (h2 : op ≠ .NotIn := by decide) : behindInMarks op b = false := by
  have e1 : (op == CmpOp.In) = false := by cases op <;> first | rfl | exact absurd rfl h
  have e2 : (op == CmpOp.NotIn) = false := by cases op <;> first | rfl | exact absurd rfl h2
  cases b <;> simp [behindInMarks, e1, e2]
theorem YaW {op : CmpOp} {r : R2} (ho : OpR X (compareOp op) r) (ha : PE X a ta) (hb : PE X b tb) (hm : behindInMarks op b = false) : PE X (.Compare a [op] [b] pos) (tOp r ta tb) := by
  intro pins s σ H Q I h
  exact wpAny_Compare1 (Jhz ha hb I h fun v u s2 x y H2 I2 rx ry q => ho pins s2 σ H2 x y v u Q I2 rx ry q) hm
def Zhx (t : TE) : TT := fun σ H Q => t σ H fun x H' => ∃ k, x = .bl k ∧ Q k H'
theorem Yq {op : CmpOp} {r : R2} (ho : OpR X (compareOp op) r) (ha : PE X a ta) (hb : PE X b tb) (hm : behindInMarks op b = false) : PT X (.Compare a [op] [b] pos) (Zhx (tOp r ta tb)) := by
  intro pins s σ H Q I h
  refine wpAny_isTrue_Compare1 (thn (ha pins s σ H _ I h) fun v s1 ⟨x, H1, I1, r1, q1⟩ => thn (hb pins s1 σ H1 _ I1 q1) fun u s2 ⟨y, H2, I2, r2, q2⟩ =>
    thn (ho pins s2 σ H2 x y v u _ I2 r1 r2 q2) fun c s3 ⟨z, H3, I3, r3, k, e, q3⟩ => ?_) hm
  subst e
  cases r3
  exact wpAny_truthy_bool ⟨H3, I3, q3⟩
def zhA (r r' : R2) (ta tb tc : TE) : TE := fun σ H Q => ta σ H fun x H1 => tb σ H1 fun y H2 => r x y H2 fun z H3 => ∃ k, z = .bl k ∧
  (if k = true then tc σ H3 fun w' H4 => r' y w' H4 Q else Q (.bl false) H3)
theorem YfA {op op' : CmpOp} {r r' : R2} (ho : OpR X (compareOp op) r) (ho' : OpR X (compareOp op') r') (ha : PE X a ta) (hb : PE X b tb) (hc : PE X c tc)
    (hm : lastMarks [op, op'] [b, c] = false := by with_unfolding_all rfl) : PT X (.Compare a [op, op'] [b, c] pos) (Zhx (zhA r r' ta tb tc)) := by
  intro pins s σ H Q I h
  refine isTrue_chain (thn (ha pins s σ H _ I h) fun v s1 ⟨x, H1, I1, r1, q1⟩ => test_link (thn (hb pins s1 σ H1 _ I1 q1) fun u s2 ⟨y, H2, I2, r2, q2⟩ =>
    thn (ho pins s2 σ H2 x y v u _ I2 r1 r2 q2) fun d s3 ⟨z, H3, I3, r3, k, e, q3⟩ => ?_)) hm
  subst e
  cases r3
  refine wpAny_truthy_bool ?_
  cases k with
  | false =>
    obtain ⟨k', e', q'⟩ := q3
    cases e'
    exact ite_ff ⟨H3, I3, q'⟩
  | true =>
    refine ite_tt (test_last (thn (hc pins s3 σ H3 _ I3 q3) fun w' s4 ⟨z', H4, I4, r4, q4⟩ => thn (ho' pins s4 σ H4 y z' u w' _ I4 r2 r4 q4) fun d' s5 ⟨z2, H5, I5, r5, k2, e2, q5⟩ => ?_))
    subst e2
    cases r5
    exact wpAny_truthy_bool ⟨H5, I5, q5⟩
theorem Zgf : (sizeLine : Nat) < 2 ^ 63 := by rw [sizeLine_eq]; decide
theorem vals1 {x : V} {us : List Value} (r : Vals [x] us) : ∃ u, us = [u] ∧ RelV x u := by
  cases r with
  | cons r1 r2 => cases r2; exact ⟨_, rfl, r1⟩
theorem vals2 {x y : V} {us : List Value} (r : Vals [x, y] us) : ∃ u w', us = [u, w'] ∧ RelV x u ∧ RelV y w' := by
  cases r with
  | cons r1 r2 =>
    cases r2 with
    | cons r3 r4 => cases r4; exact ⟨_, _, rfl, r1, r3⟩
theorem Jf3 (hc : X.calm = true) : jcj X (.builtin "min") (fun xs H Q => ∃ i j, xs = [.int i, .int j] ∧ Q (.int (if j < i then j else i)) H) := by
  intro pins s σ H xs us Q I r h
  obtain ⟨i, j, rfl, q⟩ := h
  obtain ⟨u, w', rfl, ⟨t, rfl⟩, ⟨t', rfl⟩⟩ := vals2 r
  refine min_two_ints (I.ok.hd hc) fun h' tk k => ⟨_, H, I.kept k, ?_, q⟩
  by_cases hj : j < i
  · rw [if_pos hj, if_pos hj]; exact ⟨_, rfl⟩
  · rw [if_neg hj, if_neg hj]; exact ⟨_, rfl⟩
end
end L2
namespace L2
open PySem PySem.Spec PyProof.Rows
structure ygK (h : Heap) (x dx C : Addr) (mA : Str → Option Value) : Prop where
  obj : h.get? x = some (PySem.W.instObj C dx)
  ns : h.Ns1 dx mA
  ne : dx ≠ x
theorem zg2 {h : Heap} {dx : Addr} {mA : Str → Option Value} (n : h.Ns1 dx mA) : ∃ od, h.get? dx = some od ∧ ∀ name, PySem.W.lookIn name od = some (mA name) := by
  obtain ⟨o, es, ep, ho, hd, hk, _, hm⟩ := n
  refine ⟨o, ho, fun name => ?_⟩
  have e := hm name
  unfold nsFind findBy at e
  rw [← Array.find?_toList] at e
  unfold PySem.W.lookIn
  rw [hd]
  dsimp only
  split
  · rename_i y q
    rw [q] at e
    exact congrArg some e
  · rename_i q
    rw [q] at e
    have a : es.toList.any (·.refKey) = false := by
      rw [List.any_eq_false]
      intro y hy
      obtain ⟨z, t, hkey⟩ := hk y (Array.mem_toList_iff.mp hy)
      simp [DictEntry.refKey, hkey]
    have a' : ¬ es.toList.any (·.refKey) = true := by rw [a]; exact Bool.false_ne_true
    rw [if_neg a']
    exact congrArg some e
theorem ygK.look {h : Heap} {x dx C : Addr} {mA : Str → Option Value} (I : ygK h x dx C mA) : ∃ od, PySem.W.InstAt h x (PySem.W.instObj C dx) C (some od) ∧ ∀ name, PySem.W.lookIn name od = some (mA name) :=
  let ⟨od, ho, hl⟩ := zg2 I.ns
  ⟨od, ⟨I.obj, rfl, rfl, ho⟩, hl⟩
section
variable {prog : Program} {w : World} {A : Around} {E : Value → Shared → Prop} {s : Shared} {K : PySem.W.Frag} {x dx C f : Addr} {mA : Str → Option Value} {name : Str} {v : Value}
theorem Yhp {expr : Bool} {Q : Value → Shared → Prop} (X : K.In s.heap) (I : ygK s.heap x dx C mA) (hg : PySem.W.plainGet K C name = true) (hh : PySem.W.hasDictIn K C = true)
    (ha : PySem.W.findIn K (.ref C) name = some none) (hv : mA name = some v) (hv' : PySem.W.handedIn v = true) (h : Q v { s with toks := s.toks + 1 }) :
    wpAny (model prog w) A (getAttr (.ref x) name expr) Q E s := by
  obtain ⟨od, J, hl⟩ := I.look
  exact PySem.W.get_value X J (PySem.W.plainGet_of hg).1 (PySem.W.findObj_own hh ha rfl (by rw [hl, hv])) hv' h
theorem Yhc {pl : Sem Bool} {Q : Value × List Value → Shared → Prop} (X : K.In s.heap) (I : ygK s.heap x dx C mA) (hg : PySem.W.plainGet K C name = true)
    (hf : PySem.W.findIn K (.ref C) name = some (some (.ref f))) (ht : PySem.W.isFn K (.ref f) = true) (hv : mA name = none) (h : Q (.ref f, [.ref x]) s) :
    wpAny (model prog w) A (getMethod (.ref x) name pl) Q E s := by
  obtain ⟨od, J, hl⟩ := I.look
  exact PySem.W.method_fn X J (PySem.W.plainGet_of hg).1 (PySem.W.plainGet_of hg).2 hf (beq_iff_eq.mp ht) (by show (PySem.W.lookIn name od).map (·.isSome) = some false; rw [hl, hv]; rfl) h
theorem jhp {ns : List Str} {Q : Unit → Shared → Prop} (X : K.In s.heap) (I : ygK s.heap x dx C mA)
    (hs : PySem.W.findIn K (.ref C) "__setattr__" = some (some (.builtin "object.__setattr__"))) (hp : PySem.W.plainOver K C = true) (ht : PySem.W.takerIn K C name = some none) (hh : PySem.W.hasDictIn K C = true)
    (hw : PySem.Within mA ns) (hsz : ns.length ≤ sizeLine)
    (h : ∀ h', ygK h' x dx C (fun y => if y = name then some v else mA y) → Heap.SameBut dx s.heap h' → Q () { s with heap := h', toks := s.toks + 2 }) :
    wpAny (model prog w) A (setAttr (.ref x) name v) Q E s := by
  obtain ⟨od, J, hl⟩ := I.look
  refine PySem.W.set_plain X J hs (PySem.W.osa_open (s := { s with toks := s.toks + 1 }) (r := none) X J hp ht fun b => ?_)
  obtain ⟨cd, hc, hd'⟩ := PySem.W.any_some hh
  have hx : s.heap.get? x = some ⟨.ref C, some dx, .plain, #[]⟩ := I.obj
  refine wpAny_bind (wpAny_pure (wpAny_bind (wpAny_bind (wpAny_loadPart hx (wpAny_bind (PySem.W.Looks.here (s := { s with toks := s.toks + 1 }) (PySem.W.looks_clsIn X hc) ?_))))))
  rw [hd']
  refine wpAny_pure (a := some dx) (wpAny_bind (wpAny_pure (wpAny_bind ?_)))
  refine wpAny_nsSet1 (s := { s with toks := s.toks + 1 }) I.ns fun h' hn2 hs2 => ?_
  obtain ⟨oD, esD, epD, hoD, hdD, hcD⟩ := hn2.count (PySem.Within.cons name v hw)
  refine wpAny_bind (wpAny_lookBehind hoD (by rw [hdD]; exact pastItsLine_dict (Nat.le_trans hcD (by rw [List.length_cons]; omega))) ?_)
  exact wpAny_pure (h _ ⟨(hs2.2 _ (Ne.symm I.ne)).trans I.obj, hn2, I.ne⟩ hs2)
theorem jhc {R : Result → Shared → Prop} {vs : List Value} {kw : List (Str × Value)} (X : K.In s.heap) (hm : PySem.W.makesIn K C = true)
    (hi : PySem.W.findIn K (.ref C) "__init__" = some (some (.ref f))) (hf : PySem.W.typeIn K (.ref f) = some (.type "function"))
    (h : codeAny (model prog w) (A.under (.builtin "type.__call__" ⟨.ref C :: vs, kw⟩)) (.call (.ref f) ⟨.ref (s.heap.objs.size + 1) :: vs, kw⟩) (PySem.W.InitBack (s.heap.objs.size + 1) R)
      { s with heap := (s.heap.push PySem.W.emptyDict).push (PySem.W.instObj C s.heap.objs.size) }) :
    codeAny (model prog w) A (.call (.ref C) ⟨vs, kw⟩) R s := by
  obtain ⟨hh, g, d, t, os⟩ := s
  exact PySem.W.make_core (PySem.W.makes_of X hm) (PySem.W.looks_findIn X hi) (fun self => PySem.W.bind_fn X self hf) (.inl rfl) h
end
def yej (f : Str) (v : V) : List (Str × V) → List (Str × V)
  | [] => [(f, v)]
  | (g, x) :: r => if g = f then (g, v) :: r else (g, x) :: yej f v r
theorem yfg (f g : Str) (v : V) : ∀ fs : List (Str × V), (yej f v fs).lookup g = if g = f then some v else fs.lookup g
  | [] => by
    show List.lookup g [(f, v)] = _
    by_cases h : g = f
    · have hb : (g == f) = true := beq_iff_eq.mpr h
      simp only [List.lookup, hb, if_pos h]
    · have hb : (g == f) = false := beq_eq_false_iff_ne.mpr h
      simp only [List.lookup, hb, if_neg h]
  | (k, x) :: r => by
    have ih := yfg f g v r
    rw [show yej f v ((k, x) :: r) = (if k = f then (k, v) :: r else (k, x) :: yej f v r) from rfl]
    by_cases hk : k = f
    · rw [if_pos hk]
      by_cases h : g = k
      · have hb : (g == k) = true := beq_iff_eq.mpr h
        simp only [List.lookup, hb, if_pos (h.trans hk)]
      · have hb : (g == k) = false := beq_eq_false_iff_ne.mpr h
        simp only [List.lookup, hb, if_neg (fun e : g = f => h (e.trans hk.symm))]
    · rw [if_neg hk]
      by_cases h : g = k
      · have hb : (g == k) = true := beq_iff_eq.mpr h
        simp only [List.lookup, hb, if_neg (fun e : g = f => hk (h.symm.trans e))]
      · have hb : (g == k) = false := beq_eq_false_iff_ne.mpr h
        simp only [List.lookup, hb]
        exact ih
theorem Ye3 (f : Str) (v : V) : ∀ fs : List (Str × V), f ∈ (yej f v fs).map (·.1) ∧ ∀ g, g ∈ fs.map (·.1) → g ∈ (yej f v fs).map (·.1)
  | [] => ⟨by simp [yej], fun g h => by simp at h⟩
  | (k, x) :: r => by
    obtain ⟨i1, i2⟩ := Ye3 f v r
    rw [show yej f v ((k, x) :: r) = (if k = f then (k, v) :: r else (k, x) :: yej f v r) from rfl]
    by_cases hk : k = f
    · rw [if_pos hk]
      subst hk
      exact ⟨by simp, fun g h => by simpa using h⟩
    · rw [if_neg hk]
      refine ⟨?_, fun g h => ?_⟩
      · rw [List.map_cons]
        exact List.mem_cons_of_mem _ i1
      · rw [List.map_cons] at h ⊢
        rcases List.mem_cons.mp h with e | e
        · exact List.mem_cons.mpr (.inl e)
        · exact List.mem_cons_of_mem _ (i2 g e)
theorem Yfg (f : Str) (v : V) : ∀ fs : List (Str × V), (yej f v fs).length ≤ fs.length + 1
  | [] => by simp [yej]
  | (k, x) :: r => by
    have ih := Yfg f v r
    rw [show yej f v ((k, x) :: r) = (if k = f then (k, v) :: r else (k, x) :: yej f v r) from rfl]
    by_cases hk : k = f
    · rw [if_pos hk, List.length_cons, List.length_cons]; omega
    · rw [if_neg hk, List.length_cons, List.length_cons]; omega
theorem Zdn.some_of {v : V} {o : Option Value} (r : Zdn (some v) o) : ∃ u, o = some u ∧ RelV v u := by
  cases o with
  | none => exact (show False from r).elim
  | some u => exact ⟨u, rfl, r⟩
theorem Zdn.none_of {o : Option Value} (r : Zdn none o) : o = none := by
  cases o with
  | none => rfl
  | some u => exact (show False from r).elim
theorem Zg2 {v : V} {u : Value} (r : RelV v u) : PySem.W.handedIn u = true := by
  cases v with
  | non => cases (show u = Value.none from r); rfl
  | bl b => cases (show u = Value.bool b from r); rfl
  | int i => obtain ⟨t, e⟩ := (show ∃ t, u = Value.int i t from r); cases e; rfl
  | str x => obtain ⟨t, e⟩ := (show ∃ t, u = Value.str x t from r); cases e; rfl
  | byt b => obtain ⟨t, e⟩ := (show ∃ t, u = Value.bytes b t from r); cases e; rfl
  | flt b => obtain ⟨t, e⟩ := (show ∃ t, u = Value.float b t from r); cases e; rfl
  | ref a => cases (show u = Value.ref a from r); rfl
  | ty n => cases (show u = Value.type n from r); rfl
section
variable {P : Program} {w : World} {H H' : Hp} {h h' : Heap} {a C dx : Addr} {fs fs' : List (Str × V)}
theorem zeI (hok : HOk P w H h) (e : H a = some (.ins C dx fs)) : ∃ mA, ygK h a dx C mA ∧ (∀ f, Zdn (fs.lookup f) (mA f)) ∧ PySem.Within mA (fs.map (·.1)) ∧ fs.length ≤ 1000 ∧ H dx = some (.own a) := by
  obtain ⟨d, z, ne, ob, mA, n, r, q⟩ := (show zP P w H h a (.ins C dx fs) from hok a _ e)
  exact ⟨mA, ⟨ob, n, ne⟩, r, q, z, d⟩
end
structure Cls (K : PySem.W.Frag) (C : Addr) : Prop where
  pg : PySem.W.plainGet K C Str.empty = true
  hd : PySem.W.hasDictIn K C = true
  po : PySem.W.plainOver K C = true
  sa : PySem.W.findIn K (.ref C) "__setattr__" = some (some (.builtin "object.__setattr__"))
theorem Cls.get {K : PySem.W.Frag} {C : Addr} (c : Cls K C) (f : Str) : PySem.W.plainGet K C f = true := c.pg
def Jm (K : PySem.W.Frag) (C : Addr) (f : Str) : Prop := PySem.W.findIn K (.ref C) f = some none
theorem Jm.taker {K : PySem.W.Frag} {C : Addr} {f : Str} (n : Jm K C f) : PySem.W.takerIn K C f = some none := by
  unfold PySem.W.takerIn
  rw [show PySem.W.findIn K (.ref C) f = some none from n]
  rfl
structure Meth (K : PySem.W.Frag) (C : Addr) (m : Str) (f : Addr) : Prop where
  at_ : PySem.W.findIn K (.ref C) m = some (some (.ref f))
  fn : PySem.W.isFn K (.ref f) = true
  kp : PySem.W.keepIn K (.ref f) = true
section
variable {X : Cx} {pins : List (Addr × Obj)} {σ : St} {H : Hp} {s : Shared} {a C dx : Addr} {fs : List (Str × V)} {f : Str} {v : V} {A : Around} {E : Value → Shared → Prop}
theorem YgK {b : Bool} {Q : Value → Shared → Prop} (I : Inv X pins σ H s) (e : H a = some (.ins C dx fs)) (c : Cls X.K C) (n : Jm X.K C f) (l : fs.lookup f = some v)
    (h : ∀ u s', Inv X pins σ H s' → RelV v u → Q u s') : wpAny (model X.prog X.w) A (getAttr (.ref a) f b) Q E s := by
  obtain ⟨mA, O, r, _, _, _⟩ := zeI I.hok e
  obtain ⟨u, hu, ru⟩ := Zdn.some_of (v := v) (o := mA f) (by rw [← l]; exact r f)
  exact Yhp I.kIn O (c.get f) c.hd n hu (Zg2 ru) (h u _ (I.tok _) ru)
theorem Jdn {m : Str} {g : Addr} {pl : Sem Bool} {Q : Value × List Value → Shared → Prop} (I : Inv X pins σ H s) (e : H a = some (.ins C dx fs)) (c : Cls X.K C) (k : Meth X.K C m g) (l : fs.lookup m = none)
    (h : Q (.ref g, [.ref a]) s) : wpAny (model X.prog X.w) A (getMethod (.ref a) m pl) Q E s := by
  obtain ⟨mA, O, r, _, _, _⟩ := zeI I.hok e
  have hn : mA m = none := Zdn.none_of (by rw [← l]; exact r m)
  exact Yhc I.kIn O (c.get m) k.at_ k.fn hn h
theorem jgK {y : V} {u : Value} {Q : Unit → Shared → Prop} (I : Inv X pins σ H s) (e : H a = some (.ins C dx fs)) (c : Cls X.K C) (n : Jm X.K C f) (hl : fs.length < 1000) (ry : RelV y u)
    (h : ∀ s', Inv X pins σ (upd H a (.ins C dx (yej f y fs))) s' → Q () s') : wpAny (model X.prog X.w) A (setAttr (.ref a) f u) Q E s := by
  obtain ⟨mA, O, r, wi, _, ho⟩ := zeI I.hok e
  have hz : (fs.map (·.1)).length ≤ sizeLine := by rw [List.length_map, sizeLine_eq]; omega
  refine jhp I.kIn O c.sa c.po n.taker c.hd wi hz fun h' O' sb => h _ ?_
  have hd : ∃ o, h'.get? dx = some o := let ⟨o, _, _, e', _⟩ := O'.ns; ⟨o, e'⟩
  refine I.write (x := a) (e := dx) (by rw [e]; exact True.intro) (.inr ho) (fun b q hb z => (sb.2 b hb).trans z) hd ?_
  refine ⟨by rw [Zc O.ne]; exact ho, ?_, O.ne, O'.obj, _, O'.ns, fun g => ?_, fun g hg => ?_⟩
  · have := Yfg f y fs; omega
  · show Zdn ((yej f y fs).lookup g) (if g = f then some u else mA g)
    rw [yfg]
    by_cases q : g = f
    · rw [if_pos q, if_pos q]; exact ry
    · rw [if_neg q, if_neg q]; exact r g
  · by_cases q : g = f
    · rw [q]; exact (Ye3 f y fs).1
    · refine (Ye3 f y fs).2 g (wi g fun z => hg ?_)
      show (if g = f then some u else mA g) = none
      rw [if_neg q]; exact z
theorem Inv.made (I : Inv X pins σ H s) : Inv X pins σ (upd (upd H s.heap.objs.size (.own (s.heap.objs.size + 1))) (s.heap.objs.size + 1) (.ins C s.heap.objs.size []))
    { s with heap := (s.heap.push PySem.W.emptyDict).push (PySem.W.instObj C s.heap.objs.size) } := by
  have e1 : (s.heap.push PySem.W.emptyDict).get? s.heap.objs.size = some PySem.W.emptyDict := Heap.get?_push_size s.heap rfl
  have e2 : ((s.heap.push PySem.W.emptyDict).push (PySem.W.instObj C s.heap.objs.size)).get? (s.heap.objs.size + 1) = some (PySem.W.instObj C s.heap.objs.size) := by
    have := Heap.get?_push_size (s.heap.push PySem.W.emptyDict) (o := PySem.W.instObj C s.heap.objs.size) rfl
    rwa [Heap.size_push] at this
  have e3 : (s.heap.push PySem.W.emptyDict).Ns s.heap.objs.size (fun _ => none) := ⟨PySem.W.emptyDict, #[], _, e1, rfl, (fun e he => absurd he (by simp)), fun _ => rfl⟩
  have I1 := I.laid (a := s.heap.objs.size) (o := .own (s.heap.objs.size + 1)) (h' := s.heap.push PySem.W.emptyDict) (t' := s.toks) (fun b u q => Heap.get?_push_of_some _ q) (Nat.le_refl _) ⟨_, e1⟩
  refine I1.laid (a := s.heap.objs.size + 1) (o := .ins C s.heap.objs.size []) (t' := s.toks) (fun b u q => Heap.get?_push_of_some _ q) (Nat.le_of_eq (Heap.size_push _ _)) ?_
  have ne : s.heap.objs.size ≠ s.heap.objs.size + 1 := Nat.ne_of_lt (Nat.lt_succ_self _)
  refine ⟨by rw [Zc ne, Ja], Nat.zero_le _, ne, e2, fun _ => none, (Heap.Ns1.of_empty e3).at fun o q => Heap.get?_push_of_some _ q, fun _ => True.intro, fun y hy => absurd rfl hy⟩
theorem Jhp {prog : Program} {w : World} {env : Env} {e : Expr} {f : Str} {pos : Pos} {s : Shared} {Q : Value → Shared → Prop} (hb : attributeBase e f env (eval e env) = eval e env)
    (h : wpAny (model prog w) A (eval e env) (fun o s₁ => wpAny (model prog w) A (getAttr o f true) Q E s₁) E s) : wpAny (model prog w) A (eval (.Attribute e f pos) env) Q E s :=
  Attribute_any_ h (by rw [arm_eval_Attribute, hb])
end
def YhG (K : PySem.W.Frag) (ta : TE) (f : Str) : TE := fun σ H Q => ta σ H fun x H1 => ∃ a C dx fs v, x = .ref a ∧ H1 a = some (.ins C dx fs) ∧ Cls K C ∧ Jm K C f ∧ fs.lookup f = some v ∧ Q v H1
def jhG (K : PySem.W.Frag) (ta tv : TE) (f : Str) : TS := fun D σ H => tv σ H fun y H1 => ta σ H1 fun x H2 => ∃ a C dx fs, x = .ref a ∧ H2 a = some (.ins C dx fs) ∧ Cls K C ∧ Jm K C f ∧ fs.length < 1000 ∧
  D.nx σ (upd H2 a (.ins C dx (yej f y fs)))
section
variable {X : Cx} {o e value : Expr} {f : Str} {pos pos' tpos : Pos} {ta tv : TE}
theorem ZhA (he : PE X e ta) (hb : attributeBase e f X.env (eval e X.env) = eval e X.env) : PE X (.Attribute e f pos) (YhG X.K ta f) := by
  intro pins s σ H Q I h
  refine Jhp hb (thn (he pins s σ H _ I h) fun u s1 ⟨x, H1, I1, rx, a, C, dx, fs, v, ex, ea, c, n, l, q⟩ => ?_)
  subst ex
  obtain rfl : u = Value.ref a := rx
  exact YgK I1 ea c n l fun u' s2 I2 ru => ⟨v, H1, I2, ru, q⟩
theorem yhA (ha : PE X o ta) (hv : PE X value tv) (hs : swapsWith value (some (.Attribute o f pos')) pos.line X.env = pure false) : PS X (.Assign [.Attribute o f pos'] value pos) (jhG X.K ta tv f) := by
  intro pins s σ H D I h
  refine plainObj_wpAny_Assign_Attribute (thn (hv pins s σ H _ I h) fun u s1 ⟨y, H1, I1, ry, q⟩ => thn (ha pins s1 σ H1 _ I1 q) fun ov s2 ⟨x, H2, I2, rx, a, C, dx, fs, ex, ea, c, n, l, q2⟩ => ?_) hs
  subst ex
  obtain rfl : ov = Value.ref a := rx
  exact jgK I2 ea c n l ry fun s3 I3 => ⟨σ, _, I3, q2⟩
theorem yhx {pl : Sem Bool} {m : Str} {apos : Pos} {args : List Expr} {pins : List (Addr × Obj)} {s : Shared} {σ : St} {H : Hp} {Q : Value → Shared → Prop} {te : TE} (he : PE X e te) (I : Inv X pins σ H s)
    (h : te σ H fun x H1 => ∃ a C dx fs g, x = .ref a ∧ H1 a = some (.ins C dx fs) ∧ Cls X.K C ∧ Meth X.K C m g ∧ fs.lookup m = none ∧
      ∀ s1, Inv X pins σ H1 s1 → wpAny (model X.prog X.w) X.A (callWith pos (.ref g) [.ref a] (backTo pos (starEach args X.env)) (backToKw pos (keywordEach [] X.env))) Q X.xe s1)
    (ht : eval (.Call (.Attribute e m apos) args [] pos) X.env = (do
      let ov ← eval e X.env
      standAt apos.atName
      let (f, first) ← holding [ov] (getMethod ov m pl)
      callWith pos f first (backTo pos (starEach args X.env)) (backToKw pos (keywordEach [] X.env)))) :
    wpAny (model X.prog X.w) X.A (eval (.Call (.Attribute e m apos) args [] pos) X.env) Q X.xe s := by
  refine PySem.W.methodCall_KW (pl := pl) (thn (he pins s σ H _ I h) fun u s1 ⟨x, H1, I1, rx, a, C, dx, fs, g, ex, ea, c, k, l, q⟩ => ?_) ht
  subst ex
  obtain rfl : u = Value.ref a := rx
  exact Jdn I1 ea c k l (q s1 I1)
end
section
variable {X : Cx} {pins : List (Addr × Obj)} {σ : St} {H : Hp} {s : Shared} {A : Around} {E : Value → Shared → Prop} {Q : Value → Shared → Prop} {c : Value} {b : Bool}
inductive zbz (K : PySem.W.Frag) (H : Hp) : V → Value → Prop where
  | non : zbz K H .non (.type "NoneType")
  | bl (x : Bool) : zbz K H (.bl x) (.type "bool")
  | int (i : Int) : zbz K H (.int i) (.type "int")
  | str (x : Str) : zbz K H (.str x) (.type "str")
  | flt (x : UInt64) : zbz K H (.flt x) (.type "float")
  | lst {a : Addr} {xs : List V} (e : H a = some (.lst xs)) : zbz K H (.ref a) (.type "list")
  | frz {a : Addr} {o : Obj} {xs : List V} (e : H a = some (.frz o (.lst xs))) : zbz K H (.ref a) (.type "list")
  | tup {a : Addr} {xs : List V} (e : H a = some (.tup xs)) : zbz K H (.ref a) (.type "tuple")
  | dK {a : Addr} {kvs : List (Key × V)} (e : H a = some (.dK kvs)) : zbz K H (.ref a) (.type "dict")
  | dT {a : Addr} {kvs : List (List Key × V)} (e : H a = some (.dT kvs)) : zbz K H (.ref a) (.type "dict")
  | ins {a C dx : Addr} {fs : List (Str × V)} (e : H a = some (.ins C dx fs)) (cl : Cls K C) (ha : PySem.W.findIn K (.ref C) "__class__" = some (some (.builtin "object.__class__")))
      (hn : PySem.W.specialIn K (.builtin "object.__class__") "__get__" = some (some (.builtin "getset_descriptor.__get__"))) (htk : PySem.W.takesIn K (.builtin "object.__class__") = some true)
      (hm : PySem.W.mroIn K C (.type "object") = some true) : zbz K H (.ref a) (.ref C)
theorem yg2 {x : V} {u t : Value} (I : Inv X pins σ H s) (rx : RelV x u) (ty : zbz X.K H x t) (e : PySem.W.kitOne X.K t c = some b) (h : ∀ tk, Q (.bool b) { s with toks := tk }) :
    wpAny (model X.prog X.w) A (call (.builtin "isinstance") [u, c]) Q E s := by
  cases ty with
  | non => cases (show u = Value.none from rx); exact PySem.W.kia_one PySem.W.kitx_none I.kIn True.intro e (fun z => nomatch z) h
  | bl y => cases (show u = Value.bool y from rx); exact PySem.W.kia_one PySem.W.kitx_bool I.kIn True.intro e (fun z => nomatch z) h
  | int i => obtain ⟨t, q⟩ := (show ∃ t, u = Value.int i t from rx); cases q; exact PySem.W.kia_one PySem.W.kitx_int I.kIn True.intro e (fun z => nomatch z) h
  | str y => obtain ⟨t, q⟩ := (show ∃ t, u = Value.str y t from rx); cases q; exact PySem.W.kia_one PySem.W.kitx_str I.kIn True.intro e (fun z => nomatch z) h
  | flt y => obtain ⟨t, q⟩ := (show ∃ t, u = Value.float y t from rx); cases q; exact PySem.W.kia_one PySem.W.kitx_float I.kIn True.intro e (fun z => nomatch z) h
  | @lst a xs ea =>
    cases (show u = Value.ref a from rx)
    obtain ⟨_, _, n, _, h1⟩ := (show zP X.prog X.w H s.heap a (.lst xs) from I.hok a _ ea)
    exact PySem.W.kia_one PySem.W.kitx_list I.kIn ⟨_, h1, rfl⟩ e (fun z => nomatch z) h
  | @frz a ob xs ea =>
    cases (show u = Value.ref a from rx)
    obtain ⟨_, _, _, n, _, h1⟩ := (show zP X.prog X.w H s.heap a (.frz ob (.lst xs)) from I.hok a _ ea)
    exact PySem.W.kia_one PySem.W.kitx_list I.kIn ⟨_, h1, rfl⟩ e (fun z => nomatch z) h
  | @tup a xs ea =>
    cases (show u = Value.ref a from rx)
    obtain ⟨_, _, _, p⟩ := (show zP X.prog X.w H s.heap a (.tup xs) from I.hok a _ ea)
    obtain ⟨o, h1, h2, _⟩ := p
    exact PySem.W.kia_one PySem.W.kitx_tuple I.kIn ⟨o, h1, h2⟩ e (fun z => nomatch z) h
  | @dK a kvs ea =>
    cases (show u = Value.ref a from rx)
    obtain ⟨_, _, vs, _, p⟩ := (show zP X.prog X.w H s.heap a (.dK kvs) from I.hok a _ ea)
    obtain ⟨o, es, ep, h1, h2, _⟩ := p
    exact PySem.W.kia_one PySem.W.kitx_dict I.kIn ⟨o, h1, h2.1⟩ e (fun z => nomatch z) h
  | @dT a kvs ea =>
    cases (show u = Value.ref a from rx)
    obtain ⟨_, _, xs, _, o, es, ep, h1, h2, _⟩ := (show zP X.prog X.w H s.heap a (.dT kvs) from I.hok a _ ea)
    exact PySem.W.kia_one PySem.W.kitx_dict I.kIn ⟨o, h1, h2.1⟩ e (fun z => nomatch z) h
  | @ins a C dx fs ea cl ha hn htk hm =>
    cases (show u = Value.ref a from rx)
    obtain ⟨mA, O, _⟩ := zeI I.hok ea
    obtain ⟨od, J, _⟩ := O.look
    exact PySem.W.kia_one (PySem.W.kitx_own (cl.get _) cl.hd ha hn htk hm) I.kIn J e (fun z => nomatch z) h
end
end L2
namespace L2
open PySem PySem.Spec PyProof.Rows
structure jby (k : Nat) (A : Around) : Prop where
  hd : A.handled = none
  dp : A.depth + 3 * k + 5 < recursionLimit
  un : A.units + 16 * k + 200 < cLine
theorem jby.mono {j k : Nat} {A : Around} (r : jby k A) (h : j ≤ k) : jby j A := ⟨r.hd, by have := r.dp; omega, by have := r.un; omega⟩
theorem jby.deeper {k : Nat} {A : Around} (r : jby (k + 1) A) (env : Env) : jby k (A.deeper env) :=
  ⟨r.hd, by have := r.dp; show A.depth + 1 + 3 * k + 5 < _; omega, by have := r.un; show A.units + 3 + 16 * k + 200 < _; omega⟩
theorem JgK {A : Around} {C : Addr} {us : List Value} {kw : List (Str × Value)} : (A.under (.builtin "type.__call__" ⟨.ref C :: us, kw⟩)).depth = A.depth + 1 := by
  first | rfl | simp [Around.under, Code.weight, Code.isCreation, Code.isGuard, Code.isCaller, Code.frames, Code.isFrame, guardIds]
theorem zgL {A : Around} {C : Addr} {us : List Value} {kw : List (Str × Value)} : (A.under (.builtin "type.__call__" ⟨.ref C :: us, kw⟩)).units = A.units + 1 := by
  first | rfl | simp [Around.under, Code.cUnits, Code.frames, Code.isFrame]
theorem jby.make {k : Nat} {A : Around} (r : jby (k + 1) A) (C : Addr) (us : List Value) (kw : List (Str × Value)) : jby k (A.under (.builtin "type.__call__" ⟨.ref C :: us, kw⟩)) :=
  ⟨r.hd, by have := r.dp; rw [JgK]; omega, by have := r.un; rw [zgL]; omega⟩
theorem jby.depth {k : Nat} {A : Around} (r : jby k A) : A.depth < recursionLimit := by have := r.dp; omega
theorem jby.units {k : Nat} {A : Around} (r : jby k A) : A.units + 64 < cLine := by have := r.un; omega
def zhq : TA := fun _ H Q => Q [] H
def Jhc (ta : TE) (tr : TA) : TA := fun σ H Q => ta σ H fun x H1 => tr σ H1 fun xs H2 => Q (x :: xs) H2
section
variable {X : Cx} {e : Expr} {es : List Expr} {te : TE} {t : TA} {pos : Pos}
theorem yc : PA X [] zhq := fun _ _ _ _ H Q I h => Calls.spliced_nil ⟨[], H, I, .nil, h⟩
theorem Za (ha : PE X e te) (hr : PA X es t) (hs : starEach (e :: es) X.env = (false, eval e X.env) :: starEach es X.env := by rfl) : PA X (e :: es) (Jhc te t) := by
  intro pos pins s σ H Q I h
  rw [hs]
  show wpAny _ _ (spliced ((false, eval e X.env) :: backTo pos (starEach es X.env))) _ _ s
  refine Calls.spliced_cons (thn (ha pins s σ H _ I h) fun u s1 ⟨x, H1, I1, r1, q1⟩ => ?_)
  exact thn (hr pos pins s1 σ H1 _ I1 q1) fun us s2 ⟨xs, H2, I2, r2, q2⟩ => ⟨x :: xs, H2, I2, .cons r1 r2, q2⟩
def yhN (t : TA) : TE := fun σ H Q => t σ H fun xs H1 => xs.length ≤ sizeLine ∧ ∀ p, H1 p = none → Q (.ref p) (upd H1 p (.tup xs))
def YhN (t : TA) : TE := fun σ H Q => t σ H fun xs H1 => xs.length ≤ sizeLine ∧ ∀ p, H1 p = none → Q (.ref p) (upd H1 p (.lst xs))
theorem je3 {x1} (h : PA X es t) : PE X (.Tuple es x1 pos) (yhN t) := by
  intro pins s σ H Q I hq
  refine wpAny_Tuple_spliced (thn (h pos pins s σ H _ I hq) fun us s1 ⟨xs, H1, I1, r, z, q⟩ => ⟨by rw [← r.length]; exact z, ?_⟩)
  have hf : H1 s1.heap.objs.size = none := I1.hok.fresh (Nat.le_refl _)
  refine ⟨.ref s1.heap.objs.size, upd H1 s1.heap.objs.size (.tup xs), I1.laid (t' := s1.toks) (fun b u e => Heap.get?_push_of_some _ e) (Nat.le_refl _) ?_, rfl, q _ hf⟩
  exact ⟨z, us, r, ⟨_, Heap.get?_push_size _ rfl, rfl, _, rfl⟩⟩
theorem yaw (h : PA X es t) : PE X (.List es pos) (YhN t) := by
  intro pins s σ H Q I hq
  refine wpAny_List_spliced (thn (h pos pins s σ H _ I hq) fun us s1 ⟨xs, H1, I1, r, z, q⟩ => ⟨by rw [← r.length]; exact z, ?_⟩)
  have hf : H1 s1.heap.objs.size = none := I1.hok.fresh (Nat.le_refl _)
  refine ⟨.ref s1.heap.objs.size, upd H1 s1.heap.objs.size (.lst xs), I1.laid (t' := s1.toks) (fun b u e => Heap.get?_push_of_some _ e) (Nat.le_refl _) ?_, rfl, q _ hf⟩
  exact ⟨z, us, 0, r, Heap.get?_push_size _ rfl⟩
end
abbrev Sp := List V → Hp → VK → XK → Prop
abbrev CXT := List Env → Hp → Shared → XK → Value → Shared → Prop
structure ZgL (P : Program) (w : World) (K : PySem.W.Frag) (mg : Str → Option Value) (base : Heap) (A : Around) (outer : List Env) (s : Shared) (H : Hp) : Prop where
  frames : A.frames = some outer
  mod : Mod K mg base
  bs : ∀ b o, base.get? b = some o → s.heap.get? b = some o ∧ H b = none
  bsz : base.objs.size ≤ s.heap.objs.size
  zfp : s.heap.FunFrames base outer
  frf : ∀ b ∈ frs outer, H b = none
  hok : HOk P w H s.heap
  bare : AllBare s.gens
def CE (outer : List Env) (P : Program) (w : World) (H : Hp) (s : Shared) (Q : VK) (u : Value) (s' : Shared) : Prop :=
  ∃ v H', s'.os = s.os ∧ AllBare s'.gens ∧ Un (frs outer) [] H H' s.heap s'.heap ∧ HOk P w H' s'.heap ∧ RelV v u ∧ Q v H'
def CR (CX : CXT) (outer : List Env) (P : Program) (w : World) (H : Hp) (s : Shared) (Q : VK) (E : XK) (r : Result) (s' : Shared) : Prop :=
  match r with
  | .ok (.ret u) => CE outer P w H s Q u s'
  | .ok _ => False
  | .error e => CX outer H s E e s'
structure Zf (P : Program) (w : World) (K : PySem.W.Frag) (mg : Str → Option Value) (base : Heap) (CX : CXT) (k : Nat) (f : Addr) (fd : FuncData) (ps : List Str) (sp : Sp) : Prop where
  len : ∀ vs H Q E, sp vs H Q E → vs.length = ps.length
  run : ∀ (A : Around) (outer : List Env) (s : Shared) (H : Hp) (args : Args) (us : List Value) (vs : List V) (Q : VK) (E : XK), jby k A → ZgL P w K mg base A outer s H → BindsTo s fd args (ps.zip us) → Vals vs us → sp vs H Q E →
    codeAny (model P w) A (.call (.ref f) args) (CR CX outer P w H s Q E) s
theorem Zf.mono {P : Program} {w : World} {K : PySem.W.Frag} {mg : Str → Option Value} {base : Heap} {CX : CXT} {j k : Nat} {f : Addr} {fd : FuncData} {ps : List Str} {sp : Sp} (F : Zf P w K mg base CX j f fd ps sp) (h : j ≤ k) :
    Zf P w K mg base CX k f fd ps sp := ⟨F.len, fun A outer s H args us vs Q E hr => F.run A outer s H args us vs Q E (hr.mono h)⟩
theorem Zf.imp {P : Program} {w : World} {K : PySem.W.Frag} {mg : Str → Option Value} {base : Heap} {CX : CXT} {k : Nat} {f : Addr} {fd : FuncData} {ps : List Str} {sp sp' : Sp} (F : Zf P w K mg base CX k f fd ps sp)
    (h : ∀ vs H Q E, sp' vs H Q E → sp vs H Q E) : Zf P w K mg base CX k f fd ps sp' :=
  ⟨fun vs H Q E q => F.len vs H Q E (h _ _ _ _ q), fun A outer s H args us vs Q E hr he hb hv hs => F.run A outer s H args us vs Q E hr he hb hv (h _ _ _ _ hs)⟩
theorem ZgL.make {P : Program} {w : World} {K : PySem.W.Frag} {mg : Str → Option Value} {base : Heap} {A : Around} {outer : List Env} {s : Shared} {H : Hp} (e : ZgL P w K mg base A outer s H) (C : Addr) (us : List Value) (kw : List (Str × Value)) :
    ZgL P w K mg base (A.under (.builtin "type.__call__" ⟨.ref C :: us, kw⟩)) outer s H := ⟨by first | exact e.frames | (simpa [Around.under, Code.envs, Code.isFrame, pushEnvs] using e.frames), e.mod, e.bs, e.bsz, e.zfp, e.frf, e.hok, e.bare⟩
section
variable {X : Cx} {pins : List (Addr × Obj)} {σ : St} {H : Hp} {s s' : Shared}
theorem Inv.env0 (I : Inv X pins σ H s) : ZgL X.prog X.w X.K X.mg X.base X.A X.stack s H :=
  ⟨I.ok.frames, I.ok.mod, I.bs, Nat.le_trans I.ok.bsz I.sz, I.stack, I.zgT, I.hok, I.bare⟩
theorem Inv.after {Q : VK} {u : Value} (I : Inv X pins σ H s) (h : CE X.stack X.prog X.w H s Q u s') : EP X pins σ Q u s' := by
  obtain ⟨v, H', os, bare, un, hok, r, q⟩ := h
  obtain ⟨hh, g, d, t, os'⟩ := s'
  obtain rfl : os' = s.os := os
  exact ⟨v, H', I.call (h' := hh) (g' := g) (d' := d) (t' := t) (ch := []) un hok bare (fun b z => absurd z (by simp)), r, q⟩
end
def Yhx (sp : Sp) (dvs : List V) (E : XK) (t : TA) : TE := fun σ H Q => t σ H fun vs H1 => sp (vs ++ dvs) H1 Q E
def jhx (C : Addr) (m : Str) (sp : Sp) (dvs : List V) (E : XK) (ta : TE) (t : TA) : TE := fun σ H Q => ta σ H fun x H1 => ∃ a dx fs, x = .ref a ∧ H1 a = some (.ins C dx fs) ∧ fs.lookup m = none ∧
  t σ H1 fun vs H2 => sp (x :: (vs ++ dvs)) H2 Q E
def Jhx (C : Addr) (sp : Sp) (dvs : List V) (E : XK) (t : TA) : TE := fun σ H Q => t σ H fun vs H1 => ∀ x dx, H1 x = none → H1 dx = none → dx ≠ x →
  sp (.ref x :: (vs ++ dvs)) (upd (upd H1 dx (.own x)) x (.ins C dx [])) (fun v H2 => v = .non ∧ Q (.ref x) H2) E
def Binds (K : PySem.W.Frag) (fd : FuncData) (ps : List Str) (ds : List Value) : Prop :=
  ∀ (s : Shared) (us : List Value), K.In s.heap → (us ++ ds).length = ps.length → BindsTo s fd ⟨us, []⟩ (ps.zip (us ++ ds))
theorem Binds.all {K : PySem.W.Frag} {fd : FuncData} {ps : List Str} (h : ∀ us : List Value, us.length = ps.length → bindArgs fd ⟨us, []⟩ = pure (ps.zip us)) : Binds K fd ps [] := fun s us _ hl => by
  rw [List.append_nil] at hl ⊢
  exact .of_eq (h us hl)
def Yc3 (CX : CXT) (X : Cx) (E : XK) : Prop := ∀ (pins : List (Addr × Obj)) (σ : St) (H : Hp) (s : Shared) (e : Value) (s' : Shared), Inv X pins σ H s → CX X.stack H s E e s' → X.xe e s'
section
variable {X : Cx} {CX : CXT} {k : Nat} {f C : Addr} {fd : FuncData} {ps : List Str} {sp : Sp} {dvs : List V} {ds : List Value} {E : XK} {x m : Str} {p pos apos : Pos} {e o : Expr} {es : List Expr} {ta : TE} {t : TA}
theorem jfA {pins : List (Addr × Obj)} {σ : St} {H : Hp} {s : Shared} {Q : VK} {us : List Value} {vs : List V} (F : Zf X.prog X.w X.K X.mg X.base CX k f fd ps sp) (hr : jby k X.A) (hb : Binds X.K fd ps ds) (hd : Vals dvs ds) (hx : Yc3 CX X E)
    (I : Inv X pins σ H s) (r : Vals vs us) (h : sp (vs ++ dvs) H Q E) : wpAny (model X.prog X.w) X.A (call (.ref f) us) (EP X pins σ Q) X.xe s := by
  have r2 : Vals (vs ++ dvs) (us ++ ds) := r.append hd
  have hl : (us ++ ds).length = ps.length := by rw [← r2.length]; exact F.len _ _ _ _ h
  refine wpAny_call (codeAny_mono (F.run X.A X.stack s H ⟨us, []⟩ (us ++ ds) (vs ++ dvs) Q E hr I.env0 (hb s us I.kIn hl) r2 h) fun r s' hq => ?_)
  cases r with
  | error e => exact hx pins σ H s e s' I hq
  | ok fl =>
    cases fl with
    | ret u => exact I.after hq
    | next => exact False.elim hq
    | brk => exact False.elim hq
    | cont => exact False.elim hq
theorem zE (F : Zf X.prog X.w X.K X.mg X.base CX k f fd ps sp) (hr : jby k X.A) (hg : Gl X x) (hm : X.mg x = some (.ref f)) (hk : PySem.W.keepIn X.K (.ref f) = true) (hb : Binds X.K fd ps ds) (hd : Vals dvs ds) (hx : Yc3 CX X E)
    (ha : PA X (e :: es) t) (hdb : (x == ("__debug__" : Str)) = false := by decide) (he : starEach (e :: es) X.env = (false, eval e X.env) :: starEach es X.env := by rfl) (hpl : (backTo pos (starEach es X.env)).any (·.1) = false := by rfl) :
    PE X (.Call (.Name x p) (e :: es) [] pos) (Yhx sp dvs E t) := by
  intro pins s σ H Q I h
  refine wpAny_Call_Name_kw (ZeH I hg hm ?_ hdb)
  refine PySem.W.callWith_K (h₀ := X.base) I.ok.mod.kin hk (thn (ha pos pins s σ H _ I h) fun us s1 ⟨vs, H1, I1, r, q⟩ => ⟨I1.kIn, ?_⟩) he hpl
  exact jfA F hr hb hd hx I1 r q
theorem z9 {pl : Sem Bool} (he : PE X o ta) (c : Cls X.K C) (hm : Meth X.K C m f) (F : Zf X.prog X.w X.K X.mg X.base CX k f fd ps sp) (hr : jby k X.A) (hb : Binds X.K fd ps ds) (hd : Vals dvs ds) (hx : Yc3 CX X E) (ha : PA X (e :: es) t)
    (hst : starEach (e :: es) X.env = (false, eval e X.env) :: starEach es X.env := by rfl) (hpl : (backTo pos (starEach es X.env)).any (·.1) = false := by rfl)
    (ht : eval (.Call (.Attribute o m apos) (e :: es) [] pos) X.env = (do
      let ov ← eval o X.env
      standAt apos.atName
      let (f, first) ← holding [ov] (getMethod ov m pl)
      callWith pos f first (backTo pos (starEach (e :: es) X.env)) (backToKw pos (keywordEach [] X.env))) := by rfl) :
    PE X (.Call (.Attribute o m apos) (e :: es) [] pos) (jhx C m sp dvs E ta t) := by
  intro pins s σ H Q I h
  refine PySem.W.methodCall_KW (pl := pl) (thn (he pins s σ H _ I h) fun u s1 ⟨x, H1, I1, rx, a, dx, fs, ex, ea, l, q⟩ => ?_) ht
  subst ex
  obtain rfl : u = Value.ref a := rx
  refine Jdn I1 ea c hm l ?_
  refine PySem.W.callWith_K (first := [.ref a]) (h₀ := X.base) I.ok.mod.kin hm.kp (thn (ha pos pins s1 σ H1 _ I1 q) fun us s2 ⟨vs, H2, I2, r, q2⟩ => ⟨I2.kIn, ?_⟩) hst hpl
  exact jfA (us := .ref a :: us) (vs := .ref a :: vs) F hr hb hd hx I2 (.cons rfl r) q2
theorem zhd {pl : Sem Bool} (he : PE X o ta) (c : Cls X.K C) (hm : Meth X.K C m f) (F : Zf X.prog X.w X.K X.mg X.base CX k f fd ps sp) (hr : jby k X.A) (hb : Binds X.K fd ps ds) (hd : Vals dvs ds) (hx : Yc3 CX X E)
    (ht : eval (.Call (.Attribute o m apos) [] [] pos) X.env = (do
      let ov ← eval o X.env
      standAt apos.atName
      let (f, first) ← holding [ov] (getMethod ov m pl)
      callWith pos f first (backTo pos (starEach [] X.env)) (backToKw pos (keywordEach [] X.env))) := by rfl) :
    PE X (.Call (.Attribute o m apos) [] [] pos) (jhx C m sp dvs E ta zhq) := by
  intro pins s σ H Q I h
  refine PySem.W.methodCall_KW (pl := pl) (thn (he pins s σ H _ I h) fun u s1 ⟨x, H1, I1, rx, a, dx, fs, ex, ea, l, q⟩ => ?_) ht
  subst ex
  obtain rfl : u = Value.ref a := rx
  refine Jdn I1 ea c hm l ?_
  exact PySem.W.callWith_K0 (first := [.ref a]) I1.kIn hm.kp (jfA (us := [.ref a]) (vs := [.ref a]) F hr hb hd hx I1 (.cons rfl .nil) q)
structure Mk (K : PySem.W.Frag) (C f : Addr) : Prop where
  makes : PySem.W.makesIn K C = true
  init : PySem.W.findIn K (.ref C) "__init__" = some (some (.ref f))
  fn : PySem.W.isFn K (.ref f) = true
  kp : PySem.W.keepIn K (.ref C) = true
theorem jgu {pins : List (Addr × Obj)} {σ : St} {H : Hp} {s : Shared} {Q : VK} {us : List Value} {vs : List V} (M : Mk X.K C f) (F : Zf X.prog X.w X.K X.mg X.base CX k f fd ps sp) (hr : jby (k + 1) X.A) (hb : Binds X.K fd ps ds) (hd : Vals dvs ds)
    (hx : Yc3 CX X E) (I : Inv X pins σ H s) (r : Vals vs us)
    (h : ∀ x dx, H x = none → H dx = none → dx ≠ x → sp (.ref x :: (vs ++ dvs)) (upd (upd H dx (.own x)) x (.ins C dx [])) (fun v H2 => v = .non ∧ Q (.ref x) H2) E) :
    wpAny (model X.prog X.w) X.A (call (.ref C) us) (EP X pins σ Q) X.xe s := by
  have hq := h (s.heap.objs.size + 1) s.heap.objs.size (I.hok.fresh (Nat.le_succ _)) (I.hok.fresh (Nat.le_refl _)) (Nat.ne_of_lt (Nat.lt_succ_self _))
  have I2 := Inv.made (C := C) I
  have r2 : Vals (V.ref (s.heap.objs.size + 1) :: (vs ++ dvs)) (Value.ref (s.heap.objs.size + 1) :: (us ++ ds)) := .cons rfl (r.append hd)
  have hl : (Value.ref (s.heap.objs.size + 1) :: us ++ ds).length = ps.length := by
    have e := r2.length
    rw [F.len _ _ _ _ hq] at e
    exact e.symm
  refine wpAny_call (jhc (f := f) I.kIn M.makes M.init (beq_iff_eq.mp M.fn) (codeAny_mono (F.run _ X.stack _ _ ⟨Value.ref (s.heap.objs.size + 1) :: us, []⟩ (Value.ref (s.heap.objs.size + 1) :: (us ++ ds)) _ _ E (hr.make C us [])
    (I2.env0.make C us []) (hb _ (Value.ref (s.heap.objs.size + 1) :: us) I2.kIn hl) r2 hq) fun r s' hq' => ?_))
  cases r with
  | error e => exact hx pins σ _ _ e s' I2 hq'
  | ok fl =>
    cases fl with
    | ret u =>
      obtain ⟨v, H', I3, rv, ev, q3⟩ := I2.after hq'
      subst ev
      exact ⟨rv, ⟨V.ref (s.heap.objs.size + 1), H', I3, rfl, q3⟩⟩
    | next => exact False.elim hq'
    | brk => exact False.elim hq'
    | cont => exact False.elim hq'
theorem JbX (M : Mk X.K C f) (F : Zf X.prog X.w X.K X.mg X.base CX k f fd ps sp) (hr : jby (k + 1) X.A) (hg : Gl X x) (hm : X.mg x = some (.ref C)) (hb : Binds X.K fd ps ds) (hd : Vals dvs ds) (hx : Yc3 CX X E)
    (ha : PA X (e :: es) t) (hdb : (x == ("__debug__" : Str)) = false := by decide) (he : starEach (e :: es) X.env = (false, eval e X.env) :: starEach es X.env := by rfl) (hpl : (backTo pos (starEach es X.env)).any (·.1) = false := by rfl) :
    PE X (.Call (.Name x p) (e :: es) [] pos) (Jhx C sp dvs E t) := by
  intro pins s σ H Q I h
  refine wpAny_Call_Name_kw (ZeH I hg hm ?_ hdb)
  refine PySem.W.callWith_K (h₀ := X.base) I.ok.mod.kin M.kp (thn (ha pos pins s σ H _ I h) fun us s1 ⟨vs, H1, I1, r, q⟩ => ⟨I1.kIn, ?_⟩) he hpl
  exact jgu M F hr hb hd hx I1 r q
theorem Zhd (M : Mk X.K C f) (F : Zf X.prog X.w X.K X.mg X.base CX k f fd ps sp) (hr : jby (k + 1) X.A) (hg : Gl X x) (hm : X.mg x = some (.ref C)) (hb : Binds X.K fd ps ds) (hd : Vals dvs ds) (hx : Yc3 CX X E)
    (hdb : (x == ("__debug__" : Str)) = false := by decide) : PE X (.Call (.Name x p) [] [] pos) (Jhx C sp dvs E zhq) := by
  intro pins s σ H Q I h
  refine wpAny_Call_Name_kw (ZeH I hg hm ?_ hdb)
  exact PySem.W.callWith_K0 I.kIn M.kp (jgu (us := []) M F hr hb hd hx I .nil h)
end
section
variable {X : Cx} {CX : CXT} {k : Nat} {f C : Addr} {fd : FuncData} {ps ks : List Str} {sp : Sp} {E : XK} {x m : Str} {p pos apos kpos : Pos} {e o : Expr} {es : List Expr} {kws : List Keyword} {te ta : TE} {t tk : TA} {nm : Option Str}
variable {g : List Value → List Value → List Value} {gV : List V → List V → List V}
end
structure Ze (N P : List Str) (sc : Scope) : Prop where
  kind : sc.kind = .function
  co : sc.isCoroutine = false
  gen : sc.isGenerator = false
  nd : N.Nodup
  pre : N.take P.length = P
  par : ∀ x ∈ P, sc.names.lookup x = some .local ∨ sc.names.lookup x = some .cell
  nofree : ∀ y ∈ sc.names, y.2 ≠ .free
theorem zf4 {kindOf : Str → Option NameKind} {x : Str} : ∀ {binds : List (Str × Value)} {m : Str → Option Value}, (∀ v, (x, v) ∉ binds) → bindL kindOf binds m x = m x
  | [], _, _ => rfl
  | (n, v) :: r, m, h => by
    unfold bindL
    rw [zf4 fun w hw => h w (List.mem_cons_of_mem _ hw)]
    split
    · have : x ≠ n := by rintro rfl; exact h v List.mem_cons_self
      simp [this]
    · rfl
theorem Zf4 {kindOf : Str → Option NameKind} {x : Str} : ∀ {binds : List (Str × Value)} {m : Str → Option Value}, (∀ v, (x, v) ∉ binds) → bindC kindOf binds m x = m x
  | [], _, _ => rfl
  | (n, v) :: r, m, h => by
    unfold bindC
    rw [Zf4 fun w hw => h w (List.mem_cons_of_mem _ hw)]
    split
    · rfl
    · have : x ≠ n := by rintro rfl; exact h v List.mem_cons_self
      simp [this]
theorem yf4 {kindOf : Str → Option NameKind} {x : Str} {v : Value} : ∀ {P : List Str} {vs : List Value} {i : Nat} {m : Str → Option Value}, P.Nodup → P[i]? = some x → vs[i]? = some v → kindOf x = some .local →
    bindL kindOf (P.zip vs) m x = some v
  | [], _, _, _, _, h, _, _ => by simp at h
  | _ :: _, [], _, _, _, _, h, _ => by simp at h
  | p :: P, w :: vs, 0, m, nd, h1, h2, hk => by
    simp at h1 h2; subst h1; subst h2
    show bindL kindOf ((p, w) :: P.zip vs) m p = _
    unfold bindL
    rw [zf4 fun v hv => (List.nodup_cons.mp nd).1 (List.of_mem_zip hv).1, if_pos hk]
    simp
  | p :: P, w :: vs, i + 1, m, nd, h1, h2, hk => by
    show bindL kindOf ((p, w) :: P.zip vs) m x = _
    unfold bindL
    exact yf4 (i := i) (List.nodup_cons.mp nd).2 (by simpa using h1) (by simpa using h2) hk
theorem Yf4 {kindOf : Str → Option NameKind} {x : Str} {v : Value} : ∀ {P : List Str} {vs : List Value} {i : Nat} {m : Str → Option Value}, P.Nodup → P[i]? = some x → vs[i]? = some v → kindOf x ≠ some .local →
    bindC kindOf (P.zip vs) m x = some v
  | [], _, _, _, _, h, _, _ => by simp at h
  | _ :: _, [], _, _, _, _, h, _ => by simp at h
  | p :: P, w :: vs, 0, m, nd, h1, h2, hk => by
    simp at h1 h2; subst h1; subst h2
    show bindC kindOf ((p, w) :: P.zip vs) m p = _
    unfold bindC
    rw [Zf4 fun v hv => (List.nodup_cons.mp nd).1 (List.of_mem_zip hv).1, if_neg hk]
    simp
  | p :: P, w :: vs, i + 1, m, nd, h1, h2, hk => by
    show bindC kindOf ((p, w) :: P.zip vs) m x = _
    unfold bindC
    exact Yf4 (i := i) (List.nodup_cons.mp nd).2 (by simpa using h1) (by simpa using h2) hk
def start (N : List Str) (vs : List V) : St := vs.map some ++ List.replicate (N.length - vs.length) none
def Yg2 (CX : CXT) (P : Program) (w : World) (K : PySem.W.Frag) (mg : Str → Option Value) (base : Heap) (N : List Str) (qual : Str) (scope : Scope) (f : Addr) (cd : Value) (A : Around) (outer : List Env) (s : Shared) (H : Hp) (E : XK) : Cx where
  prog := P
  w := w
  K := K
  mg := mg
  base := base
  A := A.deeper (envOfC qual scope s.heap.objs.size f cd)
  N := N
  s_0 := s
  H_0 := H
  env := envOfC qual scope s.heap.objs.size f cd
  outer := outer
  stack := envOfC qual scope s.heap.objs.size f cd :: outer
  ex := []
  calm := true
  fn := fun _ => true
  pn := []
  xe := fun e s' => wpAny (model P w) (A.deeper (envOfC qual scope s.heap.objs.size f cd)) (leaving (envOfC qual scope s.heap.objs.size f cd) e) (fun _ s'' => CX outer H s E e s'') (fun e' s'' => CX outer H s E e' s'') s'
theorem Jgu {sc : Scope} {n : Nat} {x : Str} (h : sc.names.lookup x = some .cell) : ∃ c, (cellsFrom n sc.names []).lookup x = some c := by
  have q := PySem.W.cellsFrom_some sc.names n [] (.inl h)
  exact Option.isSome_iff_exists.mp q
theorem jg2 {CX : CXT} {P : Program} {w : World} {K : PySem.W.Frag} {mg : Str → Option Value} {base : Heap} {N ps : List Str} {qual : Str} {scope : Scope} {f : Addr} {cd : Value} {A : Around} {outer : List Env} {s s1 : Shared} {H : Hp} {E : XK} {us : List Value} {vs : List V}
    (S : Ze N ps scope) (hd : A.handled = none) (e0 : ZgL P w K mg base A outer s H) (hl : vs.length = ps.length) (r : Vals vs us)
    (x : InCallC s s.heap.objs.size (bindL (envOfC qual scope s.heap.objs.size f cd).kindOf (ps.zip us) fun _ => none) (cellsFrom (s.heap.objs.size + 1) scope.names []) (bindC (envOfC qual scope s.heap.objs.size f cd).kindOf (ps.zip us) fun _ => none) s1) :
    Inv (Yg2 CX P w K mg base N qual scope f cd A outer s H E) [] (start N vs) H s1 := by
  have hpl : ps.length ≤ N.length := by have := congrArg List.length S.pre; rw [List.length_take] at this; omega
  obtain ⟨h1, tk, rfl, hk⟩ := x.done
  have noA : ∀ b : Addr, b ∉ (Yg2 CX P w K mg base N qual scope f cd A outer s H E).ex := fun b z => absurd (show b ∈ ([] : List Addr) from z) (by simp)
  refine ⟨⟨e0.mod, S.kind, rfl, rfl, Nat.le_refl _, fun y z c h1 h2 => ?_, fun y hy => ?_, fun y c _ h => ?_, fun _ => hd, Around.frames_deeper e0.frames, .inr ⟨rfl, rfl⟩, fun b z => absurd z (noA b), e0.bs, e0.bsz, fun b _ _ => noA b, fun b z => absurd z (noA b), e0.zfp, e0.frf⟩,
    rfl, e0.bare, Un.kept hk, ⟨_, x.toInCall.ns, fun i y v h1 h2 h3 => ?_⟩, fun y c h => ⟨_, x.cell y c h⟩, e0.hok.fresh (Nat.le_refl _), fun y c h => ?_, fun p hp => absurd (show p ∈ ([] : List (Addr × Obj)) from hp) (by simp), e0.hok.kept hk, ?_⟩
  · exact name_of_addr x.apart (PySem.mem_of_lookup h1) (PySem.mem_of_lookup h2)
  · have hy : scope.names.lookup y = some .cell ∨ scope.names.lookup y = some .free := hy
    rcases hy with hy | hy
    · exact Jgu hy
    · exact absurd rfl (S.nofree _ (PySem.mem_of_lookup hy))
  · exact Nat.le_of_lt (x.above y c (PySem.mem_of_lookup h))
  · have hi : i < vs.length := by
      unfold start at h2
      by_cases hi : i < vs.length
      · exact hi
      · rw [List.getElem?_append_right (by simpa using hi)] at h2
        rw [List.getElem?_replicate] at h2
        split at h2 <;> cases h2
    have ha : vs[i]? = some v := by
      unfold start at h2
      rw [List.getElem?_append_left (by simpa using hi), List.getElem?_map] at h2
      cases e : vs[i]? with
      | none => rw [e] at h2; cases h2
      | some a => rw [e] at h2; cases h2; rfl
    obtain ⟨u, hu, rv⟩ := r.get ha
    have hp : ps[i]? = some y := by
      rw [← S.pre, List.getElem?_take_of_lt (by omega)]; exact h1
    have ndP : ps.Nodup := by rw [← S.pre]; exact S.nd.sublist (List.take_sublist _ _)
    refine ⟨u, rv, ?_⟩
    rcases S.par y (List.mem_of_getElem? hp) with k | k
    · exact .inl ⟨k, yf4 ndP hp hu k⟩
    · obtain ⟨c, e⟩ := Jgu (n := s.heap.objs.size + 1) k
      refine .inr ⟨.inl k, c, e, ?_⟩
      have q := x.cell y c e
      rw [Yf4 ndP hp hu (by show scope.names.lookup y ≠ _; rw [k]; decide)] at q
      exact q
  · exact e0.hok.fresh (Nat.le_of_lt (x.above y c (PySem.mem_of_lookup h)))
  · unfold start
    show _ = N.length
    rw [List.length_append, List.length_map, List.length_replicate]
    omega
theorem JhG {CX : CXT} {P : Program} {w : World} {K : PySem.W.Frag} {mg : Str → Option Value} {base : Heap} {k : Nat} {f : Addr} {name qual : Str} {params : Arguments} {body : List Stmt} {scope : Scope} {dV kV doc pm cdv ct oc : Value} {an od : Option Addr}
    {osl : Array (Option Value)} {N ps : List Str} {sp : Sp} (lk : K.lookup f = some ⟨oc, od, .func (PySem.W.fnOf name qual params body scope dV kV doc pm an cdv ct), osl⟩) (hcd : PySem.W.codeIn K cdv qual = true) (S : Ze N ps scope)
    (len : ∀ vs H Q E, sp vs H Q E → vs.length = ps.length)
    (hbody : ∀ (A : Around) (outer : List Env) (s : Shared) (H : Hp) (vs : List V) (Q : VK) (E : XK), jby k (A.deeper (envOfC qual scope s.heap.objs.size f cdv)) → sp vs H Q E →
      ∃ t, PSs (Yg2 CX P w K mg base N qual scope f cdv A outer s H E) body t ∧ t { nx := fun _ H' => Q .non H', rt := Q } (start N vs) H) :
    Zf P w K mg base CX (k + 1) f (PySem.W.fnOf name qual params body scope dV kV doc pm an cdv ct) ps sp := by
  refine ⟨len, fun A outer s H args us vs Q E hr e0 hb r hsp => ?_⟩
  have hl := len _ _ _ _ hsp
  have KX : K.In s.heap := e0.mod.kin.keeps fun b o e => (e0.bs b o e).1
  have lim : s.heap.NoLimit := e0.mod.nolimit.keeps fun b o e => (e0.bs b o e).1
  have hkind : ∀ y ∈ ps.zip us, scope.names.lookup y.1 = some .local ∨ (scope.names.lookup y.1 = some .cell ∧ ((cellsFrom (s.heap.objs.size + 1) scope.names []).lookup y.1).isSome = true) := fun ⟨n, v⟩ hy => by
    rcases S.par n (List.of_mem_zip hy).1 with q | q
    · exact .inl q
    · exact .inr ⟨q, PySem.W.cellsFrom_some _ _ _ (.inl q)⟩
  refine codeAny_call_function hr.depth (KX _ _ lk) rfl S.co S.gen rfl (PySem.W.codeRec_of KX hcd) (hb _ _ _ _ ?_)
  refine wpAny_newFunctionEnv_cells S.kind hkind fun env he s1 x => ?_
  subst he
  refine ⟨lim.keeps x.toInCall.keep, codeAny_func ?_⟩
  obtain ⟨t, ht, hq⟩ := hbody A outer s H vs Q E (hr.deeper _) hsp
  have I : Inv (Yg2 CX P w K mg base N qual scope f cdv A outer s H E) [] (start N vs) H s1 := jg2 S hr.hd e0 hl r x
  refine wpAny_mono (ht [] s1 (start N vs) H _ I hq) (fun fl s' hs => ?_) fun e s' hs => hs
  have fin : ∀ {σ' : St} {H' : Hp} {v : V} {u : Value}, Inv (Yg2 CX P w K mg base N qual scope f cdv A outer s H E) [] σ' H' s' → RelV v u → Q v H' → CE outer P w H s Q u s' :=
    fun {σ' H' v u} J rv q => ⟨v, H', J.os, J.bare, J.base, J.hok, rv, q⟩
  cases fl with
  | ret u =>
    obtain ⟨v, σ', H', J, rv, q⟩ := hs
    exact fin J rv q
  | next =>
    obtain ⟨σ', H', J, q⟩ := hs
    exact fin (v := V.non) (u := Value.none) J rfl q
  | brk =>
    obtain ⟨_, _, _, q⟩ := hs
    exact False.elim q
  | cont =>
    obtain ⟨_, _, _, q⟩ := hs
    exact False.elim q
end L2
namespace L2
open PySem PySem.Spec PyProof.Rows
section
variable {X : Cx} {x : Str} {p pos : Pos} {e : Expr} {es : List Expr} {t : TA} {id T : String} {r : List V → Hp → VK → Prop}
def tCB (r : List V → Hp → VK → Prop) (t : TA) : TE := fun σ H Q => t σ H fun vs H1 => r vs H1 Q
theorem Zu (hc : jcj X (.builtin id) r) (hg : Gl X x) (hm : X.mg x = none) (hv : bootBuiltins x = some (.builtin id)) (ha : PA X (e :: es) t) (hn : x ≠ "__name__" := by decide) (hdb : (x == ("__debug__" : Str)) = false := by decide)
    (he : starEach (e :: es) X.env = (false, eval e X.env) :: starEach es X.env := by rfl) (hpl : (backTo pos (starEach es X.env)).any (·.1) = false := by rfl) : PE X (.Call (.Name x p) (e :: es) [] pos) (tCB r t) := by
  intro pins s σ H Q I h
  refine wpAny_Call_Name_kw (jge I hg hm hv ?_ hn hdb)
  exact PyProof.Rows.callWith_builtin1 (thn (ha pos pins s σ H _ I h) fun us s1 ⟨vs, H1, I1, r1, q1⟩ => hc pins s1 σ H1 vs us Q I1 r1 q1) he hpl
theorem jf4 (hc : jcj X (.type T) r) (hg : Gl X x) (hm : X.mg x = none) (hv : bootBuiltins x = some (.type T)) (ha : PA X (e :: es) t) (hn : x ≠ "__name__" := by decide) (hdb : (x == ("__debug__" : Str)) = false := by decide)
    (he : starEach (e :: es) X.env = (false, eval e X.env) :: starEach es X.env := by rfl) (hpl : (backTo pos (starEach es X.env)).any (·.1) = false := by rfl) : PE X (.Call (.Name x p) (e :: es) [] pos) (tCB r t) := by
  intro pins s σ H Q I h
  refine wpAny_Call_Name_kw (jge I hg hm hv ?_ hn hdb)
  exact PyProof.Rows.callWith_type1 (thn (ha pos pins s σ H _ I h) fun us s1 ⟨vs, H1, I1, r1, q1⟩ => hc pins s1 σ H1 vs us Q I1 r1 q1) he hpl
end
end L2
namespace HT
open PySem PyProof.Rows
section
open PySem.SeqAt
open PySem.AutoSeq1 (wpAny_loadPart')
open PySem.MeetsSeq PySem.MeetsSeq2 PySem.MeetsSeq3
end
section
variable {prog : Program} {w : World} {A : Around} {E : Value → Shared → Prop} {s : Shared}
def sIx (n d : Nat) : Option Int → Nat
  | none => d
  | some v => if v < 0 then (v + (n : Int)).toNat else min v.toNat n
theorem ygf (n d k : Nat) : sIx n d (some (k : Int)) = min k n := by
  show (if (k : Int) < 0 then ((k : Int) + (n : Int)).toNat else min (k : Int).toNat n) = min k n
  rw [if_neg (by omega), Int.toNat_natCast]
end
end HT
namespace L2
open PySem PySem.Spec PyProof.Rows
abbrev TO := St → Hp → (Option Int → Hp → Prop) → Prop
def PO (X : Cx) (e : Option Expr) (t : TO) : Prop :=
  ∀ (pins : List (Addr × Obj)) (s : Shared) (σ : St) (H : Hp) (Q : Option Int → Hp → Prop), Inv X pins σ H s → t σ H Q →
    wpAny (model X.prog X.w) X.A (evalPart e X.env) (fun u s' => ∃ o H', Inv X pins σ H' s' ∧ IsPart u o ∧ Q o H') X.xe s
def Zhq : TO := fun _ H Q => Q none H
def zhH (t : TE) : TO := fun σ H Q => t σ H fun x H1 => ∃ i, x = .int i ∧ Q (some i) H1
section
variable {X : Cx} {e : Expr} {te : TE} {lo hi : Option Expr} {tl th : TO} {pos p2 : Pos}
theorem YgU : PO X none Zhq := by
  intro pins s σ H Q I h
  rw [evalPart_none]
  exact wpAny_pure ⟨none, H, I, .none, h⟩
theorem Yfx (h : PE X e te) : PO X (some e) (zhH te) := by
  intro pins s σ H Q I hw
  rw [evalPart_some]
  refine thn (h pins s σ H _ I hw) fun u s1 ⟨x, H1, I1, r1, q1⟩ => ?_
  obtain ⟨i, rfl, q⟩ := q1
  obtain ⟨t, rfl⟩ := r1
  exact ⟨some i, H1, I1, .int i t, q⟩
def SlR (X : Cx) (r : V → Option Int → Option Int → Hp → VK → Prop) : Prop :=
  ∀ (pins : List (Addr × Obj)) (s : Shared) (σ : St) (H : Hp) (x : V) (v vl vu : Value) (lo hi : Option Int) (sl : Addr) (Q : VK), Inv X pins σ H s → RelV x v → s.heap.IsSliceOf sl vl vu .none → IsPart vl lo → IsPart vu hi → r x lo hi H Q →
    ∃ T id, typeLookup (.type T) "__getitem__" = pure (some (.builtin id)) ∧ s.TypeIs v T ∧ wpAny (model X.prog X.w) X.A (getItem v (.ref sl)) (EP X pins σ Q) X.xe s
def tSl (r : V → Option Int → Option Int → Hp → VK → Prop) (te : TE) (tl th : TO) : TE := fun σ H Q => te σ H fun x H1 => tl σ H1 fun l H2 => th σ H2 fun u H3 => r x l u H3 Q
theorem JfA {r : V → Option Int → Option Int → Hp → VK → Prop} (hr : SlR X r) (he : PE X e te) (hl : PO X lo tl) (hu : PO X hi th) : PE X (.Subscript e (.Slice lo hi none p2) pos) (tSl r te tl th) := by
  intro pins s σ H Q I h
  refine Subscript_ (thn (he pins s σ H _ I h) fun v s1 ⟨x, H1, I1, r1, q1⟩ => ?_)
  refine wpAny_Slice (thn (hl pins s1 σ H1 _ I1 q1) fun vl s2 ⟨l, H2, I2, pl, q2⟩ => thn (hu pins s2 σ H2 _ I2 q2) fun vu s3 ⟨u, H3, I3, pu, q3⟩ => ?_)
  rw [evalPart_none]
  refine wpAny_pure ?_
  have I4 : Inv X pins σ H3 { s3 with heap := s3.heap.push { cls := .type "slice", data := .fields #[vl, vu, .none] } } := I3.kept (t' := s3.toks) fun b ob q => Heap.get?_push_of_some _ q
  obtain ⟨T, id, hT, ht, hg⟩ := hr pins { s3 with heap := s3.heap.push { cls := .type "slice", data := .fields #[vl, vu, .none] } } σ H3 x v vl vu l u s3.heap.objs.size Q I4 r1 (Heap.IsSliceOf.new ..) pl pu q3
  show wpAny (model X.prog X.w) X.A (subscriptTail e (.Slice lo hi none p2) v (.ref s3.heap.objs.size)) (EP X pins σ Q) X.xe { s3 with heap := s3.heap.push { cls := .type "slice", data := .fields #[vl, vu, .none] } }
  exact tail_any (ops := [.ref s3.heap.objs.size, v]) ht hT hg (by with_unfolding_all rfl)
def zfB (xs : List V) (lo hi : Option Int) : List V := (xs.drop (HT.sIx xs.length 0 lo)).take (HT.sIx xs.length xs.length hi - HT.sIx xs.length 0 lo)
theorem zgv (xs : List V) (lo hi : Option Int) : (zfB xs lo hi).length ≤ xs.length := by
  unfold zfB
  rw [List.length_take, List.length_drop]
  omega
end
end L2
namespace L2
open PySem PySem.Spec PyProof.Rows
def ixN (n : Nat) (i : Int) : Option Nat := if 0 ≤ i then (if i < n then some i.toNat else none) else if -(n : Int) ≤ i then some (i + n).toNat else none
def atI {α : Type} (xs : List α) (i : Int) : Option α := (ixN xs.length i).bind fun j => xs[j]?
theorem yhq {n : Nat} {i : Int} {j : Nat} (h : ixN n i = some j) : seqIndex? i n = some j ∧ j < n ∧ -(n : Int) ≤ i ∧ i < n := by
  unfold ixN at h
  by_cases h0 : 0 ≤ i
  · rw [if_pos h0] at h
    by_cases h1 : i < n
    · rw [if_pos h1] at h
      have e : i.toNat = j := Option.some.inj h
      exact ⟨by rw [seqIndex_of h0 h1, e], by omega, by omega, h1⟩
    · rw [if_neg h1] at h; cases h
  · rw [if_neg h0] at h
    by_cases h1 : -(n : Int) ≤ i
    · rw [if_pos h1] at h
      have e : (i + n).toNat = j := Option.some.inj h
      exact ⟨by rw [seqIndex_neg (by omega) h1, e], by omega, h1, by omega⟩
    · rw [if_neg h1] at h; cases h
theorem Ygf {α : Type} {xs : List α} {i : Int} {v : α} (h : atI xs i = some v) : ∃ j, seqIndex? i xs.length = some j ∧ xs[j]? = some v ∧ j < xs.length ∧ -(xs.length : Int) ≤ i ∧ i < xs.length := by
  unfold atI at h
  cases e : ixN xs.length i with
  | none => rw [e] at h; cases h
  | some j =>
    rw [e] at h
    obtain ⟨h1, h2, h3, h4⟩ := yhq e
    exact ⟨j, h1, h, h2, h3, h4⟩
theorem zdo {α : Type} {xs : List α} {j : Nat} {v : α} (h : xs[j]? = some v) : atI xs (j : Int) = some v := by
  have hj : j < xs.length := (List.getElem?_eq_some_iff.mp h).1
  have e : ixN xs.length (j : Int) = some j := by
    unfold ixN
    rw [if_pos (by omega), if_pos (by omega)]; simp
  unfold atI; rw [e]; exact h
def Yhq (b : Expr) : Prop := ∀ o i, subscripted b false o i = operate [o, i] (getItem o i)
def IxR (X : Cx) (r : R2) : Prop :=
  ∀ (value slice : Expr) (pins : List (Addr × Obj)) (s : Shared) (σ : St) (H : Hp) (x y : V) (v u : Value) (Q : VK), Inv X pins σ H s → RelV x v → RelV y u → r x y H Q →
    subscripted slice false v u = operate [v, u] (getItem v u) → wpAny (model X.prog X.w) X.A (subscriptTail value slice v u) (EP X pins σ Q) X.xe s
def MtR (X : Cx) (id : String) (r : V → List V → Hp → VK → Prop) : Prop :=
  ∀ (pins : List (Addr × Obj)) (s : Shared) (σ : St) (H : Hp) (x : V) (xs : List V) (v : Value) (us : List Value) (Q : VK), Inv X pins σ H s → RelV x v → Vals xs us → r x xs H Q →
    wpAny (model X.prog X.w) X.A (call (.builtin id) (v :: us)) (EP X pins σ Q) X.xe s
section
variable {X : Cx} {a b : Expr} {ta tb : TE} {pos : Pos}
theorem IxR.or {r r' : R2} (h : IxR X r) (h' : IxR X r') : IxR X (fun x y H Q => r x y H Q ∨ r' x y H Q) := by
  intro value slice pins s σ H x y v u Q I rx ry q hs
  rcases q with q | q
  · exact h value slice pins s σ H x y v u Q I rx ry q hs
  · exact h' value slice pins s σ H x y v u Q I rx ry q hs
theorem Jj {r : R2} (hr : IxR X r) (ha : PE X a ta) (hb : PE X b tb) (hs : Yhq b) : PE X (.Subscript a b pos) (tOp r ta tb) := by
  intro pins s σ H Q I h
  exact Subscript_ (Jhz ha hb I h fun v u s2 x y H2 I2 rx ry q => hr a b pins s2 σ H2 x y v u Q I2 rx ry q (hs _ _))
def ZhH (K : PySem.W.Frag) : R2 := fun x y H Q => ∃ p xs i v, x = .ref p ∧ y = .int i ∧ SqL K H p xs ∧ atI xs i = some v ∧ Q v H
def yhH (K : PySem.W.Frag) : R2 := fun x y H Q => ∃ p xs i v, x = .ref p ∧ y = .int i ∧ SqT K H p xs ∧ atI xs i = some v ∧ Q v H
def YhH : R2 := fun x y H Q => ∃ z i c, x = .str z ∧ y = .int i ∧ z.length ≤ sizeLine ∧ atI z.cps.toList i = some c ∧ Q (.str ⟨#[c]⟩) H
theorem jhq : IxR X (ZhH X.K) := by
  intro value slice pins s σ H x y v u Q I rx ry h hs
  obtain ⟨p, xs, i, z, rfl, rfl, hq, he, q⟩ := h
  cases rx
  obtain ⟨t, rfl⟩ := ry
  obtain ⟨its, r, pl, hz⟩ := I.list hq
  obtain ⟨j, h1, h2, h3, h4, h5⟩ := Ygf he
  obtain ⟨w, ew, rw'⟩ := r.get h2
  have hl := r.length
  have hn := Zgf
  have fin : EP X pins σ Q w s := ⟨z, H, I, rw', q⟩
  by_cases h0 : 0 ≤ i
  · have hj : i.toNat = j := by
      rw [seqIndex_of h0 h5] at h1
      exact Option.some.inj h1
    exact item_listR pl.isList h0 (by omega) (by rw [hj]; simpa using ew) fin hs
  · have hj : (i + (its.toArray.size : Int)).toNat = j := by
      rw [seqIndex_neg (by omega) h4] at h1
      rw [List.size_toArray, ← hl]
      exact Option.some.inj h1
    exact subscriptTail_builtinR (x := w) pl.isList.typeIs slot_list_getitem.lookup
      (wpAny_getItem_list_neg (Q := fun r s' => r = w ∧ EP X pins σ Q r s') pl.isList (by omega) (by rw [List.size_toArray] <;> omega) (by omega) (by rw [hj]; simpa using ew) ⟨rfl, fin⟩) hs
theorem YhA : IxR X (yhH X.K) := by
  intro value slice pins s σ H x y v u Q I rx ry h hs
  obtain ⟨p, xs, i, z, rfl, rfl, hq, he, q⟩ := h
  cases rx
  obtain ⟨t, rfl⟩ := ry
  obtain ⟨its, r, pl, hz⟩ := I.tuple hq
  obtain ⟨j, h1, h2, h3, h4, h5⟩ := Ygf he
  obtain ⟨w, ew, rw'⟩ := r.get h2
  have hl := r.length
  have hn := Zgf
  have fin : EP X pins σ Q w s := ⟨z, H, I, rw', q⟩
  exact subscriptTail_builtinR (x := w) pl.typeIs slot_tuple_getitem.lookup
    (getItem_tuple (j := j) (Q := fun r s' => r = w ∧ EP X pins σ Q r s') pl (by omega) (by omega) (by rw [List.size_toArray, ← hl]; exact h1) (by simpa using ew) ⟨rfl, fin⟩) hs
theorem jhA : IxR X YhH := by
  intro value slice pins s σ H x y v u Q I rx ry h hs
  obtain ⟨z, i, c, rfl, rfl, hz, he, q⟩ := h
  obtain ⟨t, rfl⟩ := rx
  obtain ⟨t', rfl⟩ := ry
  obtain ⟨j, h1, h2, h3, h4, h5⟩ := Ygf he
  have hl : z.cps.toList.length = z.length := by simp [Str.length]
  rw [hl] at h1 h4 h5
  have hn := Zgf
  exact tail_any (typeIs_str s z t) slot_str_getitem.lookup (getItem_str (c := c) (by
    have e1 : decide (i < -(2 ^ 63 : Int)) = false := decide_eq_false (by omega)
    have e2 : decide (i ≥ 2 ^ 63) = false := decide_eq_false (by omega)
    rw [e1, e2, Bool.or_false]) (by rw [h1]; simpa using h2) ⟨.str ⟨#[c]⟩, H, I.tok _, ⟨_, rfl⟩, q⟩) hs
def rIx (K : PySem.W.Frag) : R2 := fun x y H Q => ZhH K x y H Q ∨ yhH K x y H Q ∨ YhH x y H Q
theorem JhA : IxR X (rIx X.K) := jhq.or (YhA.or jhA)
theorem jgf (lo hi : Option Int) (n : Nat) : (sliceBounds lo hi none n).1 = ((HT.sIx n 0 lo : Nat) : Int) ∧ (sliceBounds lo hi none n).2.1 = ((HT.sIx n n hi : Nat) : Int) ∧ (sliceBounds lo hi none n).2.2 = 1 := by
  refine ⟨?_, ?_, rfl⟩
  · cases lo with
    | none => simp [sliceBounds, HT.sIx]
    | some i =>
      simp only [sliceBounds, HT.sIx, Option.getD_none, show (1 : Int) > 0 by decide, if_true]
      by_cases h : i < 0
      · simp only [h, if_true] <;> omega
      · simp only [h, if_false] <;> omega
  · cases hi with
    | none => simp [sliceBounds, HT.sIx]
    | some i =>
      simp only [sliceBounds, HT.sIx, Option.getD_none, show (1 : Int) > 0 by decide, if_true]
      by_cases h : i < 0
      · simp only [h, if_true] <;> omega
      · simp only [h, if_false] <;> omega
theorem yfV (its : List Value) (lo hi : Option Int) : slicePick its.toArray lo hi none = ((its.drop (HT.sIx its.length 0 lo)).take (HT.sIx its.length its.length hi - HT.sIx its.length 0 lo)).toArray := by
  obtain ⟨h1, h2, h3⟩ := jgf lo hi its.toArray.size
  unfold slicePick
  rw [h1, h2, h3]
  simp only [sliceRange_one, pick_run, List.size_toArray] <;> rfl
def jhH (K : PySem.W.Frag) : V → Option Int → Option Int → Hp → VK → Prop := fun x lo hi H Q => ∃ a xs, x = .ref a ∧ SqL K H a xs ∧ ∀ p, H p = none → Q (.ref p) (upd H p (.lst (zfB xs lo hi)))
theorem Jhq : SlR X (jhH X.K) := by
  intro pins s σ H x v vl vu lo hi sl Q I rx hs pl pu h
  obtain ⟨a, xs, rfl, hx, q⟩ := h
  cases rx
  obtain ⟨its, r, ht, hz⟩ := I.list hx
  have hlen := r.length
  refine ⟨"list", _, slot_list_getitem.lookup, ht.isList.typeIs, ?_⟩
  refine wpAny_getItem_list_slice ht.isList hs pl pu .none (by simp) ?_ (by rw [List.size_toArray] <;> omega)
  rw [yfV, ← hlen]
  refine ⟨.ref s.heap.objs.size, _, I.laid (t' := s.toks) (o := .lst (zfB xs lo hi)) (fun b ob q => Heap.get?_push_of_some _ q) (Nat.le_refl _) ?_, rfl, q _ (I.hok.fresh (Nat.le_refl _))⟩
  exact ⟨Nat.le_trans (zgv xs lo hi) hz, _, 0, (r.drop (HT.sIx xs.length 0 lo)).take (HT.sIx xs.length xs.length hi - HT.sIx xs.length 0 lo), Heap.get?_push_size _ rfl⟩
theorem Jgf : jcj X (.builtin "len") (fun xs H Q => ∃ p ys, xs = [.ref p] ∧ (SqL X.K H p ys ∨ SqT X.K H p ys) ∧ Q (.int ys.length) H) := by
  intro pins s σ H xs us Q I r h
  obtain ⟨p, ys, rfl, hq, q⟩ := h
  obtain ⟨u, rfl, rx⟩ := vals1 r
  cases rx
  have hn := Zgf
  rcases hq with hq | hq
  · obtain ⟨its, r', pl, hz⟩ := I.list hq
    have hlen := r'.length
    exact Calls.call_len_list pl.isList (by simp only [List.size_toArray] <;> omega) ⟨.int ys.length, H, I.tok _, ⟨s.toks + 1, by rw [List.size_toArray, hlen]⟩, q⟩
  · obtain ⟨its, r', pl, hz⟩ := I.tuple hq
    have hlen := r'.length
    exact len_tuple pl (by simp only [List.size_toArray] <;> omega) ⟨.int ys.length, H, I.tok _, ⟨s.toks + 1, by rw [List.size_toArray, hlen]⟩, q⟩
theorem zgg : jcj X (.type "list") (fun xs H Q => ∃ p ys, xs = [.ref p] ∧ (SqL X.K H p ys ∨ SqT X.K H p ys) ∧ ∀ l, H l = none → Q (.ref l) (upd H l (.lst ys))) := by
  intro pins s σ H xs us Q I r h
  obtain ⟨p, ys, rfl, hq, q⟩ := h
  obtain ⟨u, rfl, rx⟩ := vals1 r
  cases rx
  have fin : ∀ (its : List Value), Vals ys its → ys.length ≤ sizeLine → ∀ (h' : Heap) (c' : Nat), (∀ b o', s.heap.get? b = some o' → h'.get? b = some o') →
      h'.get? s.heap.objs.size = some { cls := .type "list", dict := none, data := .seq its.toArray c', slots := #[] } → EP X pins σ Q (.ref s.heap.objs.size) { s with heap := h' } := fun its r' hz h' c' kp e =>
    ⟨.ref s.heap.objs.size, _, I.laid (t' := s.toks) kp (Nat.le_refl _) (show zP X.prog X.w _ h' _ (.lst ys) from ⟨hz, its, c', r', e⟩), rfl, q _ (I.hok.fresh (Nat.le_refl _))⟩
  rcases hq with hq | hq
  · obtain ⟨its, r', pl, hz⟩ := I.list hq
    have hlen := r'.length
    obtain ⟨o, ho, hc, n, hd⟩ := pl.isList
    exact call_list_seq p (.inl rfl) ho hc hd (fun h' c' kp e => fin its r' hz h' c' kp e) (by simp only [List.size_toArray] <;> omega)
  · obtain ⟨its, r', pl, hz⟩ := I.tuple hq
    have hlen := r'.length
    obtain ⟨o, ho, hc, n, hd⟩ := pl
    exact call_list_seq p (.inr rfl) ho hc hd (fun h' c' kp e => fin its r' hz h' c' kp e) (by simp only [List.size_toArray] <;> omega)
def tyV (K : PySem.W.Frag) (T : String) (x : V) (H : Hp) : Prop := match x with
  | .str _ => T = "str"
  | .int _ => T = "int"
  | .ref p => (T = "list" ∧ ∃ xs, SqL K H p xs) ∨ (T = "tuple" ∧ ∃ o, K.lookup p = some o ∧ o.cls = .type "tuple" ∧ o.dict = none) ∨
      (T = "dict" ∧ ((∃ kvs, H p = some (.dK kvs)) ∨ ∃ kvs, H p = some (.dT kvs))) ∨ (T = "set" ∧ ∃ S n, H p = some (.set S n))
  | _ => False
theorem zhB {pins : List (Addr × Obj)} {σ : St} {H : Hp} {s : Shared} {T : String} {x : V} {v : Value} (I : Inv X pins σ H s) (r : RelV x v) (ty : tyV X.K T x H) :
    s.TypeIs v T ∧ ∀ a, v = .ref a → ∃ ob, s.heap.get? a = some ob ∧ ob.dict = none := by
  cases x with
  | str z =>
    obtain ⟨t, rfl⟩ := r
    cases (show T = "str" from ty)
    exact ⟨typeIs_str s z t, fun _ e => nomatch e⟩
  | int i =>
    obtain ⟨t, rfl⟩ := r
    cases (show T = "int" from ty)
    exact ⟨typeIs_int s i t, fun _ e => nomatch e⟩
  | ref p =>
    cases r
    rcases ty with ⟨rfl, xs, hq⟩ | ⟨rfl, o, hk, hc, hd⟩ | ⟨rfl, hk⟩ | ⟨rfl, S, n, hk⟩
    · obtain ⟨its, _, pl, _⟩ := I.list hq
      refine ⟨pl.isList.typeIs, fun a e => ?_⟩
      cases e
      obtain ⟨o, n, e, c, hd, _⟩ := pl
      exact ⟨o, e, hd⟩
    · refine ⟨⟨o, I.kIn p o hk, hc⟩, fun a e => ?_⟩
      cases e
      exact ⟨o, I.kIn _ o hk, hd⟩
    · have z : ∃ o, s.heap.get? p = some o ∧ o.ExactDict := by
        rcases hk with ⟨kvs, hk⟩ | ⟨kvs, hk⟩
        · obtain ⟨_, _, _, _, o, _, _, e, ex, _⟩ := I.hok p _ hk
          exact ⟨o, e, ex⟩
        · obtain ⟨_, _, _, _, o, _, _, e, ex, _⟩ := I.hok p _ hk
          exact ⟨o, e, ex⟩
      obtain ⟨o, e, ex⟩ := z
      refine ⟨⟨o, e, ex.1⟩, fun a e2 => ?_⟩
      cases e2
      exact ⟨o, e, ex.2.1⟩
    · obtain ⟨o, _, _, _, e, ex, _⟩ := I.hok p _ hk
      refine ⟨⟨o, e, ex.1⟩, fun a e2 => ?_⟩
      cases e2
      exact ⟨o, e, ex.2.1⟩
  | _ => exact False.elim ty
def tBM (K : PySem.W.Frag) (T : String) (r : V → List V → Hp → VK → Prop) (to : TE) (t : TA) : TE := fun σ H Q => to σ H fun x H1 => tyV K T x H1 ∧ t σ H1 fun xs H2 => r x xs H2 Q
variable {o e : Expr} {es : List Expr} {to : TE} {t : TA} {name : Str} {apos cpos : Pos} {T id : String} {r : V → List V → Hp → VK → Prop}
theorem Zen (pa : PlainAttrs T) (slot : Slot T name id) (hty : typeOf (.builtin id) = pure (.type "method_descriptor")) (hm : MtR X id r) (ho : PE X o to) (ha : PA X (e :: es) t)
    (hbase : attributeBase o name X.env (eval o X.env) = eval o X.env := by rfl)
    (hfew : ((backTo cpos (starEach (e :: es) X.env)).all (fun x => !x.1) && (backToKw cpos (keywordEach [] X.env)).all (fun x => x.1.isSome)
      && decide ((e :: es).length + ([] : List Keyword).length + (if ([] : List Keyword).isEmpty then 0 else 1) < 30)) = true := by rfl)
    (hline : (apos.endLine == cpos.line) = true := by rfl) (hs : starEach (e :: es) X.env = (false, eval e X.env) :: starEach es X.env := by rfl) (hplain : (backTo cpos (starEach es X.env)).any (·.1) = false := by rfl) :
    PE X (.Call (.Attribute o name apos) (e :: es) [] cpos) (tBM X.K T r to t) := by
  intro pins s σ H Q I h
  refine wpAny_Call_method_late hbase hfew hline rfl (thn (ho pins s σ H _ I h) fun v s1 ⟨x, H1, I1, r1, ty, q1⟩ => ?_)
  obtain ⟨h1, h2⟩ := zhB I1 r1 ty
  refine ⟨T, id, pa, slot, hty, h1, h2, ?_⟩
  have hA := ha cpos pins s1 σ H1 _ I1 q1
  rw [hs] at hA ⊢
  refine Calls.callWith_builtin (by show (false || (backTo cpos (starEach es X.env)).any (·.1)) = false; rw [hplain] <;> rfl) (Calls.evalArgs_plain ?_)
  exact thn hA fun us s2 ⟨vs, H2, I2, r2, q2⟩ => hm pins s2 σ H2 x vs v us Q I2 r1 r2 q2
end
end L2
namespace L2
open PySem PySem.Spec PyProof.Rows
def MtM (X : Cx) (id : String) (r : V → List V → Hp → VK → Prop) : Prop :=
  ∀ (pins : List (Addr × Obj)) (s : Shared) (σ : St) (H : Hp) (x : V) (xs : List V) (v : Value) (us : List Value) (Q : VK), Inv X pins σ H s → RelV x v → Vals xs us → r x xs H Q →
    wpAny (model X.prog X.w) X.A (call (.builtin id) (v :: us)) (EP X pins σ Q) X.xe s
theorem Vals.one : ∀ {x : V} {us : List Value}, Vals [x] us → ∃ u, us = [u] ∧ RelV x u
  | _, _, .cons r .nil => ⟨_, rfl, r⟩
section
variable {X : Cx} {pins : List (Addr × Obj)} {σ : St} {H : Hp} {s : Shared} {l b : Addr} {xs ys zs : List V}
theorem Inv.JhH {its its' : List Value} {n : Nat} {f : Array Value → Array Value} {t' : Nat} (I : Inv X pins σ H s) (hH : H l = some (.lst xs))
    (e : s.heap.get? l = some { cls := .type "list", data := .seq its.toArray n }) (hf : f its.toArray = its'.toArray) (hv : Vals ys its') (hz : ys.length ≤ sizeLine) :
    Inv X pins σ (upd H l (.lst ys)) { s with heap := s.heap.update l (Obj.mapSeq f), toks := t' } := by
  have q := PySem.IsL.update e f
  rw [hf] at q
  refine I.write (x := l) (e := l) (by rw [hH]; exact trivial) (.inl rfl) (fun b' u hb hu => (Heap.get?_update_other s.heap (Obj.mapSeq f) (Ne.symm hb)).trans hu) ⟨_, q⟩ ?_
  exact ⟨hz, its', _, hv, q⟩
theorem Inv.jhN {its : List Value} {t' : Nat} (I : Inv X pins σ H s) (hv : Vals ys its) (hz : ys.length ≤ sizeLine) :
    Inv X pins σ (upd H s.heap.objs.size (.lst ys)) { s with heap := s.heap.push { cls := .type "list", data := .seq its.toArray }, toks := t' } :=
  I.laid (fun _ _ q => Heap.get?_push_of_some _ q) (Nat.le_refl _) ⟨hz, its, 0, hv, Heap.get?_push_size _ rfl⟩
theorem Inv.fresh (I : Inv X pins σ H s) : H s.heap.objs.size = none := I.hok.fresh (Nat.le_refl _)
theorem Inv.yhd (I : Inv X pins σ H s) (hH : H l = some (.lst xs)) : xs.length ≤ sizeLine ∧ ∃ (its : List Value) (n : Nat), Vals xs its ∧ xs.length = its.length ∧ s.heap.get? l = some { cls := .type "list", data := .seq its.toArray n } := by
  obtain ⟨z, its, n, r, e⟩ := I.hok l _ hH
  exact ⟨z, its, n, r, r.length, e⟩
theorem Yhd {n : Nat} (h : n ≤ sizeLine) : Builtin.List.listTooLong n = false := by
  unfold Builtin.List.listTooLong
  exact decide_eq_false (by omega)
end
section
variable {X : Cx}
def zhr : V → List V → Hp → VK → Prop := fun x vs H Q => ∃ l xs y, x = .ref l ∧ vs = [y] ∧ H l = some (.lst xs) ∧ xs.length < sizeLine ∧ Q .non (upd H l (.lst (xs ++ [y])))
theorem ybU : MtM X "list.append" zhr := by
  intro pins s σ H x vs v us Q I rx rv h
  obtain ⟨l, xs, y, rfl, rfl, hH, hz, q⟩ := h
  cases rx
  obtain ⟨u, rfl, ru⟩ := rv.one
  obtain ⟨z, its, n, r, hl, e⟩ := I.yhd hH
  refine call_meets F.slot_list_append ⟨_, e, rfl⟩ F.entry_list_append (F.args_list_append_2 _ _) (PySem.list_append l its.toArray n u (by rw [List.size_toArray]; omega)) ⟨e, ?_⟩
  refine ⟨.non, _, I.JhH (its' := its ++ [u]) hH e (by simp) (r.append (.cons ru .nil)) ?_, rfl, q⟩
  rw [List.length_append, List.length_singleton]
  omega
def Zhr : V → List V → Hp → VK → Prop := fun x vs H Q => ∃ l b xs zs, x = .ref l ∧ vs = [.ref b] ∧ H l = some (.lst xs) ∧ H b = some (.lst zs) ∧ xs.length + zs.length ≤ sizeLine ∧ Q .non (upd H l (.lst (xs ++ zs)))
theorem Je3 : MtM X "list.extend" Zhr := by
  intro pins s σ H x vs v us Q I rx rv h
  obtain ⟨l, b, xs, zs, rfl, rfl, hH, hB, hz, q⟩ := h
  cases rx
  obtain ⟨u, rfl, ru⟩ := rv.one
  cases ru
  obtain ⟨z, its, n, r, hl, e⟩ := I.yhd hH
  obtain ⟨z2, its2, n2, r2, hl2, e2⟩ := I.yhd hB
  have hsz : its.toArray.size + its2.toArray.size ≤ sizeLine := by rw [List.size_toArray, List.size_toArray]; omega
  have hlong : ¬ (!its.toArray.isEmpty && Builtin.List.listTooLong (its.toArray.size + its2.toArray.size)) = true := by
    rw [Yhd hsz, Bool.and_false]
    exact Bool.false_ne_true
  refine call_meets F.slot_list_extend ⟨_, e, rfl⟩ F.entry_list_extend (F.args_list_extend_2 _ _)
    (AutoSeq1.list_extend_list_list_0 l its.toArray n b its2.toArray n2 hlong (by rw [List.size_toArray]; omega) (by omega)) ⟨e, e2, ?_⟩
  refine ⟨.non, _, I.JhH (its' := its ++ its2) hH e (by simp) (r.append r2) ?_, rfl, q⟩
  rw [List.length_append]
  omega
def JhN : R2 := fun x y H Q => ∃ l b xs zs, x = .ref l ∧ y = .ref b ∧ H l = some (.lst xs) ∧ H b = some (.lst zs) ∧ xs.length + zs.length ≤ sizeLine ∧ ∀ p, H p = none → Q (.ref p) (upd H p (.lst (xs ++ zs)))
theorem jhd : OpR X (binaryOp .Add) JhN := by
  intro pins s σ H x y v u Q I rx ry h
  obtain ⟨l, b, xs, zs, rfl, rfl, hH, hB, hz, q⟩ := h
  cases rx
  cases ry
  obtain ⟨z, its, n, r, hl, e⟩ := I.yhd hH
  obtain ⟨z2, its2, n2, r2, hl2, e2⟩ := I.yhd hB
  refine PySem.P.add_list e e2 ?_ (by rw [List.size_toArray, List.size_toArray]; omega)
  have ea : its.toArray ++ its2.toArray = (its ++ its2).toArray := by simp
  rw [ea]
  exact ⟨.ref _, _, I.jhN (t' := s.toks) (r.append r2) (by rw [List.length_append]; omega), rfl, q _ I.fresh⟩
end
section
variable {prog : Program} {w : World} {A : Around} {E : Value → Shared → Prop} {s : Shared}
set_option maxRecDepth 100000 in
end
section
variable {X : Cx}
end
end L2
namespace L2
open PySem PySem.Spec PyProof.Rows
theorem Vals.ints : ∀ {ns : List Int} {us : List Value}, Vals (ns.map V.int) us → IntsAre us ns
  | [], us, h => by
    rw [List.map_nil] at h
    cases h
    exact IntsAre.nil
  | n :: ns, us, h => by
    rw [List.map_cons] at h
    cases h with
    | cons r t =>
      obtain ⟨k, rfl⟩ := r
      exact IntsAre.cons n k (Vals.ints t)
theorem Vals.bls : ∀ {bs : List Bool} {us : List Value}, Vals (bs.map V.bl) us → us = bs.map Value.bool
  | [], us, h => by
    rw [List.map_nil] at h
    cases h
    rfl
  | b :: bs, us, h => by
    rw [List.map_cons] at h
    cases h with
    | cons r t =>
      cases r
      rw [Vals.bls t, List.map_cons]
theorem Vals.zhI {a : Addr} {us : List Value} (r : Vals [V.ref a] us) : us = [Value.ref a] := by
  cases r with
  | cons r t =>
    cases t
    cases r
    rfl
section
variable {prog : Program} {w : World} {A : Around} {E : Value → Shared → Prop} {s : Shared} {l : Addr} {its : List Value} {ns : List Int} {Q : Value → Shared → Prop}
theorem yhr (hh : A.handled = none) (hl : s.heap.IsList l its.toArray) (hi : IntsAre its ns)
    (h : ∀ h' tk t', (∀ b o, s.heap.get? b = some o → h'.get? b = some o) → Q (.int ns.sum t') { s with heap := h', toks := tk }) : wpAny (model prog w) A (call (.builtin "sum") [.ref l]) Q E s := by
  obtain ⟨xs, e⟩ := hi.allInts.items
  have hn : numsOf (intItems xs).toList = ns := by rw [← e]; exact hi.numsOf
  rw [nums_intItems] at hn
  rw [e] at hl
  refine PySem.sum_intListG hh hl fun h' tk t' hk => ?_
  have := h h' tk t' hk
  rw [preSum_eq, List.take_of_length_le (by simp), hn]; exact this
end
section
variable {X : Cx}
def ZhI (K : PySem.W.Frag) : List V → Hp → VK → Prop := fun vs H Q => ∃ (a : Addr) (ns : List Int), vs = [V.ref a] ∧ SqL K H a (ns.map V.int) ∧ Q (.int ns.sum) H
theorem ZhB (hc : X.calm = true) : jcj X (.builtin "sum") (ZhI X.K) := by
  intro pins s σ H vs us Q I r h
  obtain ⟨a, ns, rfl, hs, q⟩ := h
  obtain ⟨its, rv, hl, _⟩ := I.list hs
  rw [Vals.zhI r]
  exact yhr (I.ok.hd hc) hl.isList rv.ints fun h' tk t' hk => ⟨.int _, H, I.kept hk, ⟨_, rfl⟩, q⟩
end
section
variable {X : Cx}
end
section
variable {X : Cx}
end
theorem Jhd {prog : Program} {w : World} {A : Around} {E : Value → Shared → Prop} {s : Shared} {l : Addr} {items : Array Value} {Q : Value → Shared → Prop} (hl : s.heap.IsList l items)
    (h : ∀ s₂ : Shared, s₂ = { s with heap := s.heap.push { cls := .type "list_iterator", data := .fields #[.ref l, .int 0 0] } } →
      (s₂.heap.IsListIter s.heap.objs.size l 0 ∧ s₂.heap.IsList l items) → l ≠ s.heap.objs.size → Q (.ref s.heap.objs.size) s₂) : wpAny (model prog w) A (pyIter (.ref l)) Q E s := by
  have hlt : l < s.heap.objs.size := by obtain ⟨_, e, _⟩ := hl; exact Heap.lt_size e
  exact wpAny_pyIter_list hl (h _ rfl ⟨⟨_, Heap.get?_push_size _ rfl, rfl, rfl⟩, hl.push _⟩ (Nat.ne_of_lt hlt))
theorem Zgv {prog : Program} {w : World} {A : Around} {bs : List Bool} {its : List Value} (e : its = bs.map Value.bool) :
    TruthOf prog w A (fun i v => its.toArray[i]? = some v) (fun i => bs.getD i false) := fun i v s Q E hv hq => by
  have hv' : its[i]? = some v := by simpa using hv
  rw [e, List.getElem?_map] at hv'
  obtain ⟨b, hb, rfl⟩ := Option.map_eq_some_iff.mp hv'
  have hg : bs.getD i false = b := by rw [List.getD_eq_getElem?_getD, hb] <;> rfl
  have hq' : Q (bs.getD i false) s := hq
  rw [hg] at hq'
  exact wpAny_truthy_bool hq'
theorem any_range : ∀ bs : List Bool, (List.range bs.length).any (fun i => bs.getD i false) = bs.any id
  | [] => rfl
  | b :: bs => by
    rw [List.length_cons, List.range_succ_eq_map, List.any_cons, List.any_map, List.any_cons, ← any_range bs]
    all_goals rfl
section
variable {X : Cx}
def yhI (K : PySem.W.Frag) : List V → Hp → VK → Prop := fun vs H Q => ∃ (a : Addr) (bs : List Bool), vs = [V.ref a] ∧ SqL K H a (bs.map V.bl) ∧ Q (.bl (bs.any id)) H
theorem yhB (hc : X.calm = true) : jcj X (.builtin "any") (yhI X.K) := by
  intro pins s σ H vs us Q I r h
  obtain ⟨a, bs, rfl, hs, q⟩ := h
  obtain ⟨its, rv, hl, _⟩ := I.list hs
  rw [Vals.zhI r]
  have hb := rv.bls
  refine call_any_walk (Jhd hl.isList fun s₂ e2 st hne => ?_)
  subst e2
  refine ⟨_, _, _, _, _, _, _, rfl, Walks.list (A := X.A.in1) (I.ok.hd hc) _ a hne its.toArray, st, Zgv hb, fun h' tk hk => ?_⟩
  refine ⟨.bl _, H, I.kept fun b o eo => hk b o (fun hmem => ?_) (Heap.get?_push_of_some _ eo), ?_, q⟩
  · rcases List.mem_cons.mp hmem with e1 | hmem
    · exact absurd (e1 ▸ Heap.lt_size eo) (Nat.lt_irrefl _)
    · cases hmem
  · show Value.bool _ = Value.bool _
    rw [← any_range, hb, List.size_toArray, List.length_map]
end
mutual
inductive Dp (K : PySem.W.Frag) (H : Hp) : V → PyData → Prop
  | non : Dp K H .non .none
  | bl (b : Bool) : Dp K H (.bl b) (.bool b)
  | int (i : Int) : Dp K H (.int i) (.int i)
  | str (x : Str) : Dp K H (.str x) (.str x)
  | lst {a : Addr} {xs : List V} {ds : List PyData} : SqL K H a xs → Jf4 K H xs ds → Dp K H (.ref a) (.list ds)
  | tup {a : Addr} {xs : List V} {ds : List PyData} : SqT K H a xs → Jf4 K H xs ds → Dp K H (.ref a) (.tuple ds)
inductive Jf4 (K : PySem.W.Frag) (H : Hp) : List V → List PyData → Prop
  | nil : Jf4 K H [] []
  | cons {v : V} {vs : List V} {d : PyData} {ds : List PyData} : Dp K H v d → Jf4 K H vs ds → Jf4 K H (v :: vs) (d :: ds)
end
section
variable {X : Cx} {pins : List (Addr × Obj)} {σ : St} {H : Hp} {s : Shared}
mutual
theorem Dp.reads (I : Inv X pins σ H s) : ∀ (d : PyData) (v : V) (u : Value), Dp X.K H v d → RelV v u → ∃ as, Reads s.heap u d as
  | .none, _, _, h, r => by
    cases h
    cases r
    exact ⟨_, Reads.none⟩
  | .bool b, _, _, h, r => by
    cases h
    cases r
    exact ⟨_, Reads.bool b⟩
  | .int i, _, _, h, r => by
    cases h
    obtain ⟨t, rfl⟩ := r
    exact ⟨_, Reads.int i t⟩
  | .str x, _, _, h, r => by
    cases h
    obtain ⟨t, rfl⟩ := r
    exact ⟨_, Reads.str x t⟩
  | .list ds, _, _, h, r => by
    cases h with
    | lst hs ha =>
      cases r
      obtain ⟨its, rv, ⟨o, n, ho, hc, _, hd⟩, _⟩ := I.list hs
      obtain ⟨as, hr⟩ := Dp.readsAll I ds _ its ha rv
      exact ⟨_, Reads.list ho hc hd hr⟩
  | .tuple ds, _, _, h, r => by
    cases h with
    | tup hs ha =>
      cases r
      obtain ⟨its, rv, ⟨o, ho, hc, n, hd⟩, _⟩ := I.tuple hs
      obtain ⟨as, hr⟩ := Dp.readsAll I ds _ its ha rv
      exact ⟨_, Reads.tuple ho hc hd hr⟩
  | .dict _, _, _, h, _ => by cases h
theorem Dp.readsAll (I : Inv X pins σ H s) : ∀ (ds : List PyData) (vs : List V) (us : List Value), Jf4 X.K H vs ds → Vals vs us → ∃ as, ReadsAll s.heap us ds as
  | [], _, _, h, r => by
    cases h
    cases r
    exact ⟨_, ReadsAll.nil⟩
  | d :: ds, _, _, h, r => by
    cases h with
    | cons h1 h2 =>
      cases r with
      | cons r1 r2 =>
        obtain ⟨as, q1⟩ := Dp.reads I d _ _ h1 r1
        obtain ⟨bs, q2⟩ := Dp.readsAll I ds _ _ h2 r2
        exact ⟨_, ReadsAll.cons q1 q2⟩
end
end
section
variable {X : Cx}
def YhI (K : PySem.W.Frag) : R2 := fun x y H Q => ∃ d e, Dp K H x d ∧ Dp K H y e ∧ SeqAt.shaped d = true ∧ SeqAt.shaped e = true ∧ Q (.bl (!PyData.eqv d e)) H
theorem YhB (hu : X.A.units + 64 < cLine) : OpR X (compareOp .NotEq) (YhI X.K) := by
  intro pins s σ H x y v u Q I rx ry h
  obtain ⟨d, e, hd, he, sd, se, q⟩ := h
  obtain ⟨as, r1⟩ := Dp.reads I d x v hd rx
  obtain ⟨bs, r2⟩ := Dp.reads I e y u he ry
  exact SeqAt.compareNe_shaped r1 r2 sd se hu ⟨.bl _, H, I, rfl, q⟩
end
end L2
namespace L2
open PySem PySem.Spec PyProof.Rows
abbrev zhe (h : Heap) (c : Addr) (v : Option Value) : Prop := h.IsCell c v
def zhO (scope sc : Scope) : Scope :=
  { scope with names := scope.names.map fun (n, k) => if (k == .free && sc.kind == .function && sc.names.lookup n == some .cell) then (n, .cell) else (n, k) }
def Z9 (cells : List (Str × Addr)) : List (Str × NameKind) → List (Str × Addr) → List (Str × Addr)
  | [], acc => acc
  | (n, k) :: r, acc => if k == .free then Z9 cells r ((n, (cells.lookup n).getD 0) :: acc) else Z9 cells r acc
theorem ZeI (env : Env) (f : Str × NameKind → List (Str × Addr) → Sem (ForInStep (List (Str × Addr))))
    (hf : ∀ n k c, f (n, k) c = if k == .free then (do let a ← cellOf env n; pure (.yield ((n, a) :: c))) else pure (.yield c)) :
    ∀ (names : List (Str × NameKind)) (acc : List (Str × Addr)), (∀ y ∈ names, y.2 = .free → ∃ c, env.cells.lookup y.1 = some c) → forIn names acc f = pure (Z9 env.cells names acc)
  | [], acc, _ => by rw [List.forIn_nil]; rfl
  | (n, k) :: r, acc, h => by
    rw [List.forIn_cons, hf]
    have ih := fun acc => ZeI env f hf r acc fun y hy => h y (List.mem_cons_of_mem _ hy)
    unfold Z9
    by_cases hk : (k == NameKind.free) = true
    · rw [if_pos hk, if_pos hk]
      obtain ⟨c, hc⟩ := h (n, k) List.mem_cons_self (by simpa using hk)
      have e : cellOf env n = pure c := by unfold cellOf; rw [hc]
      rw [e]
      have e2 : (env.cells.lookup n).getD 0 = c := by rw [hc]; rfl
      rw [e2]
      exact ih _
    · rw [if_neg hk, if_neg hk]
      exact ih _
theorem ygL {scope : Scope} {env : Env} (h : ∀ y ∈ scope.names, y.2 = .free → ∃ c, env.cells.lookup y.1 = some c) : closureFor scope env = pure (Z9 env.cells scope.names []) := by
  simp only [closureFor]
  rw [ZeI env _ (fun n k c => rfl) scope.names [] h]
  rfl
theorem mem_lookup {α : Type} : ∀ {l : List (Str × α)} {n : Str} {c : α}, (n, c) ∈ l → ∃ c', l.lookup n = some c'
  | (k, v) :: r, n, c, h => by
    rw [List.lookup_cons]
    cases hb : n == k with
    | true => exact ⟨_, rfl⟩
    | false =>
      rcases List.mem_cons.mp h with e | h
      · cases e; simp at hb
      · exact mem_lookup h
theorem JcO {cells : List (Str × Addr)} : ∀ {names : List (Str × NameKind)} {acc : List (Str × Addr)} {n : Str} {c : Addr}, (n, c) ∈ Z9 cells names acc → (n, c) ∈ acc ∨ ((n, .free) ∈ names ∧ c = (cells.lookup n).getD 0)
  | [], _, _, _, h => .inl h
  | (m, k) :: r, acc, n, c, h => by
    unfold Z9 at h
    split at h
    · rename_i hk
      have hk : k = .free := by simpa using hk
      rcases JcO h with h | ⟨h1, h2⟩
      · rcases List.mem_cons.mp h with e | h
        · cases e; exact .inr ⟨hk ▸ List.mem_cons_self, rfl⟩
        · exact .inl h
      · exact .inr ⟨List.mem_cons_of_mem _ h1, h2⟩
    · rcases JcO h with h | ⟨h1, h2⟩
      · exact .inl h
      · exact .inr ⟨List.mem_cons_of_mem _ h1, h2⟩
theorem jdO {cells : List (Str × Addr)} : ∀ {names : List (Str × NameKind)} {acc : List (Str × Addr)} {p : Str × Addr}, p ∈ acc → p ∈ Z9 cells names acc
  | [], _, _, h => h
  | (m, k) :: r, acc, p, h => by
    unfold Z9
    split
    · exact jdO (List.mem_cons_of_mem _ h)
    · exact jdO h
theorem JdO {cells : List (Str × Addr)} : ∀ {names : List (Str × NameKind)} {acc : List (Str × Addr)} {n : Str}, (n, .free) ∈ names → (n, (cells.lookup n).getD 0) ∈ Z9 cells names acc
  | (m, k) :: r, acc, n, h => by
    unfold Z9
    rcases List.mem_cons.mp h with e | h
    · cases e
      exact jdO List.mem_cons_self
    · split
      · exact JdO h
      · exact JdO h
theorem zdb : ∀ {names : List (Str × NameKind)} {h : Heap} {acc : List (Str × Addr)} {x : Str} {c : Addr}, (x, c) ∈ cellsFrom h.objs.size names acc →
    (x, c) ∈ acc ∨ ((x, .cell) ∈ names ∧ h.objs.size ≤ c ∧ zhe (pushCells h names) c none)
  | [], _, _, _, _, h => .inl h
  | (n, k) :: r, h, acc, x, c, hm => by
    unfold cellsFrom at hm
    unfold pushCells
    split at hm
    · rename_i hk
      rw [if_pos hk]
      have hk : k = .cell := by simpa using hk
      rw [← Heap.size_push h { cls := .type "cell", data := .cell none }] at hm
      rcases zdb hm with hm | ⟨h1, h2, h3⟩
      · rcases List.mem_cons.mp hm with e | hm
        · cases e
          exact .inr ⟨hk ▸ List.mem_cons_self, Nat.le_refl _, _, pushCells_keeps r _ _ _ (Heap.get?_push_size _ rfl), rfl⟩
        · exact .inl hm
      · rw [Heap.size_push] at h2
        exact .inr ⟨List.mem_cons_of_mem _ h1, Nat.le_of_succ_le h2, h3⟩
    · rename_i hk
      rw [if_neg hk]
      rcases zdb hm with hm | ⟨h1, h2, h3⟩
      · exact .inl hm
      · exact .inr ⟨List.mem_cons_of_mem _ h1, h2, h3⟩
theorem zee : ∀ {names : List (Str × NameKind)} {n : Nat} {acc : List (Str × Addr)} {p : Str × Addr}, p ∈ acc → p ∈ cellsFrom n names acc
  | [], _, _, _, h => h
  | (m, k) :: r, n, acc, p, h => by
    unfold cellsFrom
    split
    · exact zee (List.mem_cons_of_mem _ h)
    · exact zee h
theorem ze4 : ∀ {names : List (Str × NameKind)} {n : Nat} {acc : List (Str × Addr)} {x : Str}, (x, .cell) ∈ names → ∃ c, (x, c) ∈ cellsFrom n names acc
  | (m, k) :: r, n, acc, x, h => by
    unfold cellsFrom
    rcases List.mem_cons.mp h with e | h
    · cases e
      exact ⟨n, zee List.mem_cons_self⟩
    · split
      · exact ze4 h
      · exact ze4 h
theorem Ze4 : ∀ {names : List (Str × NameKind)} {h : Heap} {acc : List (Str × Addr)} {x y : Str} {c : Addr}, (∀ p ∈ acc, p.2 < h.objs.size) → (∀ x y c, (x, c) ∈ acc → (y, c) ∈ acc → x = y) →
    (x, c) ∈ cellsFrom h.objs.size names acc → (y, c) ∈ cellsFrom h.objs.size names acc → x = y
  | [], _, _, _, _, _, _, hi, h1, h2 => hi _ _ _ h1 h2
  | (n, k) :: r, h, acc, x, y, c, hl, hi, h1, h2 => by
    unfold cellsFrom at h1 h2
    split at h1
    · rename_i hk
      rw [if_pos hk] at h2
      rw [← Heap.size_push h { cls := .type "cell", data := .cell none }] at h1 h2
      refine Ze4 (h := h.push _) (fun p hp => ?_) (fun x y c a b => ?_) h1 h2
      · rw [Heap.size_push]
        rcases List.mem_cons.mp hp with rfl | hp
        · exact Nat.lt_succ_self _
        · exact Nat.lt_succ_of_lt (hl p hp)
      · rcases List.mem_cons.mp a with e | a <;> rcases List.mem_cons.mp b with e' | b
        · cases e; cases e'; rfl
        · cases e; exact absurd (hl _ b) (Nat.lt_irrefl _)
        · cases e'; exact absurd (hl _ a) (Nat.lt_irrefl _)
        · exact hi _ _ _ a b
    · rename_i hk
      rw [if_neg hk] at h2
      exact Ze4 hl hi h1 h2
theorem ygv {M : Model} {A : Around} {E : Value → Shared → Prop} {s : Shared} {scope : Scope} {globals : Addr} {closure : List (Str × Addr)} {qual : Str} {func : Option Addr} {code : Value} {around : Env} {builtins : Addr} {Q : Env → Shared → Prop}
    (h : Q (newEnv scope s.heap.objs.size globals (cellsFrom (s.heap.objs.size + 1) scope.names closure) qual func code (some around) builtins)
      { s with heap := pushCells (s.heap.push { cls := .type "dict", data := .dict #[] }) scope.names }) :
    wpAny M A (newFunctionEnv scope globals closure [] qual func code (some around) builtins) Q E s := by
  simp only [newFunctionEnv, Option.isSome_some, if_true]
  refine wpAny_bind (wpAny_alloc ?_)
  refine wpAny_bind (wpAny_layCells _ (fun n k c => rfl) scope.names closure _ _ ?_)
  rw [show ({ s with heap := s.heap.push { cls := .type "dict", data := .dict #[] } } : Shared).heap.objs.size = s.heap.objs.size + 1 from Heap.size_push ..]
  rw [List.forIn_nil]
  exact wpAny_bind (wpAny_pure (wpAny_pure h))
theorem zdP {sc : Scope} : ∀ {names : List (Str × NameKind)} {x : Str} {k : NameKind},
    (names.map fun (n, k) => if (k == NameKind.free && sc.kind == .function && sc.names.lookup n == some .cell) then (n, NameKind.cell) else (n, k)).lookup x = some k →
    ∃ k', names.lookup x = some k' ∧ (k = k' ∨ (k' = .free ∧ k = .cell))
  | [], _, _, h => by simp at h
  | (n, k₀) :: r, x, k, h => by
    have ih := @zdP sc r x k
    have h' : List.lookup x ((if (k₀ == NameKind.free && sc.kind == .function && sc.names.lookup n == some .cell) = true then (n, NameKind.cell) else (n, k₀)) :: (r.map _)) = some k := h
    cases hx : x == n with
    | true =>
      simp only [List.lookup_cons, hx]
      by_cases hc : (k₀ == NameKind.free && sc.kind == .function && sc.names.lookup n == some .cell) = true
      · rw [if_pos hc] at h'
        simp only [List.lookup_cons, hx] at h'
        cases h'
        simp only [Bool.and_eq_true, beq_iff_eq] at hc
        exact ⟨k₀, rfl, .inr ⟨hc.1.1, rfl⟩⟩
      · rw [if_neg hc] at h'
        simp only [List.lookup_cons, hx] at h'
        cases h'
        exact ⟨_, rfl, .inl rfl⟩
    | false =>
      simp only [List.lookup_cons, hx]
      by_cases hc : (k₀ == NameKind.free && sc.kind == .function && sc.names.lookup n == some .cell) = true
      · rw [if_pos hc] at h'
        simp only [List.lookup_cons, hx] at h'
        exact ih h'
      · rw [if_neg hc] at h'
        simp only [List.lookup_cons, hx] at h'
        exact ih h'
structure ydy (N : List Str) (sc scope : Scope) (own : List (Str × Nat)) : Prop where
  kind : scope.kind = .function
  uniq : ∀ y ∈ scope.names, scope.names.lookup y.1 = some y.2
  ix : ∀ p ∈ own, N[p.2]? = some p.1
  free : ∀ y ∈ scope.names, y.2 = .free → sc.names.lookup y.1 = some .cell ∨ sc.names.lookup y.1 = some .free
  own : ∀ y ∈ scope.names, y.2 = .local ∨ y.2 = .cell → y.1 ∈ own.map (·.1) ∨ y.1 ∉ N
def wipe (σ : St) : List Nat → St
  | [] => σ
  | v :: vs => (wipe σ vs).set v none
theorem ZdP (σ : St) : ∀ vs : List Nat, (wipe σ vs).length = σ.length
  | [] => rfl
  | v :: vs => by unfold wipe; rw [List.length_set, ZdP σ vs]
theorem ye4 {σ : St} {i : Nat} {x : V} : ∀ {vs : List Nat}, (wipe σ vs)[i]? = some (some x) → σ[i]? = some (some x) ∧ i ∉ vs
  | [], h => ⟨h, by simp⟩
  | v :: vs, h => by
    unfold wipe at h
    by_cases hi : v = i
    · subst hi
      by_cases hv : v < (wipe σ vs).length
      · rw [List.getElem?_set_self hv] at h; cases h
      · rw [List.getElem?_eq_none (by simpa using hv)] at h; cases h
    · rw [List.getElem?_set_ne hi] at h
      obtain ⟨h1, h2⟩ := ye4 h
      exact ⟨h1, by simp only [List.mem_cons, not_or]; exact ⟨fun e => hi e.symm, h2⟩⟩
abbrev Cx.blk (X : Cx) (s : Shared) (H : Hp) (scope : Scope) (cenv : Env) (fp : List Addr) : Cx := { X with s_0 := s, H_0 := H, env := cenv, outer := X.stack, ex := fp, fn := fun x => scope.names.lookup x == some .cell, pn := [], xe := fun _ _ => False }
section
variable {X : Cx} {pins : List (Addr × Obj)} {σ : St} {H : Hp} {s : Shared}
theorem Ygv {scope : Scope} {own : List (Str × Nat)} {fp : List Addr} (I : Inv X pins σ H s) (ok : ydy X.N X.env.scope scope own) (hN : X.N.Nodup) (hfp : ∀ b ∈ fp, ZfA X pins H b ∧ b < s.heap.objs.size) :
    Inv (X.blk s H scope (compEnvC scope (cellsFrom (s.heap.objs.size + 1) scope.names (Z9 X.env.cells scope.names [])) s.heap.objs.size X.env) fp) [] (wipe σ (own.map (·.2))) H { s with heap := pushCells (s.heap.push { cls := .type "dict", data := .dict #[] }) scope.names } := by
  have hfree : ∀ y ∈ scope.names, y.2 = .free → ∃ c, X.env.cells.lookup y.1 = some c := fun y hy e => by
    rcases ok.free y hy e with k | k
    · exact I.ok.has _ (.inl k)
    · exact I.ok.has _ (.inr k)
  generalize hcenv : compEnvC scope (cellsFrom (s.heap.objs.size + 1) scope.names (Z9 X.env.cells scope.names [])) s.heap.objs.size X.env = cenv
  have kp : ∀ b o, s.heap.get? b = some o → (pushCells (s.heap.push { cls := .type "dict", data := .dict #[] }) scope.names).get? b = some o := fun b o e => pushCells_keeps _ _ _ _ (Heap.get?_push_of_some _ e)
  have hL : cenv.locals = s.heap.objs.size := by rw [← hcenv]; rfl
  have hcl : cenv.cells = cellsFrom (s.heap.objs.size + 1) scope.names (Z9 X.env.cells scope.names []) := by rw [← hcenv]; rfl
  have hsc : cenv.scope = zhO scope X.env.scope := by rw [← hcenv]; rfl
  rw [← Heap.size_push s.heap { cls := .type "dict", data := .dict #[] }] at hcl
  have cm : ∀ {y c}, (y, c) ∈ Z9 X.env.cells scope.names [] → X.env.cells.lookup y = some c ∧ c < s.heap.objs.size := fun {y c} hm => by
    rcases JcO hm with hm | ⟨h1, rfl⟩
    · cases hm
    · obtain ⟨c, hc⟩ := hfree _ h1 rfl
      rw [hc]
      obtain ⟨w, z⟩ := I.cell _ _ hc
      exact ⟨rfl, z.lt⟩
  have mem : ∀ {y c}, cenv.cells.lookup y = some c → (X.env.cells.lookup y = some c ∧ c < s.heap.objs.size) ∨ (s.heap.objs.size + 1 ≤ c ∧ zhe (pushCells (s.heap.push { cls := .type "dict", data := .dict #[] }) scope.names) c none) := fun {y c} e => by
    rw [hcl] at e
    rcases zdb (PySem.mem_of_lookup e) with hm | ⟨_, h2, h3⟩
    · exact .inl (cm hm)
    · rw [Heap.size_push] at h2; exact .inr ⟨h2, h3⟩
  have look : ∀ {y}, scope.names.lookup y = some .free → ∃ c, cenv.cells.lookup y = some c ∧ X.env.cells.lookup y = some c := fun {y} hl => by
    have hy : (y, NameKind.free) ∈ scope.names := PySem.mem_of_lookup hl
    obtain ⟨c', e'⟩ := mem_lookup (zee (names := scope.names) (n := (s.heap.push { cls := .type "dict", data := .dict #[] }).objs.size) (JdO (cells := X.env.cells) (acc := []) hy))
    rw [← hcl] at e'
    refine ⟨c', e', ?_⟩
    rw [hcl] at e'
    rcases zdb (PySem.mem_of_lookup e') with hm | ⟨h1, _, _⟩
    · exact (cm hm).1
    · have := ok.uniq _ h1
      rw [hl] at this; cases this
  have okB : (X.blk s H scope cenv fp).Ok := by
    refine ⟨I.ok.mod, by show cenv.scope.kind = _; rw [hsc]; exact ok.kind, by show cenv.globals = _; rw [← hcenv]; exact I.ok.glob, by show cenv.builtins = _; rw [← hcenv]; exact I.ok.blt, by show s.heap.objs.size ≤ cenv.locals; rw [hL]; exact Nat.le_refl _,
      fun y z c e1 e2 => ?_, fun y hy => ?_, fun y c z e => ?_, I.ok.hd, I.ok.frames, .inl rfl, fun b hb => ⟨?_, fun y c e z => ?_⟩, I.bs, Nat.le_trans I.ok.bsz I.sz, fun b o e hb => ?_, fun b hb z => ?_, I.stack, I.zgT⟩
    · have e1 : cenv.cells.lookup y = some c := e1
      have e2 : cenv.cells.lookup z = some c := e2
      rw [hcl] at e1 e2
      refine Ze4 (fun p hp => ?_) (fun y z c a b => I.ok.inj y z c (cm a).1 (cm b).1) (PySem.mem_of_lookup e1) (PySem.mem_of_lookup e2)
      rw [Heap.size_push]
      exact Nat.lt_succ_of_lt (cm (y := p.1) (c := p.2) hp).2
    · show ∃ c, cenv.cells.lookup y = some c
      have key : ∀ k, cenv.kindOf y = some k → (k = .cell ∨ k = .free) → ∃ c, cenv.cells.lookup y = some c := fun k hk hk' => by
        unfold Env.kindOf at hk
        rw [hsc] at hk
        obtain ⟨k', e, r⟩ := zdP hk
        have : k' = .cell ∨ k' = .free := by
          rcases r with rfl | ⟨rfl, _⟩
          · exact hk'
          · exact .inr rfl
        rcases this with rfl | rfl
        · obtain ⟨c, hm⟩ := ze4 (n := (s.heap.push { cls := .type "dict", data := .dict #[] }).objs.size) (acc := Z9 X.env.cells scope.names []) (PySem.mem_of_lookup e)
          obtain ⟨c', e'⟩ := mem_lookup hm
          exact ⟨c', by rw [hcl]; exact e'⟩
        · obtain ⟨c, h1, _⟩ := look e
          exact ⟨c, h1⟩
      rcases hy with hy | hy
      · exact key _ hy (.inl rfl)
      · exact key _ hy (.inr rfl)
    · have z : (scope.names.lookup y == some NameKind.cell) = true := z
      have z : scope.names.lookup y = some .cell := by simpa using z
      have e : cenv.cells.lookup y = some c := e
      rw [hcl] at e
      rcases zdb (PySem.mem_of_lookup e) with hm | ⟨_, h2, _⟩
      · rcases JcO hm with hm | ⟨h1, _⟩
        · cases hm
        · have q := ok.uniq _ h1
          rw [z] at q; cases q
      · rw [Heap.size_push] at h2
        exact Nat.le_of_succ_le h2
    · show b ≠ cenv.locals
      rw [hL]; exact Nat.ne_of_lt (hfp b hb).2
    · have e : cenv.cells.lookup y = some c := e
      rcases mem e with ⟨h1, _⟩ | ⟨h1, _⟩
      · exact (hfp b hb).1.2.2.2.2.1 y c h1 z
      · have h2 : s.heap.objs.size + 1 ≤ b := by rw [← z]; exact h1
        exact absurd (Nat.lt_of_lt_of_le (hfp b hb).2 (Nat.le_of_succ_le h2)) (Nat.lt_irrefl _)
    · rcases (hfp b hb).1.2.2.2.1 with z | z
      · exact I.ok.noex b o e z
      · exact absurd (Nat.lt_of_lt_of_le (Heap.lt_size e) (Nat.le_trans I.ok.bsz z)) (Nat.lt_irrefl _)
    · rcases List.mem_cons.mp (I.JgJ b z) with z | z
      · exact (hfp b hb).1.2.1 z
      · exact (hfp b hb).1.2.2.1 z
  refine ⟨okB, rfl, I.bare, Un.kept kp, ⟨fun _ => none, ?_, fun i y av e1 e2 e3 => ?_⟩, fun y c e => ?_, ?_, fun y c e => ?_, fun p hp => ?_, I.hok.kept kp, by rw [ZdP]; exact I.len⟩
  · show Heap.Ns _ cenv.locals _
    rw [hL]
    exact Heap.Ns.keeps (Heap.Ns.new ..) fun b o e => pushCells_keeps _ _ _ _ e
  · obtain ⟨e2, hne⟩ := ye4 e2
    have hfr : scope.names.lookup y = some .free ∧ (cenv.kindOf y = some .cell ∨ cenv.kindOf y = some .free) := by
      have key : ∀ k, cenv.scope.names.lookup y = some k → k = .local ∨ k = .cell ∨ k = .free → scope.names.lookup y = some .free ∧ (cenv.kindOf y = some .cell ∨ cenv.kindOf y = some .free) := fun k hk hk' => by
        have hk0 := hk
        rw [hsc] at hk
        obtain ⟨k', e, r⟩ := zdP hk
        have no : ¬ (k' = .local ∨ k' = .cell) := fun hh => by
          rcases ok.own _ (PySem.mem_of_lookup e) hh with e' | e'
          · obtain ⟨p, hp, hpy⟩ := List.mem_map.mp e'
            have e3 := ok.ix p hp
            have : p.1 = y := hpy
            rw [this] at e3
            exact hne (List.mem_map.mpr ⟨p, hp, Jfz hN e3 e1⟩)
          · exact e' (List.mem_of_getElem? e1)
        rcases r with rfl | ⟨rfl, rfl⟩
        · rcases hk' with rfl | rfl | rfl
          · exact absurd (.inl rfl) no
          · exact absurd (.inr rfl) no
          · exact ⟨e, .inr hk0⟩
        · exact ⟨e, .inl hk0⟩
      have e3 : Vis cenv.scope y := e3
      rcases e3 with e3 | e3 | e3
      · exact key _ e3 (.inl rfl)
      · exact key _ e3 (.inr (.inl rfl))
      · exact key _ e3 (.inr (.inr rfl))
    obtain ⟨m, hn, hl⟩ := I.loc
    have hvis : Vis X.env.scope y := (ok.free _ (PySem.mem_of_lookup hfr.1) rfl).elim (fun k => .inr (.inl k)) (fun k => .inr (.inr k))
    obtain ⟨w, r, q⟩ := hl i y av e1 e2 hvis
    refine ⟨w, r, .inr ⟨hfr.2, ?_⟩⟩
    obtain ⟨c, h1, h2⟩ := look hfr.1
    rcases q with ⟨k, _⟩ | ⟨_, c', e', z⟩
    · have k : X.env.scope.names.lookup y = some .local := k
      rcases ok.free _ (PySem.mem_of_lookup hfr.1) rfl with k' | k' <;> rw [show X.env.scope.names.lookup y = _ from k'] at k <;> cases k
    · rw [h2] at e'; cases e'
      exact ⟨c, h1, z.keeps kp⟩
  · have e : cenv.cells.lookup y = some c := e
    rcases mem e with ⟨h1, _⟩ | ⟨_, z⟩
    · obtain ⟨w, z⟩ := I.cell y c h1
      exact ⟨w, z.keeps kp⟩
    · exact ⟨_, z⟩
  · show H cenv.locals = none
    rw [hL]; exact I.hok.fresh (Nat.le_refl _)
  · have e : cenv.cells.lookup y = some c := e
    rcases mem e with ⟨h1, _⟩ | ⟨h1, _⟩
    · exact I.freeC y c h1
    · exact I.hok.fresh (Nat.le_of_succ_le h1)
  · exact absurd (show p ∈ ([] : List (Addr × Obj)) ++ [] from hp) (by simp)
theorem jhB {E : Value → Shared → Prop} {D : Addr} {xs : List V} {y : V} {v : Value} {Q : Value → Shared → Prop} (I : Inv X pins σ H s) (hD : H D = some (.lst xs)) (hz : xs.length < sizeLine) (r : RelV y v)
    (h : ∀ s', Inv X pins σ (upd H D (.lst (xs ++ [y]))) s' → Q .none s') : wpAny (model X.prog X.w) X.A (call (.builtin "list.append") [.ref D, v]) Q E s := by
  obtain ⟨hz', its, n, ri, e⟩ := I.hok D _ hD
  have hl := ri.length
  refine append_at (hsz := by rw [List.size_toArray]; omega) e fun h' sb ho' => ?_
  refine h { s with heap := h' } (I.write (t' := s.toks) (by rw [hD]; trivial) (.inl rfl) (fun b u hb q => (sb.2 b hb).trans q) ⟨_, ho'⟩ ⟨by rw [List.length_append]; exact hz, its ++ [v], n + 1, ri.append (.cons r .nil), ?_⟩)
  rw [ho']
  simp
def PTs (X : Cx) (ifs : List Expr) (t : TT) : Prop :=
  ∀ (pins : List (Addr × Obj)) (s : Shared) (σ : St) (H : Hp) (Q : Bool → Hp → Prop), Inv X pins σ H s → t σ H Q →
    wpAny (model X.prog X.w) X.A (forIn ifs true fun c r => if r = true then do let ok ← isTrue c X.env (eval c X.env); pure (ForInStep.yield ok) else pure (ForInStep.yield r)) (TP X pins σ Q) X.xe s
def ZhO : TT := fun _ H Q => Q true H
theorem yeI : PTs X [] ZhO := fun _ _ _ H _ I h => wpAny_tests_nil ⟨H, I, h⟩
theorem Zgg {c : Expr} {t : TT} (h : PT X c t) : PTs X [c] t := fun pins s σ H Q I hw => wpAny_tests_one (h pins s σ H Q I hw)
end
theorem Jg2 {α : Type} {t : Sem α} {Q Q' : α → Shared → Prop} {M : Model} {A : Around} {E : Value → Shared → Prop} {s : Shared} (h : wpAny M A t Q (fun _ _ => False) s) (hQ : ∀ a s, Q a s → Q' a s) : wpAny M A t Q' E s := wpAny_mono h hQ fun _ _ z => False.elim z
theorem ygg {prog : Program} {w : World} {A : Around} {R : Result → Shared → Prop} {s : Shared} {elt target iter : Expr} {ifs : List Expr} {scope : Scope} {pos : Pos} {it acc : Value} {env : Env} (I : Nat → Shared → Prop)
    (turn : ∀ n s, I n s → wpAny (model prog w) A (pyNext it) (fun r s₁ => match r with
      | none => R (.ok .next) s₁
      | some v => wpAny (model prog w) A (letOwnedTupleGo target it v) (fun _ s₁' => wpAny (model prog w) A (assign target env v) (fun _ s₂ =>
          wpAny (model prog w) A (forIn ifs true fun c r => if r = true then do let ok ← isTrue c env (eval c env); pure (ForInStep.yield ok) else pure (ForInStep.yield r)) (fun ok s₃ =>
            if ok = true then wpAny (model prog w) A (eval elt env) (fun x s₄ =>
              wpAny (model prog w) A (call (.builtin "list.append") [acc, x]) (fun _ s₅ => ∃ m, m < n ∧ I m s₅) (notedBy (model prog w) A env fun e s' => R (.error e) s') s₄) (notedBy (model prog w) A env fun e s' => R (.error e) s') s₃
            else ∃ m, m < n ∧ I m s₃) (notedBy (model prog w) A env fun e s' => R (.error e) s') s₂) (notedBy (model prog w) A env fun e s' => R (.error e) s') s₁') (notedBy (model prog w) A env fun e s' => R (.error e) s') s₁) (notedBy (model prog w) A env fun e s' => R (.error e) s') s)
    (n : Nat) (h : I n s) :
    codeAny (model prog w) A (.compLoop (.ListComp elt [⟨target, iter, ifs, 0⟩] scope pos) 0 it acc env) R s := by
  refine codeAny_loop rfl I (fun n s hI => ?_) n h
  show wpAny _ A ((compTurn (.ListComp elt [⟨target, iter, ifs, 0⟩] scope pos) 0 it acc env).onRaise (fun x => do noteFrame x env; theTreesLotGoes x)) _ _ s
  refine wpAny_noted ?_
  rw [compTurn_list]
  refine wpAny_bind (wpAny_standAt (wpAny_bind (wpAny_mono (turn n s hI) (fun r s₁ h₁ => ?_) fun _ _ h' => h')))
  cases r with
  | none => exact wpAny_pure h₁
  | some v =>
    refine wpAny_bind (wpAny_mono h₁ (fun _ s₁' h₁' => ?_) fun _ _ h' => h')
    refine wpAny_bind (wpAny_mono h₁' (fun _ s₂ h₂ => wpAny_bind (wpAny_mono h₂ (fun ok s₃ h₃ => ?_) fun _ _ h' => h')) fun _ _ h' => h')
    cases ok with
    | false => exact wpAny_pure ⟨rfl, h₃⟩
    | true =>
      exact wpAny_bind (wpAny_bind (wpAny_mono h₃ (fun x s₄ h₄ => wpAny_bind (wpAny_mono h₄ (fun _ s₅ h₅ => wpAny_pure (wpAny_pure ⟨rfl, h₅⟩)) fun _ _ h' => h')) fun _ _ h' => h'))
section
variable {X : Cx}
def tLc (wi : TI) (g : TG) (tt : TT) (te : TE) (vs : List Nat) : TE := fun σ H Q => wi σ H fun J H1 => ∀ D, H1 D = none → ∃ W : Nat → Nat → Hp → Prop, (∃ m, W 0 m (upd H1 D (.lst []))) ∧ ∀ i m H, W i m H →
  (J.stop i H ∧ Q (.ref D) H) ∨ (J.go i H ∧ ∃ Nx : Hp → Prop, (∀ H', Nx H' → ∃ m', m' < m ∧ W (i + 1) m' H') ∧ ∀ x H', J.yld i H x H' → g x (wipe σ vs) H' fun σ2 H2 => wipe σ2 vs = wipe σ vs ∧ tt σ2 H2 fun b H3 =>
    if b = true then te σ2 H3 fun y H4 => ∃ acc, H4 D = some (.lst acc) ∧ acc.length < sizeLine ∧ Nx (upd H4 D (.lst (acc ++ [y]))) else Nx H3)
theorem jgU {pins : List (Addr × Obj)} {s : Shared} {σ : St} {H : Hp} {Q : VK} {elt tg iter : Expr} {ifs : List Expr} {scope : Scope} {own : List (Str × Nat)} {pos pos' : Pos} {wi : TI} {g : TG} {tt : TT} {te : TE} {use : Option (Value → Sem Unit)} {Qf : Value → Shared → Prop}
    (hc : X.calm = true) (hN : X.N.Nodup) (I : Inv X pins σ H s) (hi : PI X tg iter wi) (ok : ydy X.N X.env.scope scope own)
    (hg : ∀ (s : Shared) (H : Hp) (C : Addr) (cl : List (Str × Addr)) (fp : List Addr), PG (X.blk s H scope (compEnvC scope cl C X.env) fp) tg g) (ht : ∀ (s : Shared) (H : Hp) (C : Addr) (cl : List (Str × Addr)) (fp : List Addr), PTs (X.blk s H scope (compEnvC scope cl C X.env) fp) ifs tt)
    (he : ∀ (s : Shared) (H : Hp) (C : Addr) (cl : List (Str × Addr)) (fp : List Addr), PE (X.blk s H scope (compEnvC scope cl C X.env) fp) elt te) (hs : ∀ x, foldedSetIterable iter X.env x = pure x)
    (h : tLc wi g tt te (own.map (·.2)) σ H Q)
    (hRR : ∀ D C s' m H', Inv X pins σ H' s' → Q (.ref D) H' → s'.heap.Ns C m → ZfA X pins H' C → compPost (model X.prog X.w) X.A X.xe use Qf (.ref D) C (.ok .next) s') :
    wpAny (model X.prog X.w) X.A (comprehension (.ListComp elt [⟨tg, iter, ifs, 0⟩] scope pos) scope X.env pos' (newList []) false (eval iter X.env) use) Qf X.xe s := by
  have hfree : ∀ y ∈ scope.names, y.2 = .free → ∃ c, X.env.cells.lookup y.1 = some c := fun y hy e => by
    rcases ok.free y hy e with k | k
    · exact I.ok.has _ (.inl k)
    · exact I.ok.has _ (.inr k)
  refine wpAny_comprehension_free (use := use) rfl hs (ygL hfree) ok.kind (fun y hy e => by rw [ok.uniq y hy, e])
    (thn (hi pins s σ H _ I h) fun xv s1 hx => thn hx fun itv s2 h2 => ?_)
  obtain ⟨it, fp, tn, J, H2, e, I2, T, st2, f2, q⟩ := h2
  subst e
  refine wpAny_newObj_type (ygv ?_) (by show 0 ≤ sizeLine; decide)
  generalize hD : s2.heap.objs.size = D
  have hDn : H2 D = none := I2.hok.fresh (Nat.le_of_eq hD)
  obtain ⟨W, ⟨m0, w0⟩, turn⟩ := q D hDn
  generalize hs3 : ({ s2 with heap := s2.heap.push { cls := .type "list", data := .seq ([] : List Value).toArray } } : Shared) = s3
  have I3 : Inv X pins σ (upd H2 D (.lst [])) s3 := by
    rw [← hs3]
    refine I2.laid (t' := s2.toks) (fun b o e => Heap.get?_push_of_some _ e) (Nat.le_of_eq hD) ⟨Nat.zero_le _, [], 0, .nil, ?_⟩
    rw [← hD]
    exact Heap.get?_push_size _ rfl
  have h3 : s3.heap = s2.heap.push { cls := .type "list", data := .seq ([] : List Value).toArray } := by rw [← hs3]
  have sz : ∀ b ∈ fp, b < s2.heap.objs.size := fun b hb => by
    obtain ⟨o, e, _⟩ := T.obj _ _ st2 b hb
    exact Heap.lt_size e
  have f3 : ∀ b ∈ fp, ZfA X pins (upd H2 D (.lst [])) b ∧ b < s3.heap.objs.size := fun b hb => by
    have hlt := sz b hb
    refine ⟨⟨?_, (f2 b hb).2⟩, by rw [h3, Heap.size_push]; exact Nat.lt_succ_of_lt hlt⟩
    rw [Zc (by rw [← hD]; exact Nat.ne_of_lt hlt)]
    exact (f2 b hb).1
  have st3 : tn 0 s3.heap := T.keep _ _ _ st2 fun b _ o e => by rw [h3]; exact Heap.get?_push_of_some _ e
  have I4 := Ygv I3 ok hN f3
  have pg := hg s3 (upd H2 D (.lst [])) s3.heap.objs.size (cellsFrom (s3.heap.objs.size + 1) scope.names (Z9 X.env.cells scope.names [])) fp
  have pt := ht s3 (upd H2 D (.lst [])) s3.heap.objs.size (cellsFrom (s3.heap.objs.size + 1) scope.names (Z9 X.env.cells scope.names [])) fp
  have pe := he s3 (upd H2 D (.lst [])) s3.heap.objs.size (cellsFrom (s3.heap.objs.size + 1) scope.names (Z9 X.env.cells scope.names [])) fp
  show codeAny _ _ (.compStart (.ListComp elt [⟨tg, iter, ifs, 0⟩] scope pos) 0 (.ref it) (.ref D) (compEnvC scope (cellsFrom (s3.heap.objs.size + 1) scope.names (Z9 X.env.cells scope.names [])) s3.heap.objs.size X.env)) (compPost (model X.prog X.w) X.A X.xe use Qf (.ref D) s3.heap.objs.size) { s3 with heap := pushCells (s3.heap.push { cls := .type "dict", data := .dict #[] }) scope.names }
  have nfp : ∀ b ∈ fp, (upd H2 D (.lst [])) b = none := fun b hb => (f3 b hb).1.1
  generalize hce : compEnvC scope (cellsFrom (s3.heap.objs.size + 1) scope.names (Z9 X.env.cells scope.names [])) s3.heap.objs.size X.env = ce at I4 pg pt pe ⊢
  have cL : ce.locals = s3.heap.objs.size := by subst hce; rfl
  generalize hH3 : upd H2 D (.lst []) = H3 at I3 I4 pg pt pe w0 nfp f3
  generalize hs4 : ({ s3 with heap := pushCells (s3.heap.push { cls := .type "dict", data := .dict #[] }) scope.names } : Shared) = s4 at I4 ⊢
  have st4 : tn 0 s4.heap := T.keep _ _ _ st3 fun b _ o e => by rw [← hs4]; exact pushCells_keeps _ _ _ _ (Heap.get?_push_of_some _ e)
  have stat : ∀ {σ' : St} {H' : Hp} {s' : Shared}, Inv (X.blk s3 H3 scope ce fp) [] σ' H' s' → (∀ b ∈ fp, H' b = none) → ∀ b ∈ fp, ZfA (X.blk s3 H3 scope ce fp) [] H' b := fun {σ' H' s'} I' hn b hb =>
    ⟨hn b hb, (I'.ok.exf b hb).1, I'.ok.exfs b hb, .inl hb, fun x c e => (I'.ok.exf b hb).2 x c e, fun p hp => absurd (show p ∈ ([] : List (Addr × Obj)) ++ [] from hp) (by simp)⟩
  have loop : codeAny (model X.prog X.w) X.A (.compLoop (.ListComp elt [⟨tg, iter, ifs, 0⟩] scope pos) 0 (.ref it) (.ref D) ce) (compPost (model X.prog X.w) X.A X.xe use Qf (.ref D) s3.heap.objs.size) s4 := by
    refine ygg (fun n s' => ∃ i H', Inv (X.blk s3 H3 scope ce fp) [] (wipe σ (own.map (·.2))) H' s' ∧ tn i s'.heap ∧ (∀ b ∈ fp, H' b = none) ∧ W i n H') ?_ m0 ⟨0, H3, I4, st4, nfp, w0⟩
    rintro n s5 ⟨i, H5, I5, st5, n5, w5⟩
    rcases turn i n H5 w5 with ⟨stop, qq⟩ | ⟨go, Nx, hNx, step⟩
    · have td := T.done (X.blk s3 H3 scope ce fp) rfl rfl rfl hc i [] s5 _ H5 (fun _ _ => False) I5 (stat I5 n5) st5 stop
      refine Jg2 td fun r s6 ⟨hr, I6⟩ => ?_
      subst hr
      have I7 : Inv X pins σ H5 s6 := I3.call' (ch := fp) I6.os I6.base I6.hok I6.bare fun b hb => ⟨(f3 b hb).1.2.2.2.1, (f3 b hb).1.2.1, (f3 b hb).1.2.2.2.2.1, (f3 b hb).1.2.2.2.2.2⟩
      have nC : H5 s3.heap.objs.size = none := by
        have z : H5 ce.locals = none := I6.free
        rw [cL] at z
        exact z
      obtain ⟨m, hn, _⟩ := I6.loc
      have hn : s6.heap.Ns ce.locals m := hn
      rw [cL] at hn
      exact hRR D s3.heap.objs.size s6 m H5 I7 qq hn (I3.zhp (Nat.le_refl _) nC)
    · have ti := T.item (X.blk s3 H3 scope ce fp) rfl rfl rfl hc i [] s5 _ H5 (fun _ _ => False) I5 (stat I5 n5) st5 go
      refine Jg2 ti fun r s6 ⟨u, hr, h6⟩ => ?_
      subst hr
      refine Jg2 h6 fun _ s7 ⟨x, H7, I7, r7, y7, st7, n7⟩ => ?_
      have I7' := I7.pinned (stat I7 n7) (T.obj _ _ st7)
      refine Jg2 (pg _ s7 _ H7 x u _ I7' r7 (step x H7 y7)) fun _ s8 ⟨σ8, H8, I8, hw8, q8⟩ => ?_
      refine Jg2 (pt _ s8 σ8 H8 _ I8 q8) fun b s9 ⟨H9, I9, q9⟩ => ?_
      have fin : ∀ {s' : Shared} {H' : Hp}, Inv (X.blk s3 H3 scope ce fp) ([] ++ yfA fp s7.heap) σ8 H' s' → Nx H' → ∃ m, m < n ∧ ∃ i H', Inv (X.blk s3 H3 scope ce fp) [] (wipe σ (own.map (·.2))) H' s' ∧ tn i s'.heap ∧ (∀ b ∈ fp, H' b = none) ∧ W i m H' := fun {s' H'} I' nx => by
        obtain ⟨m', hm, w'⟩ := hNx H' nx
        have pin' : ∀ b ∈ fp, ∀ o, s7.heap.get? b = some o → s'.heap.get? b = some o ∧ H' b = none := fun b hb o e =>
          let z := I'.pin (b, o) (List.mem_append_right _ (List.mem_append_right _ (yez hb e)))
          ⟨z.1, z.2.1⟩
        have hl : (wipe σ (own.map (·.2))).length = σ8.length := by rw [← hw8, ZdP]
        refine ⟨m', hm, i + 1, H', (I'.jeH (pins := [])).weak hl (fun j v e => ?_), T.keep _ _ _ st7 fun b hb o e => (pin' b hb o e).1, fun b hb => ?_, w'⟩
        · rw [← hw8] at e
          exact (ye4 e).1
        · obtain ⟨o, e, _⟩ := T.obj _ _ st7 b hb
          exact (pin' b hb o e).2
      cases b with
      | false =>
        simp only [Bool.false_eq_true, if_false] at q9 ⊢
        exact fin I9 q9
      | true =>
        simp only [if_true] at q9 ⊢
        refine Jg2 (pe _ s9 σ8 H9 _ I9 q9) fun z s10 ⟨yv, H10, I10, r10, acc, hD10, hz10, nx⟩ => ?_
        exact jhB (X := X.blk s3 H3 scope ce fp) I10 hD10 hz10 r10 fun s11 I11 => fin I11 nx
  exact codeAny_compStart_list loop (T.self X.A 0 _ _ _ st4 loop)
theorem zf5 {elt tg iter : Expr} {ifs : List Expr} {scope : Scope} {own : List (Str × Nat)} {pos : Pos} {wi : TI} {g : TG} {tt : TT} {te : TE} (hc : X.calm = true) (hN : X.N.Nodup) (hi : PI X tg iter wi) (ok : ydy X.N X.env.scope scope own)
    (hg : ∀ (s : Shared) (H : Hp) (C : Addr) (cl : List (Str × Addr)) (fp : List Addr), PG (X.blk s H scope (compEnvC scope cl C X.env) fp) tg g) (ht : ∀ (s : Shared) (H : Hp) (C : Addr) (cl : List (Str × Addr)) (fp : List Addr), PTs (X.blk s H scope (compEnvC scope cl C X.env) fp) ifs tt)
    (he : ∀ (s : Shared) (H : Hp) (C : Addr) (cl : List (Str × Addr)) (fp : List Addr), PE (X.blk s H scope (compEnvC scope cl C X.env) fp) elt te) (hs : ∀ x, foldedSetIterable iter X.env x = pure x := by intro _; rfl) :
    PE X (.ListComp elt [⟨tg, iter, ifs, 0⟩] scope pos) (tLc wi g tt te (own.map (·.2))) := by
  intro pins s σ H Q I h
  rw [eval_ListComp]
  refine jgU hc hN I hi ok hg ht he hs h fun D C s' m H' I' q hn f => ⟨m, hn, fun h'' sb => ?_⟩
  obtain ⟨f0, f1, f2, f3, f4, f5⟩ := f
  exact ⟨.ref D, H', I'.turned (t' := s'.toks) (fun b o hb e => (sb.2 b hb).trans e) f0 f1 f3 f4 f5, rfl, q⟩
theorem jgv {i : Nat} {y : Str} {py : Pos} {elt tg iter : Expr} {ifs : List Expr} {scope : Scope} {own : List (Str × Nat)} {pos spos : Pos} {wi : TI} {g : TG} {tt : TT} {te : TE} (hc : X.calm = true) (hN : X.N.Nodup) (hy : X.N[i]? = some y) (hyl : X.env.scope.names.lookup y = some .local)
    (hsw : swapsWith (.ListComp elt [⟨tg, iter, ifs, 0⟩] scope pos) (some (.Name y py)) spos.line X.env = pure true) (hi : PI X tg iter wi) (ok : ydy X.N X.env.scope scope own)
    (hg : ∀ (s : Shared) (H : Hp) (C : Addr) (cl : List (Str × Addr)) (fp : List Addr), PG (X.blk s H scope (compEnvC scope cl C X.env) fp) tg g) (ht : ∀ (s : Shared) (H : Hp) (C : Addr) (cl : List (Str × Addr)) (fp : List Addr), PTs (X.blk s H scope (compEnvC scope cl C X.env) fp) ifs tt)
    (he : ∀ (s : Shared) (H : Hp) (C : Addr) (cl : List (Str × Addr)) (fp : List Addr), PE (X.blk s H scope (compEnvC scope cl C X.env) fp) elt te) (hs : ∀ x, foldedSetIterable iter X.env x = pure x := by intro _; rfl) :
    PS X (.Assign [.Name y py] (.ListComp elt [⟨tg, iter, ifs, 0⟩] scope pos) spos) (zhG (tLc wi g tt te (own.map (·.2))) (Yf3 i)) := by
  intro pins s σ H D I h
  rw [exec_Assign_Name_used _ _ _ _ hsw]
  refine wpAny_bind (wpAny_standAt (wpAny_bind ?_))
  show wpAny _ X.A (do let _ ← comprehension (.ListComp elt [⟨tg, iter, ifs, 0⟩] scope pos) scope X.env (firstIterPos [⟨tg, iter, ifs, 0⟩] pos) (newList []) false (eval iter X.env) (some (assign (.Name y py) X.env))) _ _ s
  have h : tLc wi g tt te (own.map (·.2)) σ H (fun x H1 => Yf3 i x σ H1 D.nx) := h
  refine wpAny_bind (thn (jgU (Qf := fun _ s' => SP X pins D .next s') hc hN I hi ok hg ht he hs h fun L C s' m H' I' q hn f => ?_) fun _ s' hq => wpAny_pure (wpAny_pure hq))
  show wpAny _ _ (assign (.Name y py) X.env (.ref L)) _ _ _
  refine wpAny_assign_Name (yf3 (v := V.ref L) I' hN hy (.inl hyl) rfl (fun s2 I2 ⟨a, sb, ha⟩ => ?_) (.inr hyl))
  obtain ⟨f0, f1, f2, f3, f4, f5⟩ := f
  have haC : C ≠ a := by
    rcases ha with z | z
    · rw [z]; exact f1
    · exact fun e => f4 y a z e.symm
  refine ⟨m, hn.sameBut sb haC, fun h3 sb3 => ?_⟩
  exact ⟨_, H', I2.turned (t' := s2.toks) (fun b o hb e => (sb3.2 b hb).trans e) f0 f1 f3 f4 f5, q⟩
theorem JgU {elt : Expr} {gs : List Comprehension} {scope : Scope} {pos py : Pos} {y : Str} {l : Nat} {env : Env} (hk : env.scope.kind = .function) (hy : env.scope.names.lookup y = some .local) (hl : (py.line == pos.line) = true)
    (ha : (scope.names.any fun (n, k) => n == y && (k == .local || k == .cell)) = false) : swapsWith (.ListComp elt gs scope pos) (some (.Name y py)) l env = pure true := by
  have ky : env.kindOf y = some .local := hy
  have hb : env.blockKind = .function := by unfold Env.blockKind; rw [hk]; rfl
  unfold swapsWith
  simp only [hb, ky, ha, Expr.pos, hl]
  rfl
end
theorem zgV {K : PySem.W.Frag} {a : Addr} {xs : List V} {g : TG} {tt : TT} {te : TE} {vs : List Nat} {σ : St} {H1 : Hp} {D : Addr} {Qd : Hp → Prop} (Pv : Nat → Hp → Prop) (h0 : Pv 0 (upd H1 D (.lst []))) (hl : ∀ i H, i ≤ xs.length → Pv i H → SqL K H a xs)
    (hs : ∀ i x H, xs[i]? = some x → Pv i H → g x (wipe σ vs) H fun σ2 H2 => wipe σ2 vs = wipe σ vs ∧ tt σ2 H2 fun b H3 =>
      if b = true then te σ2 H3 fun y H4 => ∃ acc, H4 D = some (.lst acc) ∧ acc.length < sizeLine ∧ Pv (i + 1) (upd H4 D (.lst (acc ++ [y]))) else Pv (i + 1) H3) (hd : ∀ H, Pv xs.length H → Qd H) :
    ∃ W : Nat → Nat → Hp → Prop, (∃ m, W 0 m (upd H1 D (.lst []))) ∧ ∀ i m H, W i m H →
      ((Itl K a).stop i H ∧ Qd H) ∨ ((Itl K a).go i H ∧ ∃ Nx : Hp → Prop, (∀ H', Nx H' → ∃ m', m' < m ∧ W (i + 1) m' H') ∧ ∀ x H', (Itl K a).yld i H x H' → g x (wipe σ vs) H' fun σ2 H2 => wipe σ2 vs = wipe σ vs ∧ tt σ2 H2 fun b H3 =>
        if b = true then te σ2 H3 fun y H4 => ∃ acc, H4 D = some (.lst acc) ∧ acc.length < sizeLine ∧ Nx (upd H4 D (.lst (acc ++ [y]))) else Nx H3) := by
  refine ⟨fun i m H => m = xs.length - i ∧ i ≤ xs.length ∧ Pv i H, ⟨xs.length, by simp, Nat.zero_le _, h0⟩, ?_⟩
  rintro i m H ⟨rfl, hi, p⟩
  have q := hl i H hi p
  by_cases hlt : i < xs.length
  · refine .inr ⟨⟨xs, xs[i], q, by simp [hlt]⟩, Pv (i + 1), fun H' p' => ⟨xs.length - (i + 1), by omega, rfl, hlt, p'⟩, fun x H' y => ?_⟩
    obtain ⟨e, y⟩ := y
    subst e
    exact hs i x _ (y xs q) p
  · have e : i = xs.length := by omega
    subst e
    exact .inl ⟨⟨xs, q, Nat.le_refl _⟩, hd H p⟩
end L2
namespace L2
open PySem PySem.Spec PyProof.Rows
section
variable {prog : Program} {w : World} {A : Around} {R : Result → Shared → Prop} {s : Shared} {elt t0 i0 t1 i1 : Expr} {ifs0 ifs1 : List Expr} {scope : Scope} {pos : Pos} {it acc : Value} {env : Env}
end
section
variable {X : Cx}
end
end L2
namespace L2
open PySem PySem.Spec PyProof.Rows
section
variable {κ : Type} [DecidableEq κ]
def za1 (kvs : List (κ × V)) (k : κ) : Option V := (kvs.find? fun kv => decide (kv.1 = k)).map (·.2)
def putK (kvs : List (κ × V)) (k : κ) (v : V) : List (κ × V) :=
  if (kvs.any fun kv => decide (kv.1 = k)) = true then kvs.map (fun kv => if kv.1 = k then (kv.1, v) else kv) else kvs ++ [(k, v)]
def jfg (kvs : List (κ × V)) (k : κ) : List (κ × V) := kvs.filter fun kv => decide (kv.1 ≠ k)
theorem YaR {p : κ × V} {r : List (κ × V)} {k : κ} (e : p.1 = k) : za1 (p :: r) k = some p.2 := by simp [za1, List.find?_cons, e]
theorem Za1 {p : κ × V} {r : List (κ × V)} {k : κ} (e : ¬ p.1 = k) : za1 (p :: r) k = za1 r k := by simp [za1, List.find?_cons, e]
theorem YeI (k : κ) : ∀ kvs : List (κ × V), (kvs.any fun kv => decide (kv.1 = k)) = (za1 kvs k).isSome
  | [] => rfl
  | p :: r => by
    rw [List.any_cons]
    by_cases e : p.1 = k
    · simp only [YaR e, decide_eq_true e, Bool.true_or, Option.isSome_some]
    · rw [Za1 e, decide_eq_false e, Bool.false_or]; exact YeI k r
theorem Jgv (k j : κ) (y : V) : ∀ kvs : List (κ × V), za1 (kvs.map fun kv => if kv.1 = k then (kv.1, y) else kv) j = (za1 kvs j).map fun x => if j = k then y else x
  | [] => rfl
  | p :: r => by
    have ih := Jgv k j y r
    rw [List.map_cons]
    by_cases h : p.1 = k
    · rw [if_pos h]
      by_cases e : p.1 = j
      · rw [YaR (p := (p.1, y)) e, YaR e, Option.map_some, if_pos (e.symm.trans h)]
      · rw [Za1 (p := (p.1, y)) e, Za1 e, ih]
    · rw [if_neg h]
      by_cases e : p.1 = j
      · rw [YaR (p := p) e, YaR e, Option.map_some, if_neg (fun z => h (e.trans z))]
      · rw [Za1 (p := p) e, Za1 e, ih]
theorem Zf5 (k j : κ) (y : V) : ∀ kvs : List (κ × V), za1 kvs k = none → za1 (kvs ++ [(k, y)]) j = if j = k then some y else za1 kvs j
  | [], _ => by
    by_cases e : k = j
    · rw [if_pos e.symm]; exact YaR (p := (k, y)) e
    · rw [if_neg (fun z => e z.symm)]; exact Za1 (p := (k, y)) e
  | p :: r, hn => by
    rw [List.cons_append]
    have hk : ¬ p.1 = k := fun z => by rw [YaR z] at hn; cases hn
    rw [Za1 hk] at hn
    have ih := Zf5 k j y r hn
    by_cases e : p.1 = j
    · rw [YaR e, YaR e, if_neg (fun z => hk (e.trans z))]
    · rw [Za1 e, Za1 e, ih]
theorem Zhe (kvs : List (κ × V)) (k j : κ) (y : V) : za1 (putK kvs k y) j = if j = k then some y else za1 kvs j := by
  unfold putK
  by_cases a : (kvs.any fun kv => decide (kv.1 = k)) = true
  · rw [if_pos a, Jgv]
    rw [YeI] at a
    by_cases e : j = k
    · obtain ⟨x, hx⟩ := Option.isSome_iff_exists.mp a
      rw [if_pos e, e, hx, Option.map_some, if_pos rfl]
    · rw [if_neg e]
      cases za1 kvs j with
      | none => rfl
      | some x => rw [Option.map_some, if_neg e]
  · rw [if_neg a]
    refine Zf5 k j y kvs ?_
    rw [YeI] at a
    cases q : za1 kvs k with
    | none => rfl
    | some x => rw [q] at a; exact (a rfl).elim
theorem Jfg (kvs : List (κ × V)) (k : κ) (v : V) : (putK kvs k v).length ≤ kvs.length + 1 := by
  unfold putK
  split
  · rw [List.length_map]; omega
  · rw [List.length_append, List.length_cons, List.length_nil]; omega
theorem Zdn.ycy {o : Option V} {u : Option Value} (r : Zdn o u) : o.isSome = u.isSome := by
  cases o with
  | none => cases u with
    | none => rfl
    | some _ => exact (show False from r).elim
  | some _ => cases u with
    | none => exact (show False from r).elim
    | some _ => rfl
theorem Zdn.getD {o : Option V} {u : Option Value} {d : V} {d' : Value} (r : Zdn o u) (rd : RelV d d') : RelV (o.getD d) (u.getD d') := by
  cases o with
  | none => cases u with
    | none => exact rd
    | some _ => exact (show False from r).elim
  | some _ => cases u with
    | none => exact (show False from r).elim
    | some _ => exact r
theorem KV.val {kvs : List (κ × V)} {vs : List (κ × Value)} (r : KV kvs vs) (k : κ) : Zdn (za1 kvs k) (valueAt vs k) := by
  unfold KV at r
  induction r with
  | nil => exact True.intro
  | @cons p q ps qs h t ih =>
    obtain ⟨h1, h2⟩ := h
    by_cases e : p.1 = k
    · have e' : q.1 = k := h1.symm.trans e
      have b : valueAt (q :: qs) k = some q.2 := by simp [valueAt, List.find?_cons, e']
      rw [YaR e, b]; exact h2
    · have e' : ¬ q.1 = k := fun z => e (h1.trans z)
      have b : valueAt (q :: qs) k = valueAt qs k := by simp [valueAt, List.find?_cons, e']
      rw [Za1 e, b]; exact ih
theorem KV.any {kvs : List (κ × V)} {vs : List (κ × Value)} (r : KV kvs vs) (k : κ) : (kvs.any fun kv => decide (kv.1 = k)) = vs.any fun kv => decide (kv.1 = k) := by
  unfold KV at r
  induction r with
  | nil => rfl
  | cons h t ih => rw [List.any_cons, List.any_cons, ih, h.1]
theorem KV.repl {kvs : List (κ × V)} {vs : List (κ × Value)} (r : KV kvs vs) (k : κ) {y : V} {u : Value} (ry : RelV y u) :
    KV (kvs.map fun kv => if kv.1 = k then (kv.1, y) else kv) (vs.map fun kv => if kv.1 = k then (kv.1, u) else kv) := by
  unfold KV at r ⊢
  induction r with
  | nil => exact .nil
  | @cons p q ps qs h t ih =>
    rw [List.map_cons, List.map_cons]
    refine .cons ?_ ih
    obtain ⟨h1, h2⟩ := h
    by_cases e : p.1 = k
    · rw [if_pos e, if_pos (h1.symm.trans e)]; exact ⟨h1, ry⟩
    · rw [if_neg e, if_neg (fun z => e (h1.trans z))]; exact ⟨h1, h2⟩
theorem KV.put {kvs : List (κ × V)} {vs : List (κ × Value)} (r : KV kvs vs) (k : κ) {y : V} {u : Value} (ry : RelV y u) : KV (putK kvs k y) (stored vs k u) := by
  unfold putK stored
  rw [r.any k]
  by_cases e : (vs.any fun kv => decide (kv.1 = k)) = true
  · rw [if_pos e, if_pos e]; exact r.repl k ry
  · rw [if_neg e, if_neg e]; exact Paired.snoc r ⟨rfl, ry⟩
theorem KV.drop {kvs : List (κ × V)} {vs : List (κ × Value)} (r : KV kvs vs) (k : κ) : KV (jfg kvs k) (without vs k) := by
  unfold KV at r ⊢
  unfold jfg without
  induction r with
  | nil => exact .nil
  | @cons p q ps qs h t ih =>
    obtain ⟨h1, h2⟩ := h
    rw [List.filter_cons, List.filter_cons]
    by_cases e : p.1 = k
    · have a : ¬ decide (p.1 ≠ k) = true := by simp [e]
      have b : ¬ decide (q.1 ≠ k) = true := by simp [h1.symm.trans e]
      rw [if_neg a, if_neg b]; exact ih
    · have e' : ¬ q.1 = k := fun z => e (h1.trans z)
      have a : decide (p.1 ≠ k) = true := by simp [e]
      have b : decide (q.1 ≠ k) = true := by simp [e']
      rw [if_pos a, if_pos b]; exact .cons ⟨h1, h2⟩ ih
theorem KV.length {kvs : List (κ × V)} {vs : List (κ × Value)} (r : KV kvs vs) : kvs.length = vs.length := Paired.length r
theorem zgw (kvs : List (κ × V)) (k : κ) : (jfg kvs k).length ≤ kvs.length := List.length_filter_le _ _
end
theorem zfh {P : Program} {w : World} {k : Key} {u : Value} (r : RelV (kV k) u) : (jN P w).is k u = true := by
  cases k with
  | inl i => obtain ⟨t, e⟩ := (show ∃ t, u = Value.int i t from r); subst e; exact Zgu P w i t
  | inr x => obtain ⟨t, e⟩ := (show ∃ t, u = Value.str x t from r); subst e; exact ygu P w x t
theorem yf5 {P : Program} {w : World} : ∀ {ks : List Key} {us : List Value}, Vals (ks.map kV) us → ItemsAre (jN P w) ks us
  | [], _, r => by rw [List.map_nil] at r; cases r; exact .nil
  | k :: ks, _, r => by
    rw [List.map_cons] at r
    cases r with
    | cons h t => exact .cons (zfh h) (yf5 t)
abbrev KT (H : Hp) : List (List Key × V) → List (List Key × Addr × Value) → Prop := Paired fun p q => p.1 = q.1 ∧ H q.2.1 = some (.tup (p.1.map kV)) ∧ RelV p.2 q.2.2
theorem KT.val {H : Hp} {kvs : List (List Key × V)} {xs : List (List Key × Addr × Value)} (r : KT H kvs xs) (k : List Key) : Zdn (za1 kvs k) ((atKey xs k).map (·.2)) := by
  induction r with
  | nil => exact True.intro
  | @cons p q ps qs h t ih =>
    obtain ⟨h1, _, h2⟩ := h
    by_cases e : p.1 = k
    · have e' : q.1 = k := h1.symm.trans e
      have b : atKey (q :: qs) k = some q.2 := by simp [atKey, List.find?_cons, e']
      rw [YaR e, b]; exact h2
    · have e' : ¬ q.1 = k := fun z => e (h1.trans z)
      have b : atKey (q :: qs) k = atKey qs k := by simp [atKey, List.find?_cons, e']
      rw [Za1 e, b]; exact ih
theorem KT.repl {H : Hp} {kvs : List (List Key × V)} {xs : List (List Key × Addr × Value)} (r : KT H kvs xs) (k : List Key) {y : V} {u : Value} (ry : RelV y u) :
    KT H (kvs.map fun kv => if kv.1 = k then (kv.1, y) else kv) (xs.map (putAt k u)) := by
  induction r with
  | nil => exact .nil
  | @cons p q ps qs h t ih =>
    rw [List.map_cons, List.map_cons]
    refine .cons ?_ ih
    obtain ⟨h1, h2, h3⟩ := h
    unfold putAt
    by_cases e : p.1 = k
    · rw [if_pos e, if_pos (h1.symm.trans e)]; exact ⟨h1, h2, ry⟩
    · rw [if_neg e, if_neg (fun z => e (h1.trans z))]; exact ⟨h1, h2, h3⟩
theorem KT.put {H : Hp} {kvs : List (List Key × V)} {xs : List (List Key × Addr × Value)} (r : KT H kvs xs) (k : List Key) {b : Addr} {y : V} {u : Value} (hb : H b = some (.tup (k.map kV))) (ry : RelV y u) :
    KT H (putK kvs k y) (storedH xs k b u) := by
  have e : (kvs.any fun kv => decide (kv.1 = k)) = (atKey xs k).isSome := by
    rw [YeI, (r.val k).ycy, Option.isSome_map]
  unfold putK storedH
  rw [e]
  by_cases q : (atKey xs k).isSome = true
  · rw [if_pos q, if_pos q]; exact r.repl k ry
  · rw [if_neg q, if_neg q]; exact Paired.snoc r ⟨rfl, hb, ry⟩
theorem KT.keeps {H H' : Hp} {kvs : List (List Key × V)} {xs : List (List Key × Addr × Value)} (r : KT H kvs xs) (ht : ∀ b ys, H b = some (.tup ys) → H' b = some (.tup ys)) : KT H' kvs xs :=
  Paired.Zej r fun _ _ z => ⟨z.1, ht _ _ z.2.1, z.2.2⟩
section
variable {P : Program} {w : World} {H : Hp} {h : Heap} {a : Addr}
theorem zhy {u : HO} (ok : HOk P w H h) (e : Rd H a u) : zP P w H h a u := e.ok ok
theorem ZfB {kvs : List (Key × V)} (ok : HOk P w H h) (e : Rd H a (.dK kvs)) : kvs.length ≤ sizeLine ∧ (a == sysModules) = false ∧ ∃ vs, KV kvs vs ∧ h.DictOf (jN P w) a vs :=
  show zP P w H h a (.dK kvs) from zhy ok e
theorem yhe {kvs : List (Key × V)} (ok : HOk P w H h) (e : H a = some (.dK kvs)) : kvs.length ≤ sizeLine ∧ (a == sysModules) = false ∧ ∃ vs, KV kvs vs ∧ h.DictOf (jN P w) a vs := ZfB ok (.inl e)
theorem Ye4 {ks : List Key} (ok : HOk P w H h) (e : H a = some (.tup (ks.map kV))) : (tupleKind (jN P w)).is h ks a := by
  obtain ⟨_, its, r, o, h1, h2, n, h3⟩ := (show zP P w H h a (.tup (ks.map kV)) from ok a _ e)
  exact ⟨o, its.toArray, n, h1, h2, h3, by simpa using yf5 r⟩
theorem yfB {kvs : List (List Key × V)} (ok : HOk P w H h) (e : Rd H a (.dT kvs)) : kvs.length ≤ sizeLine ∧ (a == sysModules) = false ∧
    ∃ xs, KT H kvs xs ∧ h.DictOfH (tupleKind (jN P w)) a xs := by
  obtain ⟨z, y, xs, r, o, es, ep, h1, h2, h3, h4, h5⟩ := (show zP P w H h a (.dT kvs) from zhy ok e)
  refine ⟨z, y, xs, r, o, es, ep, h1, h2, h3, h4, fun x hx => ?_, h5⟩
  have all : ∀ {l : List (List Key × V)} {m : List (List Key × Addr × Value)}, KT H l m → ∀ x ∈ m, (tupleKind (jN P w)).is h x.1 x.2.1 := by
    intro l m q
    induction q with
    | nil => intro x hx; exact nomatch hx
    | @cons p q ps qs hq t ih =>
      intro x hx
      rcases List.mem_cons.mp hx with e | hx
      · subst e
        exact Ye4 ok (by rw [← hq.1]; exact hq.2.1)
      · exact ih x hx
  exact all r x hx
theorem jhI {kvs : List (List Key × V)} (ok : HOk P w H h) (e : H a = some (.dT kvs)) : kvs.length ≤ sizeLine ∧ (a == sysModules) = false ∧
    ∃ xs, KT H kvs xs ∧ h.DictOfH (tupleKind (jN P w)) a xs := yfB ok (.inl e)
end
def Zbz (H : Hp) (a : Addr) (y : V) (r : Option V) : Prop :=
  (∃ kvs k, Rd H a (.dK kvs) ∧ y = kV k ∧ r = za1 kvs k) ∨ ∃ kvs k b, Rd H a (.dT kvs) ∧ y = .ref b ∧ H b = some (.tup (k.map kV)) ∧ r = za1 kvs k
def Ygg (H : Hp) (a : Addr) (y v : V) (H' : Hp) : Prop :=
  (∃ kvs k, H a = some (.dK kvs) ∧ y = kV k ∧ kvs.length < sizeLine ∧ H' = upd H a (.dK (putK kvs k v))) ∨
  ∃ kvs k b, H a = some (.dT kvs) ∧ y = .ref b ∧ H b = some (.tup (k.map kV)) ∧ kvs.length < sizeLine ∧ H' = upd H a (.dT (putK kvs k v))
theorem Zbz.k {H : Hp} {a : Addr} {kvs : List (Key × V)} {k : Key} (e : H a = some (.dK kvs)) : Zbz H a (kV k) (za1 kvs k) := .inl ⟨kvs, k, .inl e, rfl, rfl⟩
theorem Ygg.k {H : Hp} {a : Addr} {kvs : List (Key × V)} {k : Key} {v : V} (e : H a = some (.dK kvs)) (hl : kvs.length < sizeLine) : Ygg H a (kV k) v (upd H a (.dK (putK kvs k v))) := .inl ⟨kvs, k, e, rfl, hl, rfl⟩
section
variable {X : Cx} {pins : List (Addr × Obj)} {σ : St} {H : Hp} {s : Shared} {a : Addr} {y v : V} {u r : Value} {o : Option V} {A : Around} {E : Value → Shared → Prop}
theorem Inv.big (I : Inv X pins σ H s) : sysModules < s.heap.objs.size := by
  have h : mainGlobals < s.heap.objs.size := (I.mod.glob.keeps I.bk).lt
  exact Nat.lt_trans (by decide) h
theorem zg3 {Q : Value → Shared → Prop} (hu : A.units + 1 < cLine) (I : Inv X pins σ H s) (g : Zbz H a y (some v)) (ry : RelV y u) (h : ∀ w' s', Inv X pins σ H s' → RelV v w' → Q w' s') :
    wpAny (model X.prog X.w) A (getItem (.ref a) u) Q E s := by
  rcases g with ⟨kvs, k, e, ey, l⟩ | ⟨kvs, k, b, e, ey, eb, l⟩
  · subst ey
    obtain ⟨z, hd, vs, rel, dd⟩ := ZfB I.hok e
    obtain ⟨w', hw, rw'⟩ := Zdn.some_of (v := v) (o := valueAt vs k) (by rw [l]; exact rel.val k)
    exact wpAny_getItem_of (zfh ry) dd.mapOf hw (h w' _ (I.tok _) rw')
  · subst ey
    cases (show u = Value.ref b from ry)
    obtain ⟨z, hd, xs, rel, dd⟩ := yfB I.hok e
    obtain ⟨w', hw, rw'⟩ := Zdn.some_of (v := v) (o := (atKey xs k).map (·.2)) (by rw [l]; exact rel.val k)
    obtain ⟨p, hp, hp2⟩ := Option.map_eq_some_iff.mp hw
    refine wpAny_getItem_heap (tupleKind_room_in1 hu) (Ye4 I.hok eb) dd hp ?_
    rw [hp2]
    exact h w' _ (I.tok _) rw'
theorem yhO {Q : Value → Shared → Prop} (hu : A.units + 1 < cLine) (I : Inv X pins σ H s) (g : Zbz H a y o) (ry : RelV y u) (h : ∀ s', Inv X pins σ H s' → Q (.bool o.isSome) s') :
    wpAny (model X.prog X.w) A (compareOp .In u (.ref a)) Q E s := by
  rcases g with ⟨kvs, k, e, ey, l⟩ | ⟨kvs, k, b, e, ey, eb, l⟩
  · subst ey
    obtain ⟨z, hd, vs, rel, dd⟩ := ZfB I.hok e
    refine wpAny_in_of (zfh ry) hd dd.mapOf ?_
    rw [← (rel.val k).ycy, ← l]
    exact h _ (I.tok _)
  · subst ey
    cases (show u = Value.ref b from ry)
    obtain ⟨z, hd, xs, rel, dd⟩ := yfB I.hok e
    refine wpAny_in_heap (tupleKind_room_in1 hu) (Ye4 I.hok eb) hd dd ?_
    have q := (rel.val k).ycy
    rw [Option.isSome_map] at q
    rw [← q, ← l]
    exact h _ (I.tok _)
theorem Yhr {Q : Value → Shared → Prop} (hu : A.units + 1 < cLine) (I : Inv X pins σ H s) (g : Zbz H a y o) (ry : RelV y u) (h : ∀ s', Inv X pins σ H s' → Q (.bool (!o.isSome)) s') :
    wpAny (model X.prog X.w) A (compareOp .NotIn u (.ref a)) Q E s := by
  rcases g with ⟨kvs, k, e, ey, l⟩ | ⟨kvs, k, b, e, ey, eb, l⟩
  · subst ey
    obtain ⟨z, hd, vs, rel, dd⟩ := ZfB I.hok e
    refine wpAny_notIn_of (zfh ry) hd dd.mapOf ?_
    rw [← (rel.val k).ycy, ← l]
    exact h _ (I.tok _)
  · subst ey
    cases (show u = Value.ref b from ry)
    obtain ⟨z, hd, xs, rel, dd⟩ := yfB I.hok e
    refine wpAny_notIn_heap (tupleKind_room_in1 hu) (Ye4 I.hok eb) hd dd ?_
    have q := (rel.val k).ycy
    rw [Option.isSome_map] at q
    rw [← q, ← l]
    exact h _ (I.tok _)
theorem jfx {h' : Heap} {t' : Nat} {ob : HO} (I : Inv X pins σ H s) (mu : Mut (H a)) (hs : Heap.SameBut a s.heap h') (he : ∃ q, h'.get? a = some q) (new : zP X.prog X.w (upd H a ob) h' a ob) :
    Inv X pins σ (upd H a ob) { s with heap := h', toks := t' } :=
  I.write (x := a) (e := a) mu (.inl rfl) (fun b q hb z => (hs.2 b hb).trans z) he new
theorem YgL {P : Program} {w : World} {H' : Hp} {h' : Heap} {kvs : List (Key × V)} {vs : List (Key × Value)} (z : kvs.length ≤ sizeLine) (hd : (a == sysModules) = false) (rel : KV kvs vs) (dd : h'.DictOf (jN P w) a vs) :
    zP P w H' h' a (.dK kvs) := ⟨z, hd, vs, rel, dd⟩
theorem Zg3 {H' : Hp} {Q : Unit → Shared → Prop} (hu : A.units + 1 < cLine) (I : Inv X pins σ H s) (g : Ygg H a y v H') (ry : RelV y u) (rv : RelV v r) (h : ∀ s', Inv X pins σ H' s' → Q () s') :
    wpAny (model X.prog X.w) A (setItem (.ref a) u r) Q E s := by
  rcases g with ⟨kvs, k, e, ey, l, eH⟩ | ⟨kvs, k, b, e, ey, eb, l, eH⟩
  · subst ey eH
    obtain ⟨z, hd, vs, rel, dd⟩ := yhe I.hok e
    have hz : vs.length ≤ sizeLine := by rw [← rel.length]; exact z
    have hl : (putK kvs k v).length ≤ sizeLine := by have := Jfg kvs k v; omega
    refine wpAny_setItem_pairs (hsz := hz) (zfh ry) dd fun h' dd' hs => h _ ?_
    have he : ∃ q, h'.get? a = some q := let ⟨q, _, _, hq, _⟩ := dd'; ⟨q, hq⟩
    exact jfx I (by rw [e]; exact True.intro) hs he (YgL hl hd (rel.put k rv) dd')
  · subst ey eH
    cases (show u = Value.ref b from ry)
    obtain ⟨z, hd, xs, rel, dd⟩ := jhI I.hok e
    have hz : xs.length ≤ sizeLine := by rw [← Paired.length rel]; exact z
    have hl : (putK kvs k v).length ≤ sizeLine := by have := Jfg kvs k v; omega
    refine wpAny_setItem_heap (hsz := hz) (tupleKind_room_in1 hu) (Ye4 I.hok eb) dd fun h' dd' hs => h _ ?_
    obtain ⟨q, es, ep, hq, h2, h3, h4, _, h5⟩ := dd'
    refine jfx I (by rw [e]; exact True.intro) hs ⟨q, hq⟩ ⟨hl, hd, _, (rel.put k eb rv).keeps fun c ys ec => ?_, q, es, ep, hq, h2, h3, h4, h5⟩
    rw [Zc (yaR ec e (fun z => nomatch z))]
    exact ec
end
section
variable {X : Cx} {pins : List (Addr × Obj)} {σ : St} {H : Hp} {s : Shared} {a : Addr} {kvs : List (Key × V)} {k : Key} {u : Value} {A : Around} {E : Value → Shared → Prop}
theorem YhE {Q : Unit → Shared → Prop} (I : Inv X pins σ H s) (e : H a = some (.dK kvs)) (ry : RelV (kV k) u) (l : (za1 kvs k).isSome = true) (h : ∀ s', Inv X pins σ (upd H a (.dK (jfg kvs k))) s' → Q () s') :
    wpAny (model X.prog X.w) A (delItem (.ref a) u) Q E s := by
  obtain ⟨z, hd, vs, rel, dd⟩ := yhe I.hok e
  refine wpAny_delItem_slot dd.typeIs (by decide) PySem.F.slot_dict_delitem
    (call_meetsIn PySem.F.slot_dict_delitem dd.typeIs PySem.F.entry_dict_delitem (PySem.F.args_dict_delitem_2 _ _) (meets_dict_delitem_pairs (jN X.prog X.w) a (zfh ry)) ⟨vs, dd, by rw [← rel.length]; exact z, by rw [← (rel.val k).ycy]; exact l, fun h' dd' hs => h _ ?_⟩)
  have he : ∃ q, h'.get? a = some q := let ⟨q, _, _, hq, _⟩ := dd'; ⟨q, hq⟩
  exact jfx I (by rw [e]; exact True.intro) hs he (YgL (Nat.le_trans (zgw kvs k) z) hd (rel.drop k) dd')
theorem JhI {v : V} {more : List Value} {Q : Value → Shared → Prop} (I : Inv X pins σ H s) (e : H a = some (.dK kvs)) (ry : RelV (kV k) u) (l : za1 kvs k = some v) (hm : more = [] ∨ ∃ x, more = [x])
    (h : ∀ w' s', Inv X pins σ (upd H a (.dK (jfg kvs k))) s' → RelV v w' → Q w' s') : wpAny (model X.prog X.w) A (call (.builtin "dict.pop") (.ref a :: u :: more)) Q E s := by
  obtain ⟨z, hd, vs, rel, dd⟩ := yhe I.hok e
  obtain ⟨w', hw, rw'⟩ := Zdn.some_of (v := v) (o := valueAt vs k) (by rw [← l]; exact rel.val k)
  have hp : (keyPart u).isSome = true := by
    cases k with
    | inl i => obtain ⟨t, q⟩ := (show ∃ t, u = Value.int i t from ry); subst q; rfl
    | inr x => obtain ⟨t, q⟩ := (show ∃ t, u = Value.str x t from ry); subst q; rfl
  have ha : argsOk "dict.pop" ⟨.ref a :: u :: more, []⟩ := by
    rcases hm with q | ⟨x, q⟩
    · subst q; exact PySem.F.args_dict_pop_2 _ _
    · subst q; exact PySem.F.args_dict_pop_3 _ _ _
  refine call_meetsIn PySem.F.slot_dict_pop dd.typeIs PySem.F.entry_dict_pop ha (meets_dict_pop_there (jN X.prog X.w) a (zfh ry) more hm hp)
    ⟨vs, w', dd, by rw [← rel.length]; exact z, hw, fun h' dd' hs => h w' _ ?_ rw'⟩
  have he : ∃ q, h'.get? a = some q := let ⟨q, _, _, hq, _⟩ := dd'; ⟨q, hq⟩
  exact jfx I (by rw [e]; exact True.intro) hs he (YgL (Nat.le_trans (zgw kvs k) z) hd (rel.drop k) dd')
end
def zhJ (i : Expr) : Prop := ∀ ov iv, subscripted i false ov iv = operate [ov, iv] (getItem ov iv)
theorem jhr {prog : Program} {w : World} {A : Around} {E : Value → Shared → Prop} {s : Shared} {env : Env} {value slice : Expr} {pos : Pos} {T id : String} {Q : Value → Shared → Prop}
    (hl : typeLookup (.type T) "__getitem__" = pure (some (.builtin id))) (hs : zhJ slice)
    (h : wpAny (model prog w) A (eval value env) (fun o s₁ => wpAny (model prog w) A (eval slice env) (fun i s₂ => s₂.TypeIs o T ∧ wpAny (model prog w) A (getItem o i) Q E s₂) E s₁) E s) :
    wpAny (model prog w) A (eval (.Subscript value slice pos) env) Q E s := by
  refine Subscript_ (wpAny_mono h (fun o s₁ h₁ => wpAny_mono h₁ (fun i s₂ h₂ => ?_) fun _ _ x => x) fun _ _ x => x)
  obtain ⟨hT, h₂⟩ := h₂
  unfold subscriptTail
  refine wpAny_bind ?_
  rw [getitemInPython_of_ne hT.not_modules]
  refine wpAny_bind (wpAny_specialOf hT hl ?_)
  have fin : wpAny (model prog w) A (subscripted slice false o i) (fun r s₃ => wpAny (model prog w) A (letTemporaryGo value o r >>= fun _ => pure r) Q E s₃) E s₂ := by
    rw [hs o i]
    exact wpAny_operating (wpAny_mono h₂ (fun r s₃ h₃ => wpAny_bind (wpAny_letTemporaryGo (wpAny_pure h₃))) fun _ _ x => x)
  first
    | exact wpAny_pure (wpAny_bind fin)
    | exact wpAny_bind (wpAny_pure (wpAny_bind fin))
    | exact wpAny_bind fin
theorem Zgw {X : Cx} {pins : List (Addr × Obj)} {σ : St} {H : Hp} {s : Shared} {a : Addr} {y : V} {o : Option V} (I : Inv X pins σ H s) (g : Zbz H a y o) : s.TypeIs (.ref a) "dict" := by
  rcases g with ⟨kvs, k, e, _, _⟩ | ⟨kvs, k, b, e, _, _, _⟩
  · obtain ⟨_, _, vs, _, dd⟩ := ZfB I.hok e
    exact dd.typeIs
  · obtain ⟨_, _, xs, _, dd⟩ := yfB I.hok e
    exact dd.typeIs
def ZhJ (td ty : TE) : TE := fun σ H Q => td σ H fun x H1 => ty σ H1 fun y H2 => ∃ a v, x = .ref a ∧ Zbz H2 a y (some v) ∧ Q v H2
def YhO (ty td : TE) : TE := fun σ H Q => ty σ H fun y H1 => td σ H1 fun x H2 => ∃ a o, x = .ref a ∧ Zbz H2 a y o ∧ Q (.bl o.isSome) H2
def Jhr (ty td : TE) : TE := fun σ H Q => ty σ H fun y H1 => td σ H1 fun x H2 => ∃ a o, x = .ref a ∧ Zbz H2 a y o ∧ Q (.bl (!o.isSome)) H2
def yhJ (td ty tv : TE) : TS := fun D σ H => tv σ H fun v H1 => td σ H1 fun x H2 => ty σ H2 fun y H3 => ∃ a H4, x = .ref a ∧ Ygg H3 a y v H4 ∧ D.nx σ H4
section
variable {X : Cx} {o i e value : Expr} {pos pos' tpos : Pos} {td ty tv : TE}
theorem Zdo (hu : X.A.units + 1 < cLine) (ho : PE X o td) (hi : PE X i ty) (hs : zhJ i) : PE X (.Subscript o i pos) (ZhJ td ty) := by
  intro pins s σ H Q I h
  refine jhr PySem.F.slot_dict_getitem.lookup hs (thn (ho pins s σ H _ I h) fun u s1 ⟨x, H1, I1, rx, q1⟩ => thn (hi pins s1 σ H1 _ I1 q1) fun iv s2 ⟨y, H2, I2, ry, a, v, ex, g, q2⟩ => ?_)
  subst ex
  obtain rfl : u = Value.ref a := rx
  exact ⟨Zgw I2 g, zg3 hu I2 g ry fun w' s3 I3 rw' => ⟨v, H2, I3, rw', q2⟩⟩
theorem YfB (hu : X.A.units + 1 < cLine) (hi : PE X i ty) (ho : PE X o td) : PC X .In i o (YhO ty td) := by
  intro pins s σ H Q I h
  refine thn (hi pins s σ H _ I h) fun iv s1 ⟨y, H1, I1, ry, q1⟩ => thn (ho pins s1 σ H1 _ I1 q1) fun u s2 ⟨x, H2, I2, rx, a, ov, ex, g, q2⟩ => ?_
  subst ex
  obtain rfl : u = Value.ref a := rx
  exact yhO hu I2 g ry fun s3 I3 => ⟨.bl ov.isSome, H2, I3, rfl, q2⟩
theorem Zee (hu : X.A.units + 1 < cLine) (hi : PE X i ty) (ho : PE X o td) : PC X .NotIn i o (Jhr ty td) := by
  intro pins s σ H Q I h
  refine thn (hi pins s σ H _ I h) fun iv s1 ⟨y, H1, I1, ry, q1⟩ => thn (ho pins s1 σ H1 _ I1 q1) fun u s2 ⟨x, H2, I2, rx, a, ov, ex, g, q2⟩ => ?_
  subst ex
  obtain rfl : u = Value.ref a := rx
  exact Yhr hu I2 g ry fun s3 I3 => ⟨.bl (!ov.isSome), H2, I3, rfl, q2⟩
theorem Jfx (hu : X.A.units + 1 < cLine) (ho : PE X o td) (hi : PE X i ty) (hv : PE X value tv) (hs : swapsWith value (some (.Subscript o i pos')) pos.line X.env = pure false) :
    PS X (.Assign [.Subscript o i pos'] value pos) (yhJ td ty tv) := by
  intro pins s σ H D I h
  refine wpAny_Assign_Subscript (thn (hv pins s σ H _ I h) fun r s1 ⟨v, H1, I1, rv, q1⟩ => thn (ho pins s1 σ H1 _ I1 q1) fun u s2 ⟨x, H2, I2, rx, q2⟩ => thn (hi pins s2 σ H2 _ I2 q2) fun iv s3 ⟨y, H3, I3, ry, a, H4, ex, g, q3⟩ => ?_) hs
  subst ex
  obtain rfl : u = Value.ref a := rx
  exact Zg3 hu I3 g ry rv fun s4 I4 => ⟨σ, H4, I4, q3⟩
end
theorem Yhe {P : Program} {w : World} {H : Hp} (h : Heap) (hb : sysModules < h.objs.size) : zP P w H (h.push { cls := .type "dict", data := .dict #[] }) h.objs.size (.dK []) :=
  ⟨Nat.zero_le _, beq_eq_false_iff_ne.mpr (Ne.symm (Nat.ne_of_lt hb)), [], .nil, Heap.DictOf.new h⟩
def JhB : TE := fun _ H Q => ∀ p, H p = none → Q (.ref p) (upd H p (.dK []))
section
variable {X : Cx} {pos : Pos}
theorem jeI : PE X (.Dict [] [] pos) JhB := fun pins s σ H Q I h =>
  wpAny_Dict_empty ⟨.ref s.heap.objs.size, _, I.laid (a := s.heap.objs.size) (o := .dK []) (t' := s.toks) (fun _ _ q => Heap.get?_push_of_some _ q) (Nat.le_refl _) (Yhe s.heap I.big), rfl, h _ (I.hok.fresh (Nat.le_refl _))⟩
end
structure M1 (X : Cx) (o : Expr) (m : Str) (apos : Pos) (e : Expr) (cpos : Pos) : Prop where
  base : attributeBase o m X.env (eval o X.env) = eval o X.env
  few : ((backTo cpos (starEach [e] X.env)).all (fun x => !x.1) && (backToKw cpos (keywordEach [] X.env)).all (fun x => x.1.isSome)
    && decide (([e] : List Expr).length + ([] : List Keyword).length + (if ([] : List Keyword).isEmpty then 0 else 1) < 30)) = true
  line : (apos.endLine == cpos.line) = true
  trees : backTo cpos (starEach [e] X.env) = [(false, eval e X.env)]
structure M2 (X : Cx) (o : Expr) (m : Str) (apos : Pos) (e f : Expr) (cpos : Pos) : Prop where
  base : attributeBase o m X.env (eval o X.env) = eval o X.env
  few : ((backTo cpos (starEach [e, f] X.env)).all (fun x => !x.1) && (backToKw cpos (keywordEach [] X.env)).all (fun x => x.1.isSome)
    && decide (([e, f] : List Expr).length + ([] : List Keyword).length + (if ([] : List Keyword).isEmpty then 0 else 1) < 30)) = true
  line : (apos.endLine == cpos.line) = true
  trees : backTo cpos (starEach [e, f] X.env) = [(false, eval e X.env), (false, eval f X.env)]
def IsD (H : Hp) (a : Addr) : Prop := (∃ kvs, Rd H a (.dK kvs)) ∨ ∃ kvs, Rd H a (.dT kvs)
theorem jhe {X : Cx} {pins : List (Addr × Obj)} {σ : St} {H : Hp} {s : Shared} {a : Addr} (I : Inv X pins σ H s) (d : IsD H a) :
    s.TypeIs (.ref a) "dict" ∧ (∀ b, Value.ref a = .ref b → ∃ ob, s.heap.get? b = some ob ∧ ob.dict = none) ∧ (a == sysModules) = false := by
  rcases d with ⟨kvs, e⟩ | ⟨kvs, e⟩
  · obtain ⟨_, hd, vs, _, dd⟩ := ZfB I.hok e
    refine ⟨dd.typeIs, fun b q => ?_, hd⟩
    cases q
    obtain ⟨ob, _, _, h1, h2, _⟩ := dd
    exact ⟨ob, h1, h2.2.1⟩
  · obtain ⟨_, hd, xs, _, dd⟩ := yfB I.hok e
    refine ⟨dd.typeIs, fun b q => ?_, hd⟩
    cases q
    obtain ⟨ob, _, _, h1, h2, _⟩ := dd
    exact ⟨ob, h1, h2.2.1⟩
section
variable {X : Cx} {pins : List (Addr × Obj)} {σ : St} {H : Hp} {s : Shared} {a : Addr} {y d : V} {u r : Value} {o : Option V} {A : Around} {E : Value → Shared → Prop}
theorem zhC {Q : Value → Shared → Prop} (hu : A.units + 1 < cLine) (I : Inv X pins σ H s) (g : Zbz H a y o) (ry : RelV y u) (rd : RelV d r) (h : ∀ w' s', Inv X pins σ H s' → RelV (o.getD d) w' → Q w' s') :
    wpAny (model X.prog X.w) A (call (.builtin "dict.get") [.ref a, u, r]) Q E s := by
  rcases g with ⟨kvs, k, e, ey, l⟩ | ⟨kvs, k, b, e, ey, eb, l⟩
  · subst ey
    obtain ⟨z, hd, vs, rel, dd⟩ := ZfB I.hok e
    refine call_meetsIn PySem.F.slot_dict_get dd.typeIs PySem.F.entry_dict_get (PySem.F.args_dict_get_3 _ _ _) (meets_dict_get_default (jN X.prog X.w) a (zfh ry) hd r) ⟨_, dd.mapOf, h _ _ (I.tok _) ?_⟩
    rw [l]
    exact (rel.val k).getD rd
  · subst ey
    cases (show u = Value.ref b from ry)
    obtain ⟨z, hd, xs, rel, dd⟩ := yfB I.hok e
    refine call_meetsIn PySem.F.slot_dict_get dd.typeIs PySem.F.entry_dict_get (PySem.F.args_dict_get_3 _ _ _) (meetsH_dict_get_default (tupleKind (jN X.prog X.w)) a b hd r) ⟨tupleKind_room_in1 hu, k, xs, Ye4 I.hok eb, dd, h _ _ (I.tok _) ?_⟩
    rw [l]
    exact (rel.val k).getD rd
end
def ZhC (td ty tx : TE) : TE := fun σ H Q => td σ H fun x H1 => ∃ a, x = .ref a ∧ IsD H1 a ∧ ty σ H1 fun y H2 => tx σ H2 fun z H3 => ∃ o, Zbz H3 a y o ∧ Q (o.getD z) H3
def yhC (td ty : TE) : TE := fun σ H Q => td σ H fun x H1 => ∃ a, x = .ref a ∧ IsD H1 a ∧ ty σ H1 fun y H2 => ∃ kvs k v, H2 a = some (.dK kvs) ∧ y = kV k ∧ za1 kvs k = some v ∧ Q v (upd H2 a (.dK (jfg kvs k)))
section
variable {X : Cx} {o e f : Expr} {apos cpos : Pos} {td ty tx : TE}
theorem Jhe (hu : X.A.units + 1 < cLine) (ho : PE X o td) (he : PE X e ty) (hf : PE X f tx) (m : M2 X o "get" apos e f cpos) : PE X (.Call (.Attribute o "get" apos) [e, f] [] cpos) (ZhC td ty tx) := by
  intro pins s σ H Q I h
  refine wpAny_Call_method m.base m.few m.line PySem.F.plainAttrs_dict PySem.F.slot_dict_get PySem.F.type_dict_get (thn (ho pins s σ H _ I h) fun u s1 ⟨x, H1, I1, rx, a, ex, d, q1⟩ => ?_)
  subst ex
  obtain rfl : u = Value.ref a := rx
  obtain ⟨t1, t2, _⟩ := jhe I1 d
  refine ⟨t1, t2, ?_⟩
  rw [m.trees]
  refine Calls.callWith_builtin rfl (Calls.evalArgs_plain (Calls.spliced_cons (thn (he pins s1 σ H1 _ I1 q1) fun iv s2 ⟨y, H2, I2, ry, q2⟩ =>
    Calls.spliced_cons (thn (hf pins s2 σ H2 _ I2 q2) fun fv s3 ⟨z, H3, I3, rz, ov, g, q3⟩ => Calls.spliced_nil ?_))))
  exact zhC hu I3 g ry rz fun w' s4 I4 rw' => ⟨_, H3, I4, rw', q3⟩
theorem zhf (ho : PE X o td) (he : PE X e ty) (m : M1 X o "pop" apos e cpos) : PE X (.Call (.Attribute o "pop" apos) [e] [] cpos) (yhC td ty) := by
  intro pins s σ H Q I h
  refine wpAny_Call_method m.base m.few m.line PySem.F.plainAttrs_dict PySem.F.slot_dict_pop PySem.F.type_dict_pop (thn (ho pins s σ H _ I h) fun u s1 ⟨x, H1, I1, rx, a, ex, d, q1⟩ => ?_)
  subst ex
  obtain rfl : u = Value.ref a := rx
  obtain ⟨t1, t2, _⟩ := jhe I1 d
  refine ⟨t1, t2, ?_⟩
  rw [m.trees]
  refine Calls.callWith_builtin rfl (Calls.evalArgs_plain (Calls.spliced_cons (thn (he pins s1 σ H1 _ I1 q1) fun iv s2 ⟨y, H2, I2, ry, kvs, k, v, ea, ey, l, q2⟩ => Calls.spliced_nil ?_)))
  subst ey
  exact JhI I2 ea ry l (.inl rfl) fun w' s3 I3 rw' => ⟨v, _, I3, rw', q2⟩
end
section
variable {X : Cx} {pins : List (Addr × Obj)} {σ : St} {H : Hp} {s : Shared} {a : Addr} {kvs : List (Key × V)} {A : Around} {E : Value → Shared → Prop}
end
section
variable {X : Cx} {pins : List (Addr × Obj)} {σ : St} {H : Hp} {s : Shared} {a : Addr} {y : V} {u : Value} {A : Around} {E : Value → Shared → Prop}
end
end L2
namespace L2
open PySem PySem.Spec PyProof.Rows
section
variable {prog : Program} {w : World} {A : Around} {E : Value → Shared → Prop}
end
section
variable {X : Cx}
end
end L2
namespace L2
open PySem PySem.Spec PyProof.Rows
section
variable {X : Cx} {pins : List (Addr × Obj)} {σ : St} {H : Hp} {s : Shared} {h' : Heap}
theorem Inv.Yf5 {t' : Nat} {ch : List Addr} {T : Addr} {ob : HO} (I : Inv X pins σ H s) (k : ∀ b o, b ∉ ch → s.heap.get? b = some o → h'.get? b = some o) (hf : ∀ b ∈ ch, ZfA X pins H b) (hT : s.heap.objs.size ≤ T)
    (new : zP X.prog X.w (upd H T ob) h' T ob) : Inv X pins σ (upd H T ob) { s with heap := h', toks := t' } := by
  have hn : H T = none := I.hok.fresh hT
  have nit : ∀ b u, H b = some u → b ∉ ch := fun b u e z => by
    have q := (hf b z).1
    rw [q] at e; cases e
  refine I.step (g' := s.gens) (d' := s.drawn) (ch := ch) (fun b hb => ⟨(hf b hb).2.2.2.1, (hf b hb).2.1, (hf b hb).2.2.2.2.1, (hf b hb).2.2.2.2.2⟩) (fun b o _ _ hc e _ => k b o hc e) (fun b o _ _ hc e _ => ⟨o.slots, k b o hc e⟩)
    (fun b o _ e n => ?_) (fun b o hc e => ⟨o, k b o hc e⟩) (fun b xs e => ?_) (fun b o u e => ?_) (fun b ps e => ⟨#[], ?_⟩) (fun m hm => ?_) (fun b u e => ?_) I.bare
  · rw [Zc (Nat.ne_of_lt (Nat.lt_of_lt_of_le (Heap.lt_size e) hT))]; exact n
  · rw [Zc (yd e hn)]; exact e
  · rw [Zc (yd e hn)]; exact e
  · rw [Zc (yd e hn), e]; simp
  · obtain ⟨o, es, ep, ho, r⟩ := hm
    exact ⟨o, es, ep, k _ o (fun z => (hf _ z).2.1 rfl) ho, r⟩
  · by_cases hb : b = T
    · subst hb
      rw [Ja] at e
      cases e
      exact new
    · rw [Zc hb] at e
      refine (I.hok b u e).stay (fun c v hc q => k c v ?_ q) (fun c q => by rw [Zc (yd q hn)]; exact q) fun c xs q => by rw [Zc (yd q hn)]; exact q
      rcases hc with z | z
      · rw [z]; exact nit b u e
      · exact nit c _ z
theorem Inv.lock {d : Addr} {u : HO} (I : Inv X pins σ H s) (h : H d = some u) (mu : Mut (some u)) : ∃ od, Inv X pins σ (upd H d (.frz od u)) s := by
  have x := I.hok d u h
  have ex : ∃ od, s.heap.get? d = some od := by
    cases u with
    | lst xs => obtain ⟨_, _, _, _, e⟩ := x; exact ⟨_, e⟩
    | dK kvs => obtain ⟨_, _, _, _, o, _, _, e, _⟩ := x; exact ⟨o, e⟩
    | dT kvs => obtain ⟨_, _, _, _, o, _, _, e, _⟩ := x; exact ⟨o, e⟩
    | set S n => obtain ⟨o, _, _, _, e, _⟩ := x; exact ⟨o, e⟩
    | ins C dx fs => obtain ⟨_, _, _, e, _⟩ := x; exact ⟨_, e⟩
    | ext φ => obtain ⟨_, ⟨_, e⟩, _⟩ := x; exact ⟨_, e⟩
    | _ => exact False.elim mu
  obtain ⟨od, e⟩ := ex
  have new : zP X.prog X.w (upd H d (.frz od u)) s.heap d (.frz od u) := by
    refine ⟨e, x.stay (fun b v _ q => q) (fun b q => ?_) fun b xs q => ?_⟩
    · rw [Zc (fun z => by rw [z, h] at q; cases q; exact mu)]; exact q
    · rw [Zc (fun z => by rw [z, h] at q; cases q; exact mu)]; exact q
  exact ⟨od, I.write (x := d) (e := d) (t' := s.toks) (h' := s.heap) (by rw [h]; exact mu) (.inl rfl) (fun b v _ q => q) ⟨od, e⟩ new⟩
theorem Inv.ygw {d : Addr} {u : HO} (I : Inv X pins σ H s) (h : H d = some u) (mu : Mut (some u)) : ∀ o' u', X.H_0 d ≠ some (.frz o' u') := fun o' u' e => by
  have q := I.base.frzs d o' u' e
  rw [h] at q
  cases q
  exact mu
theorem Inv.unlock {d : Addr} {od : Obj} {u : HO} (I : Inv X pins σ H s) (h : H d = some (.frz od u)) (hn : ∀ o' u', X.H_0 d ≠ some (.frz o' u')) : Inv X pins σ (upd H d u) s := by
  have neH : ∀ b o, H b = some o → (∀ o' u', o ≠ .frz o' u') → b ≠ d := fun b o e hne z => by
    rw [z, h] at e
    cases e
    exact hne _ _ rfl
  have neN : ∀ b, H b = none → b ≠ d := fun b e z => by rw [z, h] at e; cases e
  refine ⟨I.ok, I.os, I.bare, ⟨I.base.keep, I.base.slot, fun b o e n hx => ?_, I.base.there, fun b xs e => ?_, fun b o x e => ?_, fun b ps e => ?_⟩, I.loc, I.cell, ?_, fun x c e => ?_, fun p hp => ?_, fun b o e => ?_, I.len⟩
  · rw [Zc (neN b (I.base.free b o e n hx))]; exact I.base.free b o e n hx
  · have q := I.base.tups b xs e
    rw [Zc (neH b _ q (fun _ _ z => nomatch z))]; exact q
  · have q := I.base.frzs b o x e
    rw [Zc (fun z => by rw [z] at e; exact hn _ _ e)]; exact q
  · obtain ⟨m, q⟩ := I.base.tbls b ps e
    exact ⟨m, by rw [Zc (neH b _ q (fun _ _ z => nomatch z))]; exact q⟩
  · rw [Zc (neN _ I.free)]; exact I.free
  · rw [Zc (neN c (I.freeC x c e))]; exact I.freeC x c e
  · obtain ⟨e, n, r⟩ := I.pin p hp
    exact ⟨e, by rw [Zc (neN _ n)]; exact n, r⟩
  · by_cases hb : b = d
    · rw [hb, Ja] at e
      cases e
      rw [hb]
      obtain ⟨_, x⟩ := I.hok d _ h
      exact x.stay (fun c v _ q => q) (fun c q => by rw [Zc (neH c _ q (fun _ _ z => nomatch z))]; exact q) fun c xs q => by rw [Zc (neH c _ q (fun _ _ z => nomatch z))]; exact q
    · rw [Zc hb] at e
      exact (I.hok b o e).stay (fun c v _ q => q) (fun c q => by rw [Zc (neH c _ q (fun _ _ z => nomatch z))]; exact q) fun c xs q => by rw [Zc (neH c _ q (fun _ _ z => nomatch z))]; exact q
end
def YhJ (t : TS) : TS := fun D σ H => ∃ d u, H d = some u ∧ Mut (some u) ∧ ∀ od, t ⟨fun σ' H' => H' d = some (.frz od u) ∧ D.nx σ' (upd H' d u), fun v H' => H' d = some (.frz od u) ∧ D.rt v (upd H' d u), fun σ' H' => H' d = some (.frz od u) ∧ D.bk σ' (upd H' d u), fun σ' H' => H' d = some (.frz od u) ∧ D.ct σ' (upd H' d u)⟩ σ (upd H d (.frz od u))
def YhC (t : TE) : TE := fun σ H Q => ∃ d u, H d = some u ∧ Mut (some u) ∧ ∀ od, t σ (upd H d (.frz od u)) fun v H' => H' d = some (.frz od u) ∧ Q v (upd H' d u)
section
variable {X : Cx}
theorem ZgV {st : Stmt} {t : TS} (h : PS X st t) : PS X st (YhJ t) := by
  intro pins s σ H D I hw
  obtain ⟨d, u, hd, mu, hw⟩ := hw
  obtain ⟨od, I1⟩ := I.lock hd mu
  refine thn (h pins s σ _ _ I1 (hw od)) fun f s1 q => ?_
  cases f with
  | next => obtain ⟨σ', H', I2, e, q⟩ := q; exact ⟨σ', _, I2.unlock e (I.ygw hd mu), q⟩
  | brk => obtain ⟨σ', H', I2, e, q⟩ := q; exact ⟨σ', _, I2.unlock e (I.ygw hd mu), q⟩
  | cont => obtain ⟨σ', H', I2, e, q⟩ := q; exact ⟨σ', _, I2.unlock e (I.ygw hd mu), q⟩
  | ret v => obtain ⟨x, σ', H', I2, r, e, q⟩ := q; exact ⟨x, σ', _, I2.unlock e (I.ygw hd mu), r, q⟩
theorem zhs {e : Expr} {t : TE} (h : PE X e t) : PE X e (YhC t) := by
  intro pins s σ H Q I hw
  obtain ⟨d, u, hd, mu, hw⟩ := hw
  obtain ⟨od, I1⟩ := I.lock hd mu
  refine thn (h pins s σ _ _ I1 (hw od)) fun v s1 ⟨x, H1, I2, r, e2, q⟩ => ?_
  exact ⟨x, _, I2.unlock e2 (I.ygw hd mu), r, q⟩
theorem jgg {tg : Expr} {pins : List (Addr × Obj)} {σ : St} {H : Hp} {s : Shared} {R : It → Hp → Prop} {J : It} {tn : Nat → Heap → Prop} {tk : Nat} (I : Inv X pins σ H s) (o : Obj)
    (T : Turn X.prog X.w X.K tg J [s.heap.objs.size] s.heap.objs.size tn) (st : tn 0 (s.heap.push o)) (q : R J H) : PIE X pins σ tg R (.ref s.heap.objs.size) { s with heap := s.heap.push o, toks := tk } := by
  refine ⟨s.heap.objs.size, [s.heap.objs.size], tn, J, H, rfl, I.kept fun b ob e => Heap.get?_push_of_some _ e, T, st, fun b hb => ?_, q⟩
  have e : b = s.heap.objs.size := by simpa using hb
  subst e
  exact I.zhp (Nat.le_refl _) (I.hok.fresh (Nat.le_refl _))
end
section
variable {X : Cx} {tg : Expr}
end
section
variable {X : Cx} {tg : Expr}
end
section
variable {prog : Program} {w : World} {A : Around} {E : Value → Shared → Prop} {s : Shared}
theorem jf5 {d : Addr} {o : Obj} {es : Array DictEntry} {ep : Nat} {Q : Value → Shared → Prop} (hd : (d == sysModules) = false) (ho : s.heap.get? d = some o) (hc : o.ExactDict) (hdat : o.data = .dict es ep)
    (hQ : Q (.ref s.heap.objs.size) { s with heap := s.heap.push { cls := .type "dict_keyiterator", data := .fields #[.ref d, .int 0 0, .int es.size 0, .int ep 0] } }) :
    wpAny (model prog w) A (pyIter (.ref d)) Q E s := by
  have hT : s.TypeIs (.ref d) "dict" := ⟨o, ho, hc.1⟩
  refine wpAny_pyIter_slot hT F.slot_dict_iter (wpAny_call_entry F.slot_dict_iter hT F.entry_dict_iter ?_ (F.args_dict_iter_1 _))
  unfold Builtin.«dict.__iter__»
  refine wpAny_bind ?_
  unfold Builtin.Dict.dictSlotNone
  refine wpAny_bind (wpAny_notOrdered_dict hT ?_)
  show wpAny _ _ (pure (Value.ref d)) _ _ s
  refine wpAny_pure ?_
  show wpAny _ _ (Builtin.Dict.showsAll d >>= _) _ _ s
  unfold Builtin.Dict.showsAll
  rw [if_neg (by rw [hd]; exact Bool.false_ne_true)]
  refine wpAny_bind (wpAny_pure ?_)
  refine wpAny_bind (wpAny_dictEntries ho hdat ?_)
  refine wpAny_bind (wpAny_dictEpoch ho hdat ?_)
  refine wpAny_bind (wpAny_newObj_type (wpAny_pure ⟨_, rfl, "dict_keyiterator", _, ⟨_, Heap.get?_push_size _ rfl, rfl⟩, F.slot_dict_keyiterator_next.lookup, ?_⟩))
  simpa [rawInt] using hQ
theorem YfV {it d : Addr} {i n ep : Nat} {od : Obj} {es : Array DictEntry} {en : DictEntry} {Q : Option Value → Shared → Prop} (hit : s.heap.IsKeyIter it d i n ep) (hod : s.heap.get? d = some od) (hdd : od.data = .dict es ep)
    (hsz : es.size = n) (hx : es[i]? = some en) (hQ : ∀ h', h'.IsKeyIter it d (i + 1) n ep → Heap.SameBut it s.heap h' → Q (some en.key) { s with heap := h' }) : wpAny (model prog w) A (pyNext (.ref it)) Q E s := by
  obtain ⟨o, ho, hc, hd⟩ := id hit
  unfold pyNext
  refine wpAny_bind (wpAny_attempt (wpAny_callSpecial?_slot (name := Str.ofString "__next__") hit.typeIs F.slot_dict_keyiterator_next
    (wpAny_call_entry F.slot_dict_keyiterator_next hit.typeIs F.entry_dict_keyiterator_next ?_ (F.args_dict_keyiterator_next_1 _))))
  refine wpAny_bind (wpAny_pure ?_)
  refine wpAny_bind ?_
  refine wpAny_bind ?_
  first | refine wpAny_bind (wpAny_typeNameOfWhole_keyiter hit.typeIs (wpAny_pure ?_)) | refine wpAny_bind (wpAny_typeNameOf_keyiter hit.typeIs (wpAny_pure ?_))
  refine wpAny_bind (wpAny_fieldsOf ho hd ?_)
  have hown : Builtin.Dict_items.ownsTuple "dict_keyiterator" = false := by decide
  simp only [hown, Bool.false_eq_true, if_false]
  show wpAny _ _ (if (Value.ref d == Value.none) = true then _ else _) _ _ s
  rw [if_neg (show ¬ ((Value.ref d == Value.none) = true) from Bool.false_ne_true)]
  refine wpAny_bind (wpAny_pure ?_)
  refine wpAny_bind (wpAny_dictEntries hod hdd ?_)
  rw [if_neg (by rw [hsz]; simp)]
  refine wpAny_bind (wpAny_pure ?_)
  refine wpAny_bind (wpAny_dictEpoch hod hdd ?_)
  rw [if_neg (by simp)]
  refine wpAny_pure ?_
  obtain ⟨hlt', hen⟩ := Array.getElem?_eq_some_iff.mp hx
  simp only [show ¬ ((i : Int) < 0) from by omega, if_false, Int.toNat_natCast, Array.getElem?_eq_getElem hlt']
  refine wpAny_bind ?_
  first | refine wpAny_bind (wpAny_typeNameOfWhole_keyiter hit.typeIs (wpAny_pure ?_)) | refine wpAny_bind (wpAny_typeNameOf_keyiter hit.typeIs (wpAny_pure ?_))
  refine wpAny_bind (wpAny_isOneOf_keyiter hit.typeIs ?_)
  show wpAny _ _ (setField (.ref it) 1 (rawInt ((i : Int) + 1)) >>= _) _ _ s
  refine wpAny_bind (wpAny_setField ho hd (by simp) ?_)
  have hit' : (s.heap.update it (Obj.mapFields (·.setIfInBounds 1 (rawInt ((i : Int) + 1))))).IsKeyIter it d (i + 1) n ep :=
    ⟨_, Heap.get?_update_self _ ho (Obj.isFreed_of_fields (Obj.data_mapFields hd _)), (Obj.cls_mapFields ..).trans hc, by rw [Obj.data_mapFields hd]; simp [rawInt]⟩
  refine wpAny_bind (wpAny_holding ?_)
  refine wpAny_bind (wpAny_isOneOf_keyiter (s := { s with heap := s.heap.update it (Obj.mapFields (·.setIfInBounds 1 (rawInt ((i : Int) + 1)))) }) hit'.typeIs ?_)
  show wpAny _ _ (pure es[i].key) _ _ _
  rw [hen]
  exact wpAny_pure (wpAny_pure ⟨_, rfl, wpAny_pure (hQ _ hit' (Heap.SameBut.update ..))⟩)
theorem JeI {it d : Addr} {i n ep : Nat} {od : Obj} {es : Array DictEntry} {Q : Option Value → Shared → Prop} (hh : A.handled = none) (hit : s.heap.IsKeyIter it d i n ep) (hod : s.heap.get? d = some od) (hdd : od.data = .dict es ep)
    (hsz : es.size = n) (hge : n ≤ i) (hQ : ∀ h', Heap.ExtBut it s.heap h' → Q none { s with heap := h' }) : wpAny (model prog w) A (pyNext (.ref it)) Q E s := by
  obtain ⟨o, ho, hc, hd⟩ := id hit
  unfold pyNext
  refine wpAny_bind (wpAny_attempt (wpAny_callSpecial?_slot (name := Str.ofString "__next__") hit.typeIs F.slot_dict_keyiterator_next
    (wpAny_call_entry F.slot_dict_keyiterator_next hit.typeIs F.entry_dict_keyiterator_next ?_ (F.args_dict_keyiterator_next_1 _))))
  refine wpAny_bind (wpAny_pure ?_)
  refine wpAny_bind ?_
  refine wpAny_bind ?_
  first | refine wpAny_bind (wpAny_typeNameOfWhole_keyiter hit.typeIs (wpAny_pure ?_)) | refine wpAny_bind (wpAny_typeNameOf_keyiter hit.typeIs (wpAny_pure ?_))
  refine wpAny_bind (wpAny_fieldsOf ho hd ?_)
  have hown : Builtin.Dict_items.ownsTuple "dict_keyiterator" = false := by decide
  simp only [hown, Bool.false_eq_true, if_false]
  show wpAny _ _ (if (Value.ref d == Value.none) = true then _ else _) _ _ s
  rw [if_neg (show ¬ ((Value.ref d == Value.none) = true) from Bool.false_ne_true)]
  refine wpAny_bind (wpAny_pure ?_)
  refine wpAny_bind (wpAny_dictEntries hod hdd ?_)
  rw [if_neg (by rw [hsz]; simp)]
  refine wpAny_bind (wpAny_pure ?_)
  refine wpAny_bind (wpAny_dictEpoch hod hdd ?_)
  rw [if_neg (by simp)]
  refine wpAny_pure ?_
  have hge' : es.size ≤ i := by rw [hsz]; exact hge
  simp only [show ¬ ((i : Int) < 0) from by omega, if_false, Int.toNat_natCast, Array.getElem?_eq_none hge']
  refine wpAny_bind ?_
  first | refine wpAny_bind (wpAny_typeNameOfWhole_keyiter hit.typeIs (wpAny_pure ?_)) | refine wpAny_bind (wpAny_typeNameOf_keyiter hit.typeIs (wpAny_pure ?_))
  show wpAny _ _ (setField (.ref it) 0 .none >>= _) _ _ s
  refine wpAny_bind (wpAny_setField ho hd (by simp) ?_)
  show wpAny _ _ (newExc (.type "StopIteration") [] >>= _) _ _ _
  refine wpAny_bind ?_
  simp only [newExc, newTuple]
  refine wpAny_bind (wpAny_newObj_type ?_ (by size_fits))
  refine wpAny_bind (m := firstArgMember _ _) (wpAny_of_eq (a := Value.none) (by first | rfl | (simp only [firstArgMember]; rfl)) ?_)
  refine wpAny_newObj_type ?_ (by size_fits)
  simp only [raiseNew]
  refine wpAny_bind (wpAny_handled ?_)
  rw [show A.in1.handled = none from hh]
  refine wpAny_bind (wpAny_pure (wpAny_throw ?_))
  refine wpAny_bind (wpAny_isInstance (T := "StopIteration") (b := true) ⟨_, Heap.get?_push_size _ rfl, rfl⟩ isSubtype_stop ?_)
  exact wpAny_pure (hQ _ (((Heap.SameBut.update ..).extBut.push _).push _))
end
theorem jfB {κ : Type} {kvs : List (κ × V)} {vs : List (κ × Value)} (h : KV kvs vs) : ∀ {i : Nat} {k : κ} {v : V}, kvs[i]? = some (k, v) → ∃ u, vs[i]? = some (k, u) ∧ RelV v u := by
  unfold KV at h
  induction h with
  | nil => intro i k v e; simp at e
  | @cons a b l₁ l₂ r t ih =>
    intro i k v e
    cases i with
    | zero =>
      simp only [List.getElem?_cons_zero, Option.some.injEq] at e
      subst e
      refine ⟨b.2, ?_, r.2⟩
      simp only [List.getElem?_cons_zero]
      exact congrArg some (Prod.ext r.1.symm rfl)
    | succ j =>
      simp only [List.getElem?_cons_succ] at e ⊢
      exact ih e
theorem jgL {α β : Type} {G : α → β → Prop} {l₁ : List α} {l₂ : List β} (h : Paired G l₁ l₂) : ∀ {i : Nat} {a : α}, l₁[i]? = some a → ∃ b, l₂[i]? = some b ∧ G a b := by
  induction h with
  | nil => intro i a e; simp at e
  | @cons a b l₁ l₂ r t ih =>
    intro i a' e
    cases i with
    | zero =>
      simp only [List.getElem?_cons_zero, Option.some.injEq] at e
      subst e
      exact ⟨b, rfl, r⟩
    | succ j =>
      simp only [List.getElem?_cons_succ] at e ⊢
      exact ih e
theorem JfB {k : Key} {u : Value} (h : Jem k u = true) : RelV (kV k) u := by
  rcases jal h with ⟨i, t, rfl, rfl⟩ | ⟨x, t, rfl, rfl⟩
  · exact ⟨t, rfl⟩
  · exact ⟨t, rfl⟩
section
variable {X : Cx} {pins : List (Addr × Obj)} {σ : St} {H : Hp} {s : Shared} {d : Addr} {o : Obj}
theorem Inv.Jgg {kvs : List (Key × V)} (I : Inv X pins σ H s) (h : H d = some (.frz o (.dK kvs))) :
    (d == sysModules) = false ∧ s.heap.get? d = some o ∧ o.ExactDict ∧ ∃ (es : Array DictEntry) (ep : Nat) (vs : List (Key × Value)), o.data = .dict es ep ∧ es.size = kvs.length ∧ KV kvs vs ∧ s.heap.DictAt (jN X.prog X.w) d vs ep := by
  obtain ⟨hd, z, hs, vs, kv, o', es, ep, ho, hx, hdt, r⟩ := I.hok d _ h
  rw [hd] at ho
  cases ho
  refine ⟨hs, hd, hx, es, ep, vs, hdt, ?_, kv, o, es, hd, hx, hdt, r⟩
  have l1 := r.2.1.length
  have l2 : kvs.length = vs.length := Paired.length kv
  rw [Array.length_toList] at l1
  omega
theorem Inv.jhC {kvs : List (List Key × V)} (I : Inv X pins σ H s) (h : H d = some (.frz o (.dT kvs))) :
    (d == sysModules) = false ∧ s.heap.get? d = some o ∧ o.ExactDict ∧ ∃ (es : Array DictEntry) (ep : Nat), o.data = .dict es ep ∧ es.size = kvs.length ∧
      ∀ (i : Nat) (k : List Key) (v : V), kvs[i]? = some (k, v) → ∃ (en : DictEntry) (q : Addr), es[i]? = some en ∧ en.key = .ref q ∧ H q = some (.tup (k.map kV)) := by
  obtain ⟨hd, z, hs, xs, pr, o', es, ep, ho, hx, hdt, he, _⟩ := I.hok d _ h
  rw [hd] at ho
  cases ho
  refine ⟨hs, hd, hx, es, ep, hdt, ?_, fun i k v e => ?_⟩
  · have l1 : es.size = xs.length := size_of_entries he
    have l2 : kvs.length = xs.length := Paired.length pr
    omega
  · obtain ⟨b, hb, e1, e2, _⟩ := jgL pr e
    have q := entry_at he i
    rw [hb] at q
    exact ⟨_, b.2.1, q, rfl, e2⟩
end
def Itk (d : Addr) (o : Obj) (kvs : List (Key × V)) : It :=
  ⟨fun i H => H d = some (.frz o (.dK kvs)) ∧ i < kvs.length, fun i H x H' => H' = H ∧ ∃ k v, kvs[i]? = some (k, v) ∧ x = kV k, fun i H => H d = some (.frz o (.dK kvs)) ∧ kvs.length ≤ i⟩
def jhJ (d : Addr) (o : Obj) (kvs : List (List Key × V)) : It :=
  ⟨fun i H => H d = some (.frz o (.dT kvs)) ∧ i < kvs.length, fun i H x H' => H' = H ∧ ∃ (k : List Key) (v : V) (q : Addr), kvs[i]? = some (k, v) ∧ x = .ref q ∧ H q = some (.tup (k.map kV)), fun i H => H d = some (.frz o (.dT kvs)) ∧ kvs.length ≤ i⟩
def Itd (d : Addr) (o : Obj) (kvs : List (Key × V)) : It :=
  ⟨fun i H => H d = some (.frz o (.dK kvs)) ∧ i < kvs.length, fun i H x H' => H' = H ∧ ∃ k, kvs[i]? = some (k, x), fun i H => H d = some (.frz o (.dK kvs)) ∧ kvs.length ≤ i⟩
def Iti (d : Addr) (o : Obj) (kvs : List (Key × V)) : It :=
  ⟨fun i H => H d = some (.frz o (.dK kvs)) ∧ i < kvs.length, fun i H x H' => ∃ T k v, kvs[i]? = some (k, v) ∧ x = .ref T ∧ H T = none ∧ H' = upd H T (.tup [kV k, v]), fun i H => H d = some (.frz o (.dK kvs)) ∧ kvs.length ≤ i⟩
theorem zcP {o : Obj} {es es' : Array DictEntry} {ep ep' : Nat} (h : o.data = .dict es ep) (h' : o.data = .dict es' ep') : es' = es ∧ ep' = ep := by
  rw [h] at h'
  cases h'
  exact ⟨rfl, rfl⟩
section
variable {P : Program} {w : World} {K : PySem.W.Frag} {tg : Expr} {d : Addr} {o : Obj} {es : Array DictEntry} {ep : Nat}
theorem yg3 {kvs : List (Key × V)} (it : Addr) (hod : o.data = .dict es ep) : Turn P w K tg (Itk d o kvs) [it] it (fun i h => h.IsKeyIter it d i kvs.length ep) where
  mem := by simp
  obj := fun i h st b hb => by
    have e : b = it := by simpa using hb
    subst e
    obtain ⟨oi, e, c, dd⟩ := st
    exact ⟨oi, e, fun v z => by rw [dd] at z; cases z⟩
  keep := fun i h h' st k => st.at fun oi e => k it (by simp) oi e
  item := by
    intro X hP hw hK hc i pins s σ H E I hf st hg
    subst hP hw hK
    obtain ⟨hd, hi⟩ := hg
    obtain ⟨f0, f1, f2, f3, f4, f5⟩ := hf it (by simp)
    obtain ⟨hs, hgd, hx, es', ep', vs, hdt, hsz, kv, hm⟩ := I.Jgg hd
    obtain ⟨rfl, rfl⟩ := zcP hod hdt
    obtain ⟨⟨k, v⟩, hkv⟩ : ∃ p, kvs[i]? = some p := ⟨kvs[i], List.getElem?_eq_getElem hi⟩
    obtain ⟨u, hu, ru⟩ := jfB kv hkv
    have hl : kvs.length = vs.length := Paired.length kv
    rw [hl] at st
    refine wpAny_pyNext_dict_item st hm hu fun key h' hkey st' sb => ?_
    have I1 : Inv X pins σ H { s with heap := h' } := I.turned (t' := s.toks) (fun b ob hb e => (sb.2 b hb).trans e) f0 f1 f3 f4 f5
    obtain ⟨oi, e, c, dd⟩ := id st'
    refine ⟨key, rfl, jgT (s := { s with heap := h' }) e c dd (by decide) ⟨kV k, H, I1, JfB (show Jem k key = true from hkey), ⟨rfl, k, v, hkv, rfl⟩, ?_, fun b hb => (hf b hb).1⟩⟩
    show h'.IsKeyIter it d (i + 1) kvs.length _
    rw [hl]
    exact st'
  done := by
    intro X hP hw hK hc i pins s σ H E I hf st hg
    subst hP hw hK
    obtain ⟨hd, hi⟩ := hg
    obtain ⟨f0, f1, f2, f3, f4, f5⟩ := hf it (by simp)
    obtain ⟨hs, hgd, hx, es', ep', vs, hdt, hsz, kv, hm⟩ := I.Jgg hd
    obtain ⟨rfl, rfl⟩ := zcP hod hdt
    exact JeI (I.ok.hd hc) st hgd hdt hsz hi fun h' eb => ⟨rfl, I.turned (t' := s.toks) (fun b ob hb e => eb b ob hb e) f0 f1 f3 f4 f5⟩
  self := fun A i s Q E st h => wpAny_pyIter_keyiter st h
theorem JgL {kvs : List (List Key × V)} (it : Addr) (hod : o.data = .dict es ep) : Turn P w K tg (jhJ d o kvs) [it] it (fun i h => h.IsKeyIter it d i kvs.length ep) where
  mem := by simp
  obj := fun i h st b hb => by
    have e : b = it := by simpa using hb
    subst e
    obtain ⟨oi, e, c, dd⟩ := st
    exact ⟨oi, e, fun v z => by rw [dd] at z; cases z⟩
  keep := fun i h h' st k => st.at fun oi e => k it (by simp) oi e
  item := by
    intro X hP hw hK hc i pins s σ H E I hf st hg
    subst hP hw hK
    obtain ⟨hd, hi⟩ := hg
    obtain ⟨f0, f1, f2, f3, f4, f5⟩ := hf it (by simp)
    obtain ⟨hs, hgd, hx, es', ep', hdt, hsz, ent⟩ := I.jhC hd
    obtain ⟨rfl, rfl⟩ := zcP hod hdt
    obtain ⟨⟨k, v⟩, hkv⟩ : ∃ p, kvs[i]? = some p := ⟨kvs[i], List.getElem?_eq_getElem hi⟩
    obtain ⟨en, q, hen, hkey, hq⟩ := ent i k v hkv
    refine YfV st hgd hdt hsz hen fun h' st' sb => ?_
    have I1 : Inv X pins σ H { s with heap := h' } := I.turned (t' := s.toks) (fun b ob hb e => (sb.2 b hb).trans e) f0 f1 f3 f4 f5
    obtain ⟨oi, e, c, dd⟩ := id st'
    exact ⟨en.key, rfl, jgT (s := { s with heap := h' }) e c dd (by decide) ⟨.ref q, H, I1, hkey, ⟨rfl, k, v, q, hkv, rfl, hq⟩, st', fun b hb => (hf b hb).1⟩⟩
  done := by
    intro X hP hw hK hc i pins s σ H E I hf st hg
    subst hP hw hK
    obtain ⟨hd, hi⟩ := hg
    obtain ⟨f0, f1, f2, f3, f4, f5⟩ := hf it (by simp)
    obtain ⟨hs, hgd, hx, es', ep', hdt, hsz, ent⟩ := I.jhC hd
    obtain ⟨rfl, rfl⟩ := zcP hod hdt
    exact JeI (I.ok.hd hc) st hgd hdt hsz hi fun h' eb => ⟨rfl, I.turned (t' := s.toks) (fun b ob hb e => eb b ob hb e) f0 f1 f3 f4 f5⟩
  self := fun A i s Q E st h => by
    refine wpAny_pyIter_slot st.typeIs F.slot_dict_keyiterator_iter (wpAny_call_entry F.slot_dict_keyiterator_iter st.typeIs F.entry_dict_keyiterator_iter ?_ (F.args_dict_keyiterator_iter_1 _))
    show wpAny _ _ (ret (.ref it)) _ _ s
    exact wpAny_pure ⟨_, rfl, "dict_keyiterator", _, st.typeIs, F.slot_dict_keyiterator_next.lookup, h⟩
theorem Yg3 {kvs : List (Key × V)} (it : Addr) (hod : o.data = .dict es ep) : Turn P w K tg (Itd d o kvs) [it] it (fun i h => h.IsValIter it d i kvs.length ep) where
  mem := by simp
  obj := fun i h st b hb => by
    have e : b = it := by simpa using hb
    subst e
    obtain ⟨oi, e, c, dd⟩ := st
    exact ⟨oi, e, fun v z => by rw [dd] at z; cases z⟩
  keep := fun i h h' st k => st.at fun oi e => k it (by simp) oi e
  item := by
    intro X hP hw hK hc i pins s σ H E I hf st hg
    subst hP hw hK
    obtain ⟨hd, hi⟩ := hg
    obtain ⟨f0, f1, f2, f3, f4, f5⟩ := hf it (by simp)
    obtain ⟨hs, hgd, hx, es', ep', vs, hdt, hsz, kv, hm⟩ := I.Jgg hd
    obtain ⟨rfl, rfl⟩ := zcP hod hdt
    obtain ⟨⟨k, v⟩, hkv⟩ : ∃ p, kvs[i]? = some p := ⟨kvs[i], List.getElem?_eq_getElem hi⟩
    obtain ⟨u, hu, ru⟩ := jfB kv hkv
    have hl : kvs.length = vs.length := Paired.length kv
    rw [hl] at st
    refine wpAny_pyNext_values_item st hm hu fun h' st' sb => ?_
    have I1 : Inv X pins σ H { s with heap := h' } := I.turned (t' := s.toks) (fun b ob hb e => (sb.2 b hb).trans e) f0 f1 f3 f4 f5
    obtain ⟨oi, e, c, dd⟩ := id st'
    refine ⟨u, rfl, jgT (s := { s with heap := h' }) e c dd (by decide) ⟨v, H, I1, ru, ⟨rfl, k, hkv⟩, ?_, fun b hb => (hf b hb).1⟩⟩
    show h'.IsValIter it d (i + 1) kvs.length _
    rw [hl]
    exact st'
  done := by
    intro X hP hw hK hc i pins s σ H E I hf st hg
    subst hP hw hK
    obtain ⟨hd, hi⟩ := hg
    obtain ⟨f0, f1, f2, f3, f4, f5⟩ := hf it (by simp)
    obtain ⟨hs, hgd, hx, es', ep', vs, hdt, hsz, kv, hm⟩ := I.Jgg hd
    obtain ⟨rfl, rfl⟩ := zcP hod hdt
    have hl : kvs.length = vs.length := Paired.length kv
    rw [hl] at st
    exact wpAny_pyNext_values_end (I.ok.hd hc) st hm (List.getElem?_eq_none (by omega)) fun h' eb => ⟨rfl, I.turned (t' := s.toks) (fun b ob hb e => eb b ob hb e) f0 f1 f3 f4 f5⟩
  self := fun A i s Q E st h => wpAny_pyIter_valiter st h
theorem zgM {kvs : List (Key × V)} {elts : List Expr} {kk : Nat} {tpos : Pos} (it : Addr) (hod : o.data = .dict es ep) :
    Turn P w K (.Tuple elts kk tpos) (Iti d o kvs) [it] it (fun i h => ∃ ok ov, IsItemIter h it d i kvs.length ep ok ov) where
  mem := by simp
  obj := fun i h st b hb => by
    have e : b = it := by simpa using hb
    subst e
    obtain ⟨ok, ov, e⟩ := st
    exact ⟨_, e, fun v z => nomatch z⟩
  keep := fun i h h' st k => let ⟨ok, ov, e⟩ := st; ⟨ok, ov, k it (by simp) _ e⟩
  item := by
    intro X hP hw hK hc i pins s σ H E I hf st hg
    subst hP hw hK
    obtain ⟨hd, hi⟩ := hg
    obtain ⟨hs, hgd, hx, es', ep', vs, hdt, hsz, kv, hm⟩ := I.Jgg hd
    obtain ⟨rfl, rfl⟩ := zcP hod hdt
    obtain ⟨⟨k, v⟩, hkv⟩ : ∃ p, kvs[i]? = some p := ⟨kvs[i], List.getElem?_eq_getElem hi⟩
    obtain ⟨u, hu, ru⟩ := jfB kv hkv
    have hl : kvs.length = vs.length := Paired.length kv
    obtain ⟨ok, ov, he⟩ := st
    rw [hl] at he
    have hlt : it < s.heap.objs.size := Heap.lt_size he
    refine wpAny_pyNext_items_item he hm hu fun key h' hkey ho hT hz hk => ?_
    refine ⟨_, rfl, wpAny_letOwnedTupleGo_items (s := { s with heap := h' }) ho fun h'' he' sb => ?_⟩
    have hT2 : h''.get? s.heap.objs.size = some { cls := .type "tuple", data := .seq #[key, u] } := (sb.2 _ (Nat.ne_of_gt hlt)).trans hT
    have new : zP X.prog X.w (upd H s.heap.objs.size (.tup [kV k, v])) h'' s.heap.objs.size (.tup [kV k, v]) :=
      ⟨by show 2 ≤ sizeLine; decide, [key, u], .cons (JfB (show Jem k key = true from hkey)) (.cons ru .nil), ⟨_, hT2, rfl, _, rfl⟩⟩
    have I1 : Inv X pins σ (upd H s.heap.objs.size (.tup [kV k, v])) { s with heap := h'' } :=
      I.Yf5 (t' := s.toks) (ch := [it]) (fun b ob hb e => (sb.2 b (by simpa using hb)).trans (hk b ob (by simpa using hb) e)) hf (Nat.le_refl _) new
    refine ⟨.ref s.heap.objs.size, _, I1, rfl, ⟨_, k, v, hkv, rfl, I.hok.fresh (Nat.le_refl _), rfl⟩, ⟨key, u, ?_⟩, fun b hb => ?_⟩
    · rw [hl]; exact he'
    · have e : b = it := by simpa using hb
      rw [e, Zc (Nat.ne_of_lt hlt)]
      exact (hf it (by simp)).1
  done := by
    intro X hP hw hK hc i pins s σ H E I hf st hg
    subst hP hw hK
    obtain ⟨hd, hi⟩ := hg
    obtain ⟨f0, f1, f2, f3, f4, f5⟩ := hf it (by simp)
    obtain ⟨hs, hgd, hx, es', ep', vs, hdt, hsz, kv, hm⟩ := I.Jgg hd
    obtain ⟨rfl, rfl⟩ := zcP hod hdt
    have hl : kvs.length = vs.length := Paired.length kv
    obtain ⟨ok, ov, he⟩ := st
    rw [hl] at he
    exact wpAny_pyNext_items_end (I.ok.hd hc) he hm (List.getElem?_eq_none (by omega)) fun h' eb => ⟨rfl, I.turned (t' := s.toks) (fun b ob hb e => eb b ob hb e) f0 f1 f3 f4 f5⟩
  self := fun A i s Q E st h => let ⟨_, _, e⟩ := st; PySem.W.kcp_self e h
end
def JhJ (td : TE) : TI := fun σ H R => td σ H fun x H1 => ∃ d o, x = .ref d ∧ ((∃ kvs, H1 d = some (.frz o (.dK kvs)) ∧ R (Itk d o kvs) H1) ∨ ∃ kvs, H1 d = some (.frz o (.dT kvs)) ∧ R (jhJ d o kvs) H1)
def zhK (td : TE) : TI := fun σ H R => td σ H fun x H1 => ∃ d o kvs, x = .ref d ∧ H1 d = some (.frz o (.dK kvs)) ∧ R (Itd d o kvs) H1
def JhC (td : TE) : TI := fun σ H R => td σ H fun x H1 => ∃ d o kvs, x = .ref d ∧ H1 d = some (.frz o (.dK kvs)) ∧ R (Iti d o kvs) H1
section
variable {X : Cx} {tg e : Expr} {td : TE} {apos cpos : Pos}
theorem Zhs (he : PE X e td) : PI X tg e (JhJ td) := by
  intro pins s σ H R I h
  refine thn (he pins s σ H _ I h) fun u s1 ⟨x, H1, I1, rx, d, o, ex, q⟩ => ?_
  subst ex
  obtain rfl : u = Value.ref d := rx
  rcases q with ⟨kvs, hd, q⟩ | ⟨kvs, hd, q⟩
  · obtain ⟨hs, hgd, hx, es, ep, vs, hdt, hsz, kv, hm⟩ := I1.Jgg hd
    refine jf5 hs hgd hx hdt (jgg (tk := s1.toks) I1 _ (yg3 _ hdt) ⟨_, Heap.get?_push_size _ rfl, rfl, ?_⟩ q)
    rw [hsz] <;> rfl
  · obtain ⟨hs, hgd, hx, es, ep, hdt, hsz, ent⟩ := I1.jhC hd
    refine jf5 hs hgd hx hdt (jgg (tk := s1.toks) I1 _ (JgL _ hdt) ⟨_, Heap.get?_push_size _ rfl, rfl, ?_⟩ q)
    rw [hsz] <;> rfl
theorem jg3 (he : PE X e td) (hbase : attributeBase e "values" X.env (eval e X.env) = eval e X.env := by rfl) (hline : (apos.endLine == cpos.line) = true := by rfl) : PI X tg (.Call (.Attribute e "values" apos) [] [] cpos) (zhK td) := by
  intro pins s σ H R I h
  refine wpAny_Call_method (T := "dict") (id := "dict.values") hbase rfl hline F.plainAttrs_dict F.slot_dict_values F.type_dict_values (thn (he pins s σ H _ I h) fun u s1 ⟨x, H1, I1, rx, d, o, kvs, ex, hd, q⟩ => ?_)
  subst ex
  obtain rfl : u = Value.ref d := rx
  obtain ⟨hs, hgd, hx, es, ep, vs, hdt, hsz, kv, hm⟩ := I1.Jgg hd
  have hl : kvs.length = vs.length := Paired.length kv
  refine ⟨hm.dictOf.typeIs, hm.dictOf.mapOf.noDict, ?_⟩
  have I2 : Inv X pins σ H1 { s1 with heap := s1.heap.push { cls := .type "dict_values", data := .fields #[.ref d] } } := I1.kept (t' := s1.toks) fun b ob q => Heap.get?_push_of_some _ q
  have fin : wpAny (model X.prog X.w) X.A (pyIter (.ref s1.heap.objs.size)) (PIE X pins σ tg R) X.xe { s1 with heap := s1.heap.push { cls := .type "dict_values", data := .fields #[.ref d] } } := by
    refine wpAny_pyIter_values (d := d) (knd := jN X.prog X.w) ⟨_, Heap.get?_push_size _ rfl, rfl, rfl⟩ (hm.push _) (jgg (tk := s1.toks) I2 _ (Yg3 _ hdt) ⟨_, Heap.get?_push_size _ rfl, rfl, ?_⟩ q)
    rw [hl] <;> rfl
  show wpAny _ _ (callWith cpos (.builtin "dict.values") [.ref d] [] []) _ X.xe s1
  exact method_meetsIn F.slot_dict_values F.entry_dict_values rfl (PySem.evalArgs_none ⟨rfl, hm.dictOf.typeIs, F.args_dict_values_1 _, _, meets_dict_values (jN X.prog X.w) d hs, ⟨vs, hm.dictOf⟩, fin⟩)
theorem Zhf {elts : List Expr} {kk : Nat} {tpos : Pos} (he : PE X e td) (hbase : attributeBase e "items" X.env (eval e X.env) = eval e X.env := by rfl) (hline : (apos.endLine == cpos.line) = true := by rfl) :
    PI X (.Tuple elts kk tpos) (.Call (.Attribute e "items" apos) [] [] cpos) (JhC td) := by
  intro pins s σ H R I h
  refine wpAny_Call_method (T := "dict") (id := "dict.items") hbase rfl hline F.plainAttrs_dict F.slot_dict_items F.type_dict_items (thn (he pins s σ H _ I h) fun u s1 ⟨x, H1, I1, rx, d, o, kvs, ex, hd, q⟩ => ?_)
  subst ex
  obtain rfl : u = Value.ref d := rx
  obtain ⟨hs, hgd, hx, es, ep, vs, hdt, hsz, kv, hm⟩ := I1.Jgg hd
  have hl : kvs.length = vs.length := Paired.length kv
  refine ⟨hm.dictOf.typeIs, hm.dictOf.mapOf.noDict, ?_⟩
  have I2 : Inv X pins σ H1 { s1 with heap := s1.heap.push { cls := .type "dict_items", data := .fields #[.ref d] } } := I1.kept (t' := s1.toks) fun b ob q => Heap.get?_push_of_some _ q
  have fin : wpAny (model X.prog X.w) X.A (pyIter (.ref s1.heap.objs.size)) (PIE X pins σ (.Tuple elts kk tpos) R) X.xe { s1 with heap := s1.heap.push { cls := .type "dict_items", data := .fields #[.ref d] } } := by
    refine wpAny_pyIter_items (d := d) (knd := jN X.prog X.w) ⟨_, Heap.get?_push_size _ rfl, rfl, rfl⟩ (hm.push _) (jgg (tk := s1.toks) I2 _ (zgM _ hdt) ⟨.none, .none, ?_⟩ q)
    rw [hl]
    exact Heap.get?_push_size _ rfl
  show wpAny _ _ (callWith cpos (.builtin "dict.items") [.ref d] [] []) _ X.xe s1
  exact method_meetsIn F.slot_dict_items F.entry_dict_items rfl (PySem.evalArgs_none ⟨rfl, hm.dictOf.typeIs, F.args_dict_items_1 _, _, meets_dict_items (jN X.prog X.w) d hs, ⟨vs, hm.dictOf⟩, fin⟩)
end
def Ite (K : PySem.W.Frag) (a : Addr) : It :=
  ⟨fun i H => ∃ (xs : List V) (x : V), SqL K H a xs ∧ xs[i]? = some x, fun i H v H' => ∃ T x, v = .ref T ∧ H T = none ∧ H' = upd H T (.tup [.int (i : Nat), x]) ∧ ∀ xs, SqL K H a xs → xs[i]? = some x, fun i H => ∃ xs : List V, SqL K H a xs ∧ xs.length ≤ i⟩
theorem Jg3 {P : Program} {w : World} {K : PySem.W.Frag} {elts : List Expr} {kk : Nat} {tpos : Pos} (a e it : Addr) :
    Turn P w K (.Tuple elts kk tpos) (Ite K a) [e, it] e (fun i h => (∃ old, IsEnum h e it ((i : Nat) : Int) old) ∧ h.IsListIter it a i ∧ e ≠ it) where
  mem := by simp
  obj := fun i h st b hb => by
    obtain ⟨⟨old, he⟩, ⟨o, ho, hc, hd⟩, _⟩ := st
    have e' : b = e ∨ b = it := by simpa using hb
    rcases e' with z | z
    · rw [z]; exact ⟨_, he, fun v q => nomatch q⟩
    · rw [z]; exact ⟨o, ho, fun v q => by rw [hd] at q; cases q⟩
  keep := fun i h h' st k => let ⟨⟨old, he⟩, hi, hne⟩ := st; ⟨⟨old, k e (by simp) _ he⟩, hi.at fun o q => k it (by simp) o q, hne⟩
  item := by
    intro X hP hw hK hc i pins s σ H E I hf st hg
    subst hP hw hK
    obtain ⟨⟨old, he⟩, hit, hne⟩ := st
    obtain ⟨xs, x, hq, hx⟩ := hg
    obtain ⟨its, rv, p, hz⟩ := I.list hq
    obtain ⟨u, hu, ru⟩ := rv.get hx
    have hel : e < s.heap.objs.size := Heap.lt_size he
    have hil : it < s.heap.objs.size := by obtain ⟨_, q, _⟩ := hit; exact Heap.lt_size q
    refine wpAny_pyNext_enum_item he hit p.isList (x := u) (by simpa using hu) hne fun h' ho hit' hT hsz hk => ?_
    refine ⟨_, rfl, wpAny_letOwnedTupleGo_enum (s := { s with heap := h', toks := s.toks + 1 }) ho fun h'' he' sb => ?_⟩
    have hT2 : h''.get? s.heap.objs.size = some { cls := .type "tuple", data := .seq #[.int i s.toks, u] } := (sb.2 _ (Nat.ne_of_gt hel)).trans hT
    have new : zP X.prog X.w (upd H s.heap.objs.size (.tup [.int (i : Nat), x])) h'' s.heap.objs.size (.tup [.int (i : Nat), x]) :=
      ⟨by show 2 ≤ sizeLine; decide, [.int i s.toks, u], .cons ⟨_, rfl⟩ (.cons ru .nil), ⟨_, hT2, rfl, _, rfl⟩⟩
    have I1 : Inv X pins σ (upd H s.heap.objs.size (.tup [.int (i : Nat), x])) { s with heap := h'', toks := s.toks + 1 } :=
      I.Yf5 (ch := [e, it]) (fun b ob hb q => (sb.2 b (fun z => hb (by simp [z]))).trans (hk b ob (fun z => hb (by simp [z])) (fun z => hb (by simp [z])) q)) hf (Nat.le_refl _) new
    refine ⟨.ref s.heap.objs.size, _, I1, rfl, ⟨_, x, rfl, I.hok.fresh (Nat.le_refl _), rfl, fun ys hy => by rw [I.Ygu hy hq]; exact hx⟩, ⟨⟨u, ?_⟩, hit'.at fun o q => (sb.2 it (Ne.symm hne)).trans q, hne⟩, fun b hb => ?_⟩
    · have e1 : ((i + 1 : Nat) : Int) = (i : Int) + 1 := by omega
      rw [e1]; exact he'
    · have hb' : b < s.heap.objs.size := by
        have e' : b = e ∨ b = it := by simpa using hb
        rcases e' with z | z
        · rw [z]; exact hel
        · rw [z]; exact hil
      rw [Zc (Nat.ne_of_lt hb')]
      exact (hf b hb).1
  done := by
    intro X hP hw hK hc i pins s σ H E I hf st hg
    subst hP hw hK
    obtain ⟨⟨old, he⟩, hit, hne⟩ := st
    obtain ⟨xs, hq, hx⟩ := hg
    obtain ⟨its, rv, p, hz⟩ := I.list hq
    obtain ⟨f0, f1, f2, f3, f4, f5⟩ := hf it (by simp)
    have hl := rv.length
    exact wpAny_pyNext_enum_end (I.ok.hd hc) he hit p.isList (by simp; omega) fun h' eb => ⟨rfl, I.turned (t' := s.toks) (fun b o hb q => eb b o hb q) f0 f1 f3 f4 f5⟩
  self := fun A i s Q E st h => let ⟨⟨_, he⟩, _⟩ := st; wpAny_pyIter_enum he h
def ZhK (K : PySem.W.Frag) (ta : TA) : TI := fun σ H R => ta σ H fun vs H1 => ∃ a xs, vs = [.ref a] ∧ SqL K H1 a xs ∧ R (Ite K a) H1
theorem yhs {X : Cx} {e : Expr} {ta : TA} {p pos tpos : Pos} {elts : List Expr} {kk : Nat} (hg : Gl X "enumerate") (hm : X.mg "enumerate" = none) (ha : PA X [e] ta) (hs : starEach [e] X.env = [(false, eval e X.env)] := by rfl) :
    PI X (.Tuple elts kk tpos) (.Call (.Name "enumerate" p) [e] [] pos) (ZhK X.K ta) := by
  intro pins s σ H R I h
  refine Call_ (jge I hg hm boot_enumerate (PyProof.Rows.callWith_type1 (thn (ha pos pins s σ H _ I h) fun us s1 ⟨vs, H1, I1, r1, q1⟩ => ?_) hs rfl))
  obtain ⟨a, xs, ex, hq, q⟩ := q1
  subst ex
  cases r1 with
  | cons r rr =>
    cases rr
    cases r
    obtain ⟨its, rv, p', hz⟩ := I1.list hq
    refine call_enumerate_list p'.isList fun h' he hit hsz hk => wpAny_pyIter_enum he ?_
    have I2 : Inv X pins σ H1 { s1 with heap := h' } := I1.kept (t' := s1.toks) hk
    refine ⟨s1.heap.objs.size + 1, [s1.heap.objs.size + 1, s1.heap.objs.size], _, _, H1, rfl, I2, Jg3 a (s1.heap.objs.size + 1) s1.heap.objs.size, ⟨⟨.none, he⟩, hit, Nat.succ_ne_self _⟩, fun b hb => ?_, q⟩
    have e' : b = s1.heap.objs.size + 1 ∨ b = s1.heap.objs.size := by simpa using hb
    have hle : s1.heap.objs.size ≤ b := by
      rcases e' with z | z
      · rw [z]; exact Nat.le_add_right _ _
      · rw [z]; exact Nat.le_refl _
    exact I1.zhp hle (I1.hok.fresh hle)
end L2
section
namespace Bits
open PySem PyProof.Rows
end Bits
end
section
namespace TL
open PySem PySem.Builtin PySem.Builtin.Str PySem.StrLaws
end TL
end
namespace L2
open PySem PySem.Spec PyProof.Rows
section
variable {X : Cx} {pins : List (Addr × Obj)} {σ : St} {H : Hp} {s : Shared} {Q : VK}
end
section
variable {X : Cx}
end
section
variable {X : Cx} {o e : Expr} {to te : TE}
end
end L2
namespace L2
open PySem PySem.Spec PyProof.Rows
section
variable {X : Cx}
end
end L2
namespace Att
open PySem PySem.W PySem.Calls PyProof.Rows
section
variable {prog : Program} {w : World} {A : Around} {E : Value → Shared → Prop} {s : Shared} {K : Frag}
end
end Att
namespace L2
open PySem PySem.Spec PyProof.Rows
end L2
namespace L2
open PySem PySem.Spec PyProof.Rows
end L2
namespace L2
open PySem PySem.Spec PyProof.Rows
def inClass (s : Stmt) (j : Nat) : Stmt := match s with
  | .ClassDef _ _ _ body _ _ _ _ _ _ _ => body.getD j (.Pass ⟨0, 0, 0, 0⟩)
  | _ => .Pass ⟨0, 0, 0, 0⟩
def Zb (s : Stmt) : Arguments := match s with
  | .FunctionDef _ a _ _ _ _ _ _ _ _ => a
  | _ => { posonlyargs := [], args := [], vararg := none, kwonlyargs := [], kw_defaults := [], kwarg := none, defaults := [] }
def zb (s : Stmt) : List Stmt := match s with
  | .FunctionDef _ _ b _ _ _ _ _ _ _ => b
  | _ => []
def za (s : Stmt) : Scope := match s with
  | .FunctionDef _ _ _ _ _ _ sc _ _ _ => sc
  | _ => { kind := .function, names := [], isGenerator := false, isCoroutine := false }
abbrev CX0 : CXT := fun _ _ _ _ _ _ => False
abbrev E0 : XK := fun _ _ _ => False
theorem Jh {X : Cx} : Yc3 CX0 X E0 := fun _ _ _ _ _ _ _ h => h.elim
structure Fun (K : PySem.W.Frag) (x qual : Str) (st : Stmt) (f : Addr) (fd : FuncData) : Prop where
  ex : ∃ (oc : Value) (od : Option Addr) (kV doc pm : Value) (an : Option Addr) (cdv ct : Value) (osl : Array (Option Value)),
    fd = PySem.W.fnOf x qual (Zb st) (zb st) (za st) .none kV doc pm an cdv ct ∧ K.lookup f = some ⟨oc, od, .func fd, osl⟩ ∧ PySem.W.codeIn K cdv qual = true
  kp : PySem.W.keepIn K (.ref f) = true
section
variable {P : Program} {w : World} {K : PySem.W.Frag} {mg : Str → Option Value} {base : Heap}
theorem Fun.ok {x qual : Str} {st : Stmt} {f : Addr} {fd : FuncData} {N ps : List Str} {k : Nat} {sp : Sp} (F : Fun K x qual st f fd) (S : Ze N ps (za st)) (len : ∀ vs H Q E, sp vs H Q E → vs.length = ps.length)
    (hbody : ∀ (cdv : Value) (A : Around) (outer : List Env) (s : Shared) (H : Hp) (vs : List V) (Q : VK) (E : XK), jby k (A.deeper (envOfC qual (za st) s.heap.objs.size f cdv)) → sp vs H Q E →
      ∃ t, PSs (Yg2 CX0 P w K mg base N qual (za st) f cdv A outer s H E).nox (zb st) t ∧ t { nx := fun _ H' => Q .non H', rt := Q } (start N vs) H) : Zf P w K mg base CX0 (k + 1) f fd ps sp := by
  obtain ⟨oc, od, kV, doc, pm, an, cdv, ct, osl, rfl, lk, hcd⟩ := F.ex
  refine JhG lk hcd S len fun A outer s H vs Q E hr hsp => ?_
  obtain ⟨t, h, q⟩ := hbody cdv A outer s H vs Q E hr hsp
  exact ⟨t, h.nox, q⟩
theorem Fun.binds {x qual : Str} {st : Stmt} {f : Addr} {fd : FuncData} {ps : List Str} (F : Fun K x qual st f fd)
    (h : ∀ (kV doc pm : Value) (an : Option Addr) (cdv ct : Value) (us : List Value), us.length = ps.length → bindArgs (PySem.W.fnOf x qual (Zb st) (zb st) (za st) .none kV doc pm an cdv ct) ⟨us, []⟩ = pure (ps.zip us)) : Binds K fd ps [] := by
  obtain ⟨oc, od, kV, doc, pm, an, cdv, ct, osl, rfl, lk, hcd⟩ := F.ex
  exact .all (h kV doc pm an cdv ct)
theorem zc {x qual : Str} {st : Stmt} {f : Addr} {oc : Value} {od an : Option Addr} {osl : Array (Option Value)} {kV doc pm cdv ct : Value} (l : K.lookup f = some ⟨oc, od, .func (PySem.W.fnOf x qual (Zb st) (zb st) (za st) .none kV doc pm an cdv ct), osl⟩)
    (c : PySem.W.codeIn K cdv qual = true) (k : PySem.W.keepIn K (.ref f) = true) : Fun K x qual st f (PySem.W.fnOf x qual (Zb st) (zb st) (za st) .none kV doc pm an cdv ct) := ⟨⟨oc, od, kV, doc, pm, an, cdv, ct, osl, rfl, l, c⟩, k⟩
end
section
variable {X : Cx}
theorem pv (i : Nat) {x : Str} {pos : Pos} (hN : X.N[i]? = some x := by rfl) (hv : Vis X.env.scope x := by first | exact Or.inl rfl | exact Or.inr (Or.inl rfl) | exact Or.inr (Or.inr rfl)) (hd : (x == ("__debug__" : Str)) = false := by decide)
    (hcd : (x == ("__classdict__" : Str)) = false := by decide) : PE X (.Name x pos) (jha i) := Yhz hN hv hd hcd
end
def ju (H H' : Hp) : Prop := ∀ b o, H b = some o → H' b = some o
theorem ju.refl (H : Hp) : ju H H := fun _ _ h => h
theorem ju.trans {H H1 H2 : Hp} (a : ju H H1) (b : ju H1 H2) : ju H H2 := fun c o h => b c o (a c o h)
theorem ju.free {H H' : Hp} (e : ju H H') {l : Addr} (h : H' l = Option.none) : H l = Option.none := by
  cases q : H l with
  | none => rfl
  | some o =>
    rw [e l o q] at h
    cases h
theorem ju.seq {K : PySem.W.Frag} {H H' : Hp} {a : Addr} {xs : List V} (e : ju H H') (h : SqL K H a xs) : SqL K H' a xs := by
  rcases h with (h | ⟨o, h⟩) | h
  · exact .inl (.inl (e _ _ h))
  · exact .inl (.inr ⟨o, e _ _ h⟩)
  · exact .inr h
section
variable {κ : Type} [DecidableEq κ]
end
end L2
section
set_option Elab.async false
set_option linter.all false
set_option maxRecDepth 100000
set_option maxHeartbeats 2000000
namespace L2
open PySem PySem.Spec PyProof.Rows
open PySem.W (WData Codec OpenSpec Well WellAll ReadsW ReadsAllW)
mutual
inductive Dw (K : PySem.W.Frag) (H : Hp) : V → WData → Prop
  | non : Dw K H .non .none
  | bl (b : Bool) : Dw K H (.bl b) (.bool b)
  | int (i : Int) : Dw K H (.int i) (.int i)
  | str (x : Str) : Dw K H (.str x) (.str x)
  | byt (b : Array UInt8) : Dw K H (.byt b) (.bytes b.toList)
  | lst {a : Addr} {xs : List V} {ds : List WData} : SqL K H a xs → Ydy K H xs ds → Dw K H (.ref a) (.list ds)
  | tup {a : Addr} {xs : List V} {ds : List WData} : SqT K H a xs → Ydy K H xs ds → Dw K H (.ref a) (.tuple ds)
inductive Ydy (K : PySem.W.Frag) (H : Hp) : List V → List WData → Prop
  | nil : Ydy K H [] []
  | cons {v : V} {vs : List V} {d : WData} {ds : List WData} : Dw K H v d → Ydy K H vs ds → Ydy K H (v :: vs) (d :: ds)
end
theorem ygV {K : PySem.W.Frag} {H : Hp} : ∀ ns : List Int, Ydy K H (ns.map V.int) (ns.map WData.int)
  | [] => .nil
  | n :: r => .cons (.int n) (ygV r)
theorem YgV {K : PySem.W.Frag} {H : Hp} : ∀ (ns : List Int) (xs : List V), Ydy K H xs (ns.map WData.int) → xs = ns.map V.int
  | [], xs, h => by
    cases h
    rfl
  | n :: r, xs, h => by
    cases h with
    | cons h1 h2 =>
      cases h1
      rw [YgV r _ h2] <;> rfl
section
variable {P : Program} {w : World} {K : PySem.W.Frag} {H : Hp} {h : Heap} {R : PySem.W.WRecords} {cl : Str → Option Addr}
theorem zhD {a : Addr} {xs : List V} (hok : HOk P w H h) (KX : K.In h) (q : SqL K H a xs) : ∃ (its : List Value) (o : Obj) (n : Nat), Vals xs its ∧ h.get? a = some o ∧ o.cls = .type "list" ∧ o.data = .seq its.toArray n := by
  rcases q with q | ⟨o, its, n, e, hc, _, hd, _, hv⟩
  · obtain ⟨_, its, n, hv, e⟩ := (show zP P w H h a (.lst xs) from q.ok hok)
    exact ⟨its, _, n, hv, e, rfl, rfl⟩
  · exact ⟨its.toList, o, n, hv, KX _ _ e, hc, by simp [hd]⟩
theorem ZhD {a : Addr} {xs : List V} (hok : HOk P w H h) (KX : K.In h) (q : SqT K H a xs) : ∃ (its : List Value) (o : Obj) (n : Nat), Vals xs its ∧ h.get? a = some o ∧ o.cls = .type "tuple" ∧ o.data = .seq its.toArray n := by
  rcases q with q | ⟨o, its, n, e, hc, hd, _, hv⟩
  · obtain ⟨_, its, hv, o, e, hc, n, hd⟩ := (show zP P w H h a (.tup xs) from q.ok hok)
    exact ⟨its, o, n, hv, e, hc, hd⟩
  · exact ⟨its.toList, o, n, hv, KX _ _ e, hc, by simp [hd]⟩
mutual
theorem Dw.reads (hok : HOk P w H h) (KX : K.In h) : ∀ (d : WData) (v : V) (u : Value), Dw K H v d → RelV v u → ∃ as, ReadsW R cl h u d as
  | .none, _, _, x, r => by
    cases x
    cases r
    exact ⟨_, ReadsW.none⟩
  | .bool b, _, _, x, r => by
    cases x
    cases r
    exact ⟨_, ReadsW.bool b⟩
  | .int i, _, _, x, r => by
    cases x
    obtain ⟨t, rfl⟩ := r
    exact ⟨_, ReadsW.int i t⟩
  | .str s, _, _, x, r => by
    cases x
    obtain ⟨t, rfl⟩ := r
    exact ⟨_, ReadsW.str s t⟩
  | .bytes b, _, _, x, r => by
    cases x
    obtain ⟨t, rfl⟩ := r
    exact ⟨_, ReadsW.bytes _ t⟩
  | .list ds, _, _, x, r => by
    cases x with
    | lst hs ha =>
      cases r
      obtain ⟨its, o, n, rv, ho, hc, hd⟩ := zhD hok KX hs
      obtain ⟨as, hr⟩ := Dw.readsAll hok KX ds _ its ha rv
      exact ⟨_, ReadsW.list ho hc hd hr⟩
  | .tuple ds, _, _, x, r => by
    cases x with
    | tup hs ha =>
      cases r
      obtain ⟨its, o, n, rv, ho, hc, hd⟩ := ZhD hok KX hs
      obtain ⟨as, hr⟩ := Dw.readsAll hok KX ds _ its ha rv
      exact ⟨_, ReadsW.tuple ho hc hd hr⟩
  | .float _, _, _, x, _ => by cases x
  | .dict _, _, _, x, _ => by cases x
  | .bytearray _, _, _, x, _ => by cases x
  | .set _, _, _, x, _ => by cases x
  | .frozenset _, _, _, x, _ => by cases x
  | .obj _ _, _, _, x, _ => by cases x
theorem Dw.readsAll (hok : HOk P w H h) (KX : K.In h) : ∀ (ds : List WData) (vs : List V) (us : List Value), Ydy K H vs ds → Vals vs us → ∃ as, ReadsAllW R cl h us ds as
  | [], _, _, x, r => by
    cases x
    cases r
    exact ⟨_, ReadsAllW.nil⟩
  | d :: ds, _, _, x, r => by
    cases x with
    | cons h1 h2 =>
      cases r with
      | cons r1 r2 =>
        obtain ⟨as, q1⟩ := Dw.reads hok KX d _ _ h1 r1
        obtain ⟨bs, q2⟩ := Dw.readsAll hok KX ds _ _ h2 r2
        exact ⟨_, ReadsAllW.cons q1 q2⟩
end
end
mutual
def plW : WData → Bool
  | .none => true
  | .bool _ => true
  | .int _ => true
  | .str _ => true
  | .bytes _ => true
  | .list xs => Zfp xs
  | .tuple xs => Zfp xs
  | _ => false
def Zfp : List WData → Bool
  | [] => true
  | x :: r => plW x && Zfp r
end
theorem Ygw {α : Type} {f : α → WData} (h : ∀ a, plW (f a) = true) : ∀ l : List α, Zfp (l.map f) = true
  | [] => rfl
  | x :: r => by
    show (plW (f x) && Zfp (r.map f)) = true
    rw [h x, Ygw h r] <;> rfl
theorem ydP : ∀ (c : Codec) (a : c.denote), plW (c.enc a) = true
  | .unit, _ => rfl
  | .bool, _ => rfl
  | .int _ _, _ => rfl
  | .nat _ _, _ => rfl
  | .u8, _ => rfl
  | .bytes _ _, _ => rfl
  | .text _ _ _ _, _ => rfl
  | .list _ _ c, a => Ygw (fun x => ydP c x) a
  | .pair c d, a => by
    show (plW (c.enc a.1) && (plW (d.enc a.2) && true)) = true
    rw [ydP c a.1, ydP d a.2] <;> rfl
  | .triple c d e, a => by
    show (plW (c.enc a.1) && (plW (d.enc a.2.1) && (plW (e.enc a.2.2) && true))) = true
    rw [ydP c a.1, ydP d a.2.1, ydP e a.2.2] <;> rfl
  | .option c, none => rfl
  | .option c, some x => ydP c x
theorem Jf5 : ∀ (cs : List Codec) (a : Codec.denoteAll cs), Zfp (Codec.encAll cs a) = true
  | [], _ => rfl
  | c :: cs, a => by
    show (plW (c.enc a.1) && Zfp (Codec.encAll cs a.2)) = true
    rw [ydP c a.1, Jf5 cs a.2] <;> rfl
theorem Yez : ∀ {xs : List WData} {d : WData}, d ∈ xs → d.weight ≤ WData.weightAll xs
  | [], d, h => absurd h (by simp)
  | x :: r, d, h => by
    show d.weight ≤ x.weight + 1 + WData.weightAll r
    rcases List.mem_cons.mp h with e | m
    · rw [e]
      omega
    · have z := Yez m
      omega
def toV : Value → V
  | .none => .non
  | .bool b => .bl b
  | .int i _ => .int i
  | .str x _ => .str x
  | .bytes b _ => .byt b
  | .ref a => .ref a
  | _ => .non
def OkU (A : List Addr) : Value → Prop
  | .none => True
  | .bool _ => True
  | .int _ _ => True
  | .str _ _ => True
  | .bytes _ _ => True
  | .ref a => a ∈ A
  | _ => False
theorem OkU.mono {A B : List Addr} (h : ∀ a ∈ A, a ∈ B) : ∀ {u : Value}, OkU A u → OkU B u := fun {u} x => by
  cases u with
  | ref a => exact h a x
  | none => trivial
  | bool b => trivial
  | int i t => trivial
  | str s t => trivial
  | bytes b t => trivial
  | _ => exact False.elim x
theorem yhf {A : List Addr} {u : Value} (x : OkU A u) : RelV (toV u) u := by
  cases u with
  | ref a => rfl
  | none => rfl
  | bool b => rfl
  | int i t => exact ⟨t, rfl⟩
  | str s t => exact ⟨t, rfl⟩
  | bytes b t => exact ⟨t, rfl⟩
  | _ => exact False.elim x
theorem Zdb {A : List Addr} : ∀ {vs : List Value}, (∀ u ∈ vs, OkU A u) → Vals (vs.map toV) vs
  | [], _ => .nil
  | u :: r, h => .cons (yhf (h u (List.mem_cons_self ..))) (Zdb fun x hx => h x (List.mem_cons_of_mem _ hx))
def jdy (h : Heap) (A : List Addr) (a : Addr) : Prop := ∃ vs : List Value, vs.length ≤ sizeLine ∧ (∀ u ∈ vs, OkU A u) ∧
  (h.get? a = some { cls := .type "list", data := .seq vs.toArray } ∨ h.get? a = some { cls := .type "tuple", data := .seq vs.toArray })
theorem jdy.mono {h : Heap} {A B : List Addr} {a : Addr} (k : ∀ a ∈ A, a ∈ B) (x : jdy h A a) : jdy h B a := by
  obtain ⟨vs, h1, h2, h3⟩ := x
  exact ⟨vs, h1, fun u hu => (h2 u hu).mono k, h3⟩
theorem ZcP {P : Params} {h : Heap} : ∀ {vs : List Value} {ds : List WData}, WellAll P h vs ds → vs.length = ds.length
  | _, _, .nil => rfl
  | _, _, .cons _ b => by
    show _ + 1 = _ + 1
    rw [ZcP b]
theorem zf6 {P : Params} {h : Heap} {v : Value} {ds : List WData} (x : Well P h v (.list ds)) : ∃ (a : Addr) (vs : List Value), v = .ref a ∧ h.get? a = some { cls := .type "list", data := .seq vs.toArray } ∧ WellAll P h vs ds := by
  cases x with
  | list ho hall => exact ⟨_, _, rfl, ho, hall⟩
theorem zfC {P : Params} {h : Heap} {v : Value} {ds : List WData} (x : Well P h v (.tuple ds)) : ∃ (a : Addr) (vs : List Value), v = .ref a ∧ h.get? a = some { cls := .type "tuple", data := .seq vs.toArray } ∧ WellAll P h vs ds := by
  cases x with
  | tuple ho hall => exact ⟨_, _, rfl, ho, hall⟩
theorem Zf6 {P : Params} {h : Heap} {us : List Value} {d : WData} {ds : List WData} (x : WellAll P h us (d :: ds)) : ∃ (v : Value) (vs : List Value), us = v :: vs ∧ Well P h v d ∧ WellAll P h vs ds := by
  cases x with
  | cons a b => exact ⟨_, _, rfl, a, b⟩
theorem jgV {n : Nat} (h : n ≤ 1048576) : n ≤ sizeLine := Nat.le_trans h (by decide)
section
variable {P : Params} {h : Heap}
mutual
theorem Yhf : ∀ (d : WData) (v : Value), Well P h v d → plW d = true → d.weight ≤ 1048576 → ∃ A : List Addr, OkU A v ∧ ∀ a ∈ A, jdy h A a
  | .none, _, x, _, _ => by
    cases x
    exact ⟨[], trivial, fun a m => absurd m (by simp)⟩
  | .bool b, _, x, _, _ => by
    cases x
    exact ⟨[], trivial, fun a m => absurd m (by simp)⟩
  | .int i, _, x, _, _ => by
    cases x
    exact ⟨[], trivial, fun a m => absurd m (by simp)⟩
  | .str s, _, x, _, _ => by
    cases x
    exact ⟨[], trivial, fun a m => absurd m (by simp)⟩
  | .bytes b, _, x, _, _ => by
    cases x
    exact ⟨[], trivial, fun a m => absurd m (by simp)⟩
  | .list ds, _, x, p, z => by
    obtain ⟨a, vs, rfl, ho, hall⟩ := zf6 x
    have z2 : WData.weightAll ds ≤ 1048576 := z
    obtain ⟨A, h1, h2⟩ := zeJ ds _ hall p fun d hd => Nat.le_trans (Yez hd) z2
    have k : ∀ b ∈ A, b ∈ a :: A := fun b hb => List.mem_cons_of_mem _ hb
    refine ⟨a :: A, List.mem_cons_self .., fun b hb => ?_⟩
    rcases List.mem_cons.mp hb with e | m
    · rw [e]
      exact ⟨vs, jgV (by rw [ZcP hall]; exact Nat.le_trans (PySem.W.length_le_weightAllW ds) z2), fun u hu => (h1 u hu).mono k, .inl ho⟩
    · exact (h2 b m).mono k
  | .tuple ds, _, x, p, z => by
    obtain ⟨a, vs, rfl, ho, hall⟩ := zfC x
    have z2 : WData.weightAll ds ≤ 1048576 := z
    obtain ⟨A, h1, h2⟩ := zeJ ds _ hall p fun d hd => Nat.le_trans (Yez hd) z2
    have k : ∀ b ∈ A, b ∈ a :: A := fun b hb => List.mem_cons_of_mem _ hb
    refine ⟨a :: A, List.mem_cons_self .., fun b hb => ?_⟩
    rcases List.mem_cons.mp hb with e | m
    · rw [e]
      exact ⟨vs, jgV (by rw [ZcP hall]; exact Nat.le_trans (PySem.W.length_le_weightAllW ds) z2), fun u hu => (h1 u hu).mono k, .inr ho⟩
    · exact (h2 b m).mono k
  | .float _, _, _, p, _ => Bool.noConfusion (show false = true from p)
  | .dict _, _, _, p, _ => Bool.noConfusion (show false = true from p)
  | .bytearray _, _, _, p, _ => Bool.noConfusion (show false = true from p)
  | .set _, _, _, p, _ => Bool.noConfusion (show false = true from p)
  | .frozenset _, _, _, p, _ => Bool.noConfusion (show false = true from p)
  | .obj _ _, _, _, p, _ => Bool.noConfusion (show false = true from p)
theorem zeJ : ∀ (ds : List WData) (vs : List Value), WellAll P h vs ds → Zfp ds = true → (∀ d ∈ ds, d.weight ≤ 1048576) → ∃ A : List Addr, (∀ u ∈ vs, OkU A u) ∧ ∀ a ∈ A, jdy h A a
  | [], _, x, _, _ => by
    cases x
    exact ⟨[], fun u m => absurd m (by simp), fun a m => absurd m (by simp)⟩
  | d :: ds, _, x, p, z => by
    obtain ⟨v, vs, rfl, x1, x2⟩ := Zf6 x
    have q : plW d = true ∧ Zfp ds = true := Bool.and_eq_true_iff.mp p
    obtain ⟨A, a1, a2⟩ := Yhf d v x1 q.1 (z d (List.mem_cons_self ..))
    obtain ⟨B, b1, b2⟩ := zeJ ds vs x2 q.2 fun e he => z e (List.mem_cons_of_mem _ he)
    have kA : ∀ b ∈ A, b ∈ A ++ B := fun b hb => List.mem_append.mpr (.inl hb)
    have kB : ∀ b ∈ B, b ∈ A ++ B := fun b hb => List.mem_append.mpr (.inr hb)
    refine ⟨A ++ B, fun u hu => ?_, fun b hb => ?_⟩
    · rcases List.mem_cons.mp hu with e | m
      · rw [e]
        exact a1.mono kA
      · exact (b1 u m).mono kB
    · rcases List.mem_append.mp hb with m | m
      · exact (a2 b m).mono kA
      · exact (b2 b m).mono kB
end
end
def Yhs (o : Obj) : Option HO := match o.data with
  | .seq vs _ => if (o.cls == Value.type "list") = true then some (.frz o (.lst (vs.toList.map toV))) else some (.frz o (.tup (vs.toList.map toV)))
  | _ => none
def ydo (K : PySem.W.Frag) (h : Heap) (A : List Addr) : Hp := fun b => if b ∈ A then (if (K.lookup b).isNone = true then (h.get? b).bind Yhs else none) else none
def jgw (H : Hp) : Prop := ∀ b, H b = none ∨ ∃ o u, H b = some (.frz o u)
theorem Jgw (vs : List Value) : Yhs { cls := .type "list", data := .seq vs.toArray } = some (.frz { cls := .type "list", data := .seq vs.toArray } (.lst (vs.map toV))) := by
  show (if (Value.type "list" == Value.type "list") = true then some (HO.frz { cls := .type "list", data := .seq vs.toArray } (.lst (vs.toArray.toList.map toV))) else some (HO.frz { cls := .type "list", data := .seq vs.toArray } (.tup (vs.toArray.toList.map toV)))) = _
  rw [if_pos (beq_self_eq_true _)]
theorem zgx (vs : List Value) : Yhs { cls := .type "tuple", data := .seq vs.toArray } = some (.frz { cls := .type "tuple", data := .seq vs.toArray } (.tup (vs.map toV))) := by
  show (if (Value.type "tuple" == Value.type "list") = true then some (HO.frz { cls := .type "tuple", data := .seq vs.toArray } (.lst (vs.toArray.toList.map toV))) else some (HO.frz { cls := .type "tuple", data := .seq vs.toArray } (.tup (vs.toArray.toList.map toV)))) = _
  rw [if_neg (by decide)]
section
variable {P : Program} {w : World} {K : PySem.W.Frag} {h : Heap} {A : List Addr}
theorem zfy {b : Addr} {o : Obj} (hb : b ∈ A) (hk : K.lookup b = none) (e : h.get? b = some o) : ydo K h A b = Yhs o := by
  unfold ydo
  rw [if_pos hb, hk, if_pos (show (none : Option Obj).isNone = true from rfl), e] <;> rfl
theorem jhs {b : Addr} {u : HO} (q : ydo K h A b = some u) : b ∈ A ∧ K.lookup b = none := by
  unfold ydo at q
  by_cases hb : b ∈ A
  · rw [if_pos hb] at q
    cases hk : K.lookup b with
    | none => exact ⟨hb, rfl⟩
    | some o =>
      rw [hk, if_neg (by simp)] at q
      cases q
  · rw [if_neg hb] at q
    cases q
theorem Zfy (ar : ∀ a ∈ A, jdy h A a) {b : Addr} {u : HO} (q : ydo K h A b = some u) : K.lookup b = none ∧ ∃ vs : List Value, vs.length ≤ sizeLine ∧ (∀ u ∈ vs, OkU A u) ∧
    ((h.get? b = some { cls := .type "list", data := .seq vs.toArray } ∧ u = .frz { cls := .type "list", data := .seq vs.toArray } (.lst (vs.map toV))) ∨
     (h.get? b = some { cls := .type "tuple", data := .seq vs.toArray } ∧ u = .frz { cls := .type "tuple", data := .seq vs.toArray } (.tup (vs.map toV)))) := by
  obtain ⟨hb, hk⟩ := jhs q
  obtain ⟨vs, h1, h2, h3⟩ := ar b hb
  refine ⟨hk, vs, h1, h2, ?_⟩
  rcases h3 with e | e
  · rw [zfy hb hk e, Jgw] at q
    exact .inl ⟨e, (Option.some.inj q).symm⟩
  · rw [zfy hb hk e, zgx] at q
    exact .inr ⟨e, (Option.some.inj q).symm⟩
theorem zg4 (ar : ∀ a ∈ A, jdy h A a) : jgw (ydo K h A) := fun b => by
  cases q : ydo K h A b with
  | none => exact .inl rfl
  | some u =>
    obtain ⟨_, vs, _, _, ⟨_, e⟩ | ⟨_, e⟩⟩ := Zfy ar q
    · exact .inr ⟨_, _, by rw [e]⟩
    · exact .inr ⟨_, _, by rw [e]⟩
theorem Jhs (ar : ∀ a ∈ A, jdy h A a) : HOk P w (ydo K h A) h := fun b u q => by
  obtain ⟨_, vs, h1, h2, ⟨e, rfl⟩ | ⟨e, rfl⟩⟩ := Zfy ar q
  · exact ⟨e, by rw [List.length_map]; exact h1, vs, _, Zdb h2, e⟩
  · exact ⟨e, by rw [List.length_map]; exact h1, vs, Zdb h2, _, e, rfl, _, rfl⟩
theorem yfy {c c' : Value} {vs us : List Value} (e : (some { cls := c, data := .seq vs.toArray } : Option Obj) = some { cls := c', data := .seq us.toArray }) : c = c' ∧ vs = us := by
  have e1 := Option.some.inj e
  have e2 : c = c' := congrArg Obj.cls e1
  have e3 : Data.seq vs.toArray = Data.seq us.toArray := congrArg Obj.data e1
  injection e3 with e4
  refine ⟨e2, ?_⟩
  have e5 := congrArg Array.toList e4
  simpa using e5
theorem jhO (KX : K.In h) (ar : ∀ a ∈ A, jdy h A a) {a : Addr} {vs : List Value} (ha : a ∈ A) (e : h.get? a = some { cls := .type "list", data := .seq vs.toArray }) : (∀ u ∈ vs, OkU A u) ∧ SqL K (ydo K h A) a (vs.map toV) := by
  obtain ⟨us, h1, h2, h3⟩ := ar a ha
  have hu : us = vs := by
    rcases h3 with q | q
    · rw [e] at q
      exact (yfy q).2.symm
    · rw [e] at q
      exact absurd (Value.type.inj (yfy q).1) (by decide)
  subst hu
  refine ⟨h2, ?_⟩
  cases hk : K.lookup a with
  | none => exact .inl (.inr ⟨_, by rw [zfy ha hk e, Jgw]⟩)
  | some o =>
    have e2 := KX a o hk
    rw [e] at e2
    obtain rfl := Option.some.inj e2
    exact .inr ⟨_, us.toArray, _, hk, rfl, rfl, rfl, by rw [List.size_toArray]; exact h1, by simpa using Zdb h2⟩
theorem JhO (KX : K.In h) (ar : ∀ a ∈ A, jdy h A a) {a : Addr} {vs : List Value} (ha : a ∈ A) (e : h.get? a = some { cls := .type "tuple", data := .seq vs.toArray }) : (∀ u ∈ vs, OkU A u) ∧ SqT K (ydo K h A) a (vs.map toV) := by
  obtain ⟨us, h1, h2, h3⟩ := ar a ha
  have hu : us = vs := by
    rcases h3 with q | q
    · rw [e] at q
      exact absurd (Value.type.inj (yfy q).1) (by decide)
    · rw [e] at q
      exact (yfy q).2.symm
  subst hu
  refine ⟨h2, ?_⟩
  cases hk : K.lookup a with
  | none => exact .inl (.inr ⟨_, by rw [zfy ha hk e, zgx]⟩)
  | some o =>
    have e2 := KX a o hk
    rw [e] at e2
    obtain rfl := Option.some.inj e2
    exact .inr ⟨_, us.toArray, _, hk, rfl, rfl, by rw [List.size_toArray]; exact h1, by simpa using Zdb h2⟩
mutual
theorem yhD {Pm : Params} (KX : K.In h) (ar : ∀ a ∈ A, jdy h A a) : ∀ (d : WData) (v : Value), Well Pm h v d → plW d = true → OkU A v → Dw K (ydo K h A) (toV v) d
  | .none, _, x, _, _ => by
    cases x
    exact .non
  | .bool b, _, x, _, _ => by
    cases x
    exact .bl b
  | .int i, _, x, _, _ => by
    cases x
    exact .int i
  | .str s, _, x, _, _ => by
    cases x
    exact .str s
  | .bytes b, _, x, _, _ => by
    cases x
    have z := Dw.byt (K := K) (H := ydo K h A) b.toArray
    exact z
  | .list ds, _, x, p, hu => by
    obtain ⟨a, vs, rfl, ho, hall⟩ := zf6 x
    obtain ⟨h2, hs⟩ := jhO KX ar hu ho
    exact .lst hs (zgh KX ar ds _ hall p h2)
  | .tuple ds, _, x, p, hu => by
    obtain ⟨a, vs, rfl, ho, hall⟩ := zfC x
    obtain ⟨h2, hs⟩ := JhO KX ar hu ho
    exact .tup hs (zgh KX ar ds _ hall p h2)
  | .float _, _, _, p, _ => Bool.noConfusion (show false = true from p)
  | .dict _, _, _, p, _ => Bool.noConfusion (show false = true from p)
  | .bytearray _, _, _, p, _ => Bool.noConfusion (show false = true from p)
  | .set _, _, _, p, _ => Bool.noConfusion (show false = true from p)
  | .frozenset _, _, _, p, _ => Bool.noConfusion (show false = true from p)
  | .obj _ _, _, _, p, _ => Bool.noConfusion (show false = true from p)
theorem zgh {Pm : Params} (KX : K.In h) (ar : ∀ a ∈ A, jdy h A a) : ∀ (ds : List WData) (vs : List Value), WellAll Pm h vs ds → Zfp ds = true → (∀ u ∈ vs, OkU A u) → Ydy K (ydo K h A) (vs.map toV) ds
  | [], _, x, _, _ => by
    cases x
    exact .nil
  | d :: ds, _, x, p, hu => by
    obtain ⟨v, vs, rfl, x1, x2⟩ := Zf6 x
    have q : plW d = true ∧ Zfp ds = true := Bool.and_eq_true_iff.mp p
    exact .cons (yhD KX ar d v x1 q.1 (hu _ (List.mem_cons_self ..))) (zgh KX ar ds vs x2 q.2 fun u m => hu u (List.mem_cons_of_mem _ m))
end
end
theorem Zg4 {P : Program} {w : World} {K : PySem.W.Frag} {mg mb : Str → Option Value} {CX : CXT} {k : Nat} {fa : Addr} {fd : FuncData} {ps : List Str} {sp : Sp} {s₁ : Shared} {vals : List Value} {ds : List WData} {R : PySem.W.WRecords} {cl : Str → Option Addr} {d0 : WData}
    (KX : K.In s₁.heap) (hns : s₁.heap.Ns mainGlobals mg) (hb : s₁.heap.Ns builtinsNs mb) (hbb : ∀ x : Str, x ≠ "__name__" → mb x = bootBuiltins x) (hlim : s₁.heap.NoLimit) (hg : s₁.gens = #[])
    (hwl : WellAll w.params s₁.heap vals ds) (hpl : Zfp ds = true) (hwt : ∀ d ∈ ds, d.weight ≤ 1048576) (hr : jby k callerA)
    (F : ∀ base : Heap, K.In base → base.Ns mainGlobals mg → Zf P w K mg base CX k fa fd ps sp) (hbind : ∀ (s : Shared) (us : List Value), us.length = ps.length → BindsTo s fd ⟨us, []⟩ (ps.zip us)) (hlen : ds.length = ps.length)
    (hsp : ∀ (H : Hp) (xs : List V), jgw H → Ydy K H xs ds → sp xs H (fun v H' => Dw K H' v d0) fun _ _ _ => False)
    (hCX : ∀ H e s', CX [] H s₁ (fun _ _ _ => False) e s' → False) :
    codeAny (model P w) callerA (.call (.ref fa) ⟨vals, []⟩) (fun r s' => ∃ u as, r = .ok (.ret u) ∧ ReadsW R cl s'.heap u d0 as ∧ OldK s₁.heap s'.heap ∧ s'.os = s₁.os ∧ AllBare s'.gens) s₁ := by
  obtain ⟨A, ho, ar⟩ := zeJ ds vals hwl hpl hwt
  have hO : jgw (ydo K s₁.heap A) := zg4 ar
  have hok : HOk P w (ydo K s₁.heap A) s₁.heap := Jhs ar
  have hS := zgh KX ar ds vals hwl hpl ho
  have hV := Zdb ho
  have hK : ∀ b u, ydo K s₁.heap A b = some u → K.lookup b = none := fun b u q => (Zfy ar q).1
  have noA : ∀ {b : Addr} {o : Obj} {es : Array DictEntry} {ep : Nat}, s₁.heap.get? b = some o → o.data = .dict es ep → ydo K s₁.heap A b = none := fun {b o es ep} e d => by
    cases q : ydo K s₁.heap A b with
    | none => rfl
    | some u =>
      obtain ⟨_, vs, _, _, ⟨e2, _⟩ | ⟨e2, _⟩⟩ := Zfy ar q
      · rw [e2] at e
        cases e
        have d' : Data.seq vs.toArray _ = Data.dict es ep := d
        cases d'
      · rw [e2] at e
        cases e
        have d' : Data.seq vs.toArray _ = Data.dict es ep := d
        cases d'
  generalize ydo K s₁.heap A = H at hO hok hS hK noA
  have base_of : ∀ {b : Addr} {o : Obj}, s₁.heap.get? b = some o → H b = none → (Yge s₁.heap H).get? b = some o := fun e n => Yha e n
  have nsK : ∀ {b : Addr} {m : Str → Option Value}, s₁.heap.Ns b m → (Yge s₁.heap H).Ns b m := fun {b m} ⟨o, es, ep, e, d, r⟩ => ⟨o, es, ep, base_of e (noA e d), d, r⟩
  have nK : ∀ b o, K.lookup b = some o → H b = none := fun b o e => by
    cases q : H b with
    | none => rfl
    | some u =>
      rw [hK b u q] at e
      cases e
  have hKb : K.In (Yge s₁.heap H) := fun b o e => base_of (KX b o e) (nK b o e)
  have hM : Mod K mg (Yge s₁.heap H) := ⟨hKb, nsK hns, ⟨mb, nsK hb, hbb⟩, let ⟨mc, h1, h2⟩ := hlim; ⟨mc, nsK h1, h2⟩⟩
  have e0 : ZgL P w K mg (Yge s₁.heap H) callerA [] s₁ H := ⟨rfl, hM, fun b o e => Jho e, Nat.le_of_eq (Yg1 _ _), trivial, fun b hb => absurd (show b ∈ ([] : List Addr) from hb) (by simp), hok, .of_eq hg⟩
  have hl : vals.length = ps.length := by rw [ZcP hwl]; exact hlen
  refine codeAny_mono ((F _ hKb (nsK hns)).run callerA [] s₁ H ⟨vals, []⟩ vals (vals.map toV) _ _ hr e0 (hbind s₁ vals hl) hV (hsp H _ hO hS)) fun r s' x => ?_
  cases r with
  | error e => exact (hCX H e s' x).elim
  | ok fl =>
    cases fl with
    | next => exact False.elim x
    | brk => exact False.elim x
    | cont => exact False.elim x
    | ret u =>
      obtain ⟨v, H', os, bare, un, hok', r', q⟩ := x
      have kept : ∀ b o, s₁.heap.get? b = some o → s'.heap.get? b = some o := fun b o e => by
        cases q2 : H b with
        | none => exact un.keep b o e q2 (by intro z; exact absurd (show b ∈ ([] : List Addr) from z) (by simp)) (by simp)
        | some u2 =>
          rcases hO b with z | ⟨ob, u3, z⟩
          · rw [q2] at z
            cases z
          · have z2 := un.frzs b ob _ z
            obtain ⟨e1, _⟩ := hok b _ z
            obtain ⟨e2, _⟩ := hok' b _ z2
            rw [e] at e1
            cases e1
            exact e2
      have KX' : K.In s'.heap := fun b o e => kept b o (KX b o e)
      obtain ⟨as, hrd⟩ := Dw.reads (R := R) (cl := cl) hok' KX' d0 v u q r'
      exact ⟨u, as, rfl, hrd, OldK.of_keep kept, os, bare⟩
theorem ZfC {ds : List WData} (h : WData.layableAll ds = true) : ∀ d ∈ ds, d.weight ≤ 1048576 := fun d hd =>
  (PySem.W.layableW_iff.mp (List.all_eq_true.mp h d hd)).2.2
theorem yfC : ∀ (cs : List Codec) (a : Codec.denoteAll cs), (Codec.encAll cs a).length = cs.length
  | [], _ => rfl
  | c :: cs, a => by
    show (Codec.encAll cs a.2).length + 1 = cs.length + 1
    rw [yfC cs a.2]
theorem yg4 {r : OpenSpec} {k : Nat} {q : Program} {loose : List Str} {XP : (Str → Option Value) → Heap → Prop} {YP : World → Heap → Prop} {d : DefRec} {K : Params → PySem.W.Frag} {CX : World → CXT} {ps : List Str} {sp : World → Sp}
    (hwell : r.wellSaid = true) (hdf : d.params.defaults = []) (hlen : r.args.length = ps.length) (hr : jby k callerA)
    (hY : ∀ (w : World) (h : Heap), YP w h → (K w.params).In h)
    (F : ∀ (w : World) (mg : Str → Option Value) (fa : Addr) (h : Heap), YP w h → (K w.params).In h → h.Ns mainGlobals mg → mg d.name = some (.ref fa) →
      ∃ fd : FuncData, (∀ (s : Shared) (us : List Value), us.length = ps.length → BindsTo s fd ⟨us, []⟩ (ps.zip us)) ∧
        ∀ base : Heap, (K w.params).In base → base.Ns mainGlobals mg → Zf r.prog w (K w.params) mg base (CX w) k fa fd ps (sp w))
    (hsp : ∀ (w : World) (H : Hp) (xs : List V) (a : Codec.denoteAll r.args), jgw H → Codec.withinAll r.args a = true → Codec.app r.args r.asked a = true → Ydy (K w.params) H xs (Codec.encAll r.args a) →
      sp w xs H (fun v H' => Dw (K w.params) H' v (r.ret.enc (Codec.app r.args r.f a))) fun _ _ _ => False)
    (hCX : ∀ (w : World) (H : Hp) (s : Shared) (e : Value) (s' : Shared), CX w [] H s (fun _ _ _ => False) e s' → False) :
    PySem.W.WalkOS q loose XP YP r d [] (fun f vs => PySem.call f vs) := by
  intro w s_0 s₁ mg mb G Y fa o pm cd doc dV kV ho hd hcd hD hmg hg args vals as hpre hlay hrd hwl hlo
  obtain ⟨a, e1, e2⟩ := PySem.W.os_pre_some hpre
  obtain ⟨e3, hwi⟩ := Codec.encAll_of_decAll r.args args a e1
  subst e3
  have KX := hY w _ Y
  obtain ⟨fd, hb, hF⟩ := F w mg fa _ Y KX G.T.g hmg
  refine PySem.W.enter_call (codeAny_mono (Zg4 (R := []) (cl := classAt s_0.heap) (d0 := r.ret.enc (Codec.app r.args r.f a)) KX G.T.g G.T.b G.T.builtins G.T.nolimit hg hwl (Jf5 _ _) (ZfC hlay) hr hF hb (by rw [yfC]; exact hlen)
    (fun H xs hO hS => hsp w H xs a hO hwi e2 hS) fun H e s' => hCX w H s₁ e s') fun r' s' hq => ?_)
  obtain ⟨u, as', rfl, h1, h2, h3, h4⟩ := hq
  exact ⟨.inl ⟨u, _, as', rfl, fun _ => rfl, h1, (OpenSpec.post_iff hwell hwi _ _).mpr rfl, fun z => Bool.noConfusion (show false = true from z)⟩, h2, h3, h4⟩
theorem ZgM {r : OpenSpec} {k : Nat} {q : Program} {loose : List Str} {XP : (Str → Option Value) → Heap → Prop} {YP : World → Heap → Prop} {d : DefRec} {K : Params → PySem.W.Frag} {CX : CXT} {ps : List Str} {sp : PySem.W.Frag → Sp}
    (hwell : r.wellSaid = true) (hdf : d.params.defaults = []) (hlen : r.args.length = ps.length) (hr : jby k callerA)
    (hY : ∀ (w : World) (h : Heap), YP w h → (K w.params).In h)
    (F : ∀ (w : World) (mg : Str → Option Value) (fa : Addr) (h : Heap), YP w h → (K w.params).In h → h.Ns mainGlobals mg → mg d.name = some (.ref fa) →
      ∃ fd : FuncData, (∀ (s : Shared) (us : List Value), us.length = ps.length → BindsTo s fd ⟨us, []⟩ (ps.zip us)) ∧
        ∀ base : Heap, (K w.params).In base → base.Ns mainGlobals mg → Zf r.prog w (K w.params) mg base CX k fa fd ps (sp (K w.params)))
    (hsp : ∀ (K : PySem.W.Frag) (H : Hp) (xs : List V) (a : Codec.denoteAll r.args), jgw H → Codec.withinAll r.args a = true → Codec.app r.args r.asked a = true → Ydy K H xs (Codec.encAll r.args a) →
      sp K xs H (fun v H' => Dw K H' v (r.ret.enc (Codec.app r.args r.f a))) fun _ _ _ => False)
    (hCX : ∀ (H : Hp) (s : Shared) (e : Value) (s' : Shared), CX [] H s (fun _ _ _ => False) e s' → False) :
    PySem.W.WalkOS q loose XP YP r d [] (fun f vs => PySem.call f vs) :=
  yg4 (K := K) (CX := fun _ => CX) (sp := fun w => sp (K w.params)) hwell hdf hlen hr hY F (fun w H xs a h1 h2 h3 h4 => hsp (K w.params) H xs a h1 h2 h3 h4) fun _ H s e s' => hCX H s e s'
end L2
end
set_option Elab.async false
set_option linter.all false
set_option maxRecDepth 100000
set_option maxHeartbeats 4000000
namespace L2
open PySem PySem.Spec PyProof.Rows
section
variable {X : Cx} {CX : CXT} {k : Nat} {f C : Addr} {fd : FuncData} {ps : List Str} {sp : Sp} {E : XK} {x m : Str} {p pos apos : Pos} {e o : Expr} {es : List Expr} {ta : TE} {t : TA}
structure jhf (K : PySem.W.Frag) (C : Addr) (m : Str) (f : Addr) : Prop where
  ga : PySem.W.specialIn K (.ref C) "__getattribute__" = some (some (.builtin "type.__getattribute__"))
  rd : PySem.W.readsIn K C (.type "type") = true
  fc : PySem.W.findCls K (.ref C) (.type "type") m = some (.val (.ref f))
  kp : PySem.W.keepIn K (.ref f) = true
theorem ycr {pl : Sem Bool} (hg : Gl X x) (hmg : X.mg x = some (.ref C)) (hm : jhf X.K C m f) (F : Zf X.prog X.w X.K X.mg X.base CX k f fd ps sp) (hr : jby k X.A) (hb : Binds X.K fd ps []) (hx : Yc3 CX X E) (ha : PA X (e :: es) t)
    (hdb : (x == ("__debug__" : Str)) = false := by decide)
    (hst : starEach (e :: es) X.env = (false, eval e X.env) :: starEach es X.env := by rfl) (hpl : (backTo pos (starEach es X.env)).any (·.1) = false := by rfl)
    (ht : eval (.Call (.Attribute (.Name x p) m apos) (e :: es) [] pos) X.env = (do
      let ov ← eval (.Name x p) X.env
      standAt apos.atName
      let (f, first) ← holding [ov] (getMethod ov m pl)
      callWith pos f first (backTo pos (starEach (e :: es) X.env)) (backToKw pos (keywordEach [] X.env))) := by rfl) :
    PE X (.Call (.Attribute (.Name x p) m apos) (e :: es) [] pos) (Yhx sp [] E t) := by
  intro pins s σ H Q I h
  refine PySem.W.methodCall_KW (pl := pl) (ZeH I hg hmg ?_ hdb) ht
  refine PySem.W.method_cls I.kIn hm.ga (PySem.W.cls_value I.kIn hm.rd hm.fc rfl ?_)
  have I' := I.tok (s.toks + 1)
  refine PySem.W.callWith_K (first := []) (h₀ := X.base) I.ok.mod.kin hm.kp (thn (ha pos pins _ σ H _ I' h) fun us s2 ⟨vs, H2, I2, r, q2⟩ => ⟨I2.kIn, ?_⟩) hst hpl
  exact jfA (us := us) (vs := vs) F hr hb .nil hx I2 r q2
structure YfC (P : Program) (w : World) (K : PySem.W.Frag) (mg : Str → Option Value) (base : Heap) (CX : CXT) (k : Nat) (m : Str) (C : Addr) (sp : Sp) : Prop where
  cl : Cls K C
  ex : ∃ (f : Addr) (fd : FuncData) (ps : List Str), Meth K C m f ∧ Zf P w K mg base CX k f fd ps sp ∧ Binds K fd ps []
def Jhf (P : Program) (w : World) (K : PySem.W.Frag) (mg : Str → Option Value) (base : Heap) (CX : CXT) (k : Nat) (m : Str) (E : XK) (ta : TE) (t : TA) : TE := fun σ H Q => ta σ H fun x H1 => ∃ a C dx fs sp, x = .ref a ∧ H1 a = some (.ins C dx fs) ∧ YfC P w K mg base CX k m C sp ∧ fs.lookup m = none ∧
  t σ H1 fun vs H2 => sp (x :: vs) H2 Q E
theorem zay {P : Program} {w : World} {K : PySem.W.Frag} {mg : Str → Option Value} {base : Heap} {pl : Sem Bool} (e0 : X.prog = P ∧ X.w = w ∧ X.K = K ∧ X.mg = mg ∧ X.base = base) (he : PE X o ta) (hr : jby k X.A) (hx : Yc3 CX X E) (ha : PA X (e :: es) t)
    (hst : starEach (e :: es) X.env = (false, eval e X.env) :: starEach es X.env := by rfl) (hpl : (backTo pos (starEach es X.env)).any (·.1) = false := by rfl)
    (ht : eval (.Call (.Attribute o m apos) (e :: es) [] pos) X.env = (do
      let ov ← eval o X.env
      standAt apos.atName
      let (f, first) ← holding [ov] (getMethod ov m pl)
      callWith pos f first (backTo pos (starEach (e :: es) X.env)) (backToKw pos (keywordEach [] X.env))) := by rfl) :
    PE X (.Call (.Attribute o m apos) (e :: es) [] pos) (Jhf P w K mg base CX k m E ta t) := by
  obtain ⟨rfl, rfl, rfl, rfl, rfl⟩ := e0
  intro pins s σ H Q I h
  refine PySem.W.methodCall_KW (pl := pl) (thn (he pins s σ H _ I h) fun u s1 ⟨x, H1, I1, rx, a, C, dx, fs, sp, ex, ea, dp, l, q⟩ => ?_) ht
  subst ex
  obtain rfl : u = Value.ref a := rx
  obtain ⟨c, f, fd, ps, hm, F, hb⟩ := dp
  refine Jdn I1 ea c hm l ?_
  refine PySem.W.callWith_K (first := [.ref a]) (h₀ := X.base) I.ok.mod.kin hm.kp (thn (ha pos pins s1 σ H1 _ I1 q) fun us s2 ⟨vs, H2, I2, r, q2⟩ => ⟨I2.kIn, ?_⟩) hst hpl
  refine jfA (us := .ref a :: us) (vs := .ref a :: vs) F hr hb .nil hx I2 (.cons rfl r) ?_
  rw [List.append_nil]
  exact q2
end
section
variable {X : Cx}
def yhK (K : PySem.W.Frag) : List V → Hp → VK → Prop := fun xs H Q => ∃ x c t b, xs = [x, .ref c] ∧ zbz K H x t ∧ PySem.W.kitOne K t (.ref c) = some b ∧ Q (.bl b) H
theorem zhg : jcj X (.builtin "isinstance") (yhK X.K) := by
  intro pins s σ H xs us Q I r h
  obtain ⟨x, c, t, b, rfl, ty, ek, q⟩ := h
  obtain ⟨u, w', rfl, ru, rw'⟩ := vals2 r
  cases (show w' = Value.ref c from rw')
  exact yg2 I ru ty ek fun tk => ⟨.bl b, H, I.tok tk, rfl, q⟩
theorem zbz.kit {pins : List (Addr × Obj)} {σ : St} {H : Hp} {s : Shared} {x : V} {u t : Value} (I : Inv X pins σ H s) (rx : RelV x u) (ty : zbz X.K H x t) :
    ∃ P : Heap → Prop, PySem.W.KitX X.K u t P ∧ P s.heap ∧ u ≠ .builtin "__main__.__loader__#opaque" := by
  cases ty with
  | non => cases (show u = Value.none from rx); exact ⟨_, PySem.W.kitx_none, True.intro, fun z => nomatch z⟩
  | bl y => cases (show u = Value.bool y from rx); exact ⟨_, PySem.W.kitx_bool, True.intro, fun z => nomatch z⟩
  | int i => obtain ⟨t, q⟩ := (show ∃ t, u = Value.int i t from rx); cases q; exact ⟨_, PySem.W.kitx_int, True.intro, fun z => nomatch z⟩
  | str y => obtain ⟨t, q⟩ := (show ∃ t, u = Value.str y t from rx); cases q; exact ⟨_, PySem.W.kitx_str, True.intro, fun z => nomatch z⟩
  | flt y => obtain ⟨t, q⟩ := (show ∃ t, u = Value.float y t from rx); cases q; exact ⟨_, PySem.W.kitx_float, True.intro, fun z => nomatch z⟩
  | @lst a xs ea =>
    cases (show u = Value.ref a from rx)
    obtain ⟨_, _, n, _, h1⟩ := (show zP X.prog X.w H s.heap a (.lst xs) from I.hok a _ ea)
    exact ⟨_, PySem.W.kitx_list, ⟨_, h1, rfl⟩, fun z => nomatch z⟩
  | @frz a ob xs ea =>
    cases (show u = Value.ref a from rx)
    obtain ⟨_, _, _, n, _, h1⟩ := (show zP X.prog X.w H s.heap a (.frz ob (.lst xs)) from I.hok a _ ea)
    exact ⟨_, PySem.W.kitx_list, ⟨_, h1, rfl⟩, fun z => nomatch z⟩
  | @tup a xs ea =>
    cases (show u = Value.ref a from rx)
    obtain ⟨_, _, _, p⟩ := (show zP X.prog X.w H s.heap a (.tup xs) from I.hok a _ ea)
    obtain ⟨o, h1, h2, _⟩ := p
    exact ⟨_, PySem.W.kitx_tuple, ⟨o, h1, h2⟩, fun z => nomatch z⟩
  | @dK a kvs ea =>
    cases (show u = Value.ref a from rx)
    obtain ⟨_, _, vs, _, p⟩ := (show zP X.prog X.w H s.heap a (.dK kvs) from I.hok a _ ea)
    obtain ⟨o, es, ep, h1, h2, _⟩ := p
    exact ⟨_, PySem.W.kitx_dict, ⟨o, h1, h2.1⟩, fun z => nomatch z⟩
  | @dT a kvs ea =>
    cases (show u = Value.ref a from rx)
    obtain ⟨_, _, xs, _, o, es, ep, h1, h2, _⟩ := (show zP X.prog X.w H s.heap a (.dT kvs) from I.hok a _ ea)
    exact ⟨_, PySem.W.kitx_dict, ⟨o, h1, h2.1⟩, fun z => nomatch z⟩
  | @ins a C dx fs ea cl ha hn htk hm =>
    cases (show u = Value.ref a from rx)
    obtain ⟨mA, O, _⟩ := zeI I.hok ea
    obtain ⟨od, J, _⟩ := O.look
    exact ⟨_, PySem.W.kitx_own (cl.get _) cl.hd ha hn htk hm, J, fun z => nomatch z⟩
theorem yf6 : ∀ {cs : List Addr} {us : List Value}, Vals (cs.map V.ref) us → us = cs.map Value.ref
  | [], _, .nil => rfl
  | c :: cs, _, .cons r t => by rw [yf6 t, (show _ = Value.ref c from r)]; rfl
def YhK (K : PySem.W.Frag) : List V → Hp → VK → Prop := fun xs H Q => ∃ (x : V) (tp : Addr) (cs : List Addr) (t : Value) (b : Bool), xs = [x, .ref tp] ∧ H tp = some (.tup (cs.map V.ref)) ∧ zbz K H x t ∧ PySem.W.kitAny K t (cs.map Value.ref) = some b ∧ Q (.bl b) H
theorem Zhg : jcj X (.builtin "isinstance") (YhK X.K) := by
  intro pins s σ H xs us Q I r h
  obtain ⟨x, tp, cs, t, b, rfl, htp, ty, ek, q⟩ := h
  obtain ⟨u, w', rfl, ru, rw'⟩ := vals2 r
  cases (show w' = Value.ref tp from rw')
  obtain ⟨_, its, rv, p⟩ := (show zP X.prog X.w H s.heap tp (.tup (cs.map V.ref)) from I.hok tp _ htp)
  obtain ⟨o, h1, h2, n, h3⟩ := p
  obtain ⟨cl, dd, da, sl⟩ := o
  have h2 : cl = .type "tuple" := h2
  have h3 : da = .seq its.toArray n := h3
  subst h2 h3
  rw [← yf6 rv] at ek
  obtain ⟨P, k1, k2, k3⟩ := zbz.kit I ru ty
  exact PySem.W.kia_tup k1 I.kIn k2 h1 ek k3 fun tk => ⟨.bl b, H, I.tok tk, rfl, q⟩
theorem Zgx : ∀ (xs : List V) (us : List Value), xs.length = us.length → (∀ (j : Nat) (v : Value), us[j]? = some v → ∃ x, xs[j]? = some x ∧ RelV x v) → Vals xs us
  | [], [], _, _ => .nil
  | [], _ :: _, h, _ => nomatch h
  | _ :: _, [], h, _ => nomatch h
  | x :: xs, u :: us, h, g => by
    obtain ⟨x', e, r⟩ := g 0 u rfl
    have e' : x = x' := Option.some.inj e
    subst e'
    exact .cons r (Zgx xs us (Nat.succ.inj h) fun j v hv => g (j + 1) v hv)
theorem jfC (hc : X.calm = true) : jcj X (.type "list") (fun xs H Q => ∃ p kvs, xs = [.ref p] ∧ H p = some (.dK kvs) ∧ ∀ l, H l = none → Q (.ref l) (upd H l (.lst (kvs.map fun q => kV q.1)))) := by
  intro pins s σ H xs us Q I r h
  obtain ⟨p, kvs, rfl, hp, q⟩ := h
  obtain ⟨u, rfl, ru⟩ := vals1 r
  cases (show u = Value.ref p from ru)
  obtain ⟨hz, hs, vs, kv, hd⟩ := (show zP X.prog X.w H s.heap p (.dK kvs) from I.hok p _ hp)
  have hl : kvs.length = vs.length := Paired.length kv
  obtain ⟨ep, hat⟩ := hd.dictAt
  refine PySem.W.kdl_call (PySem.W.kdl_dict (knd := jN X.prog X.w) (kvs := vs) (ep := ep) hs) (I.ok.hd hc) hat (by rw [← hl]; exact hz) fun h' tk acc c kp e it => ?_
  refine ⟨.ref s.heap.objs.size, _, I.laid (t' := tk) kp (Nat.le_refl _) (show zP X.prog X.w _ h' _ (.lst (kvs.map fun q => kV q.1)) from ⟨by rw [List.length_map]; exact hz, acc.toList, c, ?_, by rw [e]⟩), rfl, q _ (I.hok.fresh (Nat.le_refl _))⟩
  refine Zgx _ _ (by have e1 := it.1; have e2 : acc.toList.length = acc.size := Array.length_toList; rw [List.length_map]; omega) fun j v hv => ?_
  obtain ⟨k, x, hk, hi⟩ := it.2 j v (by rw [← Array.getElem?_toList]; exact hv)
  have hj : j < kvs.length := by rw [hl]; exact (List.getElem?_eq_some_iff.mp hk).1
  obtain ⟨⟨k', v'⟩, hkv⟩ : ∃ z, kvs[j]? = some z := ⟨kvs[j], List.getElem?_eq_getElem hj⟩
  obtain ⟨u, hu, _⟩ := jfB kv hkv
  rw [hk] at hu
  have e3 : k = k' := congrArg Prod.fst (Option.some.inj hu)
  subst e3
  exact ⟨kV k, by rw [List.getElem?_map, hkv]; rfl, JfB (show Jem k v = true from hi)⟩
theorem Yf6 : bootBuiltins "min" = some (.builtin "min") := by decide +kernel
theorem jf6 : bootBuiltins "sum" = some (.builtin "sum") := by decide +kernel
theorem Jf6 : bootBuiltins "any" = some (.builtin "any") := by decide +kernel
theorem zB : bootBuiltins "isinstance" = some (.builtin "isinstance") := by decide +kernel
theorem JfC : bootBuiltins "list" = some (.type "list") := by decide +kernel
end
section
variable {X : Cx} {K : PySem.W.Frag} (hK : X.K = K)
include hK
theorem Jc {e : Expr} {ta : TE} {f : Str} {pos : Pos} (he : PE X e ta) (hb : attributeBase e f X.env (eval e X.env) = eval e X.env) : PE X (.Attribute e f pos) (YhG K ta f) := by subst hK; exact ZhA he hb
theorem yu {o value : Expr} {ta tv : TE} {f : Str} {pos pos' : Pos} (ha : PE X o ta) (hv : PE X value tv) (hs : swapsWith value (some (.Attribute o f pos')) pos.line X.env = pure false) : PS X (.Assign [.Attribute o f pos'] value pos) (jhG K ta tv f) := by subst hK; exact yhA ha hv hs
theorem Ye : IxR X (rIx K) := by subst hK; exact JhA
theorem zfD : SlR X (jhH K) := by subst hK; exact Jhq
theorem jx : jcj X (.builtin "len") (fun xs H Q => ∃ p ys, xs = [.ref p] ∧ (SqL K H p ys ∨ SqT K H p ys) ∧ Q (.int ys.length) H) := by subst hK; exact Jgf
theorem jfV : jcj X (.type "list") (fun xs H Q => ∃ p ys, xs = [.ref p] ∧ (SqL K H p ys ∨ SqT K H p ys) ∧ ∀ l, H l = none → Q (.ref l) (upd H l (.lst ys))) := by subst hK; exact zgg
theorem zht (hc : X.calm = true) : jcj X (.builtin "sum") (ZhI K) := by subst hK; exact ZhB hc
theorem JgV (hc : X.calm = true) : jcj X (.builtin "any") (yhI K) := by subst hK; exact yhB hc
theorem YbU : jcj X (.builtin "isinstance") (yhK K) := by subst hK; exact zhg
theorem je4 : jcj X (.builtin "isinstance") (YhK K) := by subst hK; exact Zhg
theorem jaH {tg l : Expr} {tl : TE} (hl : PE X l tl) : PI X tg l (Jhw K tl) := by subst hK; exact Zhp hl
end
section
variable {X : Cx} {td : TE} {e : Expr} {apos cpos p pos : Pos}
def jhK (td : TE) : TE := fun σ H Q => td σ H fun x H1 => ∃ (d : Addr) (kvs : List (Key × V)) (ns : List Int), x = .ref d ∧ H1 d = some (.dK kvs) ∧ kvs.map (fun q => q.2) = ns.map V.int ∧ Q (.int ns.sum) H1
theorem Zfh : ∀ (ns : List Int), preSum (fun i => (ns[i]?).getD 0) ns.length = ns.sum
  | [] => rfl
  | n :: ns => by
    show preSum (fun i => ((n :: ns)[i]?).getD 0) (ns.length + 1) = _
    rw [PySem.W.kdu_shift, List.sum_cons, ← Zfh ns]
    rfl
theorem Zht (hc : X.calm = true) (hg : Gl X "sum") (hm : X.mg "sum" = none) (he : PE X e td) (hbase : attributeBase e "values" X.env (eval e X.env) = eval e X.env := by rfl) (hline : (apos.endLine == cpos.line) = true := by rfl)
    (hst : starEach [.Call (.Attribute e "values" apos) [] [] cpos] X.env = [(false, eval (.Call (.Attribute e "values" apos) [] [] cpos) X.env)] := by rfl) :
    PE X (.Call (.Name "sum" p) [.Call (.Attribute e "values" apos) [] [] cpos] [] pos) (jhK td) := by
  intro pins s σ H Q I h
  refine wpAny_Call_Name_kw (jge I hg hm jf6 ?_)
  refine PyProof.Rows.callWith_builtin1 ?_ hst rfl
  rw [hst]
  refine Calls.spliced_cons (wpAny_Call_method (T := "dict") (id := "dict.values") hbase rfl hline F.plainAttrs_dict F.slot_dict_values F.type_dict_values (thn (he pins s σ H _ I h) fun u s1 ⟨x, H1, I1, rx, d, kvs, ns, ex, hd, en, q⟩ => ?_))
  subst ex
  obtain rfl : u = Value.ref d := rx
  obtain ⟨hz, hs, vs, kv, hD⟩ := (show zP X.prog X.w H1 s1.heap d (.dK kvs) from I1.hok d _ hd)
  have hl : kvs.length = vs.length := Paired.length kv
  obtain ⟨ep, hat⟩ := hD.dictAt
  refine ⟨hat.dictOf.typeIs, hat.dictOf.mapOf.noDict, ?_⟩
  have I2 : Inv X pins σ H1 { s1 with heap := s1.heap.push { cls := .type "dict_values", data := .fields #[.ref d] } } := I1.kept (t' := s1.toks) fun b ob q => Heap.get?_push_of_some _ q
  have lay : ({ s1 with heap := s1.heap.push { cls := .type "dict_values", data := .fields #[.ref d] } } : Shared).heap.IsValuesView s1.heap.objs.size d := ⟨_, Heap.get?_push_size _ rfl, rfl, rfl⟩
  refine method_meetsIn F.slot_dict_values F.entry_dict_values rfl (PySem.evalArgs_none ⟨rfl, hat.dictOf.typeIs, F.args_dict_values_1 _, _, meets_dict_values (jN X.prog X.w) d hs, ⟨vs, hat.dictOf⟩, ?_⟩)
  refine Calls.spliced_nil ?_
  have src := PySem.W.kdl_values (prog := X.prog) (w := X.w) (knd := jN X.prog X.w) (d := d) (r := s1.heap.objs.size) (kvs := vs) (ep := ep)
  refine call_sum_walkAnyS ?_
  obtain ⟨oI, Sx, hit, Wk, st⟩ := src.iter X.A.in1 { s1 with heap := s1.heap.push { cls := .type "dict_values", data := .fields #[.ref d] } } (I2.ok.hd hc) ⟨lay, hat.push _⟩
  refine hit _ _ ⟨_, _, _, _, vs.length, _, _, fun i => (ns[i]?).getD 0, rfl, Wk.toS, st, fun b hb => ?_, fun i v hv => ?_, fun s' t' hmv => ?_⟩
  · rcases List.mem_cons.mp hb with z | z
    · rw [z]; exact Nat.lt_of_lt_of_le (Nat.lt_succ_self _) (Nat.le_of_eq (size_push' _ _).symm)
    · rw [List.mem_singleton.mp z]
      exact Nat.lt_of_lt_of_le (Nat.lt_succ_of_lt (src.there _ ⟨lay, hat.push _⟩).2) (Nat.le_of_eq (size_push' _ _).symm)
  · obtain ⟨k, hk⟩ := hv
    have hi : i < kvs.length := by rw [hl]; exact (List.getElem?_eq_some_iff.mp hk).1
    obtain ⟨⟨k', v'⟩, hkv⟩ : ∃ z, kvs[i]? = some z := ⟨kvs[i], List.getElem?_eq_getElem hi⟩
    obtain ⟨u, hu, ru⟩ := jfB kv hkv
    rw [hk] at hu
    have e3 : v = u := congrArg Prod.snd (Option.some.inj hu)
    subst e3
    have e4 : (kvs.map fun q => q.2)[i]? = some v' := by rw [List.getElem?_map, hkv]; rfl
    rw [en, List.getElem?_map] at e4
    obtain ⟨n, hn, e5⟩ := Option.map_eq_some_iff.mp e4
    subst e5
    show ∃ t, v = Value.int ((ns[i]?).getD 0) t
    rw [hn]
    exact ru
  · have e6 : vs.length = ns.length := by
      have e7 := congrArg List.length en
      rw [List.length_map, List.length_map] at e7
      omega
    rw [e6, Zfh]
    have hk : ∀ b o, s1.heap.get? b = some o → s'.heap.get? b = some o := fun b o z => hmv.heap b o (fun hI => absurd (Heap.lt_size z) (by
      rw [List.mem_singleton.mp hI]
      show ¬ (s1.heap.push _).objs.size < s1.heap.objs.size
      rw [size_push']
      omega)) (Heap.get?_push_of_some _ (Heap.get?_push_of_some _ z))
    rw [Moved.eq_with hmv]
    exact ⟨.int _, H1, I1.kept hk, ⟨_, rfl⟩, q⟩
end
section
variable {X : Cx} {K : PySem.W.Frag} (hK : X.K = K)
include hK
theorem yht (hu : X.A.units + 64 < cLine) : OpR X (compareOp .NotEq) (YhI K) := by subst hK; exact YhB hu
end
theorem Yht {k : Nat} {A : Around} (r : jby k A) : A.units + 64 < cLine := by have := r.un; omega
end L2
namespace Lr
open PySem PySem.Spec PyProof.Rows L2
def top (i : Nat) : Stmt := PySem.Challenge.pw_landregister_s01_answers.main.body.getD i (.Pass ⟨0, 0, 0, 0⟩)
abbrev ya1 : Stmt := top 1
abbrev JaH : Stmt := top 2
abbrev ZK : Stmt := top 3
abbrev Jal : Stmt := top 4
abbrev yE : Stmt := top 5
abbrev Zbl : Stmt := top 6
abbrev ZaC : Stmt := top 9
abbrev Y9 : Stmt := inClass (top 10) 0
abbrev YB : Stmt := inClass (top 10) 1
abbrev Zi : Stmt := inClass (top 10) 2
abbrev Jq : Stmt := inClass (top 10) 3
abbrev yK : Stmt := inClass (top 10) 4
abbrev zr : Stmt := inClass (top 10) 5
abbrev YQ : Stmt := inClass (top 10) 6
abbrev jB : Stmt := inClass (top 11) 0
abbrev Yo : Stmt := inClass (top 11) 1
abbrev Yl : Stmt := inClass (top 11) 2
abbrev Ju : Stmt := inClass (top 12) 0
abbrev jl : Stmt := inClass (top 12) 1
abbrev Jl : Stmt := inClass (top 12) 2
abbrev j9 : Stmt := inClass (top 13) 0
abbrev jn : Stmt := inClass (top 13) 1
abbrev JB : Stmt := inClass (top 13) 2
abbrev Zr : Stmt := inClass (top 13) 3
abbrev yr : Stmt := inClass (top 13) 4
abbrev zm : Stmt := inClass (top 14) 0
abbrev ZC : Stmt := inClass (top 14) 1
abbrev jQ : Stmt := inClass (top 15) 0
abbrev Jx : Stmt := inClass (top 15) 1
abbrev YK : Stmt := inClass (top 15) 2
abbrev jK : Stmt := inClass (top 16) 0
abbrev zy : Stmt := inClass (top 17) 0
abbrev JQ : Stmt := inClass (top 18) 0
abbrev Zh : Stmt := inClass (top 18) 1
abbrev Yr : Stmt := inClass (top 18) 2
abbrev jo : Stmt := inClass (top 18) 3
abbrev Jo : Stmt := inClass (top 18) 4
abbrev JK : Stmt := inClass (top 18) 5
abbrev zR : Stmt := inClass (top 19) 0
abbrev Zy : Stmt := inClass (top 19) 1
abbrev yh : Stmt := inClass (top 19) 2
abbrev jr : Stmt := inClass (top 19) 3
abbrev zp : Stmt := inClass (top 19) 4
abbrev zL : Stmt := inClass (top 19) 5
abbrev J9 : Stmt := inClass (top 20) 0
abbrev Yi : Stmt := inClass (top 20) 1
abbrev Zv : Stmt := inClass (top 20) 2
abbrev Jr : Stmt := inClass (top 20) 3
abbrev ZR : Stmt := inClass (top 20) 4
abbrev ZL : Stmt := inClass (top 21) 0
abbrev yC : Stmt := inClass (top 21) 1
abbrev JF : Stmt := inClass (top 21) 2
abbrev zam : Stmt := inClass (top 22) 0
abbrev Ji : Stmt := inClass (top 22) 1
abbrev Yy : Stmt := inClass (top 22) 2
abbrev Yv : Stmt := inClass (top 22) 3
abbrev zaa : Stmt := inClass (top 24) 0
abbrev Jv : Stmt := inClass (top 24) 1
abbrev YC : Stmt := inClass (top 24) 2
abbrev Yk : Stmt := inClass (top 24) 3
abbrev yR : Stmt := inClass (top 24) 4
abbrev Zaa : Stmt := inClass (top 24) 5
abbrev Zam : Stmt := inClass (top 35) 0
abbrev zU : Stmt := inClass (top 35) 1
abbrev yam : Stmt := inClass (top 35) 2
abbrev yL : Stmt := inClass (top 35) 3
abbrev zG : Stmt := inClass (top 35) 4
abbrev ZG : Stmt := inClass (top 35) 5
abbrev yG : Stmt := inClass (top 35) 6
abbrev yp : Stmt := inClass (top 35) 7
abbrev yaa : Stmt := top 37
abbrev Yaa : Stmt := top 38
abbrev jE : Stmt := top 39
abbrev Yam : Stmt := top 40
abbrev jam : Stmt := top 41
abbrev Zac : Stmt := top 42
abbrev jR : Stmt := top 43
abbrev yac : Stmt := top 44
abbrev jaT : Stmt := top 63
abbrev JR : Stmt := top 64
abbrev ybl : Stmt := top 65
abbrev yaC : Stmt := top 66
abbrev Ys : Stmt := top 67
abbrev jc3 : Stmt := top 68
theorem Je4 : Ze ["places", "charge", "place"] ["places", "charge"] (za ya1) := ⟨rfl, rfl, rfl, by decide +kernel, rfl, by decide +kernel, by decide +kernel⟩
theorem jez : Ze ["places", "charge", "place"] ["places", "charge"] (za JaH) := ⟨rfl, rfl, rfl, by decide +kernel, rfl, by decide +kernel, by decide +kernel⟩
theorem Jdy : Ze ["places", "one", "other", "place"] ["places", "one", "other"] (za ZK) := ⟨rfl, rfl, rfl, by decide +kernel, rfl, by decide +kernel, by decide +kernel⟩
theorem Jba : Ze ["places", "one", "other", "filled", "left", "place", "part"] ["places", "one", "other"] (za Jal) := ⟨rfl, rfl, rfl, by decide +kernel, rfl, by decide +kernel, by decide +kernel⟩
theorem Yce : Ze ["one", "part", "other", "rest", "place"] ["one", "part", "other", "rest"] (za yE) := ⟨rfl, rfl, rfl, by decide +kernel, rfl, by decide +kernel, by decide +kernel⟩
theorem Ycy : Ze ["places", "given", "amount", "parts", "left", "place", "part"] ["places", "given", "amount"] (za Zbl) := ⟨rfl, rfl, rfl, by decide +kernel, rfl, by decide +kernel, by decide +kernel⟩
theorem ygx : Ze ["entries", "number"] ["entries", "number"] (za ZaC) := ⟨rfl, rfl, rfl, by decide +kernel, rfl, by decide +kernel, by decide +kernel⟩
theorem JfV : Ze ["self", "day"] ["self", "day"] (za Y9) := ⟨rfl, rfl, rfl, by decide +kernel, rfl, by decide +kernel, by decide +kernel⟩
theorem ZeJ : Ze ["self", "persons", "plots"] ["self", "persons", "plots"] (za YB) := ⟨rfl, rfl, rfl, by decide +kernel, rfl, by decide +kernel, by decide +kernel⟩
theorem zcA : Ze ["self", "entries"] ["self", "entries"] (za Zi) := ⟨rfl, rfl, rfl, by decide +kernel, rfl, by decide +kernel, by decide +kernel⟩
theorem YdP : Ze ["self", "sheet"] ["self", "sheet"] (za Jq) := ⟨rfl, rfl, rfl, by decide +kernel, rfl, by decide +kernel, by decide +kernel⟩
theorem yfp : Ze ["self", "sheet"] ["self", "sheet"] (za yK) := ⟨rfl, rfl, rfl, by decide +kernel, rfl, by decide +kernel, by decide +kernel⟩
theorem jdP : Ze ["self", "number", "sheet"] ["self", "number", "sheet"] (za zr) := ⟨rfl, rfl, rfl, by decide +kernel, rfl, by decide +kernel, by decide +kernel⟩
theorem ZfD : Ze ["self", "number", "sheet"] ["self", "number", "sheet"] (za YQ) := ⟨rfl, rfl, rfl, by decide +kernel, rfl, by decide +kernel, by decide +kernel⟩
theorem yeJ : Ze ["self", "day", "plot"] ["self", "day", "plot"] (za jB) := ⟨rfl, rfl, rfl, by decide +kernel, rfl, by decide +kernel, by decide +kernel⟩
theorem JdK : Ze ["self", "persons", "plots"] ["self", "persons", "plots"] (za Yo) := ⟨rfl, rfl, rfl, by decide +kernel, rfl, by decide +kernel, by decide +kernel⟩
theorem ydb : Ze ["self", "entries"] ["self", "entries"] (za Yl) := ⟨rfl, rfl, rfl, by decide +kernel, rfl, by decide +kernel, by decide +kernel⟩
theorem Yej : Ze ["self", "day", "plot", "person"] ["self", "day", "plot", "person"] (za Ju) := ⟨rfl, rfl, rfl, by decide +kernel, rfl, by decide +kernel, by decide +kernel⟩
theorem Ydb : Ze ["self", "persons", "plots"] ["self", "persons", "plots"] (za jl) := ⟨rfl, rfl, rfl, by decide +kernel, rfl, by decide +kernel, by decide +kernel⟩
theorem jdb : Ze ["self", "persons", "plots"] ["self", "persons", "plots"] (za Jl) := ⟨rfl, rfl, rfl, by decide +kernel, rfl, by decide +kernel, by decide +kernel⟩
theorem zfW : Ze ["self", "day", "plot", "giver", "person", "knows"] ["self", "day", "plot", "giver", "person", "knows"] (za j9) := ⟨rfl, rfl, rfl, by decide +kernel, rfl, by decide +kernel, by decide +kernel⟩
theorem Ydo : Ze ["self", "persons"] ["self", "persons"] (za jn) := ⟨rfl, rfl, rfl, by decide +kernel, rfl, by decide +kernel, by decide +kernel⟩
theorem YeJ : Ze ["self", "persons", "plots"] ["self", "persons", "plots"] (za JB) := ⟨rfl, rfl, rfl, by decide +kernel, rfl, by decide +kernel, by decide +kernel⟩
theorem JdP : Ze ["self", "sheet"] ["self", "sheet"] (za Zr) := ⟨rfl, rfl, rfl, by decide +kernel, rfl, by decide +kernel, by decide +kernel⟩
theorem zdQ : Ze ["self", "number", "sheet"] ["self", "number", "sheet"] (za yr) := ⟨rfl, rfl, rfl, by decide +kernel, rfl, by decide +kernel, by decide +kernel⟩
theorem Jdb : Ze ["self", "number", "sheet"] ["self", "number", "sheet"] (za zm) := ⟨rfl, rfl, rfl, by decide +kernel, rfl, by decide +kernel, by decide +kernel⟩
theorem jeJ : Ze ["self", "number", "sheet"] ["self", "number", "sheet"] (za ZC) := ⟨rfl, rfl, rfl, by decide +kernel, rfl, by decide +kernel, by decide +kernel⟩
theorem yfD : Ze ["self", "day", "plot", "giver", "person", "amount", "knows"] ["self", "day", "plot", "giver", "person", "amount", "knows"] (za jQ) := ⟨rfl, rfl, rfl, by decide +kernel, rfl, by decide +kernel, by decide +kernel⟩
theorem Jez : Ze ["self", "persons", "plots"] ["self", "persons", "plots"] (za Jx) := ⟨rfl, rfl, rfl, by decide +kernel, rfl, by decide +kernel, by decide +kernel⟩
theorem Yfp : Ze ["self", "number", "sheet"] ["self", "number", "sheet"] (za YK) := ⟨rfl, rfl, rfl, by decide +kernel, rfl, by decide +kernel, by decide +kernel⟩
theorem jfp : Ze ["self", "number", "sheet"] ["self", "number", "sheet"] (za jK) := ⟨rfl, rfl, rfl, by decide +kernel, rfl, by decide +kernel, by decide +kernel⟩
theorem zeA : Ze ["self", "number", "sheet"] ["self", "number", "sheet"] (za zy) := ⟨rfl, rfl, rfl, by decide +kernel, rfl, by decide +kernel, by decide +kernel⟩
theorem YfD : Ze ["self", "day", "noted", "knows"] ["self", "day", "noted", "knows"] (za JQ) := ⟨rfl, rfl, rfl, by decide +kernel, rfl, by decide +kernel, by decide +kernel⟩
theorem Ycr : Ze ["self", "entries"] ["self", "entries"] (za Zh) := ⟨rfl, rfl, rfl, by decide +kernel, rfl, by decide +kernel, by decide +kernel⟩
theorem ZdQ : Ze ["self", "entries"] ["self", "entries"] (za Yr) := ⟨rfl, rfl, rfl, by decide +kernel, rfl, by decide +kernel, by decide +kernel⟩
theorem zdL : Ze ["self", "sheet"] ["self", "sheet"] (za jo) := ⟨rfl, rfl, rfl, by decide +kernel, rfl, by decide +kernel, by decide +kernel⟩
theorem jbO : Ze ["self", "number", "sheet", "noted"] ["self", "number", "sheet"] (za Jo) := ⟨rfl, rfl, rfl, by decide +kernel, rfl, by decide +kernel, by decide +kernel⟩
theorem zdz : Ze ["self", "number", "sheet", "later"] ["self", "number", "sheet"] (za JK) := ⟨rfl, rfl, rfl, by decide +kernel, rfl, by decide +kernel, by decide +kernel⟩
theorem jfD : Ze ["self", "day", "struck", "striker"] ["self", "day", "struck", "striker"] (za zR) := ⟨rfl, rfl, rfl, by decide +kernel, rfl, by decide +kernel, by decide +kernel⟩
theorem ZeA : Ze ["self", "persons", "plots"] ["self", "persons", "plots"] (za Zy) := ⟨rfl, rfl, rfl, by decide +kernel, rfl, by decide +kernel, by decide +kernel⟩
theorem jcr : Ze ["self", "entries"] ["self", "entries"] (za yh) := ⟨rfl, rfl, rfl, by decide +kernel, rfl, by decide +kernel, by decide +kernel⟩
theorem ydQ : Ze ["self", "entries"] ["self", "entries"] (za jr) := ⟨rfl, rfl, rfl, by decide +kernel, rfl, by decide +kernel, by decide +kernel⟩
theorem ZdL : Ze ["self", "sheet"] ["self", "sheet"] (za zp) := ⟨rfl, rfl, rfl, by decide +kernel, rfl, by decide +kernel, by decide +kernel⟩
theorem Jfp : Ze ["self", "number", "sheet"] ["self", "number", "sheet"] (za zL) := ⟨rfl, rfl, rfl, by decide +kernel, rfl, by decide +kernel, by decide +kernel⟩
theorem ZfW : Ze ["self", "day", "one", "other"] ["self", "day", "one", "other"] (za J9) := ⟨rfl, rfl, rfl, by decide +kernel, rfl, by decide +kernel, by decide +kernel⟩
theorem ZcA : Ze ["self", "entries"] ["self", "entries"] (za Yi) := ⟨rfl, rfl, rfl, by decide +kernel, rfl, by decide +kernel, by decide +kernel⟩
theorem jej : Ze ["self", "entries"] ["self", "entries"] (za Zv) := ⟨rfl, rfl, rfl, by decide +kernel, rfl, by decide +kernel, by decide +kernel⟩
theorem YdQ : Ze ["self", "sheet"] ["self", "sheet"] (za Jr) := ⟨rfl, rfl, rfl, by decide +kernel, rfl, by decide +kernel, by decide +kernel⟩
theorem JfD : Ze ["self", "number", "sheet"] ["self", "number", "sheet"] (za ZR) := ⟨rfl, rfl, rfl, by decide +kernel, rfl, by decide +kernel, by decide +kernel⟩
theorem zfq : Ze ["self", "day", "plot"] ["self", "day", "plot"] (za ZL) := ⟨rfl, rfl, rfl, by decide +kernel, rfl, by decide +kernel, by decide +kernel⟩
theorem JeJ : Ze ["self", "sheet"] ["self", "sheet"] (za yC) := ⟨rfl, rfl, rfl, by decide +kernel, rfl, by decide +kernel, by decide +kernel⟩
theorem ze5 : Ze ["self", "number", "sheet"] ["self", "number", "sheet"] (za JF) := ⟨rfl, rfl, rfl, by decide +kernel, rfl, by decide +kernel, by decide +kernel⟩
theorem Zgh : Ze ["self", "day", "voided"] ["self", "day", "voided"] (za zam) := ⟨rfl, rfl, rfl, by decide +kernel, rfl, by decide +kernel, by decide +kernel⟩
theorem ZcO : Ze ["self", "entries"] ["self", "entries"] (za Ji) := ⟨rfl, rfl, rfl, by decide +kernel, rfl, by decide +kernel, by decide +kernel⟩
theorem yeA : Ze ["self", "entries"] ["self", "entries"] (za Yy) := ⟨rfl, rfl, rfl, by decide +kernel, rfl, by decide +kernel, by decide +kernel⟩
theorem Jej : Ze ["self", "sheet"] ["self", "sheet"] (za Yv) := ⟨rfl, rfl, rfl, by decide +kernel, rfl, by decide +kernel, by decide +kernel⟩
theorem yfW : Ze ["self", "owner", "void"] ["self", "owner", "void"] (za zaa) := ⟨rfl, rfl, rfl, by decide +kernel, rfl, by decide +kernel, by decide +kernel⟩
theorem zek : Ze ["self", "number", "entry"] ["self", "number", "entry"] (za Jv) := ⟨rfl, rfl, rfl, by decide +kernel, rfl, by decide +kernel, by decide +kernel⟩
theorem zeK : Ze ["self", "knows"] ["self", "knows"] (za YC) := ⟨rfl, rfl, rfl, by decide +kernel, rfl, by decide +kernel, by decide +kernel⟩
theorem zaM : Ze ["self", "entry"] ["self"] (za Yk) := ⟨rfl, rfl, rfl, by decide +kernel, rfl, by decide +kernel, by decide +kernel⟩
theorem zfE : Ze ["self", "number", "entry"] ["self", "number", "entry"] (za yR) := ⟨rfl, rfl, rfl, by decide +kernel, rfl, by decide +kernel, by decide +kernel⟩
theorem YfW : Ze ["self", "number"] ["self", "number"] (za Zaa) := ⟨rfl, rfl, rfl, by decide +kernel, rfl, by decide +kernel, by decide +kernel⟩
theorem ygh : Ze ["self"] ["self"] (za Zam) := ⟨rfl, rfl, rfl, by decide +kernel, rfl, by decide +kernel, by decide +kernel⟩
theorem Jc3 : Ze ["self", "persons", "owners", "owner"] ["self", "persons", "owners"] (za zU) := ⟨rfl, rfl, rfl, by decide +kernel, rfl, by decide +kernel, by decide +kernel⟩
theorem ZeK : Ze ["self", "entry", "refused"] ["self", "entry"] (za yam) := ⟨rfl, rfl, rfl, by decide +kernel, rfl, by decide +kernel, by decide +kernel⟩
theorem Zfq : Ze ["self", "entry"] ["self", "entry"] (za yL) := ⟨rfl, rfl, rfl, by decide +kernel, rfl, by decide +kernel, by decide +kernel⟩
theorem Ze5 : Ze ["self", "entry"] ["self", "entry"] (za zG) := ⟨rfl, rfl, rfl, by decide +kernel, rfl, by decide +kernel, by decide +kernel⟩
theorem ye5 : Ze ["self", "plot"] ["self", "plot"] (za ZG) := ⟨rfl, rfl, rfl, by decide +kernel, rfl, by decide +kernel, by decide +kernel⟩
theorem zbb : Ze ["self", "plot", "day", "known", "sheet", "number", "entry"] ["self", "plot", "day", "known"] (za yG) := ⟨rfl, rfl, rfl, by decide +kernel, rfl, by decide +kernel, by decide +kernel⟩
theorem jaU : Ze ["self", "known", "void", "entry"] ["self", "known"] (za yp) := ⟨rfl, rfl, rfl, by decide +kernel, rfl, by decide +kernel, by decide +kernel⟩
theorem zc4 : Ze ["number", "rows", "told", "row"] ["number", "rows"] (za yaa) := ⟨rfl, rfl, rfl, by decide +kernel, rfl, by decide +kernel, by decide +kernel⟩
theorem jfW : Ze ["sheet"] ["sheet"] (za Yaa) := ⟨rfl, rfl, rfl, by decide +kernel, rfl, by decide +kernel, by decide +kernel⟩
theorem jce : Ze ["sheet", "rows", "place"] ["sheet"] (za jE) := ⟨rfl, rfl, rfl, by decide +kernel, rfl, by decide +kernel, by decide +kernel⟩
theorem Ygh : Ze ["sheet", "charge", "amount"] ["sheet", "charge", "amount"] (za Yam) := ⟨rfl, rfl, rfl, by decide +kernel, rfl, by decide +kernel, by decide +kernel⟩
theorem jgh : Ze ["sheet"] ["sheet"] (za jam) := ⟨rfl, rfl, rfl, by decide +kernel, rfl, by decide +kernel, by decide +kernel⟩
theorem Jcr : Ze ["sheet", "amount", "parts", "rows", "charge"] ["sheet", "amount"] (za Zac) := ⟨rfl, rfl, rfl, by decide +kernel, rfl, by decide +kernel, by decide +kernel⟩
theorem ybz : Ze ["sheet", "rows", "number", "entry"] ["sheet"] (za jR) := ⟨rfl, rfl, rfl, by decide +kernel, rfl, by decide +kernel, by decide +kernel⟩
theorem ZaM : Ze ["book", "plot", "known", "rows", "day", "entry", "sheet", "persons"] ["book", "plot", "known"] (za yac) := ⟨rfl, rfl, rfl, by decide +kernel, rfl, by decide +kernel, by decide +kernel⟩
theorem Zbr : Ze ["calls", "book", "answered", "start", "end", "numbers"] ["calls"] (za jaT) := ⟨rfl, rfl, rfl, by decide +kernel, rfl, by decide +kernel, by decide +kernel⟩
theorem jdQ : Ze ["calls", "start", "kind"] ["calls", "start"] (za JR) := ⟨rfl, rfl, rfl, by decide +kernel, rfl, by decide +kernel, by decide +kernel⟩
theorem Yg4 : Ze ["book", "call"] ["book", "call"] (za ybl) := ⟨rfl, rfl, rfl, by decide +kernel, rfl, by decide +kernel, by decide +kernel⟩
theorem yfh : Ze ["call", "kind"] ["call"] (za yaC) := ⟨rfl, rfl, rfl, by decide +kernel, rfl, by decide +kernel, by decide +kernel⟩
theorem JdQ : Ze ["book", "call"] ["book", "call"] (za Ys) := ⟨rfl, rfl, rfl, by decide +kernel, rfl, by decide +kernel, by decide +kernel⟩
theorem Jgh : Ze ["book", "call", "kind", "sheet"] ["book", "call"] (za jc3) := ⟨rfl, rfl, rfl, by decide +kernel, rfl, by decide +kernel, by decide +kernel⟩
set_option genInjectivity false in
set_option genSizeOf false in
structure Adr where
  Ybl : Addr
  zdc : FuncData
  JaT : Addr
  ycA : FuncData
  YL : Addr
  jaR : FuncData
  Jam : Addr
  Ybz : FuncData
  jL : Addr
  JaR : FuncData
  jbl : Addr
  Zdc : FuncData
  J4 : Addr
  jaL : FuncData
  Jw : Addr
  jaa : FuncData
  yl : Addr
  jaW : FuncData
  jd : Addr
  yU : FuncData
  Yj : Addr
  Zay : FuncData
  zg : Addr
  jbo : FuncData
  jf : Addr
  yay : FuncData
  JL : Addr
  jbz : FuncData
  Zq : Addr
  Yae : FuncData
  ym : Addr
  Jau : FuncData
  ye : Addr
  jae : FuncData
  Zj : Addr
  Jah : FuncData
  zf : Addr
  Jae : FuncData
  yj : Addr
  zaf : FuncData
  zx : Addr
  Jbl : FuncData
  Zg : Addr
  Zaj : FuncData
  yq : Addr
  JaW : FuncData
  Yg : Addr
  Yay : FuncData
  jj : Addr
  jay : FuncData
  Zm : Addr
  Zaf : FuncData
  jC : Addr
  zaX : FuncData
  ZS : Addr
  Jbz : FuncData
  jy : Addr
  yaM : FuncData
  zM : Addr
  Jbo : FuncData
  ZM : Addr
  zbp : FuncData
  Jy : Addr
  YaM : FuncData
  yS : Addr
  zbA : FuncData
  Yh : Addr
  zQ : FuncData
  Js : Addr
  Jay : FuncData
  Yp : Addr
  zav : FuncData
  Jp : Addr
  Zav : FuncData
  yM : Addr
  Zbp : FuncData
  YS : Addr
  ZbA : FuncData
  zz : Addr
  jaM : FuncData
  jh : Addr
  ZQ : FuncData
  Zt : Addr
  zaz : FuncData
  zq : Addr
  yav : FuncData
  YM : Addr
  ybp : FuncData
  Jaa : Addr
  zbY : FuncData
  ji : Addr
  jU : FuncData
  Zw : Addr
  JaD : FuncData
  yt : Addr
  Zaz : FuncData
  JS : Addr
  ybA : FuncData
  jM : Addr
  Ybp : FuncData
  JC : Addr
  ZaX : FuncData
  YG : Addr
  Zbb : FuncData
  zan : Addr
  zcs : FuncData
  zj : Addr
  Z1 : FuncData
  Zz : Addr
  JaM : FuncData
  yw : Addr
  zaE : FuncData
  zV : Addr
  zbm : FuncData
  jq : Addr
  zai : FuncData
  Zn : Addr
  YJ : FuncData
  jk : Addr
  ZV : FuncData
  ZD : Addr
  Zar : FuncData
  JN : Addr
  zaU : FuncData
  Yac : Addr
  YbA : FuncData
  yV : Addr
  Zbm : FuncData
  jac : Addr
  jbA : FuncData
  zF : Addr
  zaS : FuncData
  Yx : Addr
  yao : FuncData
  Jz : Addr
  zaI : FuncData
  zu : Addr
  Z5 : FuncData
  Ym : Addr
  J3 : FuncData
  JD : Addr
  zab : FuncData
  Zab : Addr
  ybm : FuncData
  JM : Addr
  ZaS : FuncData
  Zan : Addr
  JbA : FuncData
  yan : Addr
  zbB : FuncData
  Yan : Addr
  ZbB : FuncData
  zT : Addr
  Ya1 : FuncData
  jan : Addr
  ybB : FuncData
  zax : Addr
  ybr : FuncData
  YT : Addr
  ja1 : FuncData
  Ybm : Addr
  ydc : FuncData
  YaC : Addr
  Zb2 : FuncData
  Yt : Addr
  Jac : FuncData
  Zc4 : Addr
  yeK : FuncData
  ZaE : Addr
  Z0 : Addr
  jG : Addr
  yaX : Addr
  Jb : Addr
  jc : Addr
  Zd : Addr
  Yb : Addr
  Yd : Addr
  Jf : Addr
  Jg : Addr
  Je : Addr
  yg : Addr
  Jk : Addr
  yD : Addr
  yc4 : Value
  YcA : Value
  jdo : Value
  YeA : Value
  jcA : Value
  zdR : Value
  ZdR : Value
  ydR : Value
  ygM : Value
  Yc4 : Value
  ZfE : Value
  jeA : Value
  yfE : Value
  YfE : Value
  jfE : Value
  YdR : Value
  JfE : Value
  zgi : Value
  Ye5 : Value
  YgM : Value
  Zgi : Value
  je5 : Value
  jgM : Value
  JgM : Value
  zfF : Value
  zgN : Value
  Je5 : Value
  jw : Addr
structure Txt (K : PySem.W.Frag) (mg : Str → Option Value) (A : Adr) : Prop where
  ZfF : Fun K "all_of" "all_of" ya1 A.Ybl A.zdc
  Ygx : Binds K A.zdc ["places", "charge"] []
  jgx : mg "all_of" = some (.ref A.Ybl)
  ze6 : Fun K "without" "without" JaH A.JaT A.ycA
  zf7 : Binds K A.ycA ["places", "charge"] []
  Zf7 : mg "without" = some (.ref A.JaT)
  JcA : Fun K "stands_first" "stands_first" ZK A.YL A.jaR
  jdR : Binds K A.jaR ["places", "one", "other"] []
  JdR : mg "stands_first" = some (.ref A.YL)
  zdS : Fun K "put_ahead" "put_ahead" Jal A.Jam A.Ybz
  Yfh : Binds K A.Ybz ["places", "one", "other"] []
  jfh : mg "put_ahead" = some (.ref A.Jam)
  zcB : Fun K "shared_place" "shared_place" yE A.jL A.JaR
  ZdS : Binds K A.JaR ["one", "part", "other", "rest"] []
  ydS : mg "shared_place" = some (.ref A.jL)
  yfF : Fun K "shares" "shares" Zbl A.jbl A.Zdc
  Jgx : Binds K A.Zdc ["places", "given", "amount"] []
  zgy : mg "shares" = some (.ref A.jbl)
  Ybr : Fun K "entry_at" "entry_at" ZaC A.J4 A.jaL
  jbU : Binds K A.jaL ["entries", "number"] []
  JbU : mg "entry_at" = some (.ref A.J4)
  YeK : Fun K "__init__" "Entry.__init__" Y9 A.Jw A.jaa
  ybb : Binds K A.jaa ["self", "day"] []
  Ydc : Fun K "is_sound" "Entry.is_sound" YB A.yl A.jaW
  Ybb : Binds K A.jaW ["self", "persons", "plots"] []
  Ybf : Fun K "finds_its_entries" "Entry.finds_its_entries" Zi A.jd A.yU
  Yz : Binds K A.yU ["self", "entries"] []
  Jcj : Fun K "may_be_made" "Entry.may_be_made" Jq A.Yj A.Zay
  Zbh : Binds K A.Zay ["self", "sheet"] []
  YdS : Fun K "settle" "Entry.settle" yK A.zg A.jbo
  jV : Binds K A.jbo ["self", "sheet"] []
  zck : Fun K "take_effect" "Entry.take_effect" zr A.jf A.yay
  YX : Binds K A.yay ["self", "number", "sheet"] []
  yen : Fun K "enter" "Entry.enter" YQ A.JL A.jbz
  Yen : Binds K A.jbz ["self", "number", "sheet"] []
  jdc : Fun K "__init__" "PlotEntry.__init__" jB A.Zq A.Yae
  zbV : Binds K A.Yae ["self", "day", "plot"] []
  yb2 : Fun K "is_sound" "PlotEntry.is_sound" Yo A.ym A.Jau
  Yb2 : Binds K A.Jau ["self", "persons", "plots"] []
  YbB : Fun K "plot_among" "PlotEntry.plot_among" Yl A.ye A.jae
  yH : Binds K A.jae ["self", "entries"] []
  ZcB : Fun K "__init__" "PersonEntry.__init__" Ju A.Zj A.Jah
  jbr : Binds K A.Jah ["self", "day", "plot", "person"] []
  jbB : Fun K "is_there" "PersonEntry.is_there" jl A.zf A.Jae
  JV : Binds K A.Jae ["self", "persons", "plots"] []
  JbB : Fun K "is_sound" "PersonEntry.is_sound" Jl A.yj A.zaf
  zbC : Binds K A.zaf ["self", "persons", "plots"] []
  jeK : Fun K "__init__" "Grant.__init__" j9 A.zx A.Jbl
  Zcs : Binds K A.Jbl ["self", "day", "plot", "giver", "person", "knows"] []
  JbO : Fun K "has_its_giver" "Grant.has_its_giver" jn A.Zg A.Zaj
  Yav : Binds K A.Zaj ["self", "persons"] []
  Jdc : Fun K "is_sound" "Grant.is_sound" JB A.yq A.JaW
  ZbV : Binds K A.JaW ["self", "persons", "plots"] []
  Zck : Fun K "may_be_made" "Grant.may_be_made" Zr A.Yg A.Yay
  yaE : Binds K A.Yay ["self", "sheet"] []
  yck : Fun K "take_effect" "Grant.take_effect" yr A.jj A.jay
  ybh : Binds K A.jay ["self", "number", "sheet"] []
  ZbC : Fun K "take_effect" "Transfer.take_effect" zm A.Zm A.Zaf
  ybC : Binds K A.Zaf ["self", "number", "sheet"] []
  zdd : Fun K "enter" "Transfer.enter" ZC A.jC A.zaX
  Zdd : Binds K A.zaX ["self", "number", "sheet"] []
  jen : Fun K "__init__" "Charge.__init__" jQ A.ZS A.Jbz
  Jen : Binds K A.Jbz ["self", "day", "plot", "giver", "person", "amount", "knows"] []
  ycP : Fun K "is_sound" "Charge.is_sound" Jx A.jy A.yaM
  YcP : Binds K A.yaM ["self", "persons", "plots"] []
  jdS : Fun K "enter" "Charge.enter" YK A.zM A.Jbo
  JdS : Binds K A.Jbo ["self", "number", "sheet"] []
  zdT : Fun K "enter" "Notice.enter" jK A.ZM A.zbp
  ZdT : Binds K A.zbp ["self", "number", "sheet"] []
  jcP : Fun K "enter" "Objection.enter" zy A.Jy A.YaM
  JcP : Binds K A.YaM ["self", "number", "sheet"] []
  zeo : Fun K "__init__" "Fulfil.__init__" JQ A.yS A.zbA
  Zeo : Binds K A.zbA ["self", "day", "noted", "knows"] []
  Ja1 : Fun K "finds_its_entries" "Fulfil.finds_its_entries" Zh A.Yh A.zQ
  za2 : Binds K A.zQ ["self", "entries"] []
  Yck : Fun K "plot_among" "Fulfil.plot_among" Yr A.Js A.Jay
  jck : Binds K A.Jay ["self", "entries"] []
  jb2 : Fun K "may_be_made" "Fulfil.may_be_made" jo A.Yp A.zav
  Jb2 : Binds K A.zav ["self", "sheet"] []
  zb3 : Fun K "take_effect" "Fulfil.take_effect" Jo A.Jp A.Zav
  Zb3 : Binds K A.Zav ["self", "number", "sheet"] []
  ydT : Fun K "enter" "Fulfil.enter" JK A.yM A.Zbp
  YdT : Binds K A.Zbp ["self", "number", "sheet"] []
  yeo : Fun K "__init__" "Strike.__init__" zR A.YS A.ZbA
  Yeo : Binds K A.ZbA ["self", "day", "struck", "striker"] []
  zcQ : Fun K "is_sound" "Strike.is_sound" Zy A.zz A.jaM
  ZcQ : Binds K A.jaM ["self", "persons", "plots"] []
  Za2 : Fun K "finds_its_entries" "Strike.finds_its_entries" yh A.jh A.ZQ
  ya2 : Binds K A.ZQ ["self", "entries"] []
  Jck : Fun K "plot_among" "Strike.plot_among" jr A.Zt A.zaz
  zcl : Binds K A.zaz ["self", "entries"] []
  yb3 : Fun K "may_be_made" "Strike.may_be_made" zp A.zq A.yav
  Yb3 : Binds K A.yav ["self", "sheet"] []
  jdT : Fun K "enter" "Strike.enter" zL A.YM A.ybp
  JdT : Binds K A.ybp ["self", "number", "sheet"] []
  JeK : Fun K "__init__" "Ahead.__init__" J9 A.Jaa A.zbY
  zeL : Binds K A.zbY ["self", "day", "one", "other"] []
  jbf : Fun K "finds_its_entries" "Ahead.finds_its_entries" Yi A.ji A.jU
  Jbf : Binds K A.jU ["self", "entries"] []
  ycB : Fun K "plot_among" "Ahead.plot_among" Zv A.Zw A.JaD
  YcB : Binds K A.JaD ["self", "entries"] []
  Zcl : Fun K "may_be_made" "Ahead.may_be_made" Jr A.yt A.Zaz
  ycl : Binds K A.Zaz ["self", "sheet"] []
  jeo : Fun K "enter" "Ahead.enter" ZR A.JS A.ybA
  Jeo : Binds K A.ybA ["self", "number", "sheet"] []
  zdU : Fun K "__init__" "Correct.__init__" ZL A.jM A.Ybp
  ZdU : Binds K A.Ybp ["self", "day", "plot"] []
  ydd : Fun K "settle" "Correct.settle" yC A.JC A.ZaX
  Ydd : Binds K A.ZaX ["self", "sheet"] []
  Zdz : Fun K "enter" "Correct.enter" JF A.YG A.Zbb
  ydz : Binds K A.Zbb ["self", "number", "sheet"] []
  Jfh : Fun K "__init__" "Void.__init__" zam A.zan A.zcs
  zfi : Binds K A.zcs ["self", "day", "voided"] []
  jbm : Fun K "finds_its_entries" "Void.finds_its_entries" Ji A.zj A.Z1
  Jbm : Binds K A.Z1 ["self", "entries"] []
  ycQ : Fun K "plot_among" "Void.plot_among" Yy A.Zz A.JaM
  YcQ : Binds K A.JaM ["self", "entries"] []
  jcB : Fun K "may_be_made" "Void.may_be_made" Yv A.yw A.zaE
  JcB : Binds K A.zaE ["self", "sheet"] []
  ZeL : Fun K "__init__" "Sheet.__init__" zaa A.zV A.zbm
  yeL : Binds K A.zbm ["self", "owner", "void"] []
  zcC : Fun K "go_through" "Sheet.go_through" Jv A.jq A.zai
  ZcC : Binds K A.zai ["self", "number", "entry"] []
  jdd : Fun K "acquires" "Sheet.acquires" YC A.Zn A.YJ
  ZaI : Binds K A.YJ ["self", "knows"] []
  zbP : Fun K "has_objection" "Sheet.has_objection" Yk A.jk A.ZV
  ZbP : Binds K A.ZV ["self"] []
  zep : Fun K "stand" "Sheet.stand" yR A.ZD A.Zar
  ZbY : Binds K A.Zar ["self", "number", "entry"] []
  YeL : Fun K "drop" "Sheet.drop" Zaa A.JN A.zaU
  Jdo : Binds K A.zaU ["self", "number"] []
  Zfi : Fun K "__init__" "Book.__init__" Zam A.Yac A.YbA
  yfi : Binds K A.YbA ["self"] []
  jeL : Fun K "begin" "Book.begin" zU A.yV A.Zbm
  JeL : Binds K A.Zbm ["self", "persons", "owners"] []
  Yfi : Fun K "make" "Book.make" yam A.jac A.jbA
  jfi : Binds K A.jbA ["self", "entry"] []
  ydU : Fun K "refusal" "Book.refusal" yL A.zF A.zaS
  YdU : Binds K A.zaS ["self", "entry"] []
  Ydz : Fun K "sheet_of" "Book.sheet_of" zG A.Yx A.yao
  Jce : Binds K A.yao ["self", "entry"] []
  jdz : Fun K "has_plot" "Book.has_plot" ZG A.Jz A.zaI
  Jdz : Binds K A.zaI ["self", "plot"] []
  zdA : Fun K "sheet_on" "Book.sheet_on" yG A.zu A.Z5
  yaS : Binds K A.Z5 ["self", "plot", "day", "known"] []
  jb3 : Fun K "void_as_known" "Book.void_as_known" yp A.Ym A.J3
  Jb3 : Binds K A.J3 ["self", "known"] []
  zaN : Fun K "with_lists" "with_lists" yaa A.JD A.zab
  jbb : Binds K A.zab ["number", "rows"] []
  Jbb : mg "with_lists" = some (.ref A.JD)
  zdp : Fun K "tell_owner" "tell_owner" Yaa A.Zab A.ybm
  zeM : Binds K A.ybm ["sheet"] []
  ZeM : mg "tell_owner" = some (.ref A.Zab)
  ycC : Fun K "tell_charges" "tell_charges" jE A.JM A.ZaS
  jdU : Binds K A.ZaS ["sheet"] []
  JdU : mg "tell_charges" = some (.ref A.JM)
  zdV : Fun K "place_row" "place_row" Yam A.Zan A.JbA
  Jfi : Binds K A.JbA ["sheet", "charge", "amount"] []
  zfj : mg "place_row" = some (.ref A.Zan)
  ZdV : Fun K "tell_rely" "tell_rely" jam A.yan A.zbB
  Zfj : Binds K A.zbB ["sheet"] []
  yfj : mg "tell_rely" = some (.ref A.yan)
  ydV : Fun K "tell_sale" "tell_sale" Zac A.Yan A.ZbB
  Yfj : Binds K A.ZbB ["sheet", "amount"] []
  jfj : mg "tell_sale" = some (.ref A.Yan)
  jc4 : Fun K "tell_stands" "tell_stands" jR A.zT A.Ya1
  Zep : Binds K A.Ya1 ["sheet"] []
  yep : mg "tell_stands" = some (.ref A.zT)
  YdV : Fun K "tell_days" "tell_days" yac A.jan A.ybB
  Jfj : Binds K A.ybB ["book", "plot", "known"] []
  zfk : mg "tell_days" = some (.ref A.jan)
  yf7 : Fun K "answers" "answers" jaT A.zax A.ybr
  jg4 : Binds K A.ybr ["calls"] []
  Yf7 : mg "answers" = some (.ref A.zax)
  Jc4 : Fun K "call_length" "call_length" JR A.YT A.ja1
  Yep : Binds K A.ja1 ["calls", "start"] []
  jep : mg "call_length" = some (.ref A.YT)
  YfF : Fun K "answer" "answer" ybl A.Ybm A.ydc
  Zgy : Binds K A.ydc ["book", "call"] []
  ygy : mg "answer" = some (.ref A.Ybm)
  JeA : Fun K "entry_of" "entry_of" yaC A.YaC A.Zb2
  jfF : Binds K A.Zb2 ["call"] []
  JfF : mg "entry_of" = some (.ref A.YaC)
  Ybh : Fun K "is_sound_question" "is_sound_question" Ys A.Yt A.Jac
  Ycl : Binds K A.Jac ["book", "call"] []
  jcl : mg "is_sound_question" = some (.ref A.Yt)
  ZgN : Fun K "told" "told" jc3 A.Zc4 A.yeK
  yhg : Binds K A.yeK ["book", "call"] []
  Yhg : mg "told" = some (.ref A.Zc4)
  yee : mg "Entry" = some (.ref A.ZaE)
  jdV : mg "PlotEntry" = some (.ref A.Z0)
  Jep : mg "PersonEntry" = some (.ref A.jG)
  zgW : mg "Grant" = some (.ref A.yaX)
  zeB : mg "Transfer" = some (.ref A.Jb)
  JdV : Cls K A.Jb
  Ybu : Mk K A.Jb A.zx
  YbC : Meth K A.Jb "take_effect" A.Zm
  Jdd : Meth K A.Jb "enter" A.jC
  zbn : Meth K A.Jb "has_its_giver" A.Zg
  Jcl : Meth K A.Jb "is_sound" A.yq
  jbC : Meth K A.Jb "may_be_made" A.Yg
  zcm : Meth K A.Jb "is_there" A.zf
  ybP : Meth K A.Jb "plot_among" A.ye
  YaS : Meth K A.Jb "finds_its_entries" A.jd
  jcQ : Meth K A.Jb "settle" A.zg
  Y5 : Jm K A.Jb "knows"
  zW : Jm K A.Jb "person"
  J5 : Jm K A.Jb "giver"
  Jag : Jm K A.Jb "plot"
  yar : Jm K A.Jb "day"
  zb4 : mg "Charge" = some (.ref A.jc)
  zde : Cls K A.jc
  jcy : Mk K A.jc A.ZS
  JcQ : Meth K A.jc "is_sound" A.jy
  zdW : Meth K A.jc "enter" A.zM
  JbC : Meth K A.jc "has_its_giver" A.Zg
  Zb4 : Meth K A.jc "may_be_made" A.Yg
  yb4 : Meth K A.jc "take_effect" A.jj
  zcR : Meth K A.jc "is_there" A.zf
  Zcm : Meth K A.jc "plot_among" A.ye
  Ya2 : Meth K A.jc "finds_its_entries" A.jd
  ZdA : Meth K A.jc "settle" A.zg
  Y0 : Jm K A.jc "amount"
  Yar : Jm K A.jc "giver"
  jar : Jm K A.jc "knows"
  zah : Jm K A.jc "person"
  jaC : Jm K A.jc "plot"
  ZaN : Jm K A.jc "day"
  YcC : mg "Notice" = some (.ref A.Zd)
  Ze6 : Cls K A.Zd
  Jcy : Mk K A.Zd A.zx
  ZdW : Meth K A.Zd "enter" A.ZM
  zbD : Meth K A.Zd "has_its_giver" A.Zg
  ZcR : Meth K A.Zd "is_sound" A.yq
  Yb4 : Meth K A.Zd "may_be_made" A.Yg
  jb4 : Meth K A.Zd "take_effect" A.jj
  ycR : Meth K A.Zd "is_there" A.zf
  ycm : Meth K A.Zd "plot_among" A.ye
  ja2 : Meth K A.Zd "finds_its_entries" A.jd
  ydA : Meth K A.Zd "settle" A.zg
  Jar : Jm K A.Zd "giver"
  zas : Jm K A.Zd "knows"
  Zah : Jm K A.Zd "person"
  JaC : Jm K A.Zd "plot"
  yaN : Jm K A.Zd "day"
  YcR : mg "Objection" = some (.ref A.Yb)
  Zdp : Cls K A.Yb
  zbc : Mk K A.Yb A.Zj
  jcR : Meth K A.Yb "enter" A.Jy
  Jb4 : Meth K A.Yb "is_there" A.zf
  zb5 : Meth K A.Yb "is_sound" A.yj
  ZbD : Meth K A.Yb "plot_among" A.ye
  JaL : Meth K A.Yb "finds_its_entries" A.jd
  jbu : Meth K A.Yb "may_be_made" A.Yj
  jcC : Meth K A.Yb "settle" A.zg
  Jbu : Meth K A.Yb "take_effect" A.jf
  jO : Jm K A.Yb "person"
  Z6 : Jm K A.Yb "plot"
  yah : Jm K A.Yb "day"
  zfG : mg "Fulfil" = some (.ref A.Yd)
  zbv : Cls K A.Yd
  zcz : Mk K A.Yd A.yS
  Ja2 : Meth K A.Yd "finds_its_entries" A.Yh
  Ycm : Meth K A.Yd "plot_among" A.Js
  Zb5 : Meth K A.Yd "may_be_made" A.Yp
  yb5 : Meth K A.Yd "take_effect" A.Jp
  ydW : Meth K A.Yd "enter" A.yM
  JcR : Meth K A.Yd "is_sound" A.yl
  YdA : Meth K A.Yd "settle" A.zg
  ZF : Jm K A.Yd "noted"
  Zas : Jm K A.Yd "knows"
  YaN : Jm K A.Yd "day"
  Ygy : mg "Strike" = some (.ref A.Jf)
  Zbc : Cls K A.Jf
  Zcz : Mk K A.Jf A.YS
  zcS : Meth K A.Jf "is_sound" A.zz
  za3 : Meth K A.Jf "finds_its_entries" A.jh
  jcm : Meth K A.Jf "plot_among" A.Zt
  Yb5 : Meth K A.Jf "may_be_made" A.zq
  YdW : Meth K A.Jf "enter" A.YM
  jdA : Meth K A.Jf "settle" A.zg
  jb5 : Meth K A.Jf "take_effect" A.jf
  JG : Jm K A.Jf "struck"
  ZP : Jm K A.Jf "striker"
  jaN : Jm K A.Jf "day"
  ZgW : mg "Ahead" = some (.ref A.Jg)
  Zbn : Cls K A.Jg
  Zde : Mk K A.Jg A.Jaa
  zbg : Meth K A.Jg "finds_its_entries" A.ji
  JcC : Meth K A.Jg "plot_among" A.Zw
  Jcm : Meth K A.Jg "may_be_made" A.yt
  zeq : Meth K A.Jg "enter" A.JS
  yde : Meth K A.Jg "is_sound" A.yl
  jdW : Meth K A.Jg "settle" A.zg
  zcn : Meth K A.Jg "take_effect" A.jf
  zao : Jm K A.Jg "one"
  yab : Jm K A.Jg "other"
  Za3 : Jm K A.Jg "day"
  jf7 : mg "Correct" = some (.ref A.Je)
  zcD : Cls K A.Je
  ybV : Mk K A.Je A.jM
  Yde : Meth K A.Je "settle" A.JC
  JdA : Meth K A.Je "enter" A.YG
  ZcD : Meth K A.Je "is_sound" A.ym
  Jb5 : Meth K A.Je "plot_among" A.ye
  YaX : Meth K A.Je "finds_its_entries" A.jd
  YbP : Meth K A.Je "may_be_made" A.Yj
  jbP : Meth K A.Je "take_effect" A.jf
  j0 : Jm K A.Je "owner"
  yas : Jm K A.Je "plot"
  zaD : Jm K A.Je "day"
  ygN : mg "Void" = some (.ref A.yg)
  ZcS : Cls K A.yg
  Yee : Mk K A.yg A.zan
  ybn : Meth K A.yg "finds_its_entries" A.zj
  ycS : Meth K A.yg "plot_among" A.Zz
  ycD : Meth K A.yg "may_be_made" A.yw
  zdB : Meth K A.yg "is_sound" A.yl
  Zeq : Meth K A.yg "settle" A.zg
  YcD : Meth K A.yg "take_effect" A.jf
  yeM : Meth K A.yg "enter" A.JL
  jT : Jm K A.yg "voided"
  Jbr : Jm K A.yg "day"
  ygW : mg "Sheet" = some (.ref A.Jk)
  Yn : Cls K A.Jk
  jde : Mk K A.Jk A.zV
  jcD : Meth K A.Jk "go_through" A.jq
  yaI : Meth K A.Jk "acquires" A.Zn
  JbP : Meth K A.Jk "has_objection" A.jk
  ybY : Meth K A.Jk "stand" A.ZD
  ydp : Meth K A.Jk "drop" A.JN
  Yw : Jm K A.Jk "registered"
  JT : Jm K A.Jk "owner"
  JaN : Jm K A.Jk "void"
  YH : Jm K A.Jk "standing"
  ZW : Jm K A.Jk "places"
  ZaD : Jm K A.Jk "given"
  jhg : mg "Book" = some (.ref A.yD)
  Yab : Cls K A.yD
  jee : Mk K A.yD A.Yac
  YeM : Meth K A.yD "begin" A.yV
  Zfk : Meth K A.yD "make" A.jac
  JdW : Meth K A.yD "refusal" A.zF
  zcf : Meth K A.yD "sheet_of" A.Yx
  ZdB : Meth K A.yD "has_plot" A.Jz
  jaS : Meth K A.yD "sheet_on" A.zu
  zb6 : Meth K A.yD "void_as_known" A.Ym
  zad : Jm K A.yD "persons"
  Zao : Jm K A.yD "owners"
  Zad : Jm K A.yD "entries"
  zO : jhf K A.ZaE "__init__" A.Jw
  yaz : jhf K A.yaX "__init__" A.zx
  yF : jhf K A.jG "__init__" A.Zj
  jH : jhf K A.Z0 "__init__" A.Zq
  zc5 : mg "MOST_AMOUNT" = some A.yc4
  Zc5 : RelV (.int (1000000)) A.yc4
  zdX : mg "MOST_PERSONS" = some A.YcA
  ZdX : RelV (.int (10)) A.YcA
  jeM : mg "MOST_PLOTS" = some A.jdo
  JeM : RelV (.int (6)) A.jdo
  Ydp : mg "LAST_DAY" = some A.YeA
  jdp : RelV (.int (1000000)) A.YeA
  ydX : mg "MOST_ENTRIES" = some A.jcA
  YdX : RelV (.int (40)) A.jcA
  Zb6 : mg "NOT_SOUND" = some A.zdR
  yb6 : RelV (.int (-1)) A.zdR
  yfk : mg "NOT_FOUND" = some A.ZdR
  Yfk : RelV (.int (-2)) A.ZdR
  jfk : mg "TOO_EARLY" = some A.ydR
  Jfk : RelV (.int (-4)) A.ydR
  Jhg : mg "FULL" = some A.ygM
  zhh : RelV (.int (-5)) A.ygM
  yeq : mg "NOT_ALLOWED" = some A.Yc4
  Yeq : RelV (.int (-6)) A.Yc4
  zeN : mg "BEGINS" = some A.ZfE
  ZeN : RelV (.int (0)) A.ZfE
  ZfG : mg "TRANSFER" = some A.jeA
  yfG : RelV (.int (1)) A.jeA
  jgy : mg "CHARGE" = some A.yfE
  Jgy : RelV (.int (2)) A.yfE
  zgz : mg "NOTICE" = some A.YfE
  Zgz : RelV (.int (3)) A.YfE
  ygz : mg "FULFIL" = some A.jfE
  Ygz : RelV (.int (4)) A.jfE
  zfl : mg "OBJECTION" = some A.YdR
  Zfl : RelV (.int (5)) A.YdR
  jgz : mg "STRIKE" = some A.JfE
  Jgz : RelV (.int (6)) A.JfE
  YgW : mg "AHEAD" = some A.zgi
  jgW : RelV (.int (7)) A.zgi
  Jf7 : mg "CORRECT" = some A.Ye5
  zf8 : RelV (.int (8)) A.Ye5
  Zhh : mg "VOID" = some A.YgM
  yhh : RelV (.int (9)) A.YgM
  JgW : mg "OWNER" = some A.Zgi
  zgX : RelV (.int (10)) A.Zgi
  Zf8 : mg "CHARGES" = some A.je5
  yf8 : RelV (.int (11)) A.je5
  Yhh : mg "RELY" = some A.jgM
  jhh : RelV (.int (12)) A.jgM
  Jhh : mg "SALE" = some A.JgM
  zhi : RelV (.int (13)) A.JgM
  zgA : mg "STANDS" = some A.zfF
  ZgA : RelV (.int (14)) A.zfF
  Zhi : mg "DAYS" = some A.zgN
  yhi : RelV (.int (15)) A.zgN
  ye6 : mg "LENGTHS" = some A.Je5
  Ye6 : RelV (.ref A.jw) A.Je5
  yP : ∀ H, SqT K H A.jw [.int (3), .int (6), .int (7), .int (6), .int (4), .int (4), .int (4), .int (4), .int (3), .int (3), .int (4), .int (4), .int (4), .int (5), .int (3), .int (3)]
  Yhi : mg "any" = none
  yfl : mg "enumerate" = none
  yW : mg "isinstance" = none
  JcD : mg "len" = none
  YgN : mg "list" = none
  jhi : mg "min" = none
  Jhi : mg "sum" = none
  Yfl : ∀ {H : Hp} {a dx : Addr} {fs : List (Str × V)}, H a = some (.ins A.Jb dx fs) → zbz K H (.ref a) (.ref A.Jb)
  Yf8 : ∀ {H : Hp} {a dx : Addr} {fs : List (Str × V)}, H a = some (.ins A.jc dx fs) → zbz K H (.ref a) (.ref A.jc)
  jf8 : ∀ {H : Hp} {a dx : Addr} {fs : List (Str × V)}, H a = some (.ins A.Zd dx fs) → zbz K H (.ref a) (.ref A.Zd)
  Jf8 : ∀ {H : Hp} {a dx : Addr} {fs : List (Str × V)}, H a = some (.ins A.Yd dx fs) → zbz K H (.ref a) (.ref A.Yd)
  yeN : ∀ {H : Hp} {a dx : Addr} {fs : List (Str × V)}, H a = some (.ins A.Yb dx fs) → zbz K H (.ref a) (.ref A.Yb)
  zf9 : ∀ {H : Hp} {a dx : Addr} {fs : List (Str × V)}, H a = some (.ins A.Jf dx fs) → zbz K H (.ref a) (.ref A.Jf)
  ygA : ∀ {H : Hp} {a dx : Addr} {fs : List (Str × V)}, H a = some (.ins A.Jg dx fs) → zbz K H (.ref a) (.ref A.Jg)
  YfG : ∀ {H : Hp} {a dx : Addr} {fs : List (Str × V)}, H a = some (.ins A.Je dx fs) → zbz K H (.ref a) (.ref A.Je)
  ZgX : ∀ {H : Hp} {a dx : Addr} {fs : List (Str × V)}, H a = some (.ins A.yg dx fs) → zbz K H (.ref a) (.ref A.yg)
  ycz : PySem.W.kitOne K (.type "NoneType") (.ref A.Zd) = some false
  Y6 : PySem.W.kitOne K (.ref A.Jb) (.ref A.Zd) = some false
  Yao : PySem.W.kitOne K (.ref A.jc) (.ref A.Zd) = some false
  jao : PySem.W.kitOne K (.ref A.Zd) (.ref A.Zd) = some true
  Jao : PySem.W.kitOne K (.ref A.Yd) (.ref A.Zd) = some false
  jX : PySem.W.kitOne K (.ref A.Yb) (.ref A.Zd) = some false
  zap : PySem.W.kitOne K (.ref A.Jf) (.ref A.Zd) = some false
  Zax : PySem.W.kitOne K (.ref A.Jg) (.ref A.Zd) = some false
  yaf : PySem.W.kitOne K (.ref A.Je) (.ref A.Zd) = some false
  YaI : PySem.W.kitOne K (.ref A.yg) (.ref A.Zd) = some false
  Ycz : PySem.W.kitOne K (.type "NoneType") (.ref A.jc) = some false
  J6 : PySem.W.kitOne K (.ref A.Jb) (.ref A.jc) = some false
  Zap : PySem.W.kitOne K (.ref A.jc) (.ref A.jc) = some true
  yap : PySem.W.kitOne K (.ref A.Zd) (.ref A.jc) = some false
  Yap : PySem.W.kitOne K (.ref A.Yd) (.ref A.jc) = some false
  JX : PySem.W.kitOne K (.ref A.Yb) (.ref A.jc) = some false
  jap : PySem.W.kitOne K (.ref A.Jf) (.ref A.jc) = some false
  yax : PySem.W.kitOne K (.ref A.Jg) (.ref A.jc) = some false
  Yaf : PySem.W.kitOne K (.ref A.Je) (.ref A.jc) = some false
  jaI : PySem.W.kitOne K (.ref A.yg) (.ref A.jc) = some false
  ybc : PySem.W.kitOne K (.type "NoneType") (.ref A.Yb) = some false
  jJ : PySem.W.kitOne K (.ref A.Jb) (.ref A.Yb) = some false
  zY : PySem.W.kitOne K (.ref A.jc) (.ref A.Yb) = some false
  jY : PySem.W.kitOne K (.ref A.Zd) (.ref A.Yb) = some false
  zZ : PySem.W.kitOne K (.ref A.Yd) (.ref A.Yb) = some false
  JH : PySem.W.kitOne K (.ref A.Yb) (.ref A.Yb) = some true
  ZZ : PySem.W.kitOne K (.ref A.Jf) (.ref A.Yb) = some false
  Z7 : PySem.W.kitOne K (.ref A.Jg) (.ref A.Yb) = some false
  jP : PySem.W.kitOne K (.ref A.Je) (.ref A.Yb) = some false
  jaf : PySem.W.kitOne K (.ref A.yg) (.ref A.Yb) = some false
  Zbv : PySem.W.kitOne K (.type "NoneType") (.ref A.Jb) = some false
  JP : PySem.W.kitOne K (.ref A.Jb) (.ref A.Jb) = some true
  Y7 : PySem.W.kitOne K (.ref A.jc) (.ref A.Jb) = some false
  j7 : PySem.W.kitOne K (.ref A.Zd) (.ref A.Jb) = some false
  J7 : PySem.W.kitOne K (.ref A.Yd) (.ref A.Jb) = some false
  zK : PySem.W.kitOne K (.ref A.Yb) (.ref A.Jb) = some false
  Z8 : PySem.W.kitOne K (.ref A.Jf) (.ref A.Jb) = some false
  Jaf : PySem.W.kitOne K (.ref A.Jg) (.ref A.Jb) = some false
  yZ : PySem.W.kitOne K (.ref A.Je) (.ref A.Jb) = some false
  Jap : PySem.W.kitOne K (.ref A.yg) (.ref A.Jb) = some false
  jcz : PySem.W.kitOne K (.type "NoneType") (.ref A.Yd) = some false
  Y8 : PySem.W.kitOne K (.ref A.Jb) (.ref A.Yd) = some false
  zaq : PySem.W.kitOne K (.ref A.jc) (.ref A.Yd) = some false
  Zaq : PySem.W.kitOne K (.ref A.Zd) (.ref A.Yd) = some false
  yaq : PySem.W.kitOne K (.ref A.Yd) (.ref A.Yd) = some true
  YZ : PySem.W.kitOne K (.ref A.Yb) (.ref A.Yd) = some false
  Yaq : PySem.W.kitOne K (.ref A.Jf) (.ref A.Yd) = some false
  Yax : PySem.W.kitOne K (.ref A.Jg) (.ref A.Yd) = some false
  zag : PySem.W.kitOne K (.ref A.Je) (.ref A.Yd) = some false
  JaI : PySem.W.kitOne K (.ref A.yg) (.ref A.Yd) = some false
  Jee : PySem.W.kitOne K (.type "NoneType") (.ref A.yg) = some false
  jaq : PySem.W.kitOne K (.ref A.Jb) (.ref A.yg) = some false
  zaJ : PySem.W.kitOne K (.ref A.jc) (.ref A.yg) = some false
  ZaJ : PySem.W.kitOne K (.ref A.Zd) (.ref A.yg) = some false
  yaJ : PySem.W.kitOne K (.ref A.Yd) (.ref A.yg) = some false
  Zag : PySem.W.kitOne K (.ref A.Yb) (.ref A.yg) = some false
  YaJ : PySem.W.kitOne K (.ref A.Jf) (.ref A.yg) = some false
  ZaU : PySem.W.kitOne K (.ref A.Jg) (.ref A.yg) = some false
  jax : PySem.W.kitOne K (.ref A.Je) (.ref A.yg) = some false
  Ybc : PySem.W.kitOne K (.ref A.yg) (.ref A.yg) = some true
end Lr
namespace L2
open PySem PySem.Spec PyProof.Rows
theorem br {b : Bool} {p q : Prop} (h1 : b = true → p) (h2 : b = false → q) : if b = true then p else q := by
  cases b with
  | true => exact h1 rfl
  | false => exact h2 rfl
theorem brT {b : Bool} {p q : Prop} (e : b = true) (h : p) : if b = true then p else q := by
  subst e
  exact h
theorem brF {b : Bool} {p q : Prop} (e : b = false) (h : q) : if b = true then p else q := by
  subst e
  exact h
theorem ygi {t u : TT} {σ : St} {H : Hp} {c d : Bool} {Q : Bool → Hp → Prop} (ht : ∀ R : Bool → Hp → Prop, R c H → t σ H R) (hu : c = true → ∀ R : Bool → Hp → Prop, R d H → u σ H R) (q : Q (c && d) H) : jhE t u σ H Q := by
  refine ht _ (br (fun h => ?_) fun h => ?_)
  · subst h
    exact hu rfl _ q
  · subst h
    exact q
theorem ygX {t u : TT} {σ : St} {H : Hp} {c d : Bool} {Q : Bool → Hp → Prop} (ht : ∀ R : Bool → Hp → Prop, R c H → t σ H R) (hu : c = false → ∀ R : Bool → Hp → Prop, R d H → u σ H R) (q : Q (c || d) H) : tOr t u σ H Q := by
  refine ht _ (br (fun h => ?_) fun h => ?_)
  · subst h
    exact q
  · subst h
    exact hu rfl _ q
theorem ybD {t u : TE} {σ : St} {H : Hp} {c d : Bool} {Q : VK} (ht : ∀ R : VK, R (.bl c) H → t σ H R) (hu : c = true → ∀ R : VK, R (.bl d) H → u σ H R) (q : Q (.bl (c && d)) H) : Yhw t u σ H Q := by
  refine ht _ ⟨c, rfl, br (fun h => ?_) fun h => ?_⟩
  · subst h
    exact hu rfl _ q
  · subst h
    exact q
theorem je6 {t u : TE} {σ : St} {H : Hp} {c d : Bool} {Q : VK} (ht : ∀ R : VK, R (.bl c) H → t σ H R) (hu : c = false → ∀ R : VK, R (.bl d) H → u σ H R) (q : Q (.bl (c || d)) H) : JhE t u σ H Q := by
  refine ht _ ⟨c, rfl, br (fun h => ?_) fun h => ?_⟩
  · subst h
    exact q
  · subst h
    exact hu rfl _ q
theorem SqL.zhP {K : PySem.W.Frag} {H : Hp} {a D : Addr} {xs : List V} {o : HO} (h : SqL K H a xs) (hD : H D = Option.none) : SqL K (upd H D o) a xs := by
  refine ju.seq (fun b u e => ?_) h
  rw [Zc (yd e hD)]
  exact e
theorem Yas {α : Type} {l : List α} {i : Nat} {x : α} (h : l[i]? = some x) : l.take (i + 1) = l.take i ++ [x] := by
  rw [List.take_add_one, h]
  rfl
theorem YeN {K : PySem.W.Frag} {a : Addr} {xs : List V} {v : Nat} {tt : TT} {te : TE} {σ : St} {H1 : Hp} {D : Addr} {Qd : Hp → Prop} (f : V → Bool) (g : V → V) (hs : SqL K H1 a xs) (hD : H1 D = Option.none) (hz : xs.length ≤ sizeLine)
    (ht : ∀ (x : V) (acc : List V) (R : Bool → Hp → Prop), x ∈ xs → R (f x) (upd H1 D (.lst acc)) → tt ((σ.set v Option.none).set v (some x)) (upd H1 D (.lst acc)) R)
    (he : ∀ (x : V) (acc : List V) (R : VK), x ∈ xs → f x = true → R (g x) (upd H1 D (.lst acc)) → te ((σ.set v Option.none).set v (some x)) (upd H1 D (.lst acc)) R)
    (hd : Qd (upd H1 D (.lst ((xs.filter f).map g)))) :
    ∃ W : Nat → Nat → Hp → Prop, (∃ m, W 0 m (upd H1 D (.lst []))) ∧ ∀ i m H, W i m H →
      ((Itl K a).stop i H ∧ Qd H) ∨ ((Itl K a).go i H ∧ ∃ Nx : Hp → Prop, (∀ H', Nx H' → ∃ m', m' < m ∧ W (i + 1) m' H') ∧ ∀ x H', (Itl K a).yld i H x H' → Yf3 v x (wipe σ [v]) H' fun σ2 H2 => wipe σ2 [v] = wipe σ [v] ∧ tt σ2 H2 fun b H3 =>
        if b = true then te σ2 H3 fun y H4 => ∃ acc, H4 D = some (.lst acc) ∧ acc.length < sizeLine ∧ Nx (upd H4 D (.lst (acc ++ [y]))) else Nx H3) := by
  refine zgV (K := K) (a := a) (xs := xs) (g := Yf3 v) (vs := [v]) (fun i H' => H' = upd H1 D (.lst (((xs.take i).filter f).map g))) rfl (fun i H' _ e => by subst e; exact hs.zhP hD) (fun i x H' hx e => ?_) (fun H' e => ?_)
  · subst e
    have hm : x ∈ xs := List.mem_of_getElem? hx
    have hi : i < xs.length := (List.getElem?_eq_some_iff.mp hx).1
    show wipe ((wipe σ [v]).set v (some x)) [v] = wipe σ [v] ∧ _
    refine ⟨by simp [wipe], ht x _ _ hm ?_⟩
    rw [Yas hx, List.filter_append, List.map_append]
    cases e : f x with
    | false =>
      rw [if_neg (by simp)]
      simp [e]
    | true =>
      rw [if_pos rfl]
      refine he x _ _ hm e ⟨_, Ja, ?_, ?_⟩
      · rw [List.length_map]
        have h1 := List.length_filter_le f (xs.take i)
        rw [List.length_take] at h1
        omega
      · rw [Jai]
        simp [e]
  · subst e
    rw [List.take_length]
    exact hd
end L2
namespace Lr
open PySem PySem.Spec PyProof.Rows L2
abbrev Pl := Sy33.Place
def JfW (H : Hp) (v : V) (p : Pl) : Prop := ∃ a, v = .ref a ∧ H a = some (.tup [.int p.entry, .int p.amount])
abbrev yag (H : Hp) : List V → List Pl → Prop := Paired (JfW H)
theorem zcE {k : Nat} {A : Around} (r : jby k A) : A.units + 1 < cLine := by have := r.units; omega
theorem yag.same {H H' : Hp} (s : ju H H') {xs : List V} {ps : List Pl} (h : yag H xs ps) : yag H' xs ps := Paired.Zej h fun _ _ ⟨a, e, q⟩ => ⟨a, e, s _ _ q⟩
theorem yag.mem {H : Hp} : ∀ {xs : List V} {ps : List Pl} {x : V}, yag H xs ps → x ∈ xs → ∃ p, p ∈ ps ∧ JfW H x p
  | _, _, x, .cons r t, h => by
    rcases List.mem_cons.mp h with e | h
    · subst e
      exact ⟨_, List.mem_cons_self, r⟩
    · obtain ⟨p, hp, q⟩ := yag.mem t h
      exact ⟨p, List.mem_cons_of_mem _ hp, q⟩
theorem yag.get {H : Hp} : ∀ {xs : List V} {ps : List Pl} {i : Nat} {x : V}, yag H xs ps → xs[i]? = some x → ∃ p, ps[i]? = some p ∧ JfW H x p
  | _, _, 0, x, .cons r t, h => by
    have e := Option.some.inj h
    subst e
    exact ⟨_, rfl, r⟩
  | _, _, i + 1, x, .cons r t, h => yag.get (i := i) t h
theorem yag.app {H : Hp} : ∀ {xs ys : List V} {ps qs : List Pl}, yag H xs ps → yag H ys qs → yag H (xs ++ ys) (ps ++ qs)
  | _, _, _, _, .nil, h => h
  | _, _, _, _, .cons r t, h => .cons r (yag.app t h)
theorem yfq {K : PySem.W.Frag} {H : Hp} {b : Addr} {u v : V} {Q : VK} (h : H b = some (.tup [u, v])) (q : Q u H) : rIx K (.ref b) (.int 0) H Q := .inr (.inl ⟨b, _, 0, u, rfl, rfl, SqT.of h, rfl, q⟩)
theorem Jg4 {K : PySem.W.Frag} {H : Hp} {b : Addr} {u v : V} {Q : VK} (h : H b = some (.tup [u, v])) (q : Q v H) : rIx K (.ref b) (.int 1) H Q := .inr (.inl ⟨b, _, 1, v, rfl, rfl, SqT.of h, rfl, q⟩)
def zg5 (H : Hp) (v : V) : Int := match v with
  | .ref b => (match H b with
    | some (.tup [.int p, .int _]) => p
    | _ => 0)
  | _ => 0
def jgN (H : Hp) (v : V) : Int := match v with
  | .ref b => (match H b with
    | some (.tup [.int _, .int n]) => n
    | _ => 0)
  | _ => 0
theorem Yfy {H : Hp} {v : V} {p : Pl} (h : JfW H v p) : zg5 H v = p.entry := by
  obtain ⟨a, rfl, e⟩ := h
  simp only [zg5, e]
theorem jeN {H : Hp} {v : V} {p : Pl} (h : JfW H v p) : jgN H v = p.amount := by
  obtain ⟨a, rfl, e⟩ := h
  simp only [jgN, e]
theorem jbc {a b : Nat} : decide (V.int (a : Int) = V.int (b : Int)) = (a == b) := by
  rw [Bool.eq_iff_iff]
  simp
  omega
theorem Jd {H : Hp} {l : Addr} {o : HO} (h : H l = Option.none) : ju H (upd H l o) := fun b u e => by
  rw [Zc (yd e h)]
  exact e
theorem YgX {n : Nat} (h : n ≤ 100000) : n ≤ sizeLine := Nat.le_trans h (by decide)
theorem ycs {H : Hp} {xs : List V} {ps : List Pl} (h : yag H xs ps) : xs.length = ps.length := Paired.length h
theorem Je6 : ∀ (l : List Nat) (n : Nat), ((l.foldl (fun (a b : Nat) => a + b) n : Nat) : Int) = (n : Int) + (l.map fun (x : Nat) => (x : Int)).sum
  | [], n => by simp
  | a :: l, n => by
    rw [List.foldl_cons, Je6 l (n + a), List.map_cons, List.sum_cons]
    omega
theorem Ygi (H : Hp) (e : Nat) : ∀ {xs : List V} {ps : List Pl}, yag H xs ps → (xs.filter fun v => decide (V.int (zg5 H v) = V.int (e : Int))).map (fun v => V.int (jgN H v)) = ((ps.filter fun p => p.entry == e).map fun p => (p.amount : Int)).map V.int
  | _, _, .nil => rfl
  | _, _, .cons (b := p) r t => by
    rw [List.filter_cons, List.filter_cons, Yfy r, jbc]
    cases h : p.entry == e with
    | false =>
      rw [if_neg (by simp), if_neg (by simp)]
      exact Ygi H e t
    | true =>
      rw [if_pos rfl, if_pos rfl, List.map_cons, List.map_cons, List.map_cons, jeN r, Ygi H e t]
section
variable {P : Program} {w : World} {K : PySem.W.Frag} {mg : Str → Option Value} {base : Heap} {A : Adr}
def Zf9 (K : PySem.W.Frag) : Sp := fun vs H Q _ => ∃ (a : Addr) (xs : List V) (ps : List Pl) (e : Nat), vs = [.ref a, .int e] ∧ SqL K H a xs ∧ yag H xs ps ∧ ps.length ≤ 100000 ∧ ∀ H' : Hp, ju H H' → Q (.int (Sy33.amountOf ps e : Nat)) H'
theorem Zg5 (T : Txt K mg A) : Zf P w K mg base CX0 1 A.Ybl A.zdc ["places", "charge"] (Zf9 K) := by
  refine T.ZfF.ok Je4 (fun vs H Q E h => ?_) (fun cdv B outer s H vs Q E hr h => ?_)
  · obtain ⟨a, xs, ps, e, rfl, _⟩ := h
    rfl
  · obtain ⟨a, xs, ps, e, rfl, hS, hP, hL, k⟩ := h
    have hl := ycs hP
    refine ⟨_, (jb (yf (Zu (zht (K := K) rfl rfl) (by rfl) T.Jhi jf6 (Za (zf5 rfl Je4.nd (jaH (K := K) rfl (pv 0)) (own := [("place", 2)]) (by show ydy ["places", "charge", "place"] (za ya1) _ [("place", 2)]; exact ⟨rfl, by decide +kernel, by decide +kernel, by decide +kernel, by decide +kernel⟩) (fun _ _ _ _ _ => (zaj (i := 2) Je4.nd rfl (by first | exact Or.inl rfl | exact Or.inr rfl))) (fun _ _ _ _ _ => (Zgg (Yq YaL (Jj (Ye (K := K) rfl) (pv 2) je (fun _ _ => rfl)) (pv 1) (jm _)))) (fun _ _ _ _ _ => (Jj (Ye (K := K) rfl) (pv 2) je (fun _ _ => rfl)))) yc)))), ?_⟩
    refine ⟨_, rfl, a, rfl, ⟨_, hS⟩, fun D hD => YeN (K := K) (a := a) (xs := xs) (fun v => decide (V.int (zg5 H v) = V.int (e : Int))) (fun v => V.int (jgN H v)) hS hD (YgX (by omega)) ?_ ?_ ?_⟩
    · intro x acc R hx q
      obtain ⟨p, _, r⟩ := hP.mem hx
      have e1 := Yfy r
      obtain ⟨b, rfl, hb⟩ := r
      refine ⟨_, rfl, yfq (Jd hD _ _ hb) ⟨_, rfl, rfl, _, rfl, ?_⟩⟩
      simp only [e1] at q
      exact q
    · intro x acc R hx hf q
      obtain ⟨p, _, r⟩ := hP.mem hx
      have e1 := jeN r
      obtain ⟨b, rfl, hb⟩ := r
      refine ⟨_, rfl, Jg4 (Jd hD _ _ hb) ?_⟩
      simp only [e1] at q
      exact q
    · have e2 := Ygi H e hP
      refine ⟨D, (ps.filter fun p => p.entry == e).map fun p => (p.amount : Int), rfl, SqL.of ?_, ?_⟩
      · rw [Ja, e2]
      · have e3 := Je6 ((ps.filter fun p => p.entry == e).map fun p => p.amount) 0
        rw [List.map_map] at e3
        have e4 : (((ps.filter fun p => p.entry == e).map fun p => (p.amount : Int))).sum = (Sy33.amountOf ps e : Nat) := by
          unfold Sy33.amountOf Sy33.total
          rw [e3]
          simp only [Int.natCast_zero, Int.zero_add, Function.comp_def]
        rw [e4]
        exact k _ (Jd hD)
theorem ze7 (H : Hp) (e : Nat) : ∀ {xs : List V} {ps : List Pl}, yag H xs ps → yag H ((xs.filter fun v => !decide (V.int (zg5 H v) = V.int (e : Int))).map fun v => v) (ps.filter fun p => !(p.entry == e))
  | _, _, .nil => .nil
  | _, _, .cons (b := p) r t => by
    rw [List.filter_cons, List.filter_cons, Yfy r, jbc]
    cases h : p.entry == e with
    | true =>
      rw [if_neg (by simp), if_neg (by simp)]
      exact ze7 H e t
    | false =>
      exact .cons r (ze7 H e t)
def jfG (H : Hp) (ps : List Pl) (Q : VK) : Prop := ∀ (H' : Hp) (l : Addr) (ys : List V), ju H H' → H l = Option.none → H' l = some (.lst ys) → yag H' ys ps → Q (.ref l) H'
def JfG (K : PySem.W.Frag) : Sp := fun vs H Q _ => ∃ (a : Addr) (xs : List V) (ps : List Pl) (e : Nat), vs = [.ref a, .int e] ∧ SqL K H a xs ∧ yag H xs ps ∧ ps.length ≤ 100000 ∧ jfG H (ps.filter fun p => !(p.entry == e)) Q
theorem JgN (T : Txt K mg A) : Zf P w K mg base CX0 1 A.JaT A.ycA ["places", "charge"] (JfG K) := by
  refine T.ze6.ok jez (fun vs H Q E h => ?_) (fun cdv B outer s H vs Q E hr h => ?_)
  · obtain ⟨a, xs, ps, e, rfl, _⟩ := h
    rfl
  · obtain ⟨a, xs, ps, e, rfl, hS, hP, hL, k⟩ := h
    have hl := ycs hP
    refine ⟨_, (jb (yf (zf5 rfl jez.nd (jaH (K := K) rfl (pv 0)) (own := [("place", 2)]) (by show ydy ["places", "charge", "place"] (za JaH) _ [("place", 2)]; exact ⟨rfl, by decide +kernel, by decide +kernel, by decide +kernel, by decide +kernel⟩) (fun _ _ _ _ _ => (zaj (i := 2) jez.nd rfl (by first | exact Or.inl rfl | exact Or.inr rfl))) (fun _ _ _ _ _ => (Zgg (Yq jf3 (Jj (Ye (K := K) rfl) (pv 2) je (fun _ _ => rfl)) (pv 1) (jm _)))) (fun _ _ _ _ _ => (pv 2))))), ?_⟩
    refine ⟨_, rfl, a, rfl, ⟨_, hS⟩, fun D hD => YeN (K := K) (a := a) (xs := xs) (fun v => !decide (V.int (zg5 H v) = V.int (e : Int))) (fun v => v) hS hD (YgX (by omega)) ?_ ?_ ?_⟩
    · intro x acc R hx q
      obtain ⟨p, _, r⟩ := hP.mem hx
      have e1 := Yfy r
      obtain ⟨b, rfl, hb⟩ := r
      refine ⟨_, rfl, yfq (Jd hD _ _ hb) ⟨_, rfl, rfl, _, rfl, ?_⟩⟩
      simp only [e1] at q
      exact q
    · intro x acc R hx hf q
      exact ⟨_, rfl, q⟩
    · exact k _ D _ (Jd hD) hD Ja ((ze7 H e hP).same (Jd hD))
def jbp (a b : Nat) : List Pl → Bool
  | [] => false
  | p :: l => if p.entry = a then true else if p.entry = b then false else jbp a b l
def ydB (K : PySem.W.Frag) : Sp := fun vs H Q _ => ∃ (a : Addr) (xs : List V) (ps : List Pl) (x y : Nat), vs = [.ref a, .int x, .int y] ∧ SqL K H a xs ∧ yag H xs ps ∧ Q (.bl (jbp x y ps)) H
theorem yf9 {α : Type} {l : List α} {i : Nat} {x : α} (h : l[i]? = some x) : l.drop i = x :: l.drop (i + 1) := by
  obtain ⟨hi, e⟩ := List.getElem?_eq_some_iff.mp h
  rw [← e]
  exact List.drop_eq_getElem_cons hi
theorem Yfq (T : Txt K mg A) : Zf P w K mg base CX0 1 A.YL A.jaR ["places", "one", "other"] (ydB K) := by
  refine T.JcA.ok Jdy (fun vs H Q E h => ?_) (fun cdv B outer s H vs Q E hr h => ?_)
  · obtain ⟨a, xs, ps, x, y, rfl, _⟩ := h
    rfl
  · obtain ⟨a, xs, ps, x, y, rfl, hS, hP, k⟩ := h
    have hl := ycs hP
    refine ⟨_, (Yc (jdn PassesOwn.never rfl (jaH (K := K) rfl (pv 0)) (zaj (i := 3) Jdy.nd rfl (by first | exact Or.inl rfl | exact Or.inr rfl)) (Yc (yO (Yq YaL (Jj (Ye (K := K) rfl) (pv 3) je (fun _ _ => rfl)) (pv 1) (jm _)) (jb (yf ydO)) Zo) (jb (yO (Yq YaL (Jj (Ye (K := K) rfl) (pv 3) je (fun _ _ => rfl)) (pv 2) (jm _)) (jb (yf ydO)) Zo)))) (jb (yf ydO))), ?_⟩
    refine ⟨_, rfl, a, rfl, ⟨_, hS⟩, Jcz (K := K) (a := a) (xs := xs) (fun i σ H' => H' = H ∧ (∃ v, σ = [some (.ref a), some (.int x), some (.int y), v]) ∧ jbp x y ps = jbp x y (ps.drop i)) ⟨rfl, ⟨_, rfl⟩, rfl⟩ (fun i σ H' _ h => h.1 ▸ hS) ?_ ?_⟩
    · rintro i v σ H' hv ⟨rfl, ⟨v0, rfl⟩, e⟩
      obtain ⟨p, hp, b, rfl, hb⟩ := hP.get hv
      rw [yf9 hp] at e
      refine ⟨_, rfl, yfq hb ⟨_, rfl, rfl, _, rfl, ?_⟩⟩
      rw [jbc]
      refine br (fun h1 => ?_) (fun h1 => ?_)
      · have h1 := eq_of_beq h1
        have e2 : jbp x y ps = true := by rw [e]; simp [jbp, h1]
        show Q (.bl true) H'
        rw [← e2]
        exact k
      · have h1 : ¬ p.entry = x := by simpa using h1
        refine ⟨_, rfl, yfq hb ⟨_, rfl, rfl, _, rfl, ?_⟩⟩
        rw [jbc]
        refine br (fun h2 => ?_) (fun h2 => ?_)
        · have h2 := eq_of_beq h2
          have e2 : jbp x y ps = false := by rw [e]; rw [h2] at h1; simp [jbp, h1, h2]
          show Q (.bl false) H'
          rw [← e2]
          exact k
        · have h2 : ¬ p.entry = y := by simpa using h2
          refine ⟨rfl, ⟨_, rfl⟩, ?_⟩
          rw [e]
          simp [jbp, h1, h2]
    · rintro σ H' ⟨rfl, ⟨v0, rfl⟩, e⟩
      rw [hl, List.drop_length] at e
      show Q (.bl false) H'
      have e2 : jbp x y ps = false := e
      rw [← e2]
      exact k
def zgO (a n b m : Nat) : List Pl := (if n = 0 then [] else [⟨a, n⟩]) ++ (if m = 0 then [] else [⟨b, m⟩])
def refl (a b : Nat) : Nat → List Pl → List Pl
  | _, [] => []
  | x, p :: l => if p.entry = a ∨ p.entry = b then zgO a (min x p.amount) b (p.amount - min x p.amount) ++ refl a b (x - min x p.amount) l else p :: refl a b x l
theorem Ze7 (a b : Nat) : ∀ (l : List Pl) (x y : Nat), Sy33.refill a b x y l = refl a b x l
  | [], _, _ => rfl
  | p :: l, x, y => by
    unfold Sy33.refill refl
    by_cases h : p.entry = a ∨ p.entry = b
    · rw [if_pos h, if_pos h]
      show _ ++ (_ ++ _) = _
      rw [Ze7 a b l, zgO, List.append_assoc]
      have e : (min x p.amount = p.amount) = (p.amount - min x p.amount = 0) := by
        apply propext
        omega
      simp only [e]
    · rw [if_neg h, if_neg h, Ze7 a b l]
theorem yg5 (a b : Nat) (l : List Pl) : Sy33.before_ a b l = refl a b (Sy33.amountOf l a) l := Ze7 a b l _ _
theorem zhj (a n b m : Nat) : (zgO a n b m).length ≤ 2 := by
  unfold zgO
  split <;> split <;> simp
def YdB : Sp := fun vs H Q _ => ∃ (a n b m : Nat), vs = [.int a, .int n, .int b, .int m] ∧ jfG H (zgO a n b m) Q
theorem jgX {n : Nat} : decide ((0 : Int) < (n : Int)) = !(decide (n = 0)) := by
  rw [Bool.eq_iff_iff]
  simp
  omega
theorem jfq (T : Txt K mg A) : Zf P w K mg base CX0 1 A.jL A.JaR ["one", "part", "other", "rest"] YdB := by
  refine T.zcB.ok Yce (fun vs H Q E h => ?_) (fun cdv B outer s H vs Q E hr h => ?_)
  · obtain ⟨a, n, b, m, rfl, _⟩ := h
    rfl
  · obtain ⟨a, n, b, m, rfl, k⟩ := h
    refine ⟨_, (jb (yf (zf5 rfl Yce.nd (jaH (K := K) rfl (yaw (Za (je3 (Za (pv 0) (Za (pv 1) yc))) (Za (je3 (Za (pv 2) (Za (pv 3) yc))) yc)))) (own := [("place", 4)]) (by show ydy ["one", "part", "other", "rest", "place"] (za yE) _ [("place", 4)]; exact ⟨rfl, by decide +kernel, by decide +kernel, by decide +kernel, by decide +kernel⟩) (fun _ _ _ _ _ => (zaj (i := 4) Yce.nd rfl (by first | exact Or.inl rfl | exact Or.inr rfl))) (fun _ _ _ _ _ => (Zgg (Yq ygU (Jj (Ye (K := K) rfl) (pv 4) je (fun _ _ => rfl)) je (jm _)))) (fun _ _ _ _ _ => (pv 4))))), ?_⟩
    refine ⟨_, rfl, _, rfl, (by show 2 ≤ sizeLine; decide), fun t1 h1 => ?_⟩
    refine ⟨_, rfl, _, rfl, (by show 2 ≤ sizeLine; decide), fun t2 h2 => ?_⟩
    refine ⟨(by show 2 ≤ sizeLine; decide), fun l hl => ?_⟩
    have s1 := Jd (o := .tup [.int a, .int n]) h1
    have s2 := Jd (o := .tup [.int b, .int m]) h2
    have s3 := Jd (o := .lst [.ref t1, .ref t2]) hl
    have p1 : JfW (upd (upd (upd H t1 (.tup [.int a, .int n])) t2 (.tup [.int b, .int m])) l (.lst [.ref t1, .ref t2])) (.ref t1) ⟨a, n⟩ := ⟨t1, rfl, s3 _ _ (s2 _ _ Ja)⟩
    have p2 : JfW (upd (upd (upd H t1 (.tup [.int a, .int n])) t2 (.tup [.int b, .int m])) l (.lst [.ref t1, .ref t2])) (.ref t2) ⟨b, m⟩ := ⟨t2, rfl, s3 _ _ Ja⟩
    have sT := (s1.trans s2).trans s3
    refine ⟨l, rfl, ⟨_, SqL.of Ja⟩, fun D hD => ?_⟩
    generalize hG : upd (upd (upd H t1 (.tup [.int a, .int n])) t2 (.tup [.int b, .int m])) l (.lst [.ref t1, .ref t2]) = G at *
    have hGl : G l = some (.lst [.ref t1, .ref t2]) := by rw [← hG]; exact Ja
    refine YeN (K := K) (a := l) (xs := [.ref t1, .ref t2]) (fun v => decide (0 < jgN G v)) (fun v => v) (SqL.of hGl) hD (by show 2 ≤ sizeLine; decide) ?_ ?_ ?_
    · intro x acc R hx q
      obtain ⟨p, hp, r⟩ : ∃ p : Pl, p ∈ ([⟨a, n⟩, ⟨b, m⟩] : List Pl) ∧ JfW G x p := by
        rcases List.mem_cons.mp hx with e | hx
        · subst e; exact ⟨_, by simp, p1⟩
        · rcases List.mem_cons.mp hx with e | hx
          · subst e; exact ⟨_, by simp, p2⟩
          · cases hx
      have e1 := jeN r
      obtain ⟨c, rfl, hc⟩ := r
      refine ⟨_, rfl, Jg4 (Jd hD _ _ hc) ⟨_, _, rfl, rfl, _, rfl, ?_⟩⟩
      simp only [e1] at q
      exact q
    · intro x acc R hx hf q
      exact ⟨_, rfl, q⟩
    · refine k _ D _ (sT.trans (Jd hD)) (sT.free hD) Ja ?_
      have e1 := jeN p1
      have e2 := jeN p2
      have q1 : JfW (upd G D (.lst (List.map (fun v => v) (List.filter (fun v => decide (0 < jgN G v)) [V.ref t1, V.ref t2])))) (.ref t1) ⟨a, n⟩ := let ⟨c, e, q⟩ := p1; ⟨c, e, Jd hD _ _ q⟩
      have q2 : JfW (upd G D (.lst (List.map (fun v => v) (List.filter (fun v => decide (0 < jgN G v)) [V.ref t1, V.ref t2])))) (.ref t2) ⟨b, m⟩ := let ⟨c, e, q⟩ := p2; ⟨c, e, Jd hD _ _ q⟩
      rw [List.filter_cons, List.filter_cons, List.filter_nil, e1, e2, jgX, jgX] at *
      unfold zgO
      by_cases hn : n = 0
      · by_cases hm : m = 0
        · simp [hn, hm]; exact .nil
        · simp [hn, hm] at q2 ⊢; exact .cons q2 .nil
      · by_cases hm : m = 0
        · simp [hn, hm] at q1 ⊢; exact .cons q1 .nil
        · simp [hn, hm] at q1 q2 ⊢; exact .cons q1 (.cons q2 .nil)
def JeN (K : PySem.W.Frag) : Sp := fun vs H Q _ => ∃ (a : Addr) (xs : List V) (ps : List Pl) (x y : Nat), vs = [.ref a, .int x, .int y] ∧ SqL K H a xs ∧ yag H xs ps ∧ ps.length ≤ 100000 ∧ jfG H (Sy33.before_ x y ps) Q
theorem jgi (T : Txt K mg A) : Zf P w K mg base CX0 2 A.Jam A.Ybz ["places", "one", "other"] (JeN K) := by
  have Zhj : Zf P w K mg base CX0 1 A.Ybl A.zdc ["places", "charge"] (Zf9 K) := Zg5 T
  have zfH : Zf P w K mg base CX0 1 A.jL A.JaR ["one", "part", "other", "rest"] YdB := jfq T
  refine T.zdS.ok Jba (fun vs H Q E h => ?_) (fun cdv B outer s H vs Q E hr h => ?_)
  · obtain ⟨a, xs, ps, x, y, rfl, _⟩ := h
    rfl
  · obtain ⟨a, xs, ps, x, y, rfl, hS, hP, hL, k⟩ := h
    have hl := ycs hP
    refine ⟨_, (Yc (zac (i := 3) Jba.nd rfl (by first | exact Or.inl rfl | exact Or.inr rfl) (yaw yc)) (Yc (zac (i := 4) Jba.nd rfl (by first | exact Or.inl rfl | exact Or.inr rfl) (zE Zhj (hr.mono (by decide)) (by rfl) T.jgx T.ZfF.kp T.Ygx .nil Jh (Za (pv 0) (Za (pv 1) yc)))) (Yc (jdn PassesOwn.never rfl (jaH (K := K) rfl (pv 0)) (zaj (i := 5) Jba.nd rfl (by first | exact Or.inl rfl | exact Or.inr rfl)) (jb (yO (PW.pt (pw_and (Yq jf3 (Jj (Ye (K := K) rfl) (pv 5) je (fun _ _ => rfl)) (pv 1) (jm _)) (pw_and1 (Yq jf3 (Jj (Ye (K := K) rfl) (pv 5) je (fun _ _ => rfl)) (pv 2) (jm _))))) (jb (jD (Zen PySem.F.plainAttrs_list PySem.F.slot_list_append PySem.F.type_list_append ybU (pv 3) (Za (pv 5) yc)))) (Yc (zac (i := 6) Jba.nd rfl (by first | exact Or.inl rfl | exact Or.inr rfl) (Zu (Jf3 rfl) (by rfl) T.jhi Yf6 (Za (pv 4) (Za (Jj (Ye (K := K) rfl) (pv 5) je (fun _ _ => rfl)) yc)))) (Yc (jD (Zen PySem.F.plainAttrs_list PySem.F.slot_list_extend PySem.F.type_list_extend Je3 (pv 3) (Za (zE zfH (hr.mono (by decide)) (by rfl) T.ydS T.zcB.kp T.ZdS .nil Jh (Za (pv 1) (Za (pv 6) (Za (pv 2) (Za (JeH ZgK (Jj (Ye (K := K) rfl) (pv 5) je (fun _ _ => rfl)) (pv 6)) yc))))) yc))) (jb (Zhb (i := 4) Jba.nd rfl (by first | exact Or.inl rfl | exact Or.inr rfl) (pv 6) yhb))))))) (jb (yf (pv 3)))))), ?_⟩
    refine ⟨Nat.zero_le _, fun f hf => ?_⟩
    have s1 := Jd (o := .lst []) hf
    refine ⟨_, rfl, _, rfl, a, xs, ps, x, rfl, s1.seq hS, hP.same s1, hL, fun H1 s2 => ?_⟩
    have s12 := s1.trans s2
    rw [yg5] at k
    refine ⟨_, rfl, a, rfl, ⟨_, s12.seq hS⟩, Jcz (K := K) (a := a) (xs := xs) (fun i σ H' => ∃ (left : Nat) (v5 v6 : Option V) (ys : List V) (done : List Pl), σ = [some (.ref a), some (.int x), some (.int y), some (.ref f), some (.int left), v5, v6] ∧ ju H H' ∧ H' f = some (.lst ys) ∧ yag H' ys done ∧ done.length ≤ 2 * i ∧
        refl x y (Sy33.amountOf ps x) ps = done ++ refl x y left (ps.drop i)) ⟨_, _, _, _, _, rfl, s12, s2 _ _ Ja, .nil, Nat.le_refl _, rfl⟩ (fun i σ H' _ ⟨_, _, _, _, _, _, s3, _⟩ => s3.seq hS) ?_ ?_⟩
    · rintro i v σ H' hv ⟨left, v5, v6, ys, done, rfl, s3, hf3, hd3, hn3, e⟩
      obtain ⟨p, hp, b, rfl, hb⟩ := hP.get hv
      have hi : i < xs.length := (List.getElem?_eq_some_iff.mp hv).1
      have hlen := ycs hd3
      rw [yf9 hp] at e
      have hb3 := s3 _ _ hb
      have hfn : f ≠ b := yaR hf3 hb3 (by intro z; cases z)
      refine ygi (c := !decide (V.int (p.entry : Int) = V.int (x : Int))) (d := !decide (V.int (p.entry : Int) = V.int (y : Int))) (fun R q => ⟨_, rfl, yfq hb3 ⟨_, rfl, rfl, _, rfl, q⟩⟩) (fun _ R q => ⟨_, rfl, yfq hb3 ⟨_, rfl, rfl, _, rfl, q⟩⟩) ?_
      rw [jbc, jbc]
      refine br (fun z => ?_) (fun z => ?_)
      · have hxy : ¬ (p.entry = x ∨ p.entry = y) := by simp at z; omega
        refine ⟨_, rfl, .inl ⟨rfl, _, SqL.of hf3⟩, _, rfl, f, ys, _, rfl, rfl, hf3, Nat.lt_of_le_of_lt (show ys.length ≤ 200000 by omega) (by decide), ?_⟩
        have s4 : ju H (upd H' f (.lst (ys ++ [.ref b]))) := fun c o q => by
          rw [Zc (yd q hf)]
          exact s3 _ _ q
        refine ⟨left, _, _, _, done ++ [p], rfl, s4, Ja, ?_, ?_, ?_⟩
        · refine yag.app (Paired.Zej hd3 fun v q ⟨c, e1, e2⟩ => ⟨c, e1, ?_⟩) (.cons ⟨b, rfl, ?_⟩ .nil)
          · rw [Zc (yaR e2 hf3 (by intro z; cases z))]
            exact e2
          · rw [Zc (Ne.symm hfn)]
            exact hb3
        · rw [List.length_append]
          show done.length + 1 ≤ _
          omega
        · rw [e, List.append_assoc]
          show _ = done ++ (p :: _)
          rw [refl, if_neg hxy]
          rfl
      · have hxy : p.entry = x ∨ p.entry = y := by simp at z; omega
        refine ⟨_, rfl, _, rfl, Jg4 hb3 ⟨_, _, rfl, ?_⟩⟩
        have e1 : (if (p.amount : Int) < (left : Int) then (p.amount : Int) else (left : Int)) = ((min left p.amount : Nat) : Int) := by split <;> omega
        rw [e1]
        refine ⟨_, rfl, .inl ⟨rfl, _, SqL.of hf3⟩, _, rfl, _, rfl, _, rfl, _, rfl, Jg4 hb3 ⟨_, rfl, _, _, rfl, rfl, x, min left p.amount, y, p.amount - min left p.amount, ?_, ?_⟩⟩
        · have e2 : (p.amount : Int) - ((min left p.amount : Nat) : Int) = ((p.amount - min left p.amount : Nat) : Int) := by omega
          show [V.int (x : Int), V.int ((min left p.amount : Nat) : Int), V.int (y : Int), V.int ((p.amount : Int) - ((min left p.amount : Nat) : Int))] = _
          rw [e2]
        · intro H4 l zs s4 hl4 hz4 hq4
          have hf4 := s4 _ _ hf3
          have hfl : f ≠ l := yd hf3 hl4
          have hz := zhj x (min left p.amount) y (p.amount - min left p.amount)
          have hzl := ycs hq4
          refine ⟨f, l, ys, zs, rfl, rfl, hf4, hz4, Nat.le_trans (show ys.length + zs.length ≤ 200002 by omega) (by decide), ?_⟩
          refine ⟨_, rfl, _, rfl, _, _, rfl, rfl, ?_⟩
          have s5 : ju H (upd H4 f (.lst (ys ++ zs))) := fun c o q => by
            rw [Zc (yd q hf)]
            exact s4 _ _ (s3 _ _ q)
          have e3 : (left : Int) - ((min left p.amount : Nat) : Int) = ((left - min left p.amount : Nat) : Int) := by omega
          dsimp only
          rw [e3]
          refine ⟨left - min left p.amount, _, _, _, done ++ zgO x (min left p.amount) y (p.amount - min left p.amount), rfl, s5, Ja, ?_, ?_, ?_⟩
          · refine yag.app (Paired.Zej hd3 fun v q ⟨c, e1, e2⟩ => ⟨c, e1, ?_⟩) (Paired.Zej hq4 fun v q ⟨c, e1, e2⟩ => ⟨c, e1, ?_⟩)
            · rw [Zc (yaR e2 hf3 (by intro z; cases z))]
              exact s4 _ _ e2
            · rw [Zc (yaR e2 hf4 (by intro z; cases z))]
              exact e2
          · rw [List.length_append]
            omega
          · rw [e, List.append_assoc, refl, if_pos hxy]
    · rintro σ H' ⟨left, v5, v6, ys, done, rfl, s3, hf3, hd3, hn3, e⟩
      rw [hl, List.drop_length] at e
      rw [show refl x y left [] = [] from rfl, List.append_nil] at e
      rw [e] at k
      exact ⟨_, rfl, k H' f ys s3 hf hf3 hd3⟩
end
end Lr
namespace Lr
open Sy33 (Call Act File)
abbrev casts (l : List Nat) : List Int := l.map fun (x : Nat) => (x : Int)
inductive yad : List Int → Call → Prop
  | begins (p : Nat) (o : List Nat) (hp : p < 2 ^ 32) (hl : o.length ≤ 60) (ho : ∀ x ∈ o, x < 2 ^ 32) : yad ((0 : Int) :: (p : Int) :: (o.length : Int) :: casts o) (.begins p o)
  | transfer (d q x y k : Nat) (hk : k ≤ 1) : yad [1, (d : Int), q, x, y, k] (.act d (.transfer q x y (k == 1)))
  | charge (d q x y n k : Nat) (hk : k ≤ 1) : yad [2, (d : Int), q, x, y, n, k] (.act d (.charge q x y n (k == 1)))
  | notice (d q x y k : Nat) (hk : k ≤ 1) : yad [3, (d : Int), q, x, y, k] (.act d (.notice q x y (k == 1)))
  | fulfil (d e k : Nat) (hk : k ≤ 1) : yad [4, (d : Int), e, k] (.act d (.fulfil e (k == 1)))
  | objection (d q x : Nat) : yad [5, (d : Int), q, x] (.act d (.objection q x))
  | strike (d e x : Nat) : yad [6, (d : Int), e, x] (.act d (.strike e x))
  | ahead (d x y : Nat) : yad [7, (d : Int), x, y] (.act d (.ahead x y))
  | correct (d q : Nat) : yad [8, (d : Int), q] (.act d (.correct q))
  | void_ (d e : Nat) : yad [9, (d : Int), e] (.act d (.void_ e))
  | owner (q d k : Nat) : yad [10, (q : Int), d, k] (.owner q d k)
  | charges (q d k : Nat) : yad [11, (q : Int), d, k] (.charges q d k)
  | rely (q d k : Nat) : yad [12, (q : Int), d, k] (.rely q d k)
  | sale (q d k n : Nat) : yad [13, (q : Int), d, k, n] (.sale q d k n)
  | stands (q d : Nat) : yad [14, (q : Int), d] (.stands q d)
  | days (q k : Nat) : yad [15, (q : Int), k] (.days q k)
theorem yhj {l : List Int} {x : Nat} {r : List Int} (h : Sy33Neutral.natIn l = some (x, r)) : l = (x : Int) :: r ∧ x < 2 ^ 32 := by
  cases l with
  | nil => cases h
  | cons n l =>
    have h : (if 0 ≤ n ∧ n < 2 ^ 32 then some (n.toNat, l) else none) = some (x, r) := h
    split at h
    · rename_i hn
      obtain ⟨e1, e2⟩ := Prod.mk.inj (Option.some.inj h)
      subst e1 e2
      refine ⟨?_, ?_⟩
      · congr 1
        omega
      · have := hn.2
        omega
    · cases h
theorem jfy : ∀ (k : Nat) {l : List Int} {xs : List Nat} {r : List Int}, Sy33Neutral.many_ Sy33Neutral.natIn k l = some (xs, r) → l = casts xs ++ r ∧ xs.length = k ∧ ∀ x ∈ xs, x < 2 ^ 32
  | 0, l, xs, r, h => by
    obtain ⟨e1, e2⟩ := Prod.mk.inj (Option.some.inj (show some (([] : List Nat), l) = some (xs, r) from h))
    subst e1 e2
    exact ⟨rfl, rfl, fun x hx => by cases hx⟩
  | k + 1, l, xs, r, h => by
    unfold Sy33Neutral.many_ at h
    obtain ⟨⟨x, l1⟩, h1, h2⟩ := Option.bind_eq_some_iff.mp h
    obtain ⟨⟨ys, l2⟩, h3, h4⟩ := Option.map_eq_some_iff.mp h2
    obtain ⟨e1, e2⟩ := Prod.mk.inj h4
    have e1 : x :: ys = xs := e1
    have e2 : l2 = r := e2
    subst e1 e2
    obtain ⟨a1, a2⟩ := yhj h1
    obtain ⟨b1, b2, b3⟩ := jfy k h3
    have b1 : l1 = casts ys ++ l2 := b1
    refine ⟨?_, by rw [List.length_cons, b2], fun y hy => ?_⟩
    · rw [a1, b1]
      rfl
    · rcases List.mem_cons.mp hy with e | hy
      · subst e; exact a2
      · exact b3 y hy
theorem ZgO {α : Type} {o : Option (α × List Int)} {a : α} (h : Sy33Neutral.all_ o = some a) : o = some (a, []) := by
  unfold Sy33Neutral.all_ at h
  obtain ⟨⟨b, r⟩, h1, h2⟩ := Option.bind_eq_some_iff.mp h
  split at h2
  · rename_i hr
    have e := Option.some.inj h2
    subst e
    cases r with
    | nil => exact h1
    | cons _ _ => cases hr
  · cases h2
theorem jht {k : Nat} {l : List Int} {xs : List Nat} (h : Sy33Neutral.all_ (Sy33Neutral.some_ k l) = some xs) : l = casts xs ∧ xs.length = k := by
  obtain ⟨h1, h2, _⟩ := jfy k (show Sy33Neutral.many_ Sy33Neutral.natIn k l = some (xs, []) from ZgO h)
  rw [List.append_nil] at h1
  exact ⟨h1, h2⟩
theorem Jht {k : Nat} {l : List Int} {x : List Nat × Bool} (h : Sy33Neutral.all_ (Sy33Neutral.flagged k l) = some x) : l = casts x.1 ∧ x.1.length = k ∧ x.1.getD (k - 1) 0 ≤ 1 ∧ x.2 = (x.1.getD (k - 1) 0 == 1) := by
  have h1 := ZgO h
  unfold Sy33Neutral.flagged at h1
  obtain ⟨⟨xs, r⟩, h2, h3⟩ := Option.bind_eq_some_iff.mp h1
  split at h3
  · rename_i hk
    obtain ⟨e1, e2⟩ := Prod.mk.inj (Option.some.inj h3)
    have e2 : r = [] := e2
    subst e2
    obtain ⟨a1, a2, _⟩ := jfy k (show Sy33Neutral.many_ Sy33Neutral.natIn k l = some (xs, []) from h2)
    rw [List.append_nil] at a1
    rw [← e1]
    exact ⟨a1, a2, hk, rfl⟩
  · cases h3
theorem ZhP {l : List Nat} (h : l.length = 2) : ∃ a b, l = [a, b] := by
  match l, h with
  | [a, b], _ => exact ⟨a, b, rfl⟩
theorem JhK {l : List Nat} (h : l.length = 3) : ∃ a b c, l = [a, b, c] := by
  match l, h with
  | [a, b, c], _ => exact ⟨a, b, c, rfl⟩
theorem yhP {l : List Nat} (h : l.length = 4) : ∃ a b c d, l = [a, b, c, d] := by
  match l, h with
  | [a, b, c, d], _ => exact ⟨a, b, c, d, rfl⟩
theorem YhP {l : List Nat} (h : l.length = 5) : ∃ a b c d e, l = [a, b, c, d, e] := by
  match l, h with
  | [a, b, c, d, e], _ => exact ⟨a, b, c, d, e, rfl⟩
theorem jhP {l : List Nat} (h : l.length = 6) : ∃ a b c d e f, l = [a, b, c, d, e, f] := by
  match l, h with
  | [a, b, c, d, e, f], _ => exact ⟨a, b, c, d, e, f, rfl⟩
theorem call_in {l : List Int} {c : Call} (h : Sy33Neutral.callOf l = some c) : yad l c := by
  unfold Sy33Neutral.callOf at h
  split at h
  · rename_i l
    have h1 := ZgO h
    obtain ⟨⟨p, r⟩, h2, h3⟩ := Option.bind_eq_some_iff.mp h1
    obtain ⟨⟨o, r2⟩, h4, h5⟩ := Option.map_eq_some_iff.mp h3
    obtain ⟨e1, e2⟩ := Prod.mk.inj h5
    have e2 : r2 = [] := e2
    subst e2
    obtain ⟨a1, a2⟩ := yhj h2
    unfold Sy33Neutral.rowIn Sy33Neutral.listIn at h4
    cases r with
    | nil => cases h4
    | cons n r =>
      dsimp only at h4
      split at h4
      · rename_i hn
        obtain ⟨b1, b2, b3⟩ := jfy _ h4
        rw [List.append_nil] at b1
        subst a1 b1
        have e3 : n = (o.length : Int) := by omega
        subst e3
        rw [← e1]
        exact .begins p o a2 (by omega) b3
      · cases h4
  all_goals (first
    | (obtain ⟨x, h1, h2⟩ := Option.map_eq_some_iff.mp h
       obtain ⟨e1, e2, e3, e4⟩ := Jht h1
       obtain ⟨xs, b⟩ := x
       subst h2
       dsimp only at e1 e2 e3 e4 ⊢
       subst e4
       first
         | (obtain ⟨a, b, c, rfl⟩ := JhK e2; subst e1; exact .fulfil _ _ _ e3)
         | (obtain ⟨a, b, c, d, e, rfl⟩ := YhP e2; subst e1; first | exact .transfer _ _ _ _ _ e3 | exact .notice _ _ _ _ _ e3)
         | (obtain ⟨a, b, c, d, e, f, rfl⟩ := jhP e2; subst e1; exact .charge _ _ _ _ _ _ e3))
    | (obtain ⟨xs, h1, h2⟩ := Option.map_eq_some_iff.mp h
       obtain ⟨e1, e2⟩ := jht h1
       subst h2
       first
         | (obtain ⟨a, b, rfl⟩ := ZhP e2; subst e1; first | exact .correct _ _ | exact .void_ _ _ | exact .stands _ _ | exact .days _ _)
         | (obtain ⟨a, b, c, rfl⟩ := JhK e2; subst e1; first | exact .objection _ _ _ | exact .strike _ _ _ | exact .ahead _ _ _ | exact .owner _ _ _ | exact .charges _ _ _ | exact .rely _ _ _)
         | (obtain ⟨a, b, c, d, rfl⟩ := yhP e2; subst e1; exact .sale _ _ _ _))
    | cases h)
theorem ZcE {α : Type} {l : List α} (h : 0 = l.length) : l = [] := by
  match l, h with
  | [], _ => rfl
theorem Zhy {α : Type} {l : List α} (h : 1 = l.length) : ∃ a, l = [a] := by
  match l, h with
  | [a], _ => exact ⟨a, rfl⟩
theorem JgX {α : Type} {l : List α} (h : 2 = l.length) : ∃ a b, l = [a, b] := by
  match l, h with
  | [a, b], _ => exact ⟨a, b, rfl⟩
theorem ZfH {α : Type} {l : List α} (h : 3 = l.length) : ∃ a b c, l = [a, b, c] := by
  match l, h with
  | [a, b, c], _ => exact ⟨a, b, c, rfl⟩
theorem zhL {α : Type} {l : List α} (h : 4 = l.length) : ∃ a b c d, l = [a, b, c, d] := by
  match l, h with
  | [a, b, c, d], _ => exact ⟨a, b, c, d, rfl⟩
theorem yhy {α : Type} {l : List α} (h : 5 = l.length) : ∃ a b c d e, l = [a, b, c, d, e] := by
  match l, h with
  | [a, b, c, d, e], _ => exact ⟨a, b, c, d, e, rfl⟩
theorem ZhL {α : Type} {l : List α} (h : 6 = l.length) : ∃ a b c d e f, l = [a, b, c, d, e, f] := by
  match l, h with
  | [a, b, c, d, e, f], _ => exact ⟨a, b, c, d, e, f, rfl⟩
theorem Yg5 {c : List (List Int)} (h : PyFlat.okCall PySy33.shape c) : (PySy33.whole c).headD [] = PyFlat.put1 c := by
  obtain ⟨p, a, xs, rfl, hs⟩ := h
  unfold PySy33.shape at hs
  by_cases e0 : p = 0
  · subst e0
    rw [if_pos rfl] at hs
    obtain ⟨h1, h2⟩ := Prod.mk.inj (Option.some.inj hs)
    obtain ⟨r0, rfl⟩ := Zhy h2
    obtain ⟨x0, rfl⟩ := Zhy h1
    show (0 : Int) :: x0 :: (r0.length : Int) :: r0 = (0 : Int) :: x0 :: (((r0.length : Int) :: r0) ++ [])
    rw [List.append_nil]
  rw [if_neg e0] at hs
  by_cases e1 : p = 1
  · subst e1
    rw [if_pos rfl] at hs
    obtain ⟨h1, h2⟩ := Prod.mk.inj (Option.some.inj hs)
    obtain rfl := ZcE h2
    obtain ⟨x0, x1, x2, x3, x4, rfl⟩ := yhy h1
    rfl
  rw [if_neg e1] at hs
  by_cases e2 : p = 2
  · subst e2
    rw [if_pos rfl] at hs
    obtain ⟨h1, h2⟩ := Prod.mk.inj (Option.some.inj hs)
    obtain rfl := ZcE h2
    obtain ⟨x0, x1, x2, x3, x4, x5, rfl⟩ := ZhL h1
    rfl
  rw [if_neg e2] at hs
  by_cases e3 : p = 3
  · subst e3
    rw [if_pos rfl] at hs
    obtain ⟨h1, h2⟩ := Prod.mk.inj (Option.some.inj hs)
    obtain rfl := ZcE h2
    obtain ⟨x0, x1, x2, x3, x4, rfl⟩ := yhy h1
    rfl
  rw [if_neg e3] at hs
  by_cases e4 : p = 4
  · subst e4
    rw [if_pos rfl] at hs
    obtain ⟨h1, h2⟩ := Prod.mk.inj (Option.some.inj hs)
    obtain rfl := ZcE h2
    obtain ⟨x0, x1, x2, rfl⟩ := ZfH h1
    rfl
  rw [if_neg e4] at hs
  by_cases e5 : p = 5
  · subst e5
    rw [if_pos rfl] at hs
    obtain ⟨h1, h2⟩ := Prod.mk.inj (Option.some.inj hs)
    obtain rfl := ZcE h2
    obtain ⟨x0, x1, x2, rfl⟩ := ZfH h1
    rfl
  rw [if_neg e5] at hs
  by_cases e6 : p = 6
  · subst e6
    rw [if_pos rfl] at hs
    obtain ⟨h1, h2⟩ := Prod.mk.inj (Option.some.inj hs)
    obtain rfl := ZcE h2
    obtain ⟨x0, x1, x2, rfl⟩ := ZfH h1
    rfl
  rw [if_neg e6] at hs
  by_cases e7 : p = 7
  · subst e7
    rw [if_pos rfl] at hs
    obtain ⟨h1, h2⟩ := Prod.mk.inj (Option.some.inj hs)
    obtain rfl := ZcE h2
    obtain ⟨x0, x1, x2, rfl⟩ := ZfH h1
    rfl
  rw [if_neg e7] at hs
  by_cases e8 : p = 8
  · subst e8
    rw [if_pos rfl] at hs
    obtain ⟨h1, h2⟩ := Prod.mk.inj (Option.some.inj hs)
    obtain rfl := ZcE h2
    obtain ⟨x0, x1, rfl⟩ := JgX h1
    rfl
  rw [if_neg e8] at hs
  by_cases e9 : p = 9
  · subst e9
    rw [if_pos rfl] at hs
    obtain ⟨h1, h2⟩ := Prod.mk.inj (Option.some.inj hs)
    obtain rfl := ZcE h2
    obtain ⟨x0, x1, rfl⟩ := JgX h1
    rfl
  rw [if_neg e9] at hs
  by_cases e10 : p = 10
  · subst e10
    rw [if_pos rfl] at hs
    obtain ⟨h1, h2⟩ := Prod.mk.inj (Option.some.inj hs)
    obtain rfl := ZcE h2
    obtain ⟨x0, x1, x2, rfl⟩ := ZfH h1
    rfl
  rw [if_neg e10] at hs
  by_cases e11 : p = 11
  · subst e11
    rw [if_pos rfl] at hs
    obtain ⟨h1, h2⟩ := Prod.mk.inj (Option.some.inj hs)
    obtain rfl := ZcE h2
    obtain ⟨x0, x1, x2, rfl⟩ := ZfH h1
    rfl
  rw [if_neg e11] at hs
  by_cases e12 : p = 12
  · subst e12
    rw [if_pos rfl] at hs
    obtain ⟨h1, h2⟩ := Prod.mk.inj (Option.some.inj hs)
    obtain rfl := ZcE h2
    obtain ⟨x0, x1, x2, rfl⟩ := ZfH h1
    rfl
  rw [if_neg e12] at hs
  by_cases e13 : p = 13
  · subst e13
    rw [if_pos rfl] at hs
    obtain ⟨h1, h2⟩ := Prod.mk.inj (Option.some.inj hs)
    obtain rfl := ZcE h2
    obtain ⟨x0, x1, x2, x3, rfl⟩ := zhL h1
    rfl
  rw [if_neg e13] at hs
  by_cases e14 : p = 14
  · subst e14
    rw [if_pos rfl] at hs
    obtain ⟨h1, h2⟩ := Prod.mk.inj (Option.some.inj hs)
    obtain rfl := ZcE h2
    obtain ⟨x0, x1, rfl⟩ := JgX h1
    rfl
  rw [if_neg e14] at hs
  by_cases e15 : p = 15
  · subst e15
    rw [if_pos rfl] at hs
    obtain ⟨h1, h2⟩ := Prod.mk.inj (Option.some.inj hs)
    obtain rfl := ZcE h2
    obtain ⟨x0, x1, rfl⟩ := JgX h1
    rfl
  rw [if_neg e15] at hs
  cases hs
def jdB : File → List Call → List (List Int)
  | _, [] => []
  | f, c :: cs => Sy33Neutral.out (Sy33.step f c).2 :: jdB (Sy33.step f c).1 cs
theorem zeO : ∀ (cs : List (List (List Int))) (ds : List Call) (f : File), cs.map (fun c => Sy33Neutral.callOf (c.headD [])) = ds.map some →
    PyFlat.played (fun s c => Sy33Neutral.step s (c.headD [])) f cs = jdB f ds
  | [], [], _, _ => rfl
  | [], _ :: _, _, h => by cases h
  | _ :: _, [], _, h => by cases h
  | c :: cs, d :: ds, f, h => by
    obtain ⟨h1, h2⟩ := List.cons.inj (show Sy33Neutral.callOf (c.headD []) :: cs.map (fun c => Sy33Neutral.callOf (c.headD [])) = some d :: ds.map some from h)
    have e : Sy33Neutral.step f (c.headD []) = ((Sy33.step f d).1, Sy33Neutral.out (Sy33.step f d).2) := by
      unfold Sy33Neutral.step
      rw [h1]
    show (Sy33Neutral.step f (c.headD [])).2 :: PyFlat.played _ (Sy33Neutral.step f (c.headD [])).1 cs = _
    rw [e, zeO cs ds _ h2]
    rfl
theorem yfH : ∀ (cs : List (List Int)) (ds : List Call) (f : File), cs.map Sy33Neutral.callOf = ds.map some → Sy33Neutral.many f cs = (jdB f ds).flatten.length
  | [], [], _, _ => rfl
  | [], _ :: _, _, h => by cases h
  | _ :: _, [], _, h => by cases h
  | c :: cs, d :: ds, f, h => by
    obtain ⟨h1, h2⟩ := List.cons.inj (show Sy33Neutral.callOf c :: cs.map Sy33Neutral.callOf = some d :: ds.map some from h)
    have e : Sy33Neutral.step f c = ((Sy33.step f d).1, Sy33Neutral.out (Sy33.step f d).2) := by
      unfold Sy33Neutral.step
      rw [h1]
    show (Sy33Neutral.step f c).2.length + Sy33Neutral.many (Sy33Neutral.step f c).1 cs = (Sy33Neutral.out (Sy33.step f d).2 :: jdB (Sy33.step f d).1 ds).flatten.length
    rw [e, yfH cs ds _ h2, List.flatten_cons, List.length_append]
theorem YgA : ∀ (cs : List (List Int)), (cs.all Sy33Neutral.asked1) = true → ∃ ds : List Call, cs.map Sy33Neutral.callOf = ds.map some ∧ ds.length = cs.length
  | [], _ => ⟨[], rfl, rfl⟩
  | c :: cs, h => by
    rw [List.all_cons, Bool.and_eq_true] at h
    obtain ⟨ds, e, hl⟩ := YgA cs h.2
    obtain ⟨d, hd⟩ := Option.isSome_iff_exists.mp h.1
    exact ⟨d :: ds, by rw [List.map_cons, hd, e]; rfl, by rw [List.length_cons, List.length_cons, hl]⟩
inductive Both : List (List Int) → List Call → Prop
  | nil : Both [] []
  | cons {l : List Int} {c : Call} {ls : List (List Int)} {cs : List Call} (h : yad l c) (t : Both ls cs) : Both (l :: ls) (c :: cs)
theorem zgY : ∀ (cs : List (List Int)) (ds : List Call), cs.map Sy33Neutral.callOf = ds.map some → Both cs ds
  | [], [], _ => .nil
  | [], _ :: _, h => by cases h
  | _ :: _, [], h => by cases h
  | c :: cs, d :: ds, h => by
    obtain ⟨h1, h2⟩ := List.cons.inj (show Sy33Neutral.callOf c :: cs.map Sy33Neutral.callOf = some d :: ds.map some from h)
    exact .cons (call_in h1) (zgY cs ds h2)
theorem jgA : ∀ (cs : List (List (List Int))), (∀ c ∈ cs, PyFlat.okCall PySy33.shape c) → PyFlat.put cs = ((cs.map PySy33.whole).map fun c => c.headD []).flatten
  | [], _ => rfl
  | c :: cs, h => by
    show PyFlat.put1 c ++ PyFlat.put cs = (PySy33.whole c).headD [] ++ ((cs.map PySy33.whole).map fun c => c.headD []).flatten
    rw [Yg5 (h c List.mem_cons_self), jgA cs fun d hd => h d (List.mem_cons_of_mem _ hd)]
theorem decoded {ns : List Int} (h : PySy33.answers_asked ns = true) : ∃ (ls : List (List Int)) (cs : List Call), ns = ls.flatten ∧ Both ls cs ∧ cs.length ≤ 60 ∧ PySy33.answers ns = PyFlat.told (jdB Sy33.start cs) ∧ (jdB Sy33.start cs).flatten.length ≤ 1000000 := by
  unfold PySy33.answers_asked at h
  unfold PySy33.answers
  cases e : PySy33.calls ns with
  | none =>
    rw [e] at h
    cases h
  | some cs =>
    rw [e] at h
    dsimp only at h ⊢
    rw [Bool.and_eq_true] at h
    obtain ⟨_, h⟩ := h
    unfold Sy33Neutral.asked at h
    rw [Bool.and_eq_true, Bool.and_eq_true, Bool.and_eq_true] at h
    obtain ⟨h1, _, h3, h4⟩ := h
    have h3 := of_decide_eq_true h3
    have h4 := of_decide_eq_true h4
    obtain ⟨ds, hd, hl⟩ := YgA _ h1
    unfold PySy33.calls at e
    cases e2 : PyFlat.calls PySy33.shape ns.length ns with
    | none =>
      rw [e2] at e
      cases e
    | some cs0 =>
      rw [e2] at e
      have e := Option.some.inj e
      subst e
      obtain ⟨p1, p2⟩ := PyFlat.put_calls _ _ _ e2
      refine ⟨_, ds, ?_, zgY _ _ hd, by rw [hl]; exact h3, ?_, ?_⟩
      · rw [p1]
        exact jgA cs0 p2
      · congr 1
        refine zeO _ ds _ ?_
        rw [← hd, List.map_map, List.map_map, List.map_map]
        rfl
      · rw [← yfH _ ds _ hd]
        exact h4
end Lr
namespace Lr
open Sy33
theorem YfH {α β : Type} (g : α × Nat → β) (l : List α) (i : Nat) : (l.zipIdx.map g)[i]? = (l[i]?).map fun x => g (x, i) := by
  rw [List.getElem?_map, List.getElem?_zipIdx]
  cases l[i]? with
  | none => rfl
  | some x => simp
theorem Jde {α : Type} (l : List α) (k : Nat) (f : α → α) : (setAt l k f).length = l.length := by simp [setAt]
theorem Jaq {α : Type} (l : List α) (k : Nat) (f : α → α) (i : Nat) : (setAt l k f)[i]? = (l[i]?).map fun x => if i = k then f x else x := by
  unfold setAt
  rw [YfH]
theorem YcS {α : Type} (l : List α) (i : Nat) (d : α) : l.getD i d = (l[i]?).getD d := by simp [List.getD]
theorem jcS (l : List Nat) (k v : Nat) (i : Nat) (hi : i < l.length) : ownerAt (setAt l k fun _ => v) i = if i = k then v else ownerAt l i := by
  unfold ownerAt
  rw [YcS, YcS, Jaq, List.getElem?_eq_getElem hi]
  by_cases h : i = k <;> simp [h]
theorem JgA {α : Type} (l : List α) (k : Nat) (f g : α → α) (h : ∀ x, l[k]? = some x → f x = g x) : setAt l k f = setAt l k g := by
  apply List.ext_getElem?
  intro i
  rw [Jaq, Jaq]
  by_cases e : i = k
  · subst e
    cases q : l[i]? with
    | none => rfl
    | some x => simp [h x q]
  · cases l[i]? with
    | none => rfl
    | some x => simp [e]
theorem Yf9 (is : List Item) (v : List Nat) : ∀ (l : List Item) (i : Nat) (s : Reg × Truth) (x : Item), both is v i (l ++ [x]) s =
    ((both is v i l s).1.enters is (i + l.length) x, (both is v i l s).2.enters is (both is v i l s).1 v (i + l.length) x)
  | [], i, s, x => rfl
  | y :: l, i, s, x => by
    show both is v (i + 1) (l ++ [x]) _ = _
    rw [Yf9 is v l (i + 1)]
    have e : i + 1 + l.length = i + (y :: l).length := by rw [List.length_cons]; omega
    rw [e]
    rfl
def regs (is : List Item) : Nat → List Item → Reg → Reg
  | _, [], r => r
  | i, x :: l, r => regs is (i + 1) l (r.enters is i x)
theorem zdf (is : List Item) (v : List Nat) : ∀ (l : List Item) (i : Nat) (s : Reg × Truth), (both is v i l s).1 = regs is i l s.1
  | [], _, _ => rfl
  | x :: l, i, s => zdf is v l (i + 1) _
theorem jf9 (is : List Item) : ∀ (l : List Item) (i : Nat) (r : Reg) (x : Item), regs is i (l ++ [x]) r = (regs is i l r).enters is (i + l.length) x
  | [], _, _, _ => rfl
  | y :: l, i, r, x => by
    show regs is (i + 1) (l ++ [x]) _ = _
    rw [jf9 is l (i + 1)]
    have e : i + 1 + l.length = i + (y :: l).length := by rw [List.length_cons]; omega
    rw [e]
    rfl
theorem Zdf {α : Type} {p : α → Bool} {x : α} {l : List α} (h : p x = true) : (x :: l).findIdx p = 0 := by simp [List.findIdx_cons, h]
theorem Jbc {α : Type} {p : α → Bool} {x : α} {l : List α} (h : p x = false) : (x :: l).findIdx p = l.findIdx p + 1 := by simp [List.findIdx_cons, h]
def Yb6 (a b : Nat) : List Place → Bool
  | [] => false
  | p :: l => if p.entry = a then true else if p.entry = b then false else Yb6 a b l
theorem jfH {a b : Nat} (h : a ≠ b) : ∀ l : List Place, Yb6 a b l = decide (firstPlace l a < firstPlace l b)
  | [] => rfl
  | p :: l => by
    have ih := jfH h l
    unfold firstPlace at ih ⊢
    unfold Yb6
    by_cases h1 : p.entry = a
    · rw [if_pos h1, Zdf (by simpa using h1), Jbc (by simp; omega)]
      simp
    · rw [if_neg h1]
      by_cases h2 : p.entry = b
      · rw [if_pos h2, Jbc (by simpa using h1), Zdf (by simpa using h2)]
        simp
      · rw [if_neg h2, Jbc (by simpa using h1), Jbc (by simpa using h2), ih]
        simp
structure JcS (n : Nat) (r : Reg) : Prop where
  st : ∀ e ∈ r.stands, e < n
  pl : ∀ (q : Nat) (l : List Place), r.places[q]? = some l → ∀ p ∈ l, p.entry < n
theorem jg5 {is ys : List Item} {plot k e : Nat} (h : e < is.length) : later (is ++ ys) plot k e = later is plot k e := by
  unfold later
  rw [List.getElem?_append_left h]
theorem ygO {r : Reg} {plot n : Nat} {f g : Nat → Bool} (hr : JcS n r) (h : ∀ e, e < n → f e = g e) : r.gone plot f = r.gone plot g := by
  unfold Reg.gone
  congr 1
  · apply JgA
    intro l hl
    apply List.filter_congr
    intro p hp
    rw [h _ (hr.pl plot l hl p hp)]
  · apply List.filter_congr
    intro e he
    rw [h e (hr.st e he)]
theorem YgO {is ys : List Item} {r : Reg} {i : Nat} {x : Item} (hr : JcS is.length r) : r.enters (is ++ ys) i x = r.enters is i x := by
  unfold Reg.enters
  cases x.act with
  | fulfil k b =>
    refine ygO (n := is.length) ⟨hr.st, hr.pl⟩ fun e he => ?_
    rw [jg5 he]
  | _ => rfl
theorem Ycs (a b : Nat) : ∀ (l : List Place) (x y : Nat) (p : Place), p ∈ refill a b x y l → p.entry = a ∨ p.entry = b ∨ ∃ q ∈ l, q.entry = p.entry
  | [], _, _, p, h => by cases h
  | q :: l, x, y, p, h => by
    unfold refill at h
    split at h
    · rcases List.mem_append.mp h with h | h
      · split at h
        · cases h
        · rcases List.mem_cons.mp h with h | h
          · subst h; exact .inl rfl
          · cases h
      · rcases List.mem_append.mp h with h | h
        · split at h
          · cases h
          · rcases List.mem_cons.mp h with h | h
            · subst h; exact .inr (.inl rfl)
            · cases h
        · rcases Ycs a b l _ _ p h with z | z | ⟨c, hc, z⟩
          · exact .inl z
          · exact .inr (.inl z)
          · exact .inr (.inr ⟨c, List.mem_cons_of_mem _ hc, z⟩)
    · rcases List.mem_cons.mp h with h | h
      · subst h; exact .inr (.inr ⟨p, List.mem_cons_self, rfl⟩)
      · rcases Ycs a b l _ _ p h with z | z | ⟨c, hc, z⟩
        · exact .inl z
        · exact .inr (.inl z)
        · exact .inr (.inr ⟨c, List.mem_cons_of_mem _ hc, z⟩)
theorem Jgi {a b n : Nat} {l : List Place} (h : ∀ q ∈ l, q.entry < n) (ha : a < n) (hb : b < n) : ∀ p ∈ before_ a b l, p.entry < n := fun p hp => by
  rcases Ycs a b l _ _ p hp with z | z | ⟨c, hc, z⟩
  · omega
  · omega
  · have := h c hc; omega
def names (a : Act) : List Nat := match a with
  | .ahead a b => [a, b]
  | _ => []
theorem JcS.enters {is : List Item} {r : Reg} {n i : Nat} {x : Item} (hr : JcS n r) (hi : i < n + 1) (hx : ∀ e ∈ names x.act, e < n + 1) : JcS (n + 1) (r.enters is i x) := by
  have st : ∀ e ∈ r.stands, e < n + 1 := fun e he => Nat.lt_succ_of_lt (hr.st e he)
  have pl : ∀ (q : Nat) (l : List Place), r.places[q]? = some l → ∀ p ∈ l, p.entry < n + 1 := fun q l hl p hp => Nat.lt_succ_of_lt (hr.pl q l hl p hp)
  have gn : ∀ (r' : Reg) (f : Nat → Bool), r'.stands = r.stands → r'.places = r.places → JcS (n + 1) (r'.gone x.plot f) := fun r' f e1 e2 => by
    refine ⟨fun e he => ?_, fun q l hl p hp => ?_⟩
    · have he : e ∈ r'.stands.filter fun (e : Nat) => !f e := he
      rw [e1] at he
      exact st e (List.mem_filter.mp he).1
    · have hl : (setAt r'.places x.plot fun (l : List Place) => l.filter fun (p : Place) => !f p.entry)[q]? = some l := hl
      rw [Jaq, e2] at hl
      obtain ⟨l0, h1, h2⟩ := Option.map_eq_some_iff.mp hl
      split at h2
      · subst h2
        exact pl q l0 h1 p (List.mem_filter.mp hp).1
      · subst h2
        exact pl q l0 h1 p hp
  unfold Reg.enters
  cases e : x.act with
  | transfer => exact ⟨st, pl⟩
  | charge q g c m k =>
    refine ⟨fun e he => ?_, fun q l hl p hp => ?_⟩
    · rcases List.mem_append.mp he with he | he
      · exact st e he
      · have := List.mem_singleton.mp he; omega
    · have hl : (setAt r.places x.plot fun (l : List Place) => l ++ [⟨i, m⟩])[q]? = some l := hl
      rw [Jaq] at hl
      obtain ⟨l0, h1, h2⟩ := Option.map_eq_some_iff.mp hl
      split at h2
      · subst h2
        rcases List.mem_append.mp hp with hp | hp
        · exact pl q l0 h1 p hp
        · have z := List.mem_singleton.mp hp
          subst z
          exact hi
      · subst h2
        exact pl q l0 h1 p hp
  | notice =>
    refine ⟨fun e he => ?_, pl⟩
    rcases List.mem_append.mp he with he | he
    · exact st e he
    · have := List.mem_singleton.mp he; omega
  | objection =>
    refine ⟨fun e he => ?_, pl⟩
    rcases List.mem_append.mp he with he | he
    · exact st e he
    · have := List.mem_singleton.mp he; omega
  | fulfil k b => exact gn _ _ rfl rfl
  | strike k b => exact gn _ _ rfl rfl
  | ahead a b =>
    rw [e] at hx
    have ha : a < n + 1 := hx a (by simp [names])
    have hb : b < n + 1 := hx b (by simp [names])
    refine ⟨st, fun q l hl p hp => ?_⟩
    have hl : (setAt r.places x.plot (before_ a b))[q]? = some l := hl
    rw [Jaq] at hl
    obtain ⟨l0, h1, h2⟩ := Option.map_eq_some_iff.mp hl
    split at h2
    · subst h2
      exact Jgi (pl q l0 h1) ha hb p hp
    · subst h2
      exact pl q l0 h1 p hp
  | correct => exact ⟨st, pl⟩
  | void_ => exact ⟨st, pl⟩
theorem JcS.mono {m n : Nat} {r : Reg} (h : JcS m r) (l : m ≤ n) : JcS n r := ⟨fun e he => Nat.lt_of_lt_of_le (h.st e he) l, fun q k hk p hp => Nat.lt_of_lt_of_le (h.pl q k hk p hp) l⟩
def refs (a : Act) : List Nat := match a with
  | .fulfil k _ => [k]
  | .strike k _ => [k]
  | .ahead a b => [a, b]
  | .void_ k => [k]
  | _ => []
theorem JfH {a : Act} {e : Nat} (h : e ∈ names a) : e ∈ refs a := by
  cases a <;> first | exact h | cases h
def Back (i : Nat) (l : List Item) : Prop := ∀ (j : Nat) (x : Item), l[j]? = some x → ∀ e ∈ refs x.act, e < i + j
theorem Back.tail {i : Nat} {x : Item} {l : List Item} (h : Back i (x :: l)) : Back (i + 1) l := fun j y hy e he => by
  have := h (j + 1) y hy e he
  omega
theorem Back.take {i : Nat} {l : List Item} (h : Back i l) (n : Nat) : Back i (l.take n) := fun j x hx e he => by
  rw [List.getElem?_take] at hx
  split at hx
  · exact h j x hx e he
  · cases hx
theorem jdX (is ys : List Item) : ∀ (l : List Item) (i : Nat) (r : Reg), Back i l → JcS i r → i + l.length ≤ is.length → regs (is ++ ys) i l r = regs is i l r
  | [], _, _, _, _, _ => rfl
  | x :: l, i, r, hb, h, hl => by
    rw [List.length_cons] at hl
    show regs (is ++ ys) (i + 1) l (r.enters (is ++ ys) i x) = regs is (i + 1) l (r.enters is i x)
    rw [YgO (h.mono (by omega))]
    refine jdX is ys l (i + 1) _ hb.tail ?_ (by omega)
    exact h.enters (Nat.lt_succ_self i) fun e he => by
      have := hb 0 x rfl e (JfH he)
      omega
theorem ZeO {is ys : List Item} {k : Nat} (h : k < is.length) : noticeOf (is ++ ys) k = noticeOf is k := by
  unfold noticeOf
  rw [List.getElem?_append_left h]
theorem ydf (o : List Nat) : JcS 0 (begun o).1 := by
  refine ⟨fun e he => (by cases he), fun q l hl p hp => ?_⟩
  have hl : (o.map fun (_ : Nat) => ([] : List Place))[q]? = some l := hl
  rw [List.getElem?_map] at hl
  obtain ⟨x, _, e⟩ := Option.map_eq_some_iff.mp hl
  subst e
  cases hp
def ZeB (f : File) (i : Nat) (x : Item) : Prop := x.plot < f.owners.length ∧ (match x.act with
  | .transfer q g t _ => x.plot = q ∧ x.was = g ∧ x.now = t ∧ g < f.persons ∧ t < f.persons ∧ g ≠ t
  | .charge q g c n _ => x.plot = q ∧ x.was = g ∧ x.now = g ∧ g < f.persons ∧ c < f.persons ∧ g ≠ c ∧ 1 ≤ n ∧ n ≤ AMOUNT
  | .notice q g p _ => x.plot = q ∧ x.was = g ∧ x.now = g ∧ g < f.persons ∧ p < f.persons ∧ g ≠ p
  | .fulfil k _ => k < i ∧ plotOf f.items k = x.plot ∧ ∃ g p, noticeOf f.items k = some (g, p) ∧ x.now = p
  | .objection q p => x.plot = q ∧ x.now = x.was ∧ p < f.persons
  | .strike k b => k < i ∧ plotOf f.items k = x.plot ∧ holder f.items k = some b ∧ x.now = x.was
  | .ahead a b => a < i ∧ b < i ∧ a ≠ b ∧ isCharge f.items a = true ∧ isCharge f.items b = true ∧ plotOf f.items a = x.plot ∧ plotOf f.items b = x.plot ∧ x.now = x.was
  | .correct q => x.plot = q
  | .void_ k => k < i ∧ plotOf f.items k = x.plot ∧ x.now = x.was)
def jfl (a : Act) : List Nat := match a with
  | .fulfil k _ => [k]
  | .strike k _ => [k]
  | .ahead a b => [a, b]
  | _ => []
structure WF (f : File) : Prop where
  p1 : 1 ≤ f.persons
  p2 : f.persons ≤ 10
  o1 : 1 ≤ f.owners.length
  o2 : f.owners.length ≤ 6
  o3 : ∀ x ∈ f.owners, x < f.persons
  n : f.items.length ≤ 40
  day : f.items.Pairwise fun x y => x.day ≤ y.day
  dmax : ∀ x ∈ f.items, x.day ≤ DAY
  ok : ∀ (i : Nat) (x : Item), f.items[i]? = some x → ZeB f i x
  was : ∀ (i : Nat) (x : Item), f.items[i]? = some x → x.was = ownerAt (regs f.items 0 (f.items.take i) (begun f.owners).1).owner x.plot
  std : ∀ (i : Nat) (x : Item), f.items[i]? = some x → ∀ e ∈ jfl x.act, e ∈ (regs f.items 0 (f.items.take i) (begun f.owners).1).stands
theorem WF.back {f : File} (h : WF f) : Back 0 f.items := fun j x hx e he => by
  rw [Nat.zero_add]
  have z := (h.ok j x hx).2
  cases q : x.act with
  | fulfil k b =>
    rw [q] at z he
    rw [List.mem_singleton.mp he]
    exact z.1
  | strike k b =>
    rw [q] at z he
    rw [List.mem_singleton.mp he]
    exact z.1
  | ahead a b =>
    rw [q] at z he
    rcases List.mem_cons.mp he with he | he
    · rw [he]; exact z.1
    · rw [List.mem_singleton.mp he]; exact z.2.1
  | void_ k =>
    rw [q] at z he
    rw [List.mem_singleton.mp he]
    exact z.1
  | _ =>
    rw [q] at he
    cases he
theorem Yhj : WF start := by
  refine ⟨by decide, by decide, by decide, by decide, fun x hx => ?_, by decide, .nil, fun x hx => (by cases hx), fun i x hx => (by cases hx), fun i x hx => (by cases hx), fun i x hx => (by cases hx)⟩
  rw [List.mem_singleton.mp hx]
  decide
theorem zgB (f : File) : f.now.1 = regs f.items 0 f.items (begun f.owners).1 := zdf _ _ _ _ _
theorem ZgY (f : File) (d k : Nat) : (f.on d k).1 = regs f.items 0 (f.items.takeWhile fun (x : Item) => decide (x.day ≤ d)) (begun f.owners).1 := zdf _ _ _ _ _
theorem JdX {α : Type} (p : α → Bool) : ∀ l : List α, ∃ n, n ≤ l.length ∧ l.takeWhile p = l.take n
  | [] => ⟨0, Nat.le_refl _, rfl⟩
  | x :: l => by
    obtain ⟨n, hn, e⟩ := JdX p l
    rw [List.takeWhile_cons]
    cases p x with
    | true => exact ⟨n + 1, Nat.succ_le_succ hn, by rw [if_pos rfl, e]; rfl⟩
    | false => exact ⟨0, Nat.zero_le _, rfl⟩
theorem Ydf {d : Nat} : ∀ {l : List Item}, l.Pairwise (fun x y => x.day ≤ y.day) → l.takeWhile (fun x => decide (x.day ≤ d)) = l.filter fun x => decide (x.day ≤ d)
  | [], _ => rfl
  | x :: l, h => by
    rw [List.pairwise_cons] at h
    rw [List.takeWhile_cons, List.filter_cons]
    by_cases q : x.day ≤ d
    · rw [if_pos (by simpa using q), if_pos (by simpa using q), Ydf h.2]
    · rw [if_neg (by simpa using q), if_neg (by simpa using q)]
      symm
      apply List.filter_eq_nil_iff.mpr
      intro y hy
      have := h.1 y hy
      simp
      omega
theorem ya3 {is ys : List Item} {k : Nat} (h : k < is.length) : plotOf (is ++ ys) k = plotOf is k := by
  unfold plotOf
  rw [List.getElem?_append_left h]
theorem zfI {is ys : List Item} {k : Nat} (h : k < is.length) : holder (is ++ ys) k = holder is k := by
  unfold holder
  rw [List.getElem?_append_left h]
theorem jcs {is ys : List Item} {k : Nat} (h : k < is.length) : isCharge (is ++ ys) k = isCharge is k := by
  unfold isCharge
  rw [List.getElem?_append_left h]
theorem ZeB.ext {f : File} {ys : List Item} {i : Nat} {x : Item} (h : ZeB f i x) (hi : i ≤ f.items.length) : ZeB { f with items := f.items ++ ys } i x := by
  refine ⟨h.1, ?_⟩
  have z := h.2
  cases q : x.act with
  | fulfil k b =>
    rw [q] at z
    obtain ⟨a, b, c⟩ := z
    have hk : k < f.items.length := by omega
    refine ⟨a, ?_, ?_⟩
    · rw [ya3 hk]; exact b
    · rw [ZeO hk]; exact c
  | strike k b =>
    rw [q] at z
    obtain ⟨a, b, c, d⟩ := z
    have hk : k < f.items.length := by omega
    refine ⟨a, ?_, ?_, d⟩
    · rw [ya3 hk]; exact b
    · rw [zfI hk]; exact c
  | ahead a b =>
    rw [q] at z
    obtain ⟨h1, h2, h3, h4, h5, h6, h7, h8⟩ := z
    have ha : a < f.items.length := by omega
    have hb : b < f.items.length := by omega
    refine ⟨h1, h2, h3, ?_, ?_, ?_, ?_, h8⟩
    · rw [jcs ha]; exact h4
    · rw [jcs hb]; exact h5
    · rw [ya3 ha]; exact h6
    · rw [ya3 hb]; exact h7
  | void_ k =>
    rw [q] at z
    obtain ⟨a, b, c⟩ := z
    have hk : k < f.items.length := by omega
    refine ⟨a, ?_, c⟩
    rw [ya3 hk]; exact b
  | _ =>
    rw [q] at z
    exact z
theorem Yah {is : List Item} {k : Nat} {x : Item} (h : is[k]? = some x) : k < is.length := (List.getElem?_eq_some_iff.mp h).1
theorem zdY {is : List Item} {k : Nat} {z : Nat × Nat} (h : noticeOf is k = some z) : k < is.length := by
  unfold noticeOf at h
  obtain ⟨x, hx, _⟩ := Option.bind_eq_some_iff.mp h
  exact Yah hx
theorem ye7 {is : List Item} {k z : Nat} (h : holder is k = some z) : k < is.length := by
  unfold holder at h
  obtain ⟨x, hx, _⟩ := Option.bind_eq_some_iff.mp h
  exact Yah hx
theorem jb6 {is : List Item} {k : Nat} (h : isCharge is k = true) : k < is.length := by
  unfold isCharge at h
  cases e : is[k]? with
  | none =>
    rw [e] at h
    cases h
  | some x => exact Yah e
theorem zhu {l : List Item} (h : l.Pairwise fun x y => x.day ≤ y.day) {d : Nat} (hd : ¬ d < ((l.getLast?).map fun (x : Item) => x.day).getD 0) : ∀ x ∈ l, x.day ≤ d := by
  intro x hx
  rcases List.eq_nil_or_concat l with e | ⟨l', y, e⟩
  · subst e; cases hx
  · rw [List.concat_eq_append] at e
    subst e
    simp at hd
    rw [List.pairwise_append] at h
    rcases List.mem_append.mp hx with hx | hx
    · have := h.2.2 x hx y (by simp)
      omega
    · rw [List.mem_singleton.mp hx]
      exact hd
theorem WF.snoc {f : File} (h : WF f) {x : Item} (hn : f.items.length < 40) (hd : x.day ≤ DAY) (hl : ¬ x.day < today f) (hok : ZeB f f.items.length x) (hw : x.was = ownerAt f.now.1.owner x.plot) (hs : ∀ e ∈ jfl x.act, e ∈ f.now.1.stands) : WF { f with items := f.items ++ [x] } := by
  refine ⟨h.p1, h.p2, h.o1, h.o2, h.o3, ?_, ?_, ?_, ?_, ?_, ?_⟩
  · show (f.items ++ [x]).length ≤ 40
    rw [List.length_append, List.length_singleton]
    omega
  · show (f.items ++ [x]).Pairwise _
    rw [List.pairwise_append]
    refine ⟨h.day, List.pairwise_singleton _ _, fun a ha b hb => ?_⟩
    rw [List.mem_singleton.mp hb]
    exact zhu h.day hl a ha
  · intro y hy
    have hy : y ∈ f.items ++ [x] := hy
    rcases List.mem_append.mp hy with hy | hy
    · exact h.dmax y hy
    · rw [List.mem_singleton.mp hy]
      exact hd
  · intro i y hy
    have hy : (f.items ++ [x])[i]? = some y := hy
    by_cases hi : i < f.items.length
    · rw [List.getElem?_append_left hi] at hy
      exact (h.ok i y hy).ext (Nat.le_of_lt hi)
    · have e : i = f.items.length := by
        have := Yah hy
        rw [List.length_append, List.length_singleton] at this
        omega
      subst e
      rw [List.getElem?_append_right (Nat.le_refl _), Nat.sub_self] at hy
      have e := Option.some.inj hy
      subst e
      exact hok.ext (Nat.le_refl _)
  · intro i y hy
    have hy : (f.items ++ [x])[i]? = some y := hy
    show y.was = ownerAt (regs (f.items ++ [x]) 0 ((f.items ++ [x]).take i) (begun f.owners).1).owner y.plot
    by_cases hi : i < f.items.length
    · rw [List.getElem?_append_left hi] at hy
      rw [List.take_append_of_le_length (Nat.le_of_lt hi), jdX _ _ _ 0 _ (h.back.take i) (ydf _) (by rw [List.length_take]; omega)]
      exact h.was i y hy
    · have e : i = f.items.length := by
        have := Yah hy
        rw [List.length_append, List.length_singleton] at this
        omega
      subst e
      rw [List.getElem?_append_right (Nat.le_refl _), Nat.sub_self] at hy
      have e := Option.some.inj hy
      subst e
      rw [List.take_append_of_le_length (Nat.le_refl _), List.take_length, jdX _ _ _ 0 _ h.back (ydf _) (by omega), ← zgB]
      exact hw
  · intro i y hy e he
    have hy : (f.items ++ [x])[i]? = some y := hy
    show e ∈ (regs (f.items ++ [x]) 0 ((f.items ++ [x]).take i) (begun f.owners).1).stands
    by_cases hi : i < f.items.length
    · rw [List.getElem?_append_left hi] at hy
      rw [List.take_append_of_le_length (Nat.le_of_lt hi), jdX _ _ _ 0 _ (h.back.take i) (ydf _) (by rw [List.length_take]; omega)]
      exact h.std i y hy e he
    · have e : i = f.items.length := by
        have := Yah hy
        rw [List.length_append, List.length_singleton] at this
        omega
      subst e
      rw [List.getElem?_append_right (Nat.le_refl _), Nat.sub_self] at hy
      have e := Option.some.inj hy
      subst e
      rw [List.take_append_of_le_length (Nat.le_refl _), List.take_length, jdX _ _ _ 0 _ h.back (ydf _) (by omega), ← zgB]
      exact hs _ he
theorem Zhu {f : File} {r : Reg} {plot : Nat} {a : Act} (h : may f r plot a = true) : ∀ e ∈ jfl a, e ∈ r.stands := by
  intro e he
  cases a with
  | fulfil k b =>
    rw [List.mem_singleton.mp he]
    exact List.contains_iff_mem.mp h
  | strike k b =>
    rw [List.mem_singleton.mp he]
    have h : (r.stands.contains k && holder f.items k == some b) = true := h
    rw [Bool.and_eq_true] at h
    exact List.contains_iff_mem.mp h.1
  | ahead x y =>
    have h : (r.stands.contains x && (r.stands.contains y && _)) = true := h
    rw [Bool.and_eq_true, Bool.and_eq_true] at h
    rcases List.mem_cons.mp he with he | he
    · rw [he]; exact List.contains_iff_mem.mp h.1
    · rw [List.mem_singleton.mp he]; exact List.contains_iff_mem.mp h.2.1
  | _ => cases he
theorem yhu {f : File} (h : WF f) {a : Act} {plot : Nat} {d : Nat} (h1 : actOk f a = true) (h2 : about f a = some plot) (h3 : may f f.now.1 plot a = true) :
    ZeB f f.items.length ⟨d, a, plot, ownerAt f.now.1.owner plot, becomes f f.now plot a⟩ := by
  have inside : ∀ k, k < f.items.length → plotOf f.items k < f.owners.length := fun k hk => by
    have hx : f.items[k]? = some f.items[k] := List.getElem?_eq_getElem hk
    have := (h.ok k _ hx).1
    unfold plotOf
    rw [hx]
    exact this
  cases a with
  | transfer q x y k =>
    have e := Option.some.inj h2
    subst e
    simp only [actOk, Bool.and_eq_true, decide_eq_true_eq, bne_iff_ne] at h1
    have h3 := eq_of_beq (show (ownerAt f.now.1.owner q == x) = true from h3)
    exact ⟨h1.1, rfl, h3, rfl, h1.2.1, h1.2.2.1, h1.2.2.2⟩
  | charge q x y n k =>
    have e := Option.some.inj h2
    subst e
    simp only [actOk, Bool.and_eq_true, decide_eq_true_eq, bne_iff_ne] at h1
    have h3 := eq_of_beq (show (ownerAt f.now.1.owner q == x) = true from h3)
    exact ⟨h1.1, rfl, h3, h3, h1.2.1, h1.2.2.1, h1.2.2.2.1, h1.2.2.2.2.1, h1.2.2.2.2.2⟩
  | notice q x y k =>
    have e := Option.some.inj h2
    subst e
    simp only [actOk, Bool.and_eq_true, decide_eq_true_eq, bne_iff_ne] at h1
    have h3 := eq_of_beq (show (ownerAt f.now.1.owner q == x) = true from h3)
    exact ⟨h1.1, rfl, h3, h3, h1.2.1, h1.2.2.1, h1.2.2.2⟩
  | fulfil k b =>
    obtain ⟨z, hz, e⟩ := Option.map_eq_some_iff.mp (show (noticeOf f.items k).map (fun (_ : Nat × Nat) => plotOf f.items k) = some plot from h2)
    have hk := zdY hz
    subst e
    refine ⟨inside k hk, hk, rfl, z.1, z.2, hz, ?_⟩
    show ((noticeOf f.items k).map fun (x : Nat × Nat) => x.2).getD 0 = z.2
    rw [hz]
    rfl
  | objection q x =>
    have e := Option.some.inj h2
    subst e
    simp only [actOk, Bool.and_eq_true, decide_eq_true_eq] at h1
    exact ⟨h1.1, rfl, rfl, h1.2⟩
  | strike k b =>
    obtain ⟨z, hz, e⟩ := Option.map_eq_some_iff.mp (show (holder f.items k).map (fun (_ : Nat) => plotOf f.items k) = some plot from h2)
    have hk := ye7 hz
    subst e
    have h3 := (Bool.and_eq_true _ _ ▸ (show (f.now.1.stands.contains k && holder f.items k == some b) = true from h3) : _ ∧ _)
    exact ⟨inside k hk, hk, rfl, eq_of_beq h3.2, rfl⟩
  | ahead x y =>
    have h2 : (if (isCharge f.items x && (isCharge f.items y && x != y)) = true then some (plotOf f.items x) else none) = some plot := h2
    split at h2
    · rename_i hc
      have e := Option.some.inj h2
      subst e
      simp only [Bool.and_eq_true, bne_iff_ne] at hc
      have h3 : (f.now.1.stands.contains x && (f.now.1.stands.contains y && (plotOf f.items x == plotOf f.items y && decide (firstPlace (placesAt f.now.1 (plotOf f.items x)) y < firstPlace (placesAt f.now.1 (plotOf f.items x)) x)))) = true := h3
      simp only [Bool.and_eq_true] at h3
      have hx := jb6 hc.1
      have hy := jb6 hc.2.1
      exact ⟨inside x hx, hx, hy, hc.2.2, hc.1, hc.2.1, rfl, (eq_of_beq h3.2.2.1).symm, rfl⟩
    · cases h2
  | correct q =>
    have e := Option.some.inj h2
    subst e
    simp only [actOk, decide_eq_true_eq] at h1
    exact ⟨h1, rfl⟩
  | void_ k =>
    obtain ⟨z, hz, e⟩ := Option.bind_eq_some_iff.mp (show (f.items[k]?).bind _ = some plot from h2)
    have hk := Yah hz
    have e2 : z.plot = plot := by
      revert e
      cases z.act <;> intro e <;> first | exact Option.some.inj e | cases e
    have e3 : plotOf f.items k = plot := by
      unfold plotOf
      rw [hz]
      exact e2
    subst e3
    exact ⟨inside k hk, hk, rfl, rfl⟩
theorem ygY {f : File} (h : WF f) (c : Call) : WF (step f c).1 := by
  cases c with
  | begins p o =>
    show WF (if p = 0 ∨ PERSONS < p ∨ o.length = 0 ∨ PLOTS < o.length ∨ (o.any fun (x : Nat) => decide (p ≤ x)) = true then (f, ok (-1)) else (⟨o, p, []⟩, ok 0)).1
    split
    · exact h
    · rename_i hc
      have hc : ¬ (p = 0 ∨ PERSONS < p ∨ o.length = 0 ∨ PLOTS < o.length ∨ (o.any fun (x : Nat) => decide (p ≤ x)) = true) := hc
      simp only [not_or] at hc
      obtain ⟨h1, h2, h3, h4, h5⟩ := hc
      refine ⟨Nat.pos_of_ne_zero h1, Nat.le_of_not_lt h2, Nat.pos_of_ne_zero h3, Nat.le_of_not_lt h4, fun x hx => ?_, Nat.zero_le _, .nil, fun x hx => (by cases hx), fun i x hx => (by cases hx), fun i x hx => (by cases hx), fun i x hx => (by cases hx)⟩
      refine Nat.lt_of_not_le fun q => h5 (List.any_eq_true.mpr ⟨x, hx, by simpa using q⟩)
  | act d a =>
    unfold step
    dsimp only
    split
    · exact h
    · rename_i h1
      split
      · exact h
      · rename_i plot h2
        split
        · exact h
        · rename_i h3
          split
          · exact h
          · rename_i h4
            split
            · exact h
            · rename_i h5
              have h1 : ¬ (DAY < d ∨ actOk f a = false) := h1
              rw [not_or] at h1
              refine h.snoc (x := ⟨d, a, plot, ownerAt f.now.1.owner plot, becomes f f.now plot a⟩) (Nat.lt_of_not_le h5) (Nat.le_of_not_lt h1.1) h3 (yhu h (by simpa using h1.2) h2 (by simpa using h4)) rfl (Zhu (by simpa using h4))
  | owner => exact h
  | charges => exact h
  | rely => exact h
  | sale => exact h
  | stands => exact h
  | days => exact h
structure JdB (is : List Item) (m : Nat) (r : Reg) : Prop where
  ol : r.owner.length = m
  pl : r.places.length = m
  up : r.stands.Pairwise (· < ·)
  hd : ∀ e ∈ r.stands, (holder is e).isSome = true
  pin : ∀ (q : Nat) (l : List Place), r.places[q]? = some l → ∀ p ∈ l, p.entry ∈ r.stands ∧ isCharge is p.entry = true ∧ plotOf is p.entry = q
theorem ZgB (is : List Item) (o : List Nat) : JdB is o.length (begun o).1 := by
  refine ⟨rfl, by simp [begun], .nil, fun e he => (by cases he), fun q l hl p hp => ?_⟩
  have hl : (o.map fun (_ : Nat) => ([] : List Place))[q]? = some l := hl
  rw [List.getElem?_map] at hl
  obtain ⟨x, _, e⟩ := Option.map_eq_some_iff.mp hl
  subst e
  cases hp
theorem JdB.gone {is : List Item} {m : Nat} {r : Reg} (h : JdB is m r) (plot : Nat) (f : Nat → Bool) (hf : ∀ e ∈ r.stands, f e = true → plotOf is e = plot) : JdB is m (r.gone plot f) := by
  refine ⟨h.ol, ?_, h.up.filter _, fun e he => h.hd e (List.mem_filter.mp he).1, fun q l hl p hp => ?_⟩
  · show (setAt r.places plot _).length = m
    rw [Jde]
    exact h.pl
  · have hl : (setAt r.places plot fun (l : List Place) => l.filter fun (p : Place) => !f p.entry)[q]? = some l := hl
    rw [Jaq] at hl
    obtain ⟨l0, h1, h2⟩ := Option.map_eq_some_iff.mp hl
    show p.entry ∈ r.stands.filter (fun (e : Nat) => !f e) ∧ _
    split at h2
    · subst h2
      obtain ⟨a, b⟩ := List.mem_filter.mp hp
      obtain ⟨c, d⟩ := h.pin q l0 h1 p a
      exact ⟨List.mem_filter.mpr ⟨c, b⟩, d⟩
    · rename_i hq
      subst h2
      obtain ⟨c, d1, d2⟩ := h.pin q l0 h1 p hp
      refine ⟨List.mem_filter.mpr ⟨c, ?_⟩, d1, d2⟩
      cases z : f p.entry with
      | false => rfl
      | true => exact absurd (d2.symm.trans (hf _ c z)) hq
theorem Ye7 {l : List Nat} {i : Nat} (h : l.Pairwise (· < ·)) (hi : ∀ e ∈ l, e < i) : (l ++ [i]).Pairwise (· < ·) := by
  rw [List.pairwise_append]
  exact ⟨h, List.pairwise_singleton _ _, fun a ha b hb => by rw [List.mem_singleton.mp hb]; exact hi a ha⟩
theorem JdB.enters {f : File} {r : Reg} {i : Nat} {x : Item} (h : JdB f.items f.owners.length r) (hlt : JcS i r) (hx : f.items[i]? = some x) (hok : ZeB f i x) (hs : ∀ e ∈ jfl x.act, e ∈ r.stands) : JdB f.items f.owners.length (r.enters f.items i x) := by
  have hplot : plotOf f.items i = x.plot := by
    unfold plotOf
    rw [hx]
    rfl
  have own : ∀ v : Nat, JdB f.items f.owners.length { r with owner := setAt r.owner x.plot fun (_ : Nat) => v } := fun v => ⟨by rw [Jde]; exact h.ol, h.pl, h.up, h.hd, h.pin⟩
  have z := hok.2
  unfold Reg.enters
  cases q : x.act with
  | transfer a b c d => exact own _
  | correct a => exact own _
  | void_ a => exact h
  | charge a b c m d =>
    have hh : holder f.items i = some c := by
      unfold holder
      rw [hx]
      show (match x.act with | .charge _ _ c _ _ => some c | .notice _ _ p _ => some p | .objection _ p => some p | _ => none) = some c
      rw [q]
    have hc : isCharge f.items i = true := by
      unfold isCharge
      rw [hx]
      show (match x.act with | .charge _ _ _ _ _ => true | _ => false) = true
      rw [q]
    refine ⟨h.ol, by rw [Jde]; exact h.pl, Ye7 h.up hlt.st, fun e he => ?_, fun q' l hl p hp => ?_⟩
    · rcases List.mem_append.mp he with he | he
      · exact h.hd e he
      · rw [List.mem_singleton.mp he, hh]; rfl
    · have hl : (setAt r.places x.plot fun (l : List Place) => l ++ [⟨i, m⟩])[q']? = some l := hl
      rw [Jaq] at hl
      obtain ⟨l0, h1, h2⟩ := Option.map_eq_some_iff.mp hl
      split at h2
      · rename_i hq
        subst h2
        rcases List.mem_append.mp hp with hp | hp
        · obtain ⟨c1, c2⟩ := h.pin q' l0 h1 p hp
          exact ⟨List.mem_append_left _ c1, c2⟩
        · have z := List.mem_singleton.mp hp
          subst z
          exact ⟨List.mem_append_right _ (List.mem_singleton.mpr rfl), hc, hplot.trans hq.symm⟩
      · subst h2
        obtain ⟨c1, c2⟩ := h.pin q' l0 h1 p hp
        exact ⟨List.mem_append_left _ c1, c2⟩
  | notice a b c d =>
    have hh : holder f.items i = some c := by
      unfold holder
      rw [hx]
      show (match x.act with | .charge _ _ c _ _ => some c | .notice _ _ p _ => some p | .objection _ p => some p | _ => none) = some c
      rw [q]
    refine ⟨h.ol, h.pl, Ye7 h.up hlt.st, fun e he => ?_, fun q' l hl p hp => ?_⟩
    · rcases List.mem_append.mp he with he | he
      · exact h.hd e he
      · rw [List.mem_singleton.mp he, hh]; rfl
    · obtain ⟨c1, c2⟩ := h.pin q' l hl p hp
      exact ⟨List.mem_append_left _ c1, c2⟩
  | objection a c =>
    have hh : holder f.items i = some c := by
      unfold holder
      rw [hx]
      show (match x.act with | .charge _ _ c _ _ => some c | .notice _ _ p _ => some p | .objection _ p => some p | _ => none) = some c
      rw [q]
    refine ⟨h.ol, h.pl, Ye7 h.up hlt.st, fun e he => ?_, fun q' l hl p hp => ?_⟩
    · rcases List.mem_append.mp he with he | he
      · exact h.hd e he
      · rw [List.mem_singleton.mp he, hh]; rfl
    · obtain ⟨c1, c2⟩ := h.pin q' l hl p hp
      exact ⟨List.mem_append_left _ c1, c2⟩
  | fulfil k b =>
    rw [q] at z
    refine JdB.gone (own _) x.plot _ fun e he hf => ?_
    rcases (Bool.or_eq_true _ _ ▸ hf : _ ∨ _) with hf | hf
    · rw [eq_of_beq hf]
      exact z.2.1
    · unfold later at hf
      rw [Bool.and_eq_true] at hf
      have hf := hf.2
      unfold plotOf
      cases w : f.items[e]? with
      | none =>
        rw [w] at hf
        cases hf
      | some y =>
        rw [w] at hf
        dsimp only at hf
        rw [Bool.and_eq_true] at hf
        exact eq_of_beq hf.1
  | strike k b =>
    rw [q] at z
    refine JdB.gone h x.plot _ fun e he hf => ?_
    rw [eq_of_beq hf]
    exact z.2.1
  | ahead a b =>
    rw [q] at z hs
    obtain ⟨z1, z2, z3, z4, z5, z6, z7, z8⟩ := z
    have ha : a ∈ r.stands := hs a (by simp [jfl])
    have hb : b ∈ r.stands := hs b (by simp [jfl])
    refine ⟨h.ol, by rw [Jde]; exact h.pl, h.up, h.hd, fun q' l hl p hp => ?_⟩
    have hl : (setAt r.places x.plot (before_ a b))[q']? = some l := hl
    rw [Jaq] at hl
    obtain ⟨l0, h1, h2⟩ := Option.map_eq_some_iff.mp hl
    split at h2
    · rename_i hq
      subst h2
      rcases Ycs a b l0 _ _ p hp with w | w | ⟨c, hc, w⟩
      · rw [w]; exact ⟨ha, z4, z6.trans hq.symm⟩
      · rw [w]; exact ⟨hb, z5, z7.trans hq.symm⟩
      · rw [← w]; exact h.pin q' l0 h1 c hc
    · subst h2
      exact h.pin q' l0 h1 p hp
theorem WF.Yhy {f : File} (h : WF f) : ∀ i, i ≤ f.items.length → JcS i (regs f.items 0 (f.items.take i) (begun f.owners).1) ∧ JdB f.items f.owners.length (regs f.items 0 (f.items.take i) (begun f.owners).1)
  | 0, _ => ⟨ydf _, ZgB _ _⟩
  | i + 1, hi => by
    obtain ⟨a, b⟩ := h.Yhy i (by omega)
    have hx : f.items[i]? = some f.items[i] := List.getElem?_eq_getElem (by omega)
    have e : f.items.take (i + 1) = f.items.take i ++ [f.items[i]] := by
      rw [List.take_add_one, hx]
      rfl
    have el : (f.items.take i).length = i := by rw [List.length_take]; omega
    rw [e, jf9, el, Nat.zero_add]
    refine ⟨a.enters (Nat.lt_succ_self i) fun e he => ?_, b.enters a hx (h.ok i _ hx) (h.std i _ hx)⟩
    have := h.back i _ hx e (JfH he)
    omega
theorem yeB (a b : Nat) : ∀ (l : List Place) (x y : Nat), (refill a b x y l).length ≤ l.length + (if x = 0 then 0 else 1)
  | [], _, _ => Nat.zero_le _
  | p :: l, x, y => by
    unfold refill
    split
    · show ((if min x p.amount = 0 then [] else [(⟨a, min x p.amount⟩ : Place)]) ++ ((if min x p.amount = p.amount then [] else [(⟨b, p.amount - min x p.amount⟩ : Place)]) ++ refill a b (x - min x p.amount) (y - (p.amount - min x p.amount)) l)).length ≤ _
      rw [List.length_append, List.length_append, List.length_cons]
      have ih := yeB a b l (x - min x p.amount) (y - (p.amount - min x p.amount))
      have e1 : (if min x p.amount = 0 then ([] : List Place) else [(⟨a, min x p.amount⟩ : Place)]).length = if min x p.amount = 0 then 0 else 1 := by split <;> rfl
      have e2 : (if min x p.amount = p.amount then ([] : List Place) else [(⟨b, p.amount - min x p.amount⟩ : Place)]).length = if min x p.amount = p.amount then 0 else 1 := by split <;> rfl
      rw [e1, e2]
      by_cases hx : x = 0
      · subst hx
        rw [if_pos rfl]
        rw [if_pos (by omega)] at ih
        rw [if_pos (by omega)]
        split <;> omega
      · rw [if_neg hx]
        by_cases hn : min x p.amount = p.amount
        · rw [if_pos hn]
          split at ih <;> split <;> omega
        · rw [if_neg hn]
          rw [if_pos (by omega)] at ih
          split <;> omega
    · rw [List.length_cons, List.length_cons]
      have ih := yeB a b l x y
      split at ih <;> rename_i h
      · rw [if_pos h]; omega
      · rw [if_neg h]; omega
def Jfl (n : Nat) (r : Reg) : Prop := ∀ (q : Nat) (l : List Place), r.places[q]? = some l → l.length ≤ n
theorem Jfl.enters {is : List Item} {r : Reg} {n i : Nat} {x : Item} (h : Jfl n r) : Jfl (n + 1) (r.enters is i x) := by
  have h' : Jfl (n + 1) r := fun q l hl => Nat.le_succ_of_le (h q l hl)
  have gn : ∀ (r' : Reg) (f : Nat → Bool), r'.places = r.places → Jfl (n + 1) (r'.gone x.plot f) := fun r' f e q l hl => by
    have hl : (setAt r'.places x.plot fun (l : List Place) => l.filter fun (p : Place) => !f p.entry)[q]? = some l := hl
    rw [Jaq, e] at hl
    obtain ⟨l0, h1, h2⟩ := Option.map_eq_some_iff.mp hl
    have := h' q l0 h1
    split at h2
    · subst h2
      exact Nat.le_trans (List.length_filter_le _ _) this
    · subst h2
      exact this
  unfold Reg.enters
  cases x.act with
  | charge a b c m d =>
    intro q l hl
    have hl : (setAt r.places x.plot fun (l : List Place) => l ++ [⟨i, m⟩])[q]? = some l := hl
    rw [Jaq] at hl
    obtain ⟨l0, h1, h2⟩ := Option.map_eq_some_iff.mp hl
    have := h q l0 h1
    split at h2
    · subst h2
      rw [List.length_append, List.length_singleton]
      omega
    · subst h2
      omega
  | fulfil k b => exact gn _ _ rfl
  | strike k b => exact gn _ _ rfl
  | ahead a b =>
    intro q l hl
    have hl : (setAt r.places x.plot (before_ a b))[q]? = some l := hl
    rw [Jaq] at hl
    obtain ⟨l0, h1, h2⟩ := Option.map_eq_some_iff.mp hl
    have := h q l0 h1
    split at h2
    · subst h2
      have z := yeB a b l0 (amountOf l0 a) (amountOf l0 b)
      show (refill a b (amountOf l0 a) (amountOf l0 b) l0).length ≤ n + 1
      split at z <;> omega
    · subst h2
      omega
  | _ => exact h'
theorem ygB (is : List Item) : ∀ (l : List Item) (i n : Nat) (r : Reg), Jfl n r → Jfl (n + l.length) (regs is i l r)
  | [], _, _, _, h => h
  | x :: l, i, n, r, h => by
    have z := ygB is l (i + 1) (n + 1) _ (h.enters (is := is) (i := i) (x := x))
    have e : n + 1 + l.length = n + (x :: l).length := by rw [List.length_cons]; omega
    rw [e] at z
    exact z
theorem Jg5 (o : List Nat) : Jfl 0 (begun o).1 := fun q l hl => by
  have hl : (o.map fun (_ : Nat) => ([] : List Place))[q]? = some l := hl
  rw [List.getElem?_map] at hl
  obtain ⟨x, _, e⟩ := Option.map_eq_some_iff.mp hl
  subst e
  exact Nat.le_refl _
end Lr
namespace Lr
open Sy33
structure Sh where
  reg : Nat
  own : Nat
  std : List Nat
  pls : List Place
  giv : List Nat
def isObj (is : List Item) (e : Nat) : Bool := match is[e]? with
  | some x => (match x.act with
    | .objection _ _ => true
    | _ => false)
  | none => false
def Zek (is : List Item) (e : Nat) : Bool := match is[e]? with
  | some x => (match x.act with
    | .charge _ _ _ _ _ => true
    | .notice _ _ _ _ => true
    | _ => false)
  | none => false
def Sh.acq (is : List Item) (s : Sh) (k : Bool) : Bool := s.reg == s.own || (!k && !(s.std.any (isObj is)))
def Sh.effect (is : List Item) (i : Nat) (a : Act) (s : Sh) : Sh := match a with
  | .transfer _ _ to k => if s.acq is k = true then { s with own := to } else s
  | .charge _ _ _ _ k => if s.acq is k = true then { s with giv := s.giv ++ [i] } else s
  | .notice _ _ _ k => if s.acq is k = true then { s with giv := s.giv ++ [i] } else s
  | .fulfil n k => (match noticeOf is n with
    | none => s
    | some y => if n ∈ s.giv ∨ (y.1 = s.reg ∧ s.acq is k = true) then { s with own := y.2 } else s)
  | _ => s
def Sh.drop (s : Sh) (f : Nat → Bool) : Sh := { s with std := s.std.filter fun e => !f e, pls := s.pls.filter fun p => !f p.entry }
def Sh.enter (is : List Item) (i : Nat) (a : Act) (now : Nat) (s : Sh) : Sh := match a with
  | .transfer _ _ to _ => { s with reg := to }
  | .charge _ _ _ n _ => { s with std := s.std ++ [i], pls := s.pls ++ [⟨i, n⟩] }
  | .notice _ _ _ _ => { s with std := s.std ++ [i] }
  | .objection _ _ => { s with std := s.std ++ [i] }
  | .fulfil k _ => ({ s with reg := now }).drop fun e => decide (k ≤ e) && Zek is e
  | .strike k _ => s.drop fun e => e == k
  | .ahead a b => { s with pls := before_ a b s.pls }
  | .correct _ => { s with reg := now }
  | .void_ _ => s
def Sh.go (is : List Item) (void : List Nat) (i : Nat) (x : Item) (s : Sh) : Sh := (if void.contains i = true then s else s.effect is i x.act).enter is i x.act x.now
def view (is : List Item) (q : Nat) (s : Reg × Truth) : Sh := ⟨ownerAt s.1.owner q, ownerAt s.2.owner q, s.1.stands.filter fun e => plotOf is e == q, placesAt s.1 q, s.2.valid.filter fun e => plotOf is e == q⟩
theorem yaU {is : List Item} {i : Nat} {x : Item} (h : is[i]? = some x) : plotOf is i = x.plot := by
  unfold plotOf; rw [h]; rfl
theorem jhj (is : List Item) (q : Nat) (s : Reg × Truth) : (view is q s).std.any (isObj is) = objected is s.1 q := by
  show (s.1.stands.filter fun e => plotOf is e == q).any (isObj is) = _
  unfold objected
  rw [Bool.eq_iff_iff, List.any_eq_true, List.any_eq_true]
  constructor
  · rintro ⟨e, he, h⟩
    rw [List.mem_filter] at he
    refine ⟨e, he.1, ?_⟩
    unfold isObj at h
    cases hx : is[e]? with
    | none => rw [hx] at h; cases h
    | some x =>
      rw [hx] at h
      have h2 := he.2
      rw [yaU hx] at h2
      show (x.plot == q && _) = true
      rw [h2]
      exact h
  · rintro ⟨e, he, h⟩
    cases hx : is[e]? with
    | none => rw [hx] at h; cases h
    | some x =>
      rw [hx] at h
      have h : (x.plot == q && (match x.act with
        | .objection _ _ => true
        | _ => false)) = true := h
      rw [Bool.and_eq_true] at h
      refine ⟨e, List.mem_filter.mpr ⟨he, by rw [yaU hx]; exact h.1⟩, ?_⟩
      unfold isObj
      rw [hx]
      exact h.2
theorem ZdY (is : List Item) (q : Nat) (s : Reg × Truth) (k : Bool) : (view is q s).acq is k = acquires is s.1 s.2 q k := by
  unfold Sh.acq acquires
  rw [jhj]
  show (ownerAt s.1.owner q == ownerAt s.2.owner q || _) = _
  congr 1
  rw [Bool.eq_iff_iff, beq_iff_eq, beq_iff_eq]
  exact eq_comm
theorem yeO {l : List (List Place)} {k q : Nat} {f : List Place → List Place} (hq : q < l.length) : (setAt l k f).getD q [] = if q = k then f (l.getD q []) else l.getD q [] := by
  rw [YcS, YcS, Jaq, List.getElem?_eq_getElem hq]
  simp
structure Good (f : File) (i : Nat) (s : Reg × Truth) : Prop where
  lt : JcS i s.1
  ok : JdB f.items f.owners.length s.1
  tl : s.2.owner.length = f.owners.length
  vl : ∀ e ∈ s.2.valid, e < i
  vn : s.2.valid.length ≤ i
theorem Jf9 {f : File} {q i : Nat} {s : Reg × Truth} {x : Item} (void : List Nat) (g : Good f i s) (hx : f.items[i]? = some x) (hq : q < f.owners.length) (hn : x.plot ≠ q) : view f.items q (s.1, s.2.enters f.items s.1 void i x) = view f.items q s := by
  have hp := yaU hx
  have ne : q ≠ x.plot := Ne.symm hn
  unfold Truth.enters
  split
  · rfl
  · have ow : ∀ v : Nat, view f.items q (s.1, { s.2 with owner := setAt s.2.owner x.plot fun _ => v }) = view f.items q s := fun v => by
      unfold view
      have e : ownerAt (setAt s.2.owner x.plot fun _ => v) q = ownerAt s.2.owner q := by
        rw [jcS _ _ _ _ (by rw [g.tl]; exact hq), if_neg ne]
      simp only [e]
    have gv : view f.items q (s.1, { s.2 with valid := s.2.valid ++ [i] }) = view f.items q s := by
      unfold view
      have e : (s.2.valid ++ [i]).filter (fun e => plotOf f.items e == q) = s.2.valid.filter fun e => plotOf f.items e == q := by
        rw [List.filter_append, List.filter_cons, hp, if_neg (by simpa using hn)]
        simp
      simp only [e]
    cases x.act with
    | transfer a b c k => dsimp only; split; exact ow _; rfl
    | charge a b c d k => dsimp only; split; exact gv; rfl
    | notice a b c k => dsimp only; split; exact gv; rfl
    | fulfil n k =>
      dsimp only
      split
      · rfl
      · split; exact ow _; rfl
    | _ => rfl
theorem zg6 {is : List Item} {l : List Nat} {q : Nat} {f : Nat → Bool} (h : ∀ e ∈ l, f e = true → plotOf is e ≠ q) : (l.filter fun e => !f e).filter (fun e => plotOf is e == q) = l.filter fun e => plotOf is e == q := by
  rw [List.filter_filter]
  refine List.filter_congr fun e he => ?_
  cases hf : f e with
  | false => simp
  | true =>
    have := h e he hf
    simp [this]
theorem zga {f : File} {q i : Nat} {s : Reg × Truth} {x : Item} (w : WF f) (g : Good f i s) (hx : f.items[i]? = some x) (hq : q < f.owners.length) (hn : x.plot ≠ q) : view f.items q (s.1.enters f.items i x, s.2) = view f.items q s := by
  have hp := yaU hx
  have ne : q ≠ x.plot := Ne.symm hn
  have z := (w.ok i x hx).2
  have ow : ∀ v : Nat, view f.items q ({ s.1 with owner := setAt s.1.owner x.plot fun _ => v }, s.2) = view f.items q s := fun v => by
    unfold view
    have e : ownerAt (setAt s.1.owner x.plot fun _ => v) q = ownerAt s.1.owner q := by
      rw [jcS _ _ _ _ (by rw [g.ok.ol]; exact hq), if_neg ne]
    simp only [e]
    rfl
  have es : (s.1.stands ++ [i]).filter (fun e => plotOf f.items e == q) = s.1.stands.filter fun e => plotOf f.items e == q := by
    rw [List.filter_append, List.filter_cons, hp, if_neg (by simpa using hn)]
    simp
  have ep : ∀ h : List Place → List Place, (setAt s.1.places x.plot h).getD q [] = s.1.places.getD q [] := fun h => by
    rw [yeO (by rw [g.ok.pl]; exact hq), if_neg ne]
  have gn : ∀ (r : Reg) (h : Nat → Bool), r.places = s.1.places → r.stands = s.1.stands → (∀ e ∈ s.1.stands, h e = true → plotOf f.items e ≠ q) → view f.items q (r.gone x.plot h, s.2) = view f.items q (r, s.2) := fun r h e1 e2 h3 => by
    unfold view placesAt Reg.gone
    simp only [e1, e2, ep, zg6 h3]
  unfold Reg.enters
  cases ha : x.act with
  | transfer a b c k => exact ow _
  | charge a b c d k =>
    unfold view placesAt
    simp only [es, ep]
  | notice a b c k =>
    unfold view placesAt
    simp only [es]
  | objection a b =>
    unfold view placesAt
    simp only [es]
  | fulfil k b =>
    rw [ha] at z
    refine (gn { s.1 with owner := setAt s.1.owner x.plot fun _ => x.now } _ rfl rfl fun e he h3 => ?_).trans (ow _)
    rw [Bool.or_eq_true] at h3
    rcases h3 with h3 | h3
    · rw [eq_of_beq h3, z.2.1]; exact hn
    · unfold later at h3
      rw [Bool.and_eq_true] at h3
      cases hy : f.items[e]? with
      | none => rw [hy] at h3; cases h3.2
      | some y =>
        rw [hy] at h3
        have h4 := h3.2
        dsimp only at h4
        rw [Bool.and_eq_true] at h4
        rw [yaU hy, eq_of_beq h4.1]
        exact hn
  | strike k b =>
    rw [ha] at z
    refine gn s.1 _ rfl rfl fun e he h3 => ?_
    rw [eq_of_beq h3, z.2.1]
    exact hn
  | ahead a b =>
    unfold view placesAt
    simp only [ep]
  | correct a => exact ow _
  | void_ k => rfl
theorem Yhu {f : File} {q i : Nat} {s : Reg × Truth} {x : Item} (void : List Nat) (w : WF f) (g : Good f i s) (hx : f.items[i]? = some x) (hq : x.plot = q) (hw : x.was = ownerAt s.1.owner q) :
    view f.items q (s.1, s.2.enters f.items s.1 void i x) = if void.contains i = true then view f.items q s else (view f.items q s).effect f.items i x.act := by
  have hp := yaU hx
  have z := (w.ok i x hx)
  have hql : q < f.owners.length := by rw [← hq]; exact z.1
  have z := z.2
  unfold Truth.enters
  split
  · rfl
  · have ow : ∀ v : Nat, view f.items q (s.1, { s.2 with owner := setAt s.2.owner x.plot fun _ => v }) = { view f.items q s with own := v } := fun v => by
      unfold view
      have e : ownerAt (setAt s.2.owner x.plot fun _ => v) q = v := by
        rw [jcS _ _ _ _ (by rw [g.tl]; exact hql), if_pos hq.symm]
      simp only [e]
    have gv : view f.items q (s.1, { s.2 with valid := s.2.valid ++ [i] }) = { view f.items q s with giv := (view f.items q s).giv ++ [i] } := by
      unfold view
      have e : (s.2.valid ++ [i]).filter (fun e => plotOf f.items e == q) = (s.2.valid.filter fun e => plotOf f.items e == q) ++ [i] := by
        rw [List.filter_append, List.filter_cons, hp, if_pos (by simpa using hq)]
        simp
      simp only [e]
    unfold Sh.effect
    cases ha : x.act with
    | transfer a b c k =>
      dsimp only
      subst hq
      rw [ZdY]
      split
      · exact ow _
      · rfl
    | charge a b c d k =>
      dsimp only
      rw [ZdY, hq, ← hq]
      split
      · rw [← hq] at gv; exact gv
      · rfl
    | notice a b c k =>
      dsimp only
      rw [ZdY, hq, ← hq]
      split
      · rw [← hq] at gv; exact gv
      · rfl
    | fulfil n k =>
      dsimp only
      cases hn : noticeOf f.items n with
      | none => rfl
      | some y =>
        dsimp only
        rw [ha] at z
        have e1 : (n ∈ (view f.items q s).giv ∨ y.1 = (view f.items q s).reg ∧ (view f.items q s).acq f.items k = true) ↔ (s.2.valid.contains n = true ∨ y.1 = x.was ∧ acquires f.items s.1 s.2 x.plot k = true) := by
          rw [ZdY, hq, hw]
          show (n ∈ (s.2.valid.filter fun e => plotOf f.items e == q) ∨ _) ↔ _
          rw [List.mem_filter, List.contains_iff_mem]
          have e3 : (plotOf f.items n == q) = true := by rw [z.2.1, hq]; exact beq_self_eq_true q
          simp only [e3, and_true]
          rfl
        by_cases h : s.2.valid.contains n = true ∨ y.1 = x.was ∧ acquires f.items s.1 s.2 x.plot k = true
        · rw [if_pos h, if_pos (e1.mpr h)]
          exact ow _
        · rw [if_neg h, if_neg (fun t => h (e1.mp t))]
    | _ => rfl
theorem Jhj {is : List Item} {l : List Nat} {q : Nat} {f g : Nat → Bool} (h : ∀ e ∈ l, plotOf is e = q → f e = g e) : (l.filter fun e => !f e).filter (fun e => plotOf is e == q) = (l.filter fun e => plotOf is e == q).filter fun e => !g e := by
  rw [List.filter_filter, List.filter_filter]
  refine List.filter_congr fun e he => ?_
  by_cases hq : plotOf is e = q
  · rw [h e he hq, Bool.and_comm]
  · have e1 : (plotOf is e == q) = false := beq_eq_false_iff_ne.mpr hq
    rw [e1, Bool.and_false, Bool.false_and]
theorem jhu {f : File} {q i : Nat} {s : Reg × Truth} {t : Truth} {x : Item} (w : WF f) (g : Good f i s) (hx : f.items[i]? = some x) (hq : x.plot = q) :
    view f.items q (s.1.enters f.items i x, t) = (view f.items q (s.1, t)).enter f.items i x.act x.now := by
  have hp := yaU hx
  have z := (w.ok i x hx)
  have hql : q < f.owners.length := by rw [← hq]; exact z.1
  have z := z.2
  have ow : ∀ v : Nat, ownerAt (setAt s.1.owner x.plot fun _ => v) q = v := fun v => by
    rw [jcS _ _ _ _ (by rw [g.ok.ol]; exact hql), if_pos hq.symm]
  have own_ : ∀ v : Nat, view f.items q ({ s.1 with owner := setAt s.1.owner x.plot fun _ => v }, t) = { view f.items q (s.1, t) with reg := v } := fun v => by
    show Sh.mk (ownerAt (setAt s.1.owner x.plot fun _ => v) q) _ _ _ _ = Sh.mk v _ _ _ _
    rw [ow]
    rfl
  have es : (s.1.stands ++ [i]).filter (fun e => plotOf f.items e == q) = (s.1.stands.filter fun e => plotOf f.items e == q) ++ [i] := by
    rw [List.filter_append, List.filter_cons, hp, if_pos (by simpa using hq)]
    simp
  have ep : ∀ h : List Place → List Place, (setAt s.1.places x.plot h).getD q [] = h (s.1.places.getD q []) := fun h => by
    rw [yeO (by rw [g.ok.pl]; exact hql), if_pos hq.symm]
  have pin : ∀ p ∈ s.1.places.getD q [], p.entry ∈ s.1.stands ∧ isCharge f.items p.entry = true ∧ plotOf f.items p.entry = q := fun p hpp => by
    have hl : s.1.places[q]? = some (s.1.places.getD q []) := by
      rw [YcS, List.getElem?_eq_getElem (by rw [g.ok.pl]; exact hql)]
      rfl
    exact g.ok.pin q _ hl p hpp
  have gn : ∀ (r : Reg) (h h' : Nat → Bool), r.places = s.1.places → r.stands = s.1.stands → (∀ e ∈ s.1.stands, plotOf f.items e = q → h e = h' e) → view f.items q (r.gone x.plot h, t) = (view f.items q (r, t)).drop h' := fun r h h' e1 e2 h3 => by
    unfold view placesAt Reg.gone Sh.drop
    have e4 : ((s.1.places.getD q []).filter fun p => !h p.entry) = (s.1.places.getD q []).filter fun p => !h' p.entry := List.filter_congr fun p hpp => by
      obtain ⟨a, _, c⟩ := pin p hpp
      rw [h3 _ a c]
    simp only [e1, e2, ep, Jhj h3, e4]
  unfold Reg.enters Sh.enter
  cases ha : x.act with
  | transfer a b c k =>
    rw [ha] at z
    dsimp only
    rw [z.2.2.1]
    exact own_ _
  | charge a b c d k =>
    unfold view placesAt
    simp only [es, ep]
  | notice a b c k =>
    unfold view placesAt
    simp only [es]
  | objection a b =>
    unfold view placesAt
    simp only [es]
  | fulfil k b =>
    rw [ha] at z
    obtain ⟨hk, hkp, gg, pp, hno, _⟩ := z
    have e5 := own_ x.now
    dsimp only
    rw [← e5]
    refine gn _ _ _ rfl rfl fun e he h3 => ?_
    have hlt := g.lt.st e he
    have hil := Yah hx
    have hy : f.items[e]? = some f.items[e] := List.getElem?_eq_getElem (by omega)
    unfold later Zek
    rw [hy]
    dsimp only
    rw [yaU hy] at h3
    rw [h3, hq, beq_self_eq_true, Bool.true_and]
    by_cases hek : e = k
    · subst hek
      rw [beq_self_eq_true, Bool.true_or]
      unfold noticeOf at hno
      rw [hy] at hno
      have hno : (match (f.items[e]).act with
        | .notice _ g p _ => some (g, p)
        | _ => none) = some (gg, pp) := hno
      split at hno
      · rename_i hh
        rw [hh]
        simp
      · cases hno
    · have e6 : (e == k) = false := by simpa using hek
      rw [e6, Bool.false_or]
      have e7 : decide (k < e) = decide (k ≤ e) := by
        rw [decide_eq_decide]; omega
      rw [e7]
      rfl
  | strike k b =>
    exact gn s.1 _ _ rfl rfl fun e he h3 => rfl
  | ahead a b =>
    unfold view placesAt
    simp only [ep]
  | correct a => exact own_ _
  | void_ k => rfl
theorem Zg6 {f : File} {q i : Nat} {s : Reg × Truth} {x : Item} (void : List Nat) (w : WF f) (g : Good f i s) (hx : f.items[i]? = some x) (hq : q < f.owners.length) (hw : x.was = ownerAt s.1.owner x.plot) :
    view f.items q (s.1.enters f.items i x, s.2.enters f.items s.1 void i x) = if x.plot = q then (view f.items q s).go f.items void i x else view f.items q s := by
  by_cases h : x.plot = q
  · rw [if_pos h, jhu (s := s) w g hx h, Yhu void w g hx h (by rw [← h]; exact hw)]
    rfl
  · rw [if_neg h]
    have g2 : Good f i (s.1, s.2.enters f.items s.1 void i x) → view f.items q (s.1.enters f.items i x, s.2.enters f.items s.1 void i x) = view f.items q (s.1, s.2.enters f.items s.1 void i x) := fun g2 => zga (s := (s.1, s.2.enters f.items s.1 void i x)) w g2 hx hq h
    rw [← Jf9 void g hx hq h]
    have e := zga (s := s) w g hx hq h
    have e2 := Jf9 void g hx hq h
    unfold view at e e2 ⊢
    injection e with a1 a2 a3 a4 a5
    injection e2 with b1 b2 b3 b4 b5
    simp only at a1 a3 a4 b2 b5 ⊢
    rw [a1, a3, a4]
end Lr
namespace Lr
open Sy33
def jbh (f : File) (void : List Nat) (i : Nat) : Reg × Truth := both f.items void 0 (f.items.take i) (begun f.owners)
theorem zcT {f : File} {void : List Nat} {i : Nat} {x : Item} (hx : f.items[i]? = some x) : jbh f void (i + 1) = ((jbh f void i).1.enters f.items i x, (jbh f void i).2.enters f.items (jbh f void i).1 void i x) := by
  unfold jbh
  have hi := Yah hx
  rw [List.take_add_one, hx]
  show both f.items void 0 (f.items.take i ++ [x]) _ = _
  rw [Yf9, List.length_take, Nat.min_eq_left (Nat.le_of_lt hi), Nat.zero_add]
theorem zhk {m i : Nat} {is : List Item} {r : Reg} {t : Truth} {v : List Nat} {x : Item} (h1 : t.owner.length = m) (h2 : ∀ e ∈ t.valid, e < i) (h3 : t.valid.length ≤ i) : (t.enters is r v i x).owner.length = m ∧ (∀ e ∈ (t.enters is r v i x).valid, e < i + 1) ∧ (t.enters is r v i x).valid.length ≤ i + 1 := by
  have h2' : ∀ e ∈ t.valid, e < i + 1 := fun e he => Nat.lt_succ_of_lt (h2 e he)
  have ow : ∀ w : Nat, ({ t with owner := setAt t.owner x.plot fun _ => w } : Truth).owner.length = m ∧ (∀ e ∈ ({ t with owner := setAt t.owner x.plot fun _ => w } : Truth).valid, e < i + 1) ∧ t.valid.length ≤ i + 1 := fun w => ⟨by rw [Jde]; exact h1, h2', by omega⟩
  have gv : ({ t with valid := t.valid ++ [i] } : Truth).owner.length = m ∧ (∀ e ∈ ({ t with valid := t.valid ++ [i] } : Truth).valid, e < i + 1) ∧ (t.valid ++ [i]).length ≤ i + 1 := ⟨h1, fun e he => by
    rcases List.mem_append.mp he with h | h
    · exact h2' e h
    · rw [List.mem_singleton.mp h]; exact Nat.lt_succ_self i, by rw [List.length_append]; exact Nat.succ_le_succ h3⟩
  have st := And.intro h1 (And.intro h2' (show t.valid.length ≤ i + 1 by omega))
  unfold Truth.enters
  split
  · exact st
  · cases x.act with
    | transfer a b c k => dsimp only; split; exact ow _; exact st
    | charge a b c d k => dsimp only; split; exact gv; exact st
    | notice a b c k => dsimp only; split; exact gv; exact st
    | fulfil n k =>
      dsimp only
      split
      · exact st
      · split; exact ow _; exact st
    | _ => exact st
theorem WF.jgO {f : File} (h : WF f) (void : List Nat) : ∀ i, i ≤ f.items.length → Good f i (jbh f void i)
  | 0, _ => ⟨ydf _, ZgB _ _, rfl, fun e he => (by cases he), Nat.le_refl _⟩
  | i + 1, hi => by
    have g := h.jgO void i (by omega)
    have hx : f.items[i]? = some f.items[i] := List.getElem?_eq_getElem (by omega)
    obtain ⟨a, b⟩ := h.Yhy (i + 1) hi
    have e1 : regs f.items 0 (f.items.take (i + 1)) (begun f.owners).1 = (jbh f void (i + 1)).1 := (zdf _ _ _ _ _).symm
    rw [e1] at a b
    obtain ⟨c, d, e⟩ := zhk (is := f.items) (r := (jbh f void i).1) (v := void) (x := f.items[i]) g.tl g.vl g.vn
    refine ⟨a, b, ?_, ?_, ?_⟩
    · rw [zcT hx]; exact c
    · rw [zcT hx]; exact d
    · rw [zcT hx]; exact e
theorem YeB (f : File) (void : List Nat) (i : Nat) : (jbh f void i).1 = regs f.items 0 (f.items.take i) (begun f.owners).1 := zdf _ _ _ _ _
def YgB (f : File) (void : List Nat) (q i : Nat) : Sh := view f.items q (jbh f void i)
theorem yg6 (f : File) (void : List Nat) {q : Nat} (hq : q < f.owners.length) : YgB f void q 0 = ⟨ownerAt f.owners q, ownerAt f.owners q, [], [], []⟩ := by
  show Sh.mk _ _ _ ((f.owners.map fun _ => []).getD q []) _ = _
  have e : ((f.owners.map fun (_ : Nat) => ([] : List Place)).getD q []) = [] := by
    rw [YcS, List.getElem?_map]
    cases f.owners[q]? with
    | none => rfl
    | some x => rfl
  rw [e]
  rfl
theorem Yg6 {f : File} (w : WF f) (void : List Nat) {q i : Nat} {x : Item} (hq : q < f.owners.length) (hx : f.items[i]? = some x) : YgB f void q (i + 1) = if x.plot = q then (YgB f void q i).go f.items void i x else YgB f void q i := by
  unfold YgB
  rw [zcT hx]
  refine Zg6 void w (w.jgO void i (Nat.le_of_lt (Yah hx))) hx hq ?_
  rw [YeB]
  exact w.was i x hx
structure StOk (f : File) (q i : Nat) (s : Sh) : Prop where
  lt : ∀ e ∈ s.std, e < i
  up : s.std.Pairwise (· < ·)
  hd : ∀ e ∈ s.std, (holder f.items e).isSome = true ∧ plotOf f.items e = q
  pin : ∀ p ∈ s.pls, p.entry ∈ s.std ∧ isCharge f.items p.entry = true
  pl : s.pls.length ≤ i
structure ShOk (f : File) (q i : Nat) (s : Sh) : Prop extends StOk f q i s where
  gl : ∀ e ∈ s.giv, e < i
  gn : s.giv.length ≤ i
theorem WF.Zhk {f : File} (h : WF f) (void : List Nat) {q i : Nat} (hq : q < f.owners.length) (hi : i ≤ f.items.length) : ShOk f q i (YgB f void q i) := by
  have g := h.jgO void i hi
  have hl : (jbh f void i).1.places[q]? = some ((jbh f void i).1.places.getD q []) := by
    rw [YcS, List.getElem?_eq_getElem (by rw [g.ok.pl]; exact hq)]
    rfl
  refine ⟨⟨fun e he => g.lt.st e (List.mem_filter.mp he).1, g.ok.up.filter _, fun e he => ?_, fun p hp => ?_, ?_⟩, fun e he => g.vl e (List.mem_filter.mp he).1, Nat.le_trans (List.length_filter_le _ _) g.vn⟩
  · obtain ⟨a, b⟩ := List.mem_filter.mp he
    exact ⟨g.ok.hd e a, eq_of_beq b⟩
  · obtain ⟨a, b, c⟩ := g.ok.pin q _ hl p hp
    exact ⟨List.mem_filter.mpr ⟨a, by rw [c]; exact beq_self_eq_true q⟩, b⟩
  · have z := ygB f.items (f.items.take i) 0 0 _ (Jg5 f.owners) q _ (by rw [← YeB f void]; exact hl)
    rw [List.length_take, Nat.min_eq_left hi, Nat.zero_add] at z
    exact z
theorem upto {f : File} (h : WF f) (d : Nat) : ∃ n, n ≤ f.items.length ∧ (∀ (i : Nat) (x : Item), f.items[i]? = some x → (x.day ≤ d ↔ i < n)) ∧ ∀ k, f.on d k = jbh f (voids f.items k) n := by
  obtain ⟨n, hn, e⟩ := JdX (fun (x : Item) => decide (x.day ≤ d)) f.items
  refine ⟨n, hn, fun i x hx => ?_, fun k => ?_⟩
  · have e2 : f.items.take n = f.items.filter fun x => decide (x.day ≤ d) := by rw [← e]; exact Ydf h.day
    constructor
    · intro hd
      apply Decidable.byContradiction
      intro hin
      have hlen := Yah hx
      have hnl : n < f.items.length := by omega
      have e3 : f.items = f.items.take n ++ f.items.drop n := (List.take_append_drop n f.items).symm
      have e4 := congrArg (List.filter fun (x : Item) => decide (x.day ≤ d)) e3
      rw [List.filter_append, ← e2, List.filter_eq_self.mpr] at e4
      · have e5 : (f.items.drop n).filter (fun (x : Item) => decide (x.day ≤ d)) = [] := by
          have e6 := congrArg List.length e4
          rw [List.length_append] at e6
          exact List.length_eq_zero_iff.mp (by omega)
        have hm : x ∈ f.items.drop n := by
          refine List.mem_of_getElem? (i := i - n) ?_
          rw [List.getElem?_drop, show n + (i - n) = i by omega]
          exact hx
        have := List.filter_eq_nil_iff.mp e5 x hm
        exact this (by simpa using hd)
      · intro y hy
        rw [e2] at hy
        exact (List.mem_filter.mp hy).2
    · intro hi
      have hm : x ∈ f.items.take n := by
        refine List.mem_of_getElem? (i := i) ?_
        rw [List.getElem?_take, if_pos hi]
        exact hx
      rw [e2] at hm
      simpa using (List.mem_filter.mp hm).2
  · unfold File.on jbh
    rw [e]
theorem jgB (f : File) : f.now = jbh f (voids f.items DAY) f.items.length := by
  unfold File.now jbh
  rw [List.take_length]
def yaj (f : File) (q d k : Nat) : Sh := view f.items q (f.on d k)
def ycE (f : File) (q : Nat) : Sh := view f.items q f.now
theorem YhD {f : File} (h : WF f) (q : Nat) : ycE f q = yaj f q DAY DAY := by
  obtain ⟨n, hn, h1, h2⟩ := upto h DAY
  unfold ycE yaj
  rw [h2, jgB]
  have e : n = f.items.length := by
    apply Decidable.byContradiction
    intro hne
    have hx : f.items[n]? = some f.items[n] := List.getElem?_eq_getElem (by omega)
    have := (h1 n _ hx).mp (h.dmax _ (List.mem_of_getElem? hx))
    omega
  rw [e]
theorem JgO (is : List Item) (i : Nat) (a : Act) (s : Sh) : (s.effect is i a).std = s.std ∧ (s.effect is i a).pls = s.pls := by
  unfold Sh.effect
  cases a with
  | transfer => dsimp only; split <;> exact ⟨rfl, rfl⟩
  | charge => dsimp only; split <;> exact ⟨rfl, rfl⟩
  | notice => dsimp only; split <;> exact ⟨rfl, rfl⟩
  | fulfil n k =>
    dsimp only
    split
    · exact ⟨rfl, rfl⟩
    · split <;> exact ⟨rfl, rfl⟩
  | _ => exact ⟨rfl, rfl⟩
theorem StOk.congr {f : File} {q i : Nat} {s s' : Sh} (h : StOk f q i s) (e1 : s'.std = s.std) (e2 : s'.pls = s.pls) : StOk f q i s' :=
  ⟨by rw [e1]; exact h.lt, by rw [e1]; exact h.up, by rw [e1]; exact h.hd, by rw [e1, e2]; exact h.pin, by rw [e2]; exact h.pl⟩
theorem drop_drop (s : Sh) (f g : Nat → Bool) : (s.drop f).drop g = s.drop fun e => f e || g e := by
  unfold Sh.drop
  dsimp only
  rw [List.filter_filter, List.filter_filter]
  congr 1
  · refine List.filter_congr fun e _ => ?_
    cases f e <;> cases g e <;> rfl
  · refine List.filter_congr fun e _ => ?_
    cases f e.entry <;> cases g e.entry <;> rfl
theorem jeB {s : Sh} {f g : Nat → Bool} (h1 : ∀ e ∈ s.std, f e = g e) (h2 : ∀ p ∈ s.pls, f p.entry = g p.entry) : s.drop f = s.drop g := by
  unfold Sh.drop
  congr 1
  · exact List.filter_congr fun e he => by rw [h1 e he]
  · exact List.filter_congr fun p hp => by rw [h2 p hp]
theorem jg6 (s : Sh) : s.drop (fun _ => false) = s := by
  unfold Sh.drop
  have e1 : s.std.filter (fun _ => !false) = s.std := List.filter_eq_self.mpr fun _ _ => rfl
  have e2 : s.pls.filter (fun _ => !false) = s.pls := List.filter_eq_self.mpr fun _ _ => rfl
  rw [e1, e2]
end Lr
namespace Lr
open Sy33
def Jg6 (is : List Item) (void : List Nat) (s : Sh) (a : Act) : Bool := match a with
  | .transfer _ x _ _ => x == s.reg
  | .charge _ x _ _ _ => x == s.reg
  | .notice _ x _ _ => x == s.reg
  | .fulfil k _ => s.std.contains k
  | .strike k x => s.std.contains k && holder is k == some x
  | .ahead x y => s.std.contains x && (s.std.contains y && Yb6 y x s.pls)
  | .void_ k => !void.contains k
  | _ => true
theorem Jcs {is : List Item} {q : Nat} {s : Reg × Truth} {k : Nat} : (view is q s).std.contains k = (s.1.stands.contains k && plotOf is k == q) := by
  rw [Bool.eq_iff_iff, List.contains_iff_mem, Bool.and_eq_true, List.contains_iff_mem]
  exact List.mem_filter
theorem YeO {is : List Item} {q : Nat} {s : Reg × Truth} {k : Nat} (h : plotOf is k = q) : (view is q s).giv.contains k = s.2.valid.contains k := by
  rw [Bool.eq_iff_iff, List.contains_iff_mem, List.contains_iff_mem]
  show k ∈ (s.2.valid.filter fun e => plotOf is e == q) ↔ _
  rw [List.mem_filter]
  simp [h]
theorem yhk {f : File} {a : Act} {plot : Nat} (h : about f a = some plot) : may f f.now.1 plot a = Jg6 f.items (voids f.items DAY) (ycE f plot) a := by
  have sw : ∀ x : Nat, (ownerAt f.now.1.owner plot == x) = (x == (ycE f plot).reg) := fun x => by
    rw [Bool.eq_iff_iff, beq_iff_eq, beq_iff_eq]
    exact eq_comm
  unfold may Jg6
  cases a with
  | transfer q x y k => exact sw x
  | charge q x y n k => exact sw x
  | notice q x y k => exact sw x
  | fulfil k b =>
    obtain ⟨y, _, e⟩ := Option.map_eq_some_iff.mp (show (noticeOf f.items k).map (fun (_ : Nat × Nat) => plotOf f.items k) = some plot from h)
    show f.now.1.stands.contains k = (ycE f plot).std.contains k
    unfold ycE
    rw [Jcs, e, beq_self_eq_true, Bool.and_true]
  | strike k x =>
    obtain ⟨y, _, e⟩ := Option.map_eq_some_iff.mp (show (holder f.items k).map (fun (_ : Nat) => plotOf f.items k) = some plot from h)
    show (f.now.1.stands.contains k && _) = ((ycE f plot).std.contains k && _)
    unfold ycE
    rw [Jcs, e, beq_self_eq_true, Bool.and_true]
  | ahead x y =>
    have h : (if (isCharge f.items x && (isCharge f.items y && x != y)) = true then some (plotOf f.items x) else none) = some plot := h
    split at h
    · rename_i hc
      have e := Option.some.inj h
      rw [Bool.and_eq_true, Bool.and_eq_true] at hc
      have hne : y ≠ x := by
        have := hc.2.2
        intro z
        subst z
        simp at this
      show (f.now.1.stands.contains x && (f.now.1.stands.contains y && (plotOf f.items x == plotOf f.items y && decide (firstPlace (placesAt f.now.1 plot) y < firstPlace (placesAt f.now.1 plot) x)))) = ((ycE f plot).std.contains x && ((ycE f plot).std.contains y && Yb6 y x (ycE f plot).pls))
      rw [jfH hne]
      unfold ycE
      rw [Jcs, Jcs, e, beq_self_eq_true, Bool.and_true, Bool.and_assoc]
      have e2 : (plot == plotOf f.items y) = (plotOf f.items y == plot) := by
        rw [Bool.eq_iff_iff, beq_iff_eq, beq_iff_eq]; exact eq_comm
      rw [e2]
      rfl
    · cases h
  | objection q x => rfl
  | correct q => rfl
  | void_ k => rfl
theorem JgB {f : File} (w : WF f) {a : Act} {plot : Nat} (h1 : actOk f a = true) (h : about f a = some plot) : plot < f.owners.length := by
  have inside : ∀ k, k < f.items.length → plotOf f.items k < f.owners.length := fun k hk => by
    have hx : f.items[k]? = some f.items[k] := List.getElem?_eq_getElem hk
    rw [yaU hx]
    exact (w.ok k _ hx).1
  unfold about at h
  unfold actOk at h1
  cases a with
  | transfer q x y k =>
    have e := Option.some.inj h
    subst e
    simp at h1
    exact h1.1
  | charge q x y n k =>
    have e := Option.some.inj h
    subst e
    simp at h1
    exact h1.1
  | notice q x y k =>
    have e := Option.some.inj h
    subst e
    simp at h1
    exact h1.1
  | objection q x =>
    have e := Option.some.inj h
    subst e
    simp at h1
    exact h1.1
  | correct q =>
    have e := Option.some.inj h
    subst e
    simp at h1
    exact h1
  | fulfil k b =>
    obtain ⟨y, hy, e⟩ := Option.map_eq_some_iff.mp h
    subst e
    exact inside k (zdY hy)
  | strike k b =>
    obtain ⟨y, hy, e⟩ := Option.map_eq_some_iff.mp h
    subst e
    exact inside k (ye7 hy)
  | ahead x y =>
    dsimp only at h
    split at h
    · rename_i hc
      have e := Option.some.inj h
      rw [Bool.and_eq_true] at hc
      subst e
      exact inside x (jb6 hc.1)
    · cases h
  | void_ k =>
    obtain ⟨x, hx, e⟩ := Option.bind_eq_some_iff.mp h
    have hp := (w.ok k x hx).1
    cases ha : x.act with
    | transfer => rw [ha] at e; rw [← Option.some.inj e]; exact hp
    | charge => rw [ha] at e; rw [← Option.some.inj e]; exact hp
    | notice => rw [ha] at e; rw [← Option.some.inj e]; exact hp
    | fulfil => rw [ha] at e; rw [← Option.some.inj e]; exact hp
    | _ => rw [ha] at e; cases e
theorem zgP (f : File) (q d k : Nat) (hq : q < f.owners.length) : (step f (.owner q d k)).2 = ⟨0, [[(yaj f q d k).reg, (yaj f q d k).own]]⟩ := by
  show onPlot f q _ = _
  unfold onPlot
  rw [if_neg (by omega)]
  rfl
theorem zg7 (f : File) (q d k : Nat) (hq : q < f.owners.length) : (step f (.rely q d k)).2 = ok (bit ((yaj f q d k).acq f.items false) : Nat) := by
  show onPlot f q _ = _
  unfold onPlot yaj
  rw [if_neg (by omega), ZdY]
theorem zgj {f : File} (w : WF f) (q d k : Nat) (hq : q < f.owners.length) : (step f (.charges q d k)).2 = ⟨((yaj f q d k).pls.length : Nat), (yaj f q d k).pls.map fun p => [p.entry, creditor f.items p.entry, p.amount, bit ((yaj f q d k).giv.contains p.entry)]⟩ := by
  show onPlot f q _ = _
  unfold onPlot
  rw [if_neg (by omega)]
  obtain ⟨n, hn, _, e⟩ := upto w d
  have so : ShOk f q n (yaj f q d k) := by
    unfold yaj
    rw [e]
    exact w.Zhk _ hq hn
  have e2 : (yaj f q d k).pls.map (fun p => [p.entry, creditor f.items p.entry, p.amount, bit ((yaj f q d k).giv.contains p.entry)]) = (yaj f q d k).pls.map fun p => [p.entry, creditor f.items p.entry, p.amount, bit ((f.on d k).2.valid.contains p.entry)] := by
    refine List.map_congr_left fun p hp => ?_
    have e3 := YeO (s := f.on d k) (so.hd _ (so.pin p hp).1).2
    unfold yaj
    rw [e3]
  rw [e2]
  rfl
def shr (giv : List Nat) : Nat → List Place → List (Nat × Nat)
  | _, [] => []
  | n, p :: l => (p.entry, if giv.contains p.entry = true then min n p.amount else 0) :: shr giv (n - if giv.contains p.entry = true then min n p.amount else 0) l
theorem ZfI (t : Truth) (giv : List Nat) : ∀ (l : List Place) (n : Nat), (∀ p ∈ l, giv.contains p.entry = t.valid.contains p.entry) → shares t n l = shr giv n l
  | [], _, _ => rfl
  | p :: l, n, h => by
    unfold shares shr
    dsimp only
    rw [h p List.mem_cons_self, ZfI t giv l _ fun q hq => h q (List.mem_cons_of_mem _ hq)]
theorem Zg7 {f : File} (w : WF f) (q d k n : Nat) (hq : q < f.owners.length) (hn : n ≤ AMOUNT) : (step f (.sale q d k n)).2 = ⟨((n - total ((shr (yaj f q d k).giv n (yaj f q d k).pls).map fun x => x.2) : Nat) : Int), (charges (yaj f q d k).pls).map fun e => [e, creditor f.items e, getsOf (shr (yaj f q d k).giv n (yaj f q d k).pls) e]⟩ := by
  show onPlot f q _ = _
  unfold onPlot
  rw [if_neg (by omega), if_neg (by omega)]
  obtain ⟨m, hm, _, e⟩ := upto w d
  have so : ShOk f q m (yaj f q d k) := by
    unfold yaj
    rw [e]
    exact w.Zhk _ hq hm
  have e1 : shares (f.on d k).2 n (placesAt (f.on d k).1 q) = shr (yaj f q d k).giv n (yaj f q d k).pls := ZfI _ _ _ _ fun p hp => YeO (s := f.on d k) (so.hd _ (so.pin p hp).1).2
  dsimp only
  rw [e1]
  rfl
theorem zgC {f : File} (w : WF f) (q d k : Nat) (hq : q < f.owners.length) : (step f (.stands q d)).2 = ⟨((((yaj f q d k).std.filter fun e => !isCharge f.items e).length : Nat) : Int), ((yaj f q d k).std.filter fun e => !isCharge f.items e).map fun e => [e, bit ((noticeOf f.items e).isSome), (holder f.items e).getD 0]⟩ := by
  show onPlot f q _ = _
  unfold onPlot
  rw [if_neg (by omega)]
  have e1 : ((f.on d 0).1.stands.filter fun (e : Nat) => plotOf f.items e == q && !isCharge f.items e) = (yaj f q d k).std.filter fun e => !isCharge f.items e := by
    rw [ZgY, ← ZgY f d k]
    show _ = ((f.on d k).1.stands.filter fun e => plotOf f.items e == q).filter _
    rw [List.filter_filter]
    refine List.filter_congr fun e _ => ?_
    rw [Bool.and_comm]
  rw [e1]
def prs (f : File) (q k d : Nat) : List Nat := [(yaj f q d k).reg, (yaj f q d k).own]
theorem zbd (b : Option (List Nat)) (g : Nat → List Nat) (d : Nat) (l : List Nat) : changes b ((d :: l).map fun d => d :: g d) = if b = some (g d) then changes b (l.map fun d => d :: g d) else (d :: g d) :: changes (some (g d)) (l.map fun d => d :: g d) := by
  rw [List.map_cons, changes]
  rfl
theorem ZgC (g : Nat → List Nat) (d : Nat) (b : Option (List Nat)) (l : List Nat) : changes b ((d :: d :: l).map fun d => d :: g d) = changes b ((d :: l).map fun d => d :: g d) := by
  rw [zbd, zbd, zbd]
  by_cases h : b = some (g d)
  · rw [if_pos h, if_pos h]
  · rw [if_neg h, if_neg h, if_pos rfl]
theorem yg7 (l : List Nat) : ∀ (acc : List Nat) (d : Nat), (acc ++ [d]).Pairwise (· < ·) → (∀ x ∈ l, d ≤ x) → l.Pairwise (· ≤ ·) →
    ∃ r, l.foldl (fun (l : List Nat) (x : Nat) => if l.contains x = true then l else l ++ [x]) (acc ++ [d]) = acc ++ d :: r ∧ ∀ (g : Nat → List Nat) (b : Option (List Nat)), changes b ((d :: r).map fun d => d :: g d) = changes b ((d :: l).map fun d => d :: g d) := by
  induction l with
  | nil => intro acc d _ _ _; exact ⟨[], rfl, fun _ _ => rfl⟩
  | cons x l ih =>
    intro acc d hp hd hs
    rw [List.pairwise_cons] at hs
    rw [List.foldl_cons]
    by_cases e : x = d
    · subst e
      rw [if_pos (by rw [List.contains_iff_mem]; exact List.mem_append_right _ (List.mem_singleton.mpr rfl))]
      obtain ⟨r, h1, h2⟩ := ih acc x hp (fun y hy => hd y (List.mem_cons_of_mem _ hy)) hs.2
      refine ⟨r, h1, fun g b => ?_⟩
      rw [h2, ZgC]
    · have hlt : d < x := by have := hd x List.mem_cons_self; omega
      have hnm : ¬ ((acc ++ [d]).contains x = true) := by
        rw [List.contains_iff_mem]
        intro hm
        have hp2 := List.pairwise_append.mp hp
        rcases List.mem_append.mp hm with h | h
        · have := hp2.2.2 x h d (List.mem_singleton.mpr rfl)
          omega
        · exact e (List.mem_singleton.mp h)
      rw [if_neg hnm]
      have hp3 : ((acc ++ [d]) ++ [x]).Pairwise (· < ·) := by
        rw [List.pairwise_append]
        refine ⟨hp, List.pairwise_singleton _ _, fun a ha b hb => ?_⟩
        rw [List.mem_singleton.mp hb]
        have hp2 := List.pairwise_append.mp hp
        rcases List.mem_append.mp ha with h | h
        · have := hp2.2.2 a h d (List.mem_singleton.mpr rfl)
          omega
        · rw [List.mem_singleton.mp h]; exact hlt
      obtain ⟨r, h1, h2⟩ := ih (acc ++ [d]) x hp3 (fun y hy => hs.1 y hy) hs.2
      refine ⟨x :: r, by rw [h1, List.append_assoc]; rfl, fun g b => ?_⟩
      rw [zbd b g d (x :: r), zbd b g d (x :: l)]
      split
      · exact h2 g b
      · rw [h2 g]
theorem ygC (f : File) : daysOf f = (f.items.map fun x => x.day).foldl (fun (l : List Nat) (x : Nat) => if l.contains x = true then l else l ++ [x]) ([] ++ [0]) := by
  unfold daysOf
  rw [List.foldl_map]
  rfl
theorem Yg7 {f : File} (w : WF f) (q k : Nat) (hq : q < f.owners.length) : (step f (.days q k)).2 = ⟨((changes none ((0 :: f.items.map fun x => x.day).map fun d => d :: prs f q k d)).length : Nat), changes none ((0 :: f.items.map fun x => x.day).map fun d => d :: prs f q k d)⟩ := by
  show onPlot f q _ = _
  unfold onPlot
  rw [if_neg (by omega)]
  obtain ⟨r, h1, h2⟩ := yg7 (f.items.map fun x => x.day) [] 0 (List.pairwise_singleton _ _) (fun x _ => Nat.zero_le x) (List.pairwise_map.mpr w.day)
  have e1 : changes none ((daysOf f).map fun (d : Nat) => let s := f.on d k
        [d, ownerAt s.1.owner q, ownerAt s.2.owner q]) = changes none ((0 :: f.items.map fun x => x.day).map fun d => d :: prs f q k d) := by
    rw [← h2, ygC, h1]
    rfl
  dsimp only at e1 ⊢
  rw [e1]
theorem Yhk (f : File) (q : Nat) (a : Ans) (hq : ¬ q < f.owners.length) : onPlot f q a = ok (-1) := by
  unfold onPlot
  rw [if_pos (by omega)]
end Lr
namespace Lr
open Sy33
def chN (l : List (Nat × Nat)) : List Nat := l.foldl (fun (m : List Nat) (p : Nat × Nat) => if m.contains p.1 = true then m else m ++ [p.1]) []
theorem ydY (l : List (Nat × Nat)) (p : Nat × Nat) : chN (l ++ [p]) = if (chN l).contains p.1 = true then chN l else chN l ++ [p.1] := by
  unfold chN
  rw [List.foldl_append]
  rfl
theorem jdf (l r : List Nat) : total (l ++ r) = total l + total r := by
  have h : ∀ (r : List Nat) (a b : Nat), r.foldl (fun (a b : Nat) => a + b) (a + b) = a + r.foldl (fun (a b : Nat) => a + b) b := by
    intro r
    induction r with
    | nil => intro a b; rfl
    | cons x r ih => intro a b; rw [List.foldl_cons, List.foldl_cons, Nat.add_assoc, ih]
  unfold total
  rw [List.foldl_append]
  exact (congrArg (fun z => List.foldl (fun (a b : Nat) => a + b) z r) (Nat.add_zero _).symm).trans (h r _ 0)
theorem Jdf (n : Nat) : total [n] = n := Nat.zero_add n
theorem je7 (l : List (Nat × Nat)) (p : Nat × Nat) (e : Nat) : getsOf (l ++ [p]) e = getsOf l e + if p.1 = e then p.2 else 0 := by
  unfold getsOf
  rw [List.filter_append, List.map_append, jdf, List.filter_cons]
  by_cases h : p.1 = e
  · rw [if_pos (by simpa using h), if_pos h]
    show _ + total [p.2] = _
    rw [Jdf]
  · rw [if_neg (by simpa using h), if_neg h]
    rfl
theorem Jdp {α : Type} {P : List α → Prop} (h0 : P []) (h1 : ∀ l x, P l → P (l ++ [x])) : ∀ l, P l := fun l => by
  have h : ∀ r : List α, P r.reverse := by
    intro r
    induction r with
    | nil => exact h0
    | cons x r ih => rw [List.reverse_cons]; exact h1 _ _ ih
  have := h l.reverse
  rwa [List.reverse_reverse] at this
theorem YgY : ∀ (l : List (Nat × Nat)) (e : Nat), e ∈ chN l ↔ ∃ p ∈ l, p.1 = e := by
  refine Jdp (fun e => ?_) fun l x ih e => ?_
  · exact ⟨fun h => (by cases h), fun ⟨p, h, _⟩ => (by cases h)⟩
  · rw [ydY]
    split
    · rename_i hc
      rw [List.contains_iff_mem] at hc
      rw [ih]
      constructor
      · rintro ⟨p, hp, he⟩
        exact ⟨p, List.mem_append_left _ hp, he⟩
      · rintro ⟨p, hp, he⟩
        rcases List.mem_append.mp hp with h | h
        · exact ⟨p, h, he⟩
        · rw [List.mem_singleton.mp h] at he
          subst he
          exact (ih _).mp hc
    · rw [List.mem_append, ih, List.mem_singleton]
      constructor
      · rintro (⟨p, hp, he⟩ | h)
        · exact ⟨p, List.mem_append_left _ hp, he⟩
        · exact ⟨x, List.mem_append_right _ (List.mem_singleton.mpr rfl), h.symm⟩
      · rintro ⟨p, hp, he⟩
        rcases List.mem_append.mp hp with h | h
        · exact .inl ⟨p, h, he⟩
        · rw [List.mem_singleton.mp h] at he
          exact .inr he.symm
theorem Zga : ∀ l : List (Nat × Nat), (chN l).Nodup := by
  refine Jdp List.nodup_nil fun l x ih => ?_
  rw [ydY]
  split
  · exact ih
  · rename_i hc
    rw [List.contains_iff_mem] at hc
    rw [List.nodup_append]
    exact ⟨ih, by simp, fun a ha b hb e => hc (by rw [List.mem_singleton.mp hb] at e; rw [← e]; exact ha)⟩
theorem yga {l : List (Nat × Nat)} {e : Nat} (h : e ∉ chN l) : getsOf l e = 0 := by
  unfold getsOf
  have : (l.filter fun (x : Nat × Nat) => x.1 == e) = [] := by
    rw [List.filter_eq_nil_iff]
    intro p hp hq
    exact h ((YgY l e).mpr ⟨p, hp, by simpa using hq⟩)
  rw [this]
  rfl
theorem JeB (g : Nat → Nat) (e n : Nat) : ∀ l : List Nat, l.Nodup → total (l.map fun x => g x + if e = x then n else 0) = total (l.map g) + if e ∈ l then n else 0
  | [], _ => rfl
  | x :: l, h => by
    rw [List.nodup_cons] at h
    have ih := JeB g e n l h.2
    have h1 : ∀ (a : Nat) (r : List Nat), total (a :: r) = a + total r := fun a r => by
      have := jdf [a] r
      rw [Jdf] at this
      exact this
    rw [List.map_cons, List.map_cons, h1, h1, ih]
    by_cases hx : e = x
    · subst hx
      rw [if_pos rfl, if_neg h.1, if_pos List.mem_cons_self]
      omega
    · rw [if_neg hx]
      by_cases hm : e ∈ l
      · rw [if_pos hm, if_pos (List.mem_cons_of_mem _ hm)]
        omega
      · rw [if_neg hm, if_neg (fun z => (List.mem_cons.mp z).elim hx hm)]
        omega
theorem YgC : ∀ l : List (Nat × Nat), total ((chN l).map (getsOf l)) = total (l.map fun x => x.2) := by
  refine Jdp rfl fun l p ih => ?_
  have e1 : getsOf (l ++ [p]) = fun x => getsOf l x + if p.1 = x then p.2 else 0 := funext fun e => je7 l p e
  rw [List.map_append, jdf, ← ih, e1, ydY]
  show _ = _ + total [p.2]
  rw [Jdf]
  split
  · rename_i hc
    rw [List.contains_iff_mem] at hc
    rw [JeB _ _ _ _ (Zga l), if_pos hc]
  · rename_i hc
    rw [List.contains_iff_mem] at hc
    rw [List.map_append, jdf, JeB _ _ _ _ (Zga l), if_neg hc]
    show _ + total [getsOf l p.1 + if p.1 = p.1 then p.2 else 0] = _
    rw [Jdf, if_pos rfl, yga hc]
    omega
theorem jeO (giv : List Nat) : ∀ (l : List Place) (n : Nat), (shr giv n l).map (fun x => x.1) = l.map fun p => p.entry
  | [], _ => rfl
  | p :: l, n => by
    rw [shr, List.map_cons, List.map_cons, jeO giv l]
theorem jgC (l : List Place) (r : List (Nat × Nat)) (h : r.map (fun x => x.1) = l.map fun p => p.entry) : chN r = charges l := by
  unfold chN charges
  have e1 : r.foldl (fun (m : List Nat) (p : Nat × Nat) => if m.contains p.1 = true then m else m ++ [p.1]) [] = (r.map fun x => x.1).foldl (fun (m : List Nat) (e : Nat) => if m.contains e = true then m else m ++ [e]) [] := by rw [List.foldl_map]
  rw [e1, h, List.foldl_map]
def left (giv : List Nat) : Nat → List Place → Nat
  | n, [] => n
  | n, p :: l => left giv (n - if giv.contains p.entry = true then min n p.amount else 0) l
theorem yfI (giv : List Nat) (p : Place) : ∀ (l : List Place) (n : Nat), shr giv n (l ++ [p]) = shr giv n l ++ [(p.entry, if giv.contains p.entry = true then min (left giv n l) p.amount else 0)]
  | [], n => rfl
  | q :: l, n => by
    show shr giv n (q :: (l ++ [p])) = _
    rw [shr, shr, left, yfI giv p l, List.cons_append]
theorem Je7 (giv : List Nat) (p : Place) : ∀ (l : List Place) (n : Nat), left giv n (l ++ [p]) = left giv n l - if giv.contains p.entry = true then min (left giv n l) p.amount else 0
  | [], n => rfl
  | q :: l, n => by
    show left giv n (q :: (l ++ [p])) = _
    rw [left, left, Je7 giv p l]
theorem jhD (giv : List Nat) : ∀ (l : List Place) (n : Nat), total ((shr giv n l).map fun x => x.2) ≤ n := by
  refine Jdp (fun n => Nat.zero_le n) fun l p ih n => ?_
  have h : ∀ l : List Place, total ((shr giv n l).map fun x => x.2) + left giv n l = n := by
    refine Jdp (Nat.zero_add n) fun l p ih => ?_
    rw [yfI, Je7, List.map_append, jdf]
    show _ + total [if giv.contains p.entry = true then min (left giv n l) p.amount else 0] + _ = n
    rw [Jdf]
    split <;> omega
  have := h (l ++ [p])
  omega
theorem jgY (l : List (Nat × Nat)) : (chN l).length ≤ l.length := by
  refine Jdp (P := fun l => (chN l).length ≤ l.length) (Nat.le_refl _) (fun l x ih => ?_) l
  rw [ydY]
  split
  · rw [List.length_append]; omega
  · rw [List.length_append, List.length_append]; exact Nat.succ_le_succ ih
end Lr
namespace Lr
open PySem hiding Act
open PySem.Spec
open PyProof.Rows hiding St
open L2
def zA (g : Nat → V) (l : List Nat) : List (Key × V) := l.map fun (e : Nat) => ((Sum.inl (e : Int) : Key), g e)
theorem key_ne {a b : Nat} (h : a ≠ b) : (Sum.inl (a : Int) : Key) ≠ Sum.inl (b : Int) := fun e => h (by injection e with e; omega)
theorem jas (g : Nat → V) (e : Nat) : ∀ l : List Nat, za1 (zA g l) (Sum.inl (e : Int)) = if e ∈ l then some (g e) else none
  | [] => rfl
  | x :: l => by
    by_cases h : x = e
    · subst h
      rw [if_pos List.mem_cons_self]
      exact YaR rfl
    · have ih := jas g e l
      have e1 : za1 (zA g (x :: l)) (Sum.inl (e : Int)) = za1 (zA g l) (Sum.inl (e : Int)) := by
        show za1 ((Sum.inl (x : Int), g x) :: zA g l) _ = _
        simp [za1, List.find?_cons, key_ne h]
      rw [e1, ih]
      by_cases hm : e ∈ l
      · rw [if_pos hm, if_pos (List.mem_cons_of_mem _ hm)]
      · rw [if_neg hm, if_neg (fun z => (List.mem_cons.mp z).elim (fun z => h z.symm) hm)]
theorem Yga (g : Nat → V) (e : Nat) (l : List Nat) : ((zA g l).any fun kv => decide (kv.1 = Sum.inl (e : Int))) = decide (e ∈ l) := by
  rw [Bool.eq_iff_iff, List.any_eq_true, decide_eq_true_iff]
  constructor
  · rintro ⟨p, hp, h⟩
    obtain ⟨x, hx, rfl⟩ := List.mem_map.mp hp
    have h := of_decide_eq_true h
    have : x = e := by injection h with h; omega
    exact this ▸ hx
  · intro h
    exact ⟨_, List.mem_map.mpr ⟨e, h, rfl⟩, decide_eq_true rfl⟩
theorem YfI (g : Nat → V) {e : Nat} {l : List Nat} (h : e ∉ l) : putK (zA g l) (Sum.inl (e : Int)) (g e) = zA g (l ++ [e]) := by
  unfold putK
  rw [Yga, if_neg (by simpa using h)]
  show _ = (l ++ [e]).map _
  rw [List.map_append]
  rfl
theorem JgC (g : Nat → V) (e : Nat) (l : List Nat) : jfg (zA g l) (Sum.inl (e : Int)) = zA g (l.filter fun x => !(x == e)) := by
  unfold jfg zA
  rw [List.filter_map]
  congr 1
  refine List.filter_congr fun x _ => ?_
  show decide ((Sum.inl (x : Int) : Key) ≠ Sum.inl (e : Int)) = _
  by_cases h : x = e
  · subst h; simp
  · simp [h, key_ne h]
theorem ZgP (g : Nat → V) (l : List Nat) : (zA g l).map (fun q => kV q.1) = l.map fun (e : Nat) => V.int (e : Int) := by
  unfold zA
  rw [List.map_map]
  rfl
theorem Zbd (g : Nat → V) (l : List Nat) : (zA g l).length = l.length := List.length_map _
theorem JgY {J : It} {g : TG} {tb : TS} {D : Ends} {σ : St} {H : Hp} (n : Nat) (Pv : Nat → St → Hp → Prop) (h0 : Pv 0 σ H) (hgo : ∀ i σ H, i < n → Pv i σ H → J.go i H) (hst : ∀ σ H, Pv n σ H → J.stop n H)
    (hs : ∀ i x σ H H', i < n → Pv i σ H → J.yld i H x H' → g x σ H' fun σ2 H2 => tb { D with nx := Pv (i + 1), ct := Pv (i + 1), bk := D.nx } σ2 H2) (hd : ∀ σ H, Pv n σ H → D.nx σ H) :
    ∃ W : Nat → Nat → St → Hp → Prop, (∃ m, W 0 m σ H) ∧ ∀ i m σ H, W i m σ H →
      (J.stop i H ∧ D.nx σ H) ∨ (J.go i H ∧ ∃ N : St → Hp → Prop, (∀ σ' H', N σ' H' → ∃ m', m' < m ∧ W (i + 1) m' σ' H') ∧ ∀ x H', J.yld i H x H' → g x σ H' fun σ2 H2 => tb { D with nx := N, ct := N, bk := D.nx } σ2 H2) := by
  refine ⟨fun i m σ H => m = n - i ∧ i ≤ n ∧ Pv i σ H, ⟨n, by simp, Nat.zero_le _, h0⟩, ?_⟩
  rintro i m σ H ⟨rfl, hi, p⟩
  by_cases hlt : i < n
  · exact .inr ⟨hgo i σ H hlt p, Pv (i + 1), fun σ' H' p' => ⟨n - (i + 1), by omega, rfl, hlt, p'⟩, fun x H' y => hs i x σ H H' hlt p y⟩
  · have e : i = n := by omega
    subst e
    exact .inl ⟨hst σ H p, hd σ H p⟩
theorem jhk {J : It} {g : TG} {tt : TT} {te : TE} {vs : List Nat} {σ : St} {H1 : Hp} {D : Addr} {Qd : Hp → Prop} (n : Nat) (Pv : Nat → Hp → Prop) (h0 : Pv 0 (upd H1 D (.lst []))) (hgo : ∀ i H, i < n → Pv i H → J.go i H) (hst : ∀ H, Pv n H → J.stop n H)
    (hs : ∀ i x H H', i < n → Pv i H → J.yld i H x H' → g x (wipe σ vs) H' fun σ2 H2 => wipe σ2 vs = wipe σ vs ∧ tt σ2 H2 fun b H3 =>
      if b = true then te σ2 H3 fun y H4 => ∃ acc, H4 D = some (.lst acc) ∧ acc.length < sizeLine ∧ Pv (i + 1) (upd H4 D (.lst (acc ++ [y]))) else Pv (i + 1) H3) (hd : ∀ H, Pv n H → Qd H) :
    ∃ W : Nat → Nat → Hp → Prop, (∃ m, W 0 m (upd H1 D (.lst []))) ∧ ∀ i m H, W i m H →
      (J.stop i H ∧ Qd H) ∨ (J.go i H ∧ ∃ Nx : Hp → Prop, (∀ H', Nx H' → ∃ m', m' < m ∧ W (i + 1) m' H') ∧ ∀ x H', J.yld i H x H' → g x (wipe σ vs) H' fun σ2 H2 => wipe σ2 vs = wipe σ vs ∧ tt σ2 H2 fun b H3 =>
        if b = true then te σ2 H3 fun y H4 => ∃ acc, H4 D = some (.lst acc) ∧ acc.length < sizeLine ∧ Nx (upd H4 D (.lst (acc ++ [y]))) else Nx H3) := by
  refine ⟨fun i m H => m = n - i ∧ i ≤ n ∧ Pv i H, ⟨n, by simp, Nat.zero_le _, h0⟩, ?_⟩
  rintro i m H ⟨rfl, hi, p⟩
  by_cases hlt : i < n
  · exact .inr ⟨hgo i H hlt p, Pv (i + 1), fun H' p' => ⟨n - (i + 1), by omega, rfl, hlt, p'⟩, fun x H' y => hs i x H H' hlt p y⟩
  · have e : i = n := by omega
    subst e
    exact .inl ⟨hst H p, hd H p⟩
open Sy33 (Act Item File bit)
def zdg (d : Nat) (a : Act) (o : V) : List (Str × V) := match a with
  | .transfer q g t k => [("day", .int d), ("plot", .int q), ("person", .int t), ("giver", .int g), ("knows", .int (bit k : Nat))]
  | .charge q g c n k => [("day", .int d), ("plot", .int q), ("person", .int c), ("giver", .int g), ("knows", .int (bit k : Nat)), ("amount", .int n)]
  | .notice q g p k => [("day", .int d), ("plot", .int q), ("person", .int p), ("giver", .int g), ("knows", .int (bit k : Nat))]
  | .fulfil n k => [("day", .int d), ("noted", .int n), ("knows", .int (bit k : Nat))]
  | .objection q p => [("day", .int d), ("plot", .int q), ("person", .int p)]
  | .strike k b => [("day", .int d), ("struck", .int k), ("striker", .int b)]
  | .ahead x y => [("day", .int d), ("one", .int x), ("other", .int y)]
  | .correct q => [("day", .int d), ("plot", .int q), ("owner", o)]
  | .void_ k => [("day", .int d), ("voided", .int k)]
def clsOf (A : Adr) (a : Act) : Addr := match a with
  | .transfer _ _ _ _ => A.Jb
  | .charge _ _ _ _ _ => A.jc
  | .notice _ _ _ _ => A.Zd
  | .fulfil _ _ => A.Yd
  | .objection _ _ => A.Yb
  | .strike _ _ => A.Jf
  | .ahead _ _ => A.Jg
  | .correct _ => A.Je
  | .void_ _ => A.yg
def YbD (A : Adr) (H : Hp) (v : V) (d : Nat) (a : Act) (o : V) : Prop := ∃ e dx, v = .ref e ∧ H e = some (.ins (clsOf A a) dx (zdg d a o))
abbrev yhL (A : Adr) (H : Hp) (v : V) (x : Item) : Prop := YbD A H v x.day x.act (.int x.now)
abbrev jaX (A : Adr) (H : Hp) : List V → List Item → Prop := Paired (yhL A H)
theorem YbD.same {A : Adr} {H H' : Hp} {v : V} {d : Nat} {a : Act} {o : V} (h : YbD A H v d a o) (s : ju H H') : YbD A H' v d a o := let ⟨e, dx, x, y⟩ := h; ⟨e, dx, x, s _ _ y⟩
theorem jaX.same {A : Adr} {H H' : Hp} {vs : List V} {xs : List Item} (h : jaX A H vs xs) (s : ju H H') : jaX A H' vs xs := Paired.Zej h fun _ _ e => e.same s
theorem Paired.Jhk {α β : Type} {R : α → β → Prop} : ∀ {xs : List α} {ys : List β} {i : Nat} {y : β}, Paired R xs ys → ys[i]? = some y → ∃ x, xs[i]? = some x ∧ R x y
  | _, _, 0, y, .cons r t, h => by
    have e := Option.some.inj h
    subst e
    exact ⟨_, rfl, r⟩
  | _, _, i + 1, y, .cons r t, h => Paired.Jhk (i := i) t h
theorem Paired.get {α β : Type} {R : α → β → Prop} : ∀ {xs : List α} {ys : List β} {i : Nat} {x : α}, Paired R xs ys → xs[i]? = some x → ∃ y, ys[i]? = some y ∧ R x y
  | _, _, 0, y, .cons r t, h => by
    have e := Option.some.inj h
    subst e
    exact ⟨_, rfl, r⟩
  | _, _, i + 1, y, .cons r t, h => Paired.get (i := i) t h
theorem Paired.snoc {α β : Type} {R : α → β → Prop} : ∀ {xs : List α} {ys : List β} {x : α} {y : β}, Paired R xs ys → R x y → Paired R (xs ++ [x]) (ys ++ [y])
  | _, _, _, _, .nil, r => .cons r .nil
  | _, _, _, _, .cons q t, r => .cons q (Paired.snoc t r)
def esF (vs : List V) (e : Nat) : V := (vs[e]?).getD .non
theorem jaX.at {A : Adr} {H : Hp} {vs : List V} {xs : List Item} {e : Nat} {x : Item} (h : jaX A H vs xs) (hx : xs[e]? = some x) : yhL A H (esF vs e) x := by
  obtain ⟨v, hv, r⟩ := Paired.Jhk h hx
  unfold esF
  rw [hv]
  exact r
def Fld (K : PySem.W.Frag) (H : Hp) (v : V) (f : Str) (u : V) : Prop := ∃ a C dx fs, v = .ref a ∧ H a = some (.ins C dx fs) ∧ Cls K C ∧ Jm K C f ∧ fs.lookup f = some u
theorem Fld.rd {K : PySem.W.Frag} {H : Hp} {v : V} {f : Str} {u : V} (h : Fld K H v f u) {Q : V → Prop} (q : Q u) : ∃ a C dx fs w, v = .ref a ∧ H a = some (.ins C dx fs) ∧ Cls K C ∧ Jm K C f ∧ fs.lookup f = some w ∧ Q w := by
  obtain ⟨a, C, dx, fs, h1, h2, h3, h4, h5⟩ := h
  exact ⟨a, C, dx, fs, u, h1, h2, h3, h4, h5, q⟩
theorem Fld.same {K : PySem.W.Frag} {H H' : Hp} {v : V} {f : Str} {u : V} (h : Fld K H v f u) (s : ju H H') : Fld K H' v f u := by
  obtain ⟨a, C, dx, fs, h1, h2, h3⟩ := h
  exact ⟨a, C, dx, fs, h1, s _ _ h2, h3⟩
section
variable {P : Program} {w : World} {K : PySem.W.Frag} {mg : Str → Option Value} {base : Heap} {A : Adr} {H : Hp} {v : V} {d : Nat} {a : Act} {o : V}
theorem jbD (T : Txt K mg A) (a : Act) : Cls K (clsOf A a) := by
  cases a with
  | transfer => exact T.JdV
  | charge => exact T.zde
  | notice => exact T.Ze6
  | fulfil => exact T.zbv
  | objection => exact T.Zdp
  | strike => exact T.Zbc
  | ahead => exact T.Zbn
  | correct => exact T.zcD
  | void_ => exact T.ZcS
theorem zdq (T : Txt K mg A) (h : YbD A H v d a o) : Fld K H v "day" (.int d) := by
  obtain ⟨e, dx, rfl, h⟩ := h
  refine ⟨e, _, dx, _, rfl, h, jbD T a, ?_, ?_⟩
  · cases a with
    | transfer => exact T.yar
    | charge => exact T.ZaN
    | notice => exact T.yaN
    | fulfil => exact T.YaN
    | objection => exact T.yah
    | strike => exact T.jaN
    | ahead => exact T.Za3
    | correct => exact T.zaD
    | void_ => exact T.Jbr
  · cases a <;> rfl
def YcE (a : Act) : Option Nat := match a with
  | .transfer _ _ t _ => some t
  | .charge _ _ c _ _ => some c
  | .notice _ _ p _ => some p
  | .objection _ p => some p
  | _ => none
def jfI (a : Act) : Option Nat := match a with
  | .transfer q _ _ _ => some q
  | .charge q _ _ _ _ => some q
  | .notice q _ _ _ => some q
  | .objection q _ => some q
  | .correct q => some q
  | _ => none
def zef (a : Act) : Option Nat := match a with
  | .transfer _ g _ _ => some g
  | .charge _ g _ _ _ => some g
  | .notice _ g _ _ => some g
  | _ => none
def zgZ (a : Act) : Option Bool := match a with
  | .transfer _ _ _ k => some k
  | .charge _ _ _ _ k => some k
  | .notice _ _ _ k => some k
  | .fulfil _ k => some k
  | _ => none
theorem Jas (T : Txt K mg A) (h : YbD A H v d a o) {p : Nat} (hp : YcE a = some p) : Fld K H v "person" (.int p) := by
  obtain ⟨e, dx, rfl, h⟩ := h
  refine ⟨e, _, dx, _, rfl, h, jbD T a, ?_, ?_⟩
  · cases a with
    | transfer => exact T.zW
    | charge => exact T.zah
    | notice => exact T.Zah
    | objection => exact T.jO
    | _ => cases hp
  · cases a <;> first | (cases hp; done) | (have e := Option.some.inj hp; subst e; rfl)
theorem JeO (T : Txt K mg A) (h : YbD A H v d a o) {p : Nat} (hp : jfI a = some p) : Fld K H v "plot" (.int p) := by
  obtain ⟨e, dx, rfl, h⟩ := h
  refine ⟨e, _, dx, _, rfl, h, jbD T a, ?_, ?_⟩
  · cases a with
    | transfer => exact T.Jag
    | charge => exact T.jaC
    | notice => exact T.JaC
    | objection => exact T.Z6
    | correct => exact T.yas
    | _ => cases hp
  · cases a <;> first | (cases hp; done) | (have e := Option.some.inj hp; subst e; rfl)
theorem ze8 (T : Txt K mg A) (h : YbD A H v d a o) {p : Nat} (hp : zef a = some p) : Fld K H v "giver" (.int p) := by
  obtain ⟨e, dx, rfl, h⟩ := h
  refine ⟨e, _, dx, _, rfl, h, jbD T a, ?_, ?_⟩
  · cases a with
    | transfer => exact T.J5
    | charge => exact T.Yar
    | notice => exact T.Jar
    | _ => cases hp
  · cases a <;> first | (cases hp; done) | (have e := Option.some.inj hp; subst e; rfl)
theorem Ze8 (T : Txt K mg A) (h : YbD A H v d a o) {p : Bool} (hp : zgZ a = some p) : Fld K H v "knows" (.int (bit p : Nat)) := by
  obtain ⟨e, dx, rfl, h⟩ := h
  refine ⟨e, _, dx, _, rfl, h, jbD T a, ?_, ?_⟩
  · cases a with
    | transfer => exact T.Y5
    | charge => exact T.jar
    | notice => exact T.zas
    | fulfil => exact T.Zas
    | _ => cases hp
  · cases a <;> first | (cases hp; done) | (have e := Option.some.inj hp; subst e; rfl)
def kC (a : Option Act) : Bool := match a with | some (.charge _ _ _ _ _) => true | _ => false
def kN (a : Option Act) : Bool := match a with | some (.notice _ _ _ _) => true | _ => false
def kO (a : Option Act) : Bool := match a with | some (.objection _ _) => true | _ => false
def kT (a : Option Act) : Bool := match a with | some (.transfer _ _ _ _) => true | _ => false
def kF (a : Option Act) : Bool := match a with | some (.fulfil _ _) => true | _ => false
def kW (a : Option Act) : Bool := match a with | some (.void_ _) => true | _ => false
structure Kinds (K : PySem.W.Frag) (A : Adr) (t : Value) (a : Option Act) : Prop where
  c : PySem.W.kitOne K t (.ref A.jc) = some (kC a)
  n : PySem.W.kitOne K t (.ref A.Zd) = some (kN a)
  o : PySem.W.kitOne K t (.ref A.Yb) = some (kO a)
  tr : PySem.W.kitOne K t (.ref A.Jb) = some (kT a)
  f : PySem.W.kitOne K t (.ref A.Yd) = some (kF a)
  w : PySem.W.kitOne K t (.ref A.yg) = some (kW a)
theorem jg7 (T : Txt K mg A) : zbz K H .non (.type "NoneType") ∧ Kinds K A (.type "NoneType") none := ⟨.non, T.Ycz, T.ycz, T.ybc, T.Zbv, T.jcz, T.Jee⟩
theorem zgD (T : Txt K mg A) (h : YbD A H v d a o) : ∃ t, zbz K H v t ∧ Kinds K A t (some a) := by
  obtain ⟨e, dx, rfl, h⟩ := h
  cases a with
  | transfer => exact ⟨_, T.Yfl h, T.J6, T.Y6, T.jJ, T.JP, T.Y8, T.jaq⟩
  | charge => exact ⟨_, T.Yf8 h, T.Zap, T.Yao, T.zY, T.Y7, T.zaq, T.zaJ⟩
  | notice => exact ⟨_, T.jf8 h, T.yap, T.jao, T.jY, T.j7, T.Zaq, T.ZaJ⟩
  | fulfil => exact ⟨_, T.Jf8 h, T.Yap, T.Jao, T.zZ, T.J7, T.yaq, T.yaJ⟩
  | objection => exact ⟨_, T.yeN h, T.JX, T.jX, T.JH, T.zK, T.YZ, T.Zag⟩
  | strike => exact ⟨_, T.zf9 h, T.jap, T.zap, T.ZZ, T.Z8, T.Yaq, T.YaJ⟩
  | ahead => exact ⟨_, T.ygA h, T.yax, T.Zax, T.Z7, T.Jaf, T.Yax, T.ZaU⟩
  | correct => exact ⟨_, T.YfG h, T.Yaf, T.yaf, T.jP, T.yZ, T.zag, T.jax⟩
  | void_ => exact ⟨_, T.ZgX h, T.jaI, T.YaI, T.jaf, T.Jap, T.JaI, T.Ybc⟩
theorem JbD {t c : Value} {cs : List Value} {b b' : Bool} (h : PySem.W.kitOne K t c = some b) (h' : PySem.W.kitAny K t cs = some b') : PySem.W.kitAny K t (c :: cs) = some (b || b') := by
  unfold PySem.W.kitAny
  rw [h]
  cases b with
  | true => rfl
  | false => exact h'
theorem Zgj {t : Value} : PySem.W.kitAny K t [] = some false := rfl
end
end Lr
namespace Lr
open PySem hiding Act
open PySem.Spec
open PyProof.Rows hiding St
open L2
open Sy33 (Act Item File bit)
theorem _root_.L2.ju.zH {H0 H : Hp} {b : Addr} {o : HO} (s : ju H0 H) (h : H0 b = Option.none) : ju H0 (upd H b o) := fun c u e => by
  rw [Zc (yd e h)]
  exact s _ _ e
theorem yag.zH {H : Hp} {b : Addr} {o : HO} (hb : ∀ xs, H b ≠ some (.tup xs)) {ys : List V} {ps : List Pl} (h : yag H ys ps) : yag (upd H b o) ys ps := Paired.Zej h fun _ _ ⟨c, e, q⟩ => ⟨c, e, by
  rw [Zc (fun z => hb _ (by rw [← z]; exact q))]
  exact q⟩
theorem zhl : ∀ {l : List Nat} {m n : Nat}, l.Pairwise (· < ·) → (∀ e ∈ l, m ≤ e ∧ e < n) → l.length ≤ n - m
  | [], _, _, _, _ => Nat.zero_le _
  | x :: l, m, n, h, g => by
    rw [List.pairwise_cons] at h
    have hx := g x List.mem_cons_self
    have := zhl (l := l) (m := x + 1) (n := n) h.2 fun e he => ⟨h.1 e he, (g e (List.mem_cons_of_mem _ he)).2⟩
    rw [List.length_cons]
    omega
def Jg7 (s : Sh) (vd st pl gv : Addr) : List (Str × V) := [("registered", .int s.reg), ("owner", .int s.own), ("void", .ref vd), ("standing", .ref st), ("places", .ref pl), ("given", .ref gv)]
def tru (_ : Nat) : V := .bl true
structure ShR (A : Adr) (H0 H : Hp) (void : List Nat) (es : Nat → V) (s : Sh) (a dx vd st pl gv : Addr) (kvv : List (Key × V)) (ys : List V) : Prop where
  sm : ju H0 H
  fa : H0 a = Option.none
  fst : H0 st = Option.none
  fpl : H0 pl = Option.none
  fgv : H0 gv = Option.none
  n1 : st ≠ gv
  n2 : vd ≠ st
  n3 : vd ≠ gv
  ob : H a = some (.ins A.Jk dx (Jg7 s vd st pl gv))
  vo : H vd = some (.dK kvv)
  vs : ∀ e : Nat, (za1 kvv (Sum.inl (e : Int))).isSome = void.contains e
  so : H st = some (.dK (zA es s.std))
  po : H pl = some (.lst ys)
  ps : yag H ys s.pls
  go : H gv = some (.dK (zA tru s.giv))
def Jbh (A : Adr) (H0 H : Hp) (v : V) (void : List Nat) (es : Nat → V) (s : Sh) : Prop := ∃ a dx vd st pl gv kvv ys, v = .ref a ∧ ShR A H0 H void es s a dx vd st pl gv kvv ys
section
variable {P : Program} {w : World} {K : PySem.W.Frag} {mg : Str → Option Value} {base : Heap} {A : Adr} {H0 H : Hp} {void : List Nat} {es : Nat → V} {s : Sh} {a dx vd st pl gv : Addr} {kvv : List (Key × V)} {ys : List V} {v : V}
theorem ShR.same {H' : Hp} (h : ShR A H0 H void es s a dx vd st pl gv kvv ys) (t : ju H H') : ShR A H0 H' void es s a dx vd st pl gv kvv ys :=
  ⟨h.sm.trans t, h.fa, h.fst, h.fpl, h.fgv, h.n1, h.n2, h.n3, t _ _ h.ob, t _ _ h.vo, h.vs, t _ _ h.so, t _ _ h.po, h.ps.same t, t _ _ h.go⟩
theorem Jbh.same {H' : Hp} (h : Jbh A H0 H v void es s) (t : ju H H') : Jbh A H0 H' v void es s := by
  obtain ⟨a, dx, vd, st, pl, gv, kvv, ys, e, r⟩ := h
  exact ⟨a, dx, vd, st, pl, gv, kvv, ys, e, r.same t⟩
theorem ShR.fld (T : Txt K mg A) (h : ShR A H0 H void es s a dx vd st pl gv kvv ys) : Fld K H (.ref a) "registered" (.int s.reg) ∧ Fld K H (.ref a) "owner" (.int s.own) ∧ Fld K H (.ref a) "void" (.ref vd) ∧ Fld K H (.ref a) "standing" (.ref st) ∧ Fld K H (.ref a) "places" (.ref pl) ∧ Fld K H (.ref a) "given" (.ref gv) :=
  ⟨⟨a, _, dx, _, rfl, h.ob, T.Yn, T.Yw, rfl⟩, ⟨a, _, dx, _, rfl, h.ob, T.Yn, T.JT, rfl⟩, ⟨a, _, dx, _, rfl, h.ob, T.Yn, T.JaN, rfl⟩, ⟨a, _, dx, _, rfl, h.ob, T.Yn, T.YH, rfl⟩, ⟨a, _, dx, _, rfl, h.ob, T.Yn, T.ZW, rfl⟩, ⟨a, _, dx, _, rfl, h.ob, T.Yn, T.ZaD, rfl⟩⟩
theorem ShR.obj (h : ShR A H0 H void es s a dx vd st pl gv kvv ys) {s' : Sh} (e1 : s'.std = s.std) (e2 : s'.pls = s.pls) (e3 : s'.giv = s.giv) : ShR A H0 (upd H a (.ins A.Jk dx (Jg7 s' vd st pl gv))) void es s' a dx vd st pl gv kvv ys := by
  have no : ∀ {c : Addr} {o : HO}, H c = some o → (∀ C dx fs, o ≠ .ins C dx fs) → upd H a (.ins A.Jk dx (Jg7 s' vd st pl gv)) c = some o := fun {c o} hc hn => by
    rw [Zc (yaR hc h.ob (hn _ _ _))]
    exact hc
  refine ⟨h.sm.zH h.fa, h.fa, h.fst, h.fpl, h.fgv, h.n1, h.n2, h.n3, Ja, no h.vo (by intro _ _ _ z; cases z), h.vs, ?_, no h.po (by intro _ _ _ z; cases z), ?_, ?_⟩
  · rw [e1]; exact no h.so (by intro _ _ _ z; cases z)
  · rw [e2]; exact h.ps.zH (by intro xs z; rw [h.ob] at z; cases z)
  · rw [e3]; exact no h.go (by intro _ _ _ z; cases z)
theorem ShR.std (h : ShR A H0 H void es s a dx vd st pl gv kvv ys) (l : List Nat) : ShR A H0 (upd H st (.dK (zA es l))) void es { s with std := l } a dx vd st pl gv kvv ys :=
  ⟨h.sm.zH h.fst, h.fa, h.fst, h.fpl, h.fgv, h.n1, h.n2, h.n3, by rw [Zc (yaR h.ob h.so (by intro z; cases z))]; exact h.ob, by rw [Zc h.n2]; exact h.vo, h.vs, Ja, by rw [Zc (yaR h.po h.so (by intro z; cases z))]; exact h.po,
    h.ps.zH (by intro xs z; rw [h.so] at z; cases z), by rw [Zc (Ne.symm h.n1)]; exact h.go⟩
theorem ShR.giv (h : ShR A H0 H void es s a dx vd st pl gv kvv ys) (l : List Nat) : ShR A H0 (upd H gv (.dK (zA tru l))) void es { s with giv := l } a dx vd st pl gv kvv ys :=
  ⟨h.sm.zH h.fgv, h.fa, h.fst, h.fpl, h.fgv, h.n1, h.n2, h.n3, by rw [Zc (yaR h.ob h.go (by intro z; cases z))]; exact h.ob, by rw [Zc h.n3]; exact h.vo, h.vs, by rw [Zc h.n1]; exact h.so, by rw [Zc (yaR h.po h.go (by intro z; cases z))]; exact h.po,
    h.ps.zH (by intro xs z; rw [h.go] at z; cases z), Ja⟩
theorem ShR.pls (h : ShR A H0 H void es s a dx vd st pl gv kvv ys) {zs : List V} {l : List Pl} (hz : yag H zs l) : ShR A H0 (upd H pl (.lst zs)) void es { s with pls := l } a dx vd st pl gv kvv zs :=
  ⟨h.sm.zH h.fpl, h.fa, h.fst, h.fpl, h.fgv, h.n1, h.n2, h.n3, by rw [Zc (yaR h.ob h.po (by intro z; cases z))]; exact h.ob, by rw [Zc (yaR h.vo h.po (by intro z; cases z))]; exact h.vo, h.vs, by rw [Zc (yaR h.so h.po (by intro z; cases z))]; exact h.so, Ja,
    hz.zH (by intro xs z; rw [h.po] at z; cases z), by rw [Zc (yaR h.go h.po (by intro z; cases z))]; exact h.go⟩
theorem ShR.Zhl (h : ShR A H0 H void es s a dx vd st pl gv kvv ys) {l : Addr} {zs : List V} {qs : List Pl} (hl : H0 l = Option.none) (hz : H l = some (.lst zs)) (hq : yag H zs qs) :
    ShR A H0 (upd H a (.ins A.Jk dx (Jg7 s vd st l gv))) void es { s with pls := qs } a dx vd st l gv kvv zs := by
  have no : ∀ {c : Addr} {o : HO}, H c = some o → (∀ C dx fs, o ≠ .ins C dx fs) → upd H a (.ins A.Jk dx (Jg7 s vd st l gv)) c = some o := fun {c o} hc hn => by
    rw [Zc (yaR hc h.ob (hn _ _ _))]
    exact hc
  exact ⟨h.sm.zH h.fa, h.fa, h.fst, hl, h.fgv, h.n1, h.n2, h.n3, Ja, no h.vo (by intro _ _ _ z; cases z), h.vs, no h.so (by intro _ _ _ z; cases z), no hz (by intro _ _ _ z; cases z), hq.zH (by intro xs z; rw [h.ob] at z; cases z), no h.go (by intro _ _ _ z; cases z)⟩
def jeq (A : Adr) : Sp := fun vs H Q _ => ∃ (H0 : Hp) (a dx vd : Addr) (n : Nat) (kvv : List (Key × V)) (void : List Nat) (es : Nat → V), vs = [.ref a, .int n, .ref vd] ∧ ju H0 H ∧ H0 a = Option.none ∧ H a = some (.ins A.Jk dx []) ∧ H vd = some (.dK kvv) ∧
  (∀ e : Nat, (za1 kvv (Sum.inl (e : Int))).isSome = void.contains e) ∧ ∀ H' : Hp, Jbh A H0 H' (.ref a) void es ⟨n, n, [], [], []⟩ → Q .non H'
theorem zfX (T : Txt K mg A) : Zf P w K mg base CX0 1 A.zV A.zbm ["self", "owner", "void"] (jeq A) := by
  refine T.ZeL.ok yfW (fun vs H Q E h => ?_) (fun cdv B outer s H vs Q E hr h => ?_)
  · obtain ⟨_, _, _, _, _, _, _, _, rfl, _⟩ := h
    rfl
  · obtain ⟨H0, a, dx, vd, n, kvv, void, es, rfl, sm, fa, ho, hv, hvs, k⟩ := h
    refine ⟨_, (Yc (yu (K := K) rfl (pv 0) (pv 1) rfl) (Yc (yu (K := K) rfl (pv 0) (pv 1) rfl) (Yc (yu (K := K) rfl (pv 0) (pv 2) rfl) (Yc (yu (K := K) rfl (pv 0) jeI rfl) (Yc (yu (K := K) rfl (pv 0) (yaw yc) rfl) (jb (yu (K := K) rfl (pv 0) jeI rfl))))))), ?_⟩
    refine ⟨_, rfl, _, rfl, a, _, dx, _, rfl, ho, T.Yn, T.Yw, (by show (0 : Nat) < 1000; decide), ?_⟩
    refine ⟨_, rfl, _, rfl, a, _, dx, _, rfl, Ja, T.Yn, T.JT, (by show (1 : Nat) < 1000; decide), ?_⟩
    rw [Jai]
    refine ⟨_, rfl, _, rfl, a, _, dx, _, rfl, Ja, T.Yn, T.JaN, (by show (2 : Nat) < 1000; decide), ?_⟩
    rw [Jai]
    refine fun st hst => ⟨_, rfl, a, _, dx, _, rfl, (by rw [Zc (yd Ja hst)]; exact Ja), T.Yn, T.YH, (by show (3 : Nat) < 1000; decide), ?_⟩
    refine ⟨Nat.zero_le _, fun pl hpl => ⟨_, rfl, a, _, dx, _, rfl, (by rw [Zc (yd Ja hpl)]; exact Ja), T.Yn, T.ZW, (by show (4 : Nat) < 1000; decide), ?_⟩⟩
    refine fun gv hgv => ⟨_, rfl, a, _, dx, _, rfl, (by rw [Zc (yd Ja hgv)]; exact Ja), T.Yn, T.ZaD, (by show (5 : Nat) < 1000; decide), ?_⟩
    refine k _ ⟨a, dx, vd, st, pl, gv, kvv, [], rfl, ?_⟩
    have nva : vd ≠ a := yaR hv ho (by intro z; cases z)
    have nsa : st ≠ a := Ne.symm (yd Ja hst)
    have npa : pl ≠ a := Ne.symm (yd Ja hpl)
    have nga : gv ≠ a := Ne.symm (yd Ja hgv)
    have nvs : vd ≠ st := yd (o := .dK kvv) (by rw [Zc nva]; exact hv) hst
    have nvp : vd ≠ pl := yd (o := .dK kvv) (by rw [Zc nva, Zc nvs, Zc nva]; exact hv) hpl
    have nsp : st ≠ pl := yd (o := .dK []) (by rw [Zc nsa]; exact Ja) hpl
    have nvg : vd ≠ gv := yd (o := .dK kvv) (by rw [Zc nva, Zc nvp, Zc nva, Zc nvs, Zc nva]; exact hv) hgv
    have nsg : st ≠ gv := yd (o := .dK []) (by rw [Zc nsa, Zc nsp, Zc nsa]; exact Ja) hgv
    have npg : pl ≠ gv := yd (o := .lst []) (by rw [Zc npa]; exact Ja) hgv
    have f1 : H0 st = Option.none := (sm.zH fa).free hst
    have f2 : H0 pl = Option.none := (((sm.zH fa).zH f1).zH fa).free hpl
    have f3 : H0 gv = Option.none := (((((sm.zH fa).zH f1).zH fa).zH f2).zH fa).free hgv
    refine ⟨((((((sm.zH fa).zH f1).zH fa).zH f2).zH fa).zH f3).zH fa, fa, f1, f2, f3, nsg, nvs, nvg, Ja, ?_, hvs, ?_, ?_, .nil, ?_⟩
    · rw [Zc nva, Zc nvg, Zc nva, Zc nvp, Zc nva, Zc nvs, Zc nva]; exact hv
    · rw [Zc nsa, Zc nsg, Zc nsa, Zc nsp, Zc nsa]; exact Ja
    · rw [Zc npa, Zc npg, Zc npa]; exact Ja
    · rw [Zc nga]; exact Ja
def zbE (A : Adr) : Sp := fun vs H Q _ => ∃ (H0 : Hp) (v : V) (i : Nat) (void : List Nat) (es : Nat → V) (s : Sh), vs = [v, .int i, es i] ∧ Jbh A H0 H v void es s ∧ i ∉ s.std ∧ s.std.length ≤ 100 ∧ ∀ H' : Hp, Jbh A H0 H' v void es { s with std := s.std ++ [i] } → Q .non H'
theorem jcE (T : Txt K mg A) : Zf P w K mg base CX0 1 A.ZD A.Zar ["self", "number", "entry"] (zbE A) := by
  refine T.zep.ok zfE (fun vs H Q E h => ?_) (fun cdv B outer s H vs Q E hr h => ?_)
  · obtain ⟨_, _, _, _, _, _, rfl, _⟩ := h
    rfl
  · have hu := zcE hr
    obtain ⟨H0, v, i, void, es, s, rfl, ⟨a, dx, vd, st, pl, gv, kvv, ys, rfl, r⟩, hi, hl, k⟩ := h
    obtain ⟨f1, f2, f3, f4, f5, f6⟩ := r.fld T
    refine ⟨_, (jb (Jfx hu (Jc (K := K) rfl (pv 0) rfl) (pv 1) (pv 2) rfl)), ?_⟩
    refine ⟨_, rfl, _, rfl, ?_⟩
    refine f4.rd ?_
    refine ⟨_, rfl, st, _, rfl, Ygg.k (k := Sum.inl (i : Int)) r.so (Nat.lt_of_le_of_lt (show _ ≤ 100 by rw [Zbd]; exact hl) (by decide)), ?_⟩
    rw [YfI es hi]
    exact k _ ⟨a, dx, vd, st, pl, gv, kvv, ys, rfl, r.std _⟩
def yc5 (A : Adr) : Sp := fun vs H Q _ => ∃ (H0 : Hp) (v : V) (i : Nat) (void : List Nat) (es : Nat → V) (s : Sh), vs = [v, .int i] ∧ Jbh A H0 H v void es s ∧ i ∈ s.std ∧ s.pls.length ≤ 1000 ∧ ∀ H' : Hp, Jbh A H0 H' v void es (s.drop fun e => e == i) → Q .non H'
theorem Jeq (T : Txt K mg A) : Zf P w K mg base CX0 2 A.JN A.zaU ["self", "number"] (yc5 A) := by
  have zg8 : Zf P w K mg base CX0 1 A.JaT A.ycA ["places", "charge"] (JfG K) := JgN T
  refine T.YeL.ok YfW (fun vs H Q E h => ?_) (fun cdv B outer s H vs Q E hr h => ?_)
  · obtain ⟨_, _, _, _, _, _, rfl, _⟩ := h
    rfl
  · have hu := zcE hr
    obtain ⟨H0, v, i, void, es, s, rfl, ⟨a, dx, vd, st, pl, gv, kvv, ys, rfl, r⟩, hi, hl, k⟩ := h
    obtain ⟨f1, f2, f3, f4, f5, f6⟩ := r.fld T
    refine ⟨_, (Yc (jD (zhf (Jc (K := K) rfl (pv 0) rfl) (pv 1) ⟨rfl, rfl, rfl, rfl⟩)) (jb (yu (K := K) rfl (pv 0) (zE zg8 (hr.mono (by decide)) (by rfl) T.Zf7 T.ze6.kp T.zf7 .nil Jh (Za (Jc (K := K) rfl (pv 0) rfl) (Za (pv 1) yc))) rfl))), ?_⟩
    refine ⟨_, rfl, f4.rd ⟨st, rfl, .inl ⟨_, .inl r.so⟩, _, rfl, _, Sum.inl (i : Int), es i, r.so, rfl, by rw [jas, if_pos hi], ?_⟩⟩
    rw [JgC]
    have r2 := r.std (s.std.filter fun x => !(x == i))
    obtain ⟨g1, g2, g3, g4, g5, g6⟩ := r2.fld T
    refine ⟨_, rfl, g5.rd ⟨_, rfl, pl, ys, s.pls, i, rfl, SqL.of r2.po, r2.ps, Nat.le_trans hl (by decide), fun H' l zs sH hl0 hz hp => ?_⟩⟩
    have r3 := r2.same sH
    refine ⟨_, rfl, a, _, dx, _, rfl, r3.ob, T.Yn, T.ZW, (by show (6 : Nat) < 1000; decide), ?_⟩
    exact k _ ⟨a, dx, vd, st, l, gv, kvv, zs, rfl, r3.Zhl (r2.sm.free hl0) hz hp⟩
end
end Lr
namespace Lr
open PySem hiding Act
open PySem.Spec
open PyProof.Rows hiding St
open L2
open Sy33 (Act Item File bit noticeOf holder voids plotOf isCharge)
def Yag (is : List Item) (k : Nat) : Option Act := (is[k]?).map fun x => x.act
theorem yhl (is : List Item) (e : Nat) : isObj is e = kO (Yag is e) := by
  unfold isObj Yag
  cases is[e]? with
  | none => rfl
  | some x =>
    obtain ⟨d, a, p, w, n⟩ := x
    cases a <;> rfl
theorem JhD (is : List Item) (e : Nat) : Zek is e = (kC (Yag is e) || kN (Yag is e)) := by
  unfold Zek Yag
  cases is[e]? with
  | none => rfl
  | some x =>
    obtain ⟨d, a, p, w, n⟩ := x
    cases a <;> rfl
theorem Zef {A : Adr} {H : Hp} {es : List V} {is : List Item} (h : jaX A H es is) : es.length = is.length := Paired.length h
section
variable {P : Program} {w : World} {K : PySem.W.Frag} {mg : Str → Option Value} {base : Heap} {A : Adr}
theorem Jb6 (T : Txt K mg A) {H : Hp} {es : List V} {is : List Item} (h : jaX A H es is) (k : Nat) : ∃ t, zbz K H (esF es k) t ∧ Kinds K A t (Yag is k) := by
  cases hx : is[k]? with
  | none =>
    have e1 : es[k]? = none := by
      rw [List.getElem?_eq_none_iff] at hx ⊢
      rw [Zef h]; exact hx
    have e2 : esF es k = .non := by unfold esF; rw [e1]; rfl
    have e3 : Yag is k = none := by unfold Yag; rw [hx]; rfl
    rw [e2, e3]
    exact ⟨_, jg7 T⟩
  | some x =>
    have e3 : Yag is k = some x.act := by unfold Yag; rw [hx]; rfl
    rw [e3]
    exact zgD T (h.at hx)
theorem ZgD {H : Hp} {st D : Addr} {od : Obj} {u L : HO} (h : H st = some u) (hD : upd H st (.frz od u) D = Option.none) : D ≠ st ∧ H D = Option.none ∧ ju H (upd (upd (upd H st (.frz od u)) D L) st u) := by
  have n1 : D ≠ st := by
    intro z
    subst z
    rw [Ja] at hD
    cases hD
  have n2 : H D = Option.none := by rw [Zc n1] at hD; exact hD
  refine ⟨n1, n2, fun b o e => ?_⟩
  by_cases hb : b = st
  · subst hb
    rw [Ja]
    rw [h] at e
    exact e
  · rw [Zc hb, Zc (yd e n2), Zc hb]
    exact e
def Zdg (A : Adr) : Sp := fun vs H Q _ => ∃ (H0 : Hp) (v : V) (void : List Nat) (evs : List V) (is : List Item) (s : Sh), vs = [v] ∧ jaX A H0 evs is ∧ Jbh A H0 H v void (esF evs) s ∧ s.std.length ≤ 100 ∧ ∀ H' : Hp, ju H H' → Q (.bl (s.std.any (isObj is))) H'
theorem Zdq (T : Txt K mg A) : Zf P w K mg base CX0 1 A.jk A.ZV ["self"] (Zdg A) := by
  refine T.zbP.ok zaM (fun vs H Q E h => ?_) (fun cdv B outer s H vs Q E hr h => ?_)
  · obtain ⟨_, _, _, _, _, _, rfl, _⟩ := h
    rfl
  · have hu := zcE hr
    obtain ⟨H0, v, void, evs, is, s, rfl, its, ⟨a, dx, vd, st, pl, gv, kvv, ys, rfl, r⟩, hl, k⟩ := h
    refine ⟨_, (jb (yf (Zu (JgV (K := K) rfl rfl) (by rfl) T.Yhi Jf6 (Za (zhs (zf5 rfl zaM.nd (jg3 (Jc (K := K) rfl (pv 0) rfl)) (own := [("entry", 1)]) (by show ydy ["self", "entry"] (za Yk) _ [("entry", 1)]; exact ⟨rfl, by decide +kernel, by decide +kernel, by decide +kernel, by decide +kernel⟩) (fun _ _ _ _ _ => (zaj (i := 1) zaM.nd rfl (by first | exact Or.inl rfl | exact Or.inr rfl))) (fun _ _ _ _ _ => yeI) (fun _ _ _ _ _ => (Zu (YbU (K := K) rfl) (by rfl) T.yW zB (Za (pv 1) (Za (jg (v := .ref A.Yb) (by rfl) T.YcR rfl) yc)))))) yc)))), ?_⟩
    refine ⟨st, _, r.so, (by trivial), fun od => ?_⟩
    have s1 : ju H0 (upd H st (.frz od (.dK (zA (esF evs) s.std)))) := r.sm.zH r.fst
    have nas : a ≠ st := yaR r.ob r.so (by intro z; cases z)
    refine ⟨_, rfl, Fld.rd (u := .ref st) ⟨a, _, dx, _, rfl, (by rw [Zc nas]; exact r.ob), T.Yn, T.YH, rfl⟩ ⟨st, od, _, rfl, Ja, fun D hD => ?_⟩⟩
    obtain ⟨n1, n2, n3⟩ := ZgD (L := .lst ((s.std.map (isObj is)).map V.bl)) r.so hD
    refine jhk s.std.length (fun i H' => H' = upd (upd H st (.frz od (.dK (zA (esF evs) s.std)))) D (.lst (((s.std.take i).map (isObj is)).map V.bl))) rfl ?_ ?_ ?_ ?_
    · rintro i H' hi rfl
      exact ⟨by rw [Zc (Ne.symm n1)]; exact Ja, by rw [Zbd]; exact hi⟩
    · rintro H' rfl
      exact ⟨by rw [Zc (Ne.symm n1)]; exact Ja, by rw [Zbd]; exact Nat.le_refl _⟩
    · rintro i x H' H'' hi rfl ⟨rfl, k', hk⟩
      obtain ⟨e, he⟩ : ∃ e, s.std[i]? = some e := ⟨s.std[i], List.getElem?_eq_getElem hi⟩
      have hx : x = esF evs e := by
        unfold zA at hk
        rw [List.getElem?_map, he] at hk
        exact (congrArg Prod.snd (Option.some.inj hk)).symm
      subst hx
      obtain ⟨t, ty, kd⟩ := Jb6 (H := upd (upd H st (.frz od (.dK (zA (esF evs) s.std)))) D (.lst (((s.std.take i).map (isObj is)).map V.bl))) T (its.same (s1.zH (r.sm.free n2))) e
      show wipe ((wipe _ [1]).set 1 (some (esF evs e))) [1] = wipe _ [1] ∧ _
      refine ⟨by simp [wipe], ?_⟩
      refine ⟨_, rfl, _, _, t, _, rfl, ty, kd.o, _, Ja, ?_, ?_⟩
      · rw [List.length_map, List.length_map, List.length_take]
        exact Nat.lt_of_le_of_lt (show _ ≤ 100 by omega) (by decide)
      · show upd _ _ _ = _
        rw [Jai, Yas he, List.map_append, List.map_append]
        show upd _ D (.lst (_ ++ [V.bl (kO (Yag is e))])) = upd _ D (.lst (_ ++ [V.bl (isObj is e)]))
        rw [yhl]
    · rintro H' rfl
      refine ⟨by rw [Zc (Ne.symm n1)]; exact Ja, D, s.std.map (isObj is), rfl, SqL.of ?_, ?_⟩
      · rw [Zc n1, Ja, List.take_length]
      · rw [List.take_length]
        have e1 : (s.std.map (isObj is)).any id = s.std.any (isObj is) := by rw [List.any_map]; rfl
        rw [e1]
        exact k _ n3
def zb7 (A : Adr) : Sp := fun vs H Q _ => ∃ (H0 : Hp) (v : V) (kn : Bool) (void : List Nat) (evs : List V) (is : List Item) (s : Sh), vs = [v, .int (bit kn : Nat)] ∧ jaX A H0 evs is ∧ Jbh A H0 H v void (esF evs) s ∧ s.std.length ≤ 100 ∧ ∀ H' : Hp, ju H H' → Q (.bl (s.acq is kn)) H'
theorem Yhl (k : Bool) : decide (V.int ((bit k : Nat) : Int) = V.int 0) = !k := by cases k <;> decide
theorem JaX (T : Txt K mg A) : Zf P w K mg base CX0 2 A.Zn A.YJ ["self", "knows"] (zb7 A) := by
  have ydL : Zf P w K mg base CX0 1 A.jk A.ZV ["self"] (Zdg A) := Zdq T
  refine T.jdd.ok zeK (fun vs H Q E h => ?_) (fun cdv B outer s H vs Q E hr h => ?_)
  · obtain ⟨_, _, _, _, _, _, _, rfl, _⟩ := h
    rfl
  · obtain ⟨H0, v, kn, void, evs, is, s, rfl, its, hS, hl, k⟩ := h
    obtain ⟨a, dx, vd, st, pl, gv, kvv, ys, rfl, r⟩ := id hS
    obtain ⟨f1, f2, f3, f4, f5, f6⟩ := r.fld T
    refine ⟨_, (jb (yf (jhw (YaW YaL (Jc (K := K) rfl (pv 0) rfl) (Jc (K := K) rfl (pv 0) rfl) (jm _)) (Ydn (Zez (YaW YaL (pv 1) je (jm _)) (Ydn (jhz (zhd (pv 0) T.Yn T.JbP ydL (hr.mono (by decide)) T.ZbP .nil Jh)))))))), ?_⟩
    refine ⟨_, rfl, f1.rd ⟨_, rfl, f2.rd ⟨rfl, _, rfl, ?_⟩⟩⟩
    dsimp only
    rw [jbc]
    unfold Sh.acq at k
    refine br (fun h => ?_) (fun h => ?_)
    · rw [h] at k
      exact k _ (ju.refl H)
    · rw [h] at k
      refine ⟨_, rfl, rfl, _, rfl, ?_⟩
      rw [Yhl]
      refine br (fun h2 => ?_) (fun h2 => ?_)
      · rw [h2] at k
        refine ⟨_, rfl, a, dx, _, rfl, r.ob, rfl, H0, _, void, evs, is, s, rfl, its, hS, hl, fun H' sH => ?_⟩
        exact ⟨_, rfl, k H' sH⟩
      · rw [h2] at k
        exact k _ (ju.refl H)
end
end Lr
namespace Lr
open PySem hiding Act
open PySem.Spec
open PyProof.Rows hiding St
open L2
open Sy33 (Act Item File bit noticeOf holder voids plotOf isCharge about actOk)
theorem YdY {a b : Nat} : decide ((a : Int) < (b : Int)) = decide (a < b) := by
  rw [decide_eq_decide]; omega
theorem ygP {a b : Nat} : decide ((a : Int) ≤ (b : Int)) = decide (a ≤ b) := by
  rw [decide_eq_decide]; omega
def ye8 (p n : Nat) (a : Act) : Bool := match a with
  | .transfer q x y _ => (decide (q < n) && decide (y < p)) && (decide (x < p) && !(x == y))
  | .charge q x y m _ => (decide (1 ≤ m) && decide (m ≤ 1000000)) && ((decide (q < n) && decide (y < p)) && (decide (x < p) && !(x == y)))
  | .notice q x y _ => (decide (q < n) && decide (y < p)) && (decide (x < p) && !(x == y))
  | .objection q x => decide (q < n) && decide (x < p)
  | .correct q => decide (q < n)
  | .strike _ x => decide (x < p)
  | _ => true
theorem jhl (f : File) (a : Act) : ye8 f.persons f.owners.length a = actOk f a := by
  have b4 : ∀ a b c d : Bool, ((a && b) && (c && d)) = (a && (c && (b && d))) := by decide
  have b6 : ∀ a b c d e f : Bool, ((a && b) && ((c && d) && (e && f))) = (c && (e && (d && (f && (a && b))))) := by decide
  cases a with
  | transfer => exact b4 _ _ _ _
  | charge => exact b6 _ _ _ _ _ _
  | notice => exact b4 _ _ _ _
  | _ => rfl
section
variable {P : Program} {w : World} {K : PySem.W.Frag} {mg : Str → Option Value} {base : Heap} {A : Adr}
def zfm (A : Adr) : Sp := fun vs H Q _ => ∃ (v : V) (d : Nat) (a : Act) (o : V) (q p m n : Nat), vs = [v, .int m, .int n] ∧ YbD A H v d a o ∧ jfI a = some q ∧ YcE a = some p ∧ Q (.bl (decide (q < n) && decide (p < m))) H
theorem jag (T : Txt K mg A) : Zf P w K mg base CX0 1 A.zf A.Jae ["self", "persons", "plots"] (zfm A) := by
  refine T.jbB.ok Ydb (fun vs H Q E h => ?_) (fun cdv B outer s H vs Q E hr h => ?_)
  · obtain ⟨_, _, _, _, _, _, _, _, rfl, _⟩ := h
    rfl
  · obtain ⟨v, d, a, o, q, p, m, n, rfl, hE, h1, h2, k⟩ := h
    have f1 := JeO T hE h1
    have f2 := Jas T hE h2
    refine ⟨_, (jb (yf (Zez (YaW Zfg (Jc (K := K) rfl (pv 0) rfl) (pv 2) (jm _)) (Ydn (YaW Zfg (Jc (K := K) rfl (pv 0) rfl) (pv 1) (jm _)))))), ?_⟩
    refine ybD (c := decide ((q : Int) < (n : Int))) (d := decide ((p : Int) < (m : Int))) (fun R z => ⟨_, rfl, f1.rd ⟨_, rfl, _, _, rfl, rfl, z⟩⟩) (fun _ R z => ⟨_, rfl, f2.rd ⟨_, rfl, _, _, rfl, rfl, z⟩⟩) ?_
    rw [YdY, YdY]
    exact k
def zeP (A : Adr) : Sp := fun vs H Q _ => ∃ (v : V) (d : Nat) (a : Act) (o : V) (g p m : Nat), vs = [v, .int m] ∧ YbD A H v d a o ∧ zef a = some g ∧ YcE a = some p ∧ Q (.bl (decide (g < m) && !(g == p))) H
theorem zaO (T : Txt K mg A) : Zf P w K mg base CX0 1 A.Zg A.Zaj ["self", "persons"] (zeP A) := by
  refine T.JbO.ok Ydo (fun vs H Q E h => ?_) (fun cdv B outer s H vs Q E hr h => ?_)
  · obtain ⟨_, _, _, _, _, _, _, rfl, _⟩ := h
    rfl
  · obtain ⟨v, d, a, o, g, p, m, rfl, hE, h1, h2, k⟩ := h
    have f1 := ze8 T hE h1
    have f2 := Jas T hE h2
    refine ⟨_, (jb (yf (Zez (YaW Zfg (Jc (K := K) rfl (pv 0) rfl) (pv 1) (jm _)) (Ydn (YaW jf3 (Jc (K := K) rfl (pv 0) rfl) (Jc (K := K) rfl (pv 0) rfl) (jm _)))))), ?_⟩
    refine ybD (c := decide ((g : Int) < (m : Int))) (d := !decide (V.int (g : Int) = V.int (p : Int))) (fun R z => ⟨_, rfl, f1.rd ⟨_, rfl, _, _, rfl, rfl, z⟩⟩) (fun _ R z => ⟨_, rfl, f1.rd ⟨_, rfl, f2.rd ⟨rfl, z⟩⟩⟩) ?_
    rw [YdY, jbc]
    exact k
theorem Yc5 (T : Txt K mg A) (a : Act) {p : Nat} (hp : YcE a = some p) : YfC P w K mg base CX0 1 "is_there" (clsOf A a) (zfm A) := by
  refine ⟨jbD T a, ?_⟩
  cases a with
  | transfer => exact ⟨_, _, _, T.zcm, jag T, T.JV⟩
  | charge => exact ⟨_, _, _, T.zcR, jag T, T.JV⟩
  | notice => exact ⟨_, _, _, T.ycR, jag T, T.JV⟩
  | objection => exact ⟨_, _, _, T.Jb4, jag T, T.JV⟩
  | _ => cases hp
theorem jdY (T : Txt K mg A) (a : Act) {p : Nat} (hp : zef a = some p) : YfC P w K mg base CX0 1 "has_its_giver" (clsOf A a) (zeP A) := by
  refine ⟨jbD T a, ?_⟩
  cases a with
  | transfer => exact ⟨_, _, _, T.zbn, zaO T, T.Yav⟩
  | charge => exact ⟨_, _, _, T.JbC, zaO T, T.Yav⟩
  | notice => exact ⟨_, _, _, T.zbD, zaO T, T.Yav⟩
  | _ => cases hp
theorem ZbE (d : Nat) (a : Act) (o : V) : (zdg d a o).lookup ("is_there" : Str) = none ∧ (zdg d a o).lookup ("has_its_giver" : Str) = none ∧ (zdg d a o).lookup ("is_sound" : Str) = none ∧ (zdg d a o).lookup ("finds_its_entries" : Str) = none ∧ (zdg d a o).lookup ("plot_among" : Str) = none ∧ (zdg d a o).lookup ("may_be_made" : Str) = none ∧ (zdg d a o).lookup ("settle" : Str) = none ∧ (zdg d a o).lookup ("take_effect" : Str) = none ∧ (zdg d a o).lookup ("enter" : Str) = none := by
  cases a <;> exact ⟨rfl, rfl, rfl, rfl, rfl, rfl, rfl, rfl, rfl⟩
def Ya3 (A : Adr) (a : Act) : Sp := fun vs H Q _ => ∃ (v : V) (d : Nat) (o : V) (m n : Nat), vs = [v, .int m, .int n] ∧ YbD A H v d a o ∧ Q (.bl (ye8 m n a)) H
theorem ybE (T : Txt K mg A) (a : Act) (ha : ∀ m n, ye8 m n a = true) : Zf P w K mg base CX0 1 A.yl A.jaW ["self", "persons", "plots"] (Ya3 A a) := by
  refine T.Ydc.ok ZeJ (fun vs H Q E h => ?_) (fun cdv B outer s H vs Q E hr h => ?_)
  · obtain ⟨_, _, _, _, _, rfl, _⟩ := h
    rfl
  · obtain ⟨v, d, o, m, n, rfl, hE, k⟩ := h
    refine ⟨_, (jb (yf ydO)), ?_⟩
    rw [ha] at k
    exact k
theorem YdL (T : Txt K mg A) (q : Nat) : Zf P w K mg base CX0 1 A.ym A.Jau ["self", "persons", "plots"] (Ya3 A (.correct q)) := by
  refine T.yb2.ok JdK (fun vs H Q E h => ?_) (fun cdv B outer s H vs Q E hr h => ?_)
  · obtain ⟨_, _, _, _, _, rfl, _⟩ := h
    rfl
  · obtain ⟨v, d, o, m, n, rfl, hE, k⟩ := h
    have f1 := JeO T hE rfl
    refine ⟨_, (jb (yf (YaW Zfg (Jc (K := K) rfl (pv 0) rfl) (pv 2) (jm _)))), ?_⟩
    refine ⟨_, rfl, f1.rd ⟨_, rfl, _, _, rfl, rfl, ?_⟩⟩
    dsimp only
    rw [YdY]
    exact k
theorem zeC (T : Txt K mg A) (x b : Nat) : Zf P w K mg base CX0 1 A.zz A.jaM ["self", "persons", "plots"] (Ya3 A (.strike x b)) := by
  refine T.zcQ.ok ZeA (fun vs H Q E h => ?_) (fun cdv B outer s H vs Q E hr h => ?_)
  · obtain ⟨_, _, _, _, _, rfl, _⟩ := h
    rfl
  · obtain ⟨v, d, o, m, n, rfl, ⟨e, dx, rfl, hE⟩, k⟩ := h
    refine ⟨_, (jb (yf (YaW Zfg (Jc (K := K) rfl (pv 0) rfl) (pv 1) (jm _)))), ?_⟩
    refine ⟨_, rfl, Fld.rd (u := .int b) ⟨e, _, dx, _, rfl, hE, T.Zbc, T.ZP, rfl⟩ ⟨_, rfl, _, _, rfl, rfl, ?_⟩⟩
    dsimp only
    rw [YdY]
    exact k
theorem ydg (T : Txt K mg A) (q p : Nat) : Zf P w K mg base CX0 2 A.yj A.zaf ["self", "persons", "plots"] (Ya3 A (.objection q p)) := by
  refine T.JbB.ok jdb (fun vs H Q E h => ?_) (fun cdv B outer s H vs Q E hr h => ?_)
  · obtain ⟨_, _, _, _, _, rfl, _⟩ := h
    rfl
  · obtain ⟨v, d, o, m, n, rfl, hE, k⟩ := h
    obtain ⟨e, dx, rfl, hH⟩ := id hE
    refine ⟨_, (jb (yf (zay (P := P) (w := w) (K := K) (mg := mg) (base := base) (k := 1) (CX := CX0) ⟨rfl, rfl, rfl, rfl, rfl⟩ (pv 0) (hr.mono (by decide)) Jh (Za (pv 1) (Za (pv 2) yc))))), ?_⟩
    exact ⟨_, rfl, e, _, dx, _, _, rfl, hH, Yc5 T (.objection q p) rfl, rfl, _, rfl, _, rfl, _, d, .objection q p, o, q, p, m, n, rfl, hE, rfl, rfl, k⟩
theorem ZcT (T : Txt K mg A) (a : Act) (ha : ∃ q g t k, a = .transfer q g t k ∨ a = .notice q g t k) : Zf P w K mg base CX0 2 A.yq A.JaW ["self", "persons", "plots"] (Ya3 A a) := by
  refine T.Jdc.ok YeJ (fun vs H Q E h => ?_) (fun cdv B outer s H vs Q E hr h => ?_)
  · obtain ⟨_, _, _, _, _, rfl, _⟩ := h
    rfl
  · obtain ⟨v, d, o, m, n, rfl, hE, k⟩ := h
    obtain ⟨e, dx, rfl, hH⟩ := id hE
    obtain ⟨q, g, t, kn, ha⟩ := ha
    have h1 : jfI a = some q ∧ YcE a = some t ∧ zef a = some g ∧ ye8 m n a = ((decide (q < n) && decide (t < m)) && (decide (g < m) && !(g == t))) := by
      rcases ha with ha | ha <;> (subst ha; exact ⟨rfl, rfl, rfl, rfl⟩)
    rw [h1.2.2.2] at k
    refine ⟨_, (jb (yf (Zez (zay (P := P) (w := w) (K := K) (mg := mg) (base := base) (k := 1) (CX := CX0) ⟨rfl, rfl, rfl, rfl, rfl⟩ (pv 0) (hr.mono (by decide)) Jh (Za (pv 1) (Za (pv 2) yc))) (Ydn (zay (P := P) (w := w) (K := K) (mg := mg) (base := base) (k := 1) (CX := CX0) ⟨rfl, rfl, rfl, rfl, rfl⟩ (pv 0) (hr.mono (by decide)) Jh (Za (pv 1) yc)))))), ?_⟩
    refine ybD (fun R z => ⟨_, rfl, e, _, dx, _, _, rfl, hH, Yc5 T a h1.2.1, (ZbE d a o).1, _, rfl, _, rfl, _, d, a, o, q, t, m, n, rfl, hE, h1.1, h1.2.1, z⟩) (fun _ R z => ⟨_, rfl, e, _, dx, _, _, rfl, hH, jdY T a h1.2.2.1, (ZbE d a o).2.1, _, rfl, _, d, a, o, g, t, m, rfl, hE, h1.2.2.1, h1.2.1, z⟩) k
theorem ZeC (T : Txt K mg A) (q g t am : Nat) (kn : Bool) : Zf P w K mg base CX0 2 A.jy A.yaM ["self", "persons", "plots"] (Ya3 A (.charge q g t am kn)) := by
  refine T.ycP.ok Jez (fun vs H Q E h => ?_) (fun cdv B outer s H vs Q E hr h => ?_)
  · obtain ⟨_, _, _, _, _, rfl, _⟩ := h
    rfl
  · obtain ⟨v, d, o, m, n, rfl, hE, k⟩ := h
    obtain ⟨e, dx, rfl, hH⟩ := id hE
    have f1 : Fld K H (.ref e) "amount" (.int am) := ⟨e, _, dx, _, rfl, hH, T.zde, T.Y0, rfl⟩
    refine ⟨_, (Yc (yO (ydn (YfA zen zen je (Jc (K := K) rfl (pv 0) rfl) (jg (by rfl) T.zc5 T.Zc5))) (jb (yf ydO)) Zo) (jb (yf (Zez (zay (P := P) (w := w) (K := K) (mg := mg) (base := base) (k := 1) (CX := CX0) ⟨rfl, rfl, rfl, rfl, rfl⟩ (pv 0) (hr.mono (by decide)) Jh (Za (pv 1) (Za (pv 2) yc))) (Ydn (zay (P := P) (w := w) (K := K) (mg := mg) (base := base) (k := 1) (CX := CX0) ⟨rfl, rfl, rfl, rfl, rfl⟩ (pv 0) (hr.mono (by decide)) Jh (Za (pv 1) yc))))))), ?_⟩
    unfold ye8 at k
    dsimp only at k
    refine ⟨_, rfl, ?_⟩
    refine f1.rd ?_
    refine ⟨_, _, rfl, rfl, _, rfl, ?_⟩
    rw [show decide ((1 : Int) ≤ (am : Int)) = decide (1 ≤ am) from by rw [decide_eq_decide]; omega]
    refine br (fun h => ?_) (fun h => ?_)
    · rw [h, Bool.true_and] at k
      refine ⟨_, _, rfl, rfl, _, rfl, ?_⟩
      rw [show decide ((am : Int) ≤ (1000000 : Int)) = decide (am ≤ 1000000) from by rw [decide_eq_decide]; omega]
      refine br (fun h2 => ?_) (fun h2 => ?_)
      · rw [show decide (am ≤ 1000000) = false from by simpa using h2, Bool.false_and] at k
        exact k
      · rw [show decide (am ≤ 1000000) = true from by simpa using h2, Bool.true_and] at k
        dsimp only [ygT, YhF]
        refine ybD (fun R z => ⟨_, rfl, e, _, dx, _, _, rfl, hH, Yc5 T (.charge q g t am kn) rfl, rfl, _, rfl, _, rfl, _, d, .charge q g t am kn, o, q, t, m, n, rfl, hE, rfl, rfl, z⟩) (fun _ R z => ⟨_, rfl, e, _, dx, _, _, rfl, hH, jdY T (.charge q g t am kn) rfl, rfl, _, rfl, _, d, .charge q g t am kn, o, g, t, m, rfl, hE, rfl, rfl, z⟩) k
    · rw [h, Bool.false_and, Bool.false_and] at k
      exact ⟨_, rfl, k⟩
theorem ZfX (T : Txt K mg A) (a : Act) : YfC P w K mg base CX0 2 "is_sound" (clsOf A a) (Ya3 A a) := by
  refine ⟨jbD T a, ?_⟩
  cases a with
  | transfer => exact ⟨_, _, _, T.Jcl, (ZcT T _ ⟨_, _, _, _, .inl rfl⟩).mono (by decide), T.ZbV⟩
  | charge => exact ⟨_, _, _, T.JcQ, (ZeC T _ _ _ _ _).mono (by decide), T.YcP⟩
  | notice => exact ⟨_, _, _, T.ZcR, (ZcT T _ ⟨_, _, _, _, .inr rfl⟩).mono (by decide), T.ZbV⟩
  | fulfil => exact ⟨_, _, _, T.JcR, (ybE T _ fun _ _ => rfl).mono (by decide), T.Ybb⟩
  | objection => exact ⟨_, _, _, T.zb5, (ydg T _ _).mono (by decide), T.zbC⟩
  | strike => exact ⟨_, _, _, T.zcS, (zeC T _ _).mono (by decide), T.ZcQ⟩
  | ahead => exact ⟨_, _, _, T.yde, (ybE T _ fun _ _ => rfl).mono (by decide), T.Ybb⟩
  | correct => exact ⟨_, _, _, T.ZcD, (YdL T _).mono (by decide), T.Yb2⟩
  | void_ => exact ⟨_, _, _, T.zdB, (ybE T _ fun _ _ => rfl).mono (by decide), T.Ybb⟩
end
end Lr
namespace Lr
open PySem hiding Act
open PySem.Spec
open PyProof.Rows hiding St
open L2
open Sy33 (Act Item File bit noticeOf holder voids plotOf isCharge about actOk)
def JfI (is : List Item) (a : Act) : Bool := match a with
  | .fulfil k _ => kN (Yag is k)
  | .strike k _ => kC (Yag is k) || (kN (Yag is k) || (kO (Yag is k) || false))
  | .ahead x y => !((x == y) || !kC (Yag is x)) && kC (Yag is y)
  | .void_ k => kT (Yag is k) || (kC (Yag is k) || (kN (Yag is k) || (kF (Yag is k) || false)))
  | _ => true
theorem JcE (is : List Item) (e : Nat) : isCharge is e = kC (Yag is e) := by
  unfold isCharge Yag
  cases is[e]? with
  | none => rfl
  | some x =>
    obtain ⟨d, a, p, w, n⟩ := x
    cases a <;> rfl
theorem zfJ (is : List Item) (e : Nat) : (holder is e).isSome = (kC (Yag is e) || (kN (Yag is e) || (kO (Yag is e) || false))) := by
  unfold holder Yag
  cases is[e]? with
  | none => rfl
  | some x =>
    obtain ⟨d, a, p, w, n⟩ := x
    cases a <;> rfl
theorem ZfJ (is : List Item) (e : Nat) : (noticeOf is e).isSome = kN (Yag is e) := by
  unfold noticeOf Yag
  cases is[e]? with
  | none => rfl
  | some x =>
    obtain ⟨d, a, p, w, n⟩ := x
    cases a <;> rfl
theorem Jhl (f : File) (a : Act) : JfI f.items a = (about f a).isSome := by
  unfold JfI about
  cases a with
  | fulfil k b => dsimp only; rw [Option.isSome_map, ZfJ]
  | strike k b => dsimp only; rw [Option.isSome_map, zfJ]
  | ahead x y =>
    dsimp only
    rw [← JcE, ← JcE]
    by_cases h : x = y
    · subst h
      simp
    · have e1 : (x == y) = false := by simpa using h
      have e2 : (x != y) = true := by simpa using h
      rw [e1, e2]
      cases isCharge f.items x <;> cases isCharge f.items y <;> rfl
  | void_ k =>
    unfold Yag
    dsimp only
    cases f.items[k]? with
    | none => rfl
    | some x =>
      obtain ⟨d, a, p, w, n⟩ := x
      cases a <;> rfl
  | _ => rfl
section
variable {P : Program} {w : World} {K : PySem.W.Frag} {mg : Str → Option Value} {base : Heap} {A : Adr}
def Zb7 (K : PySem.W.Frag) : Sp := fun vs H Q _ => ∃ (ea : Addr) (es : List V) (k : Nat), vs = [.ref ea, .int k] ∧ SqL K H ea es ∧ Q (esF es k) H
theorem ycT (T : Txt K mg A) : Zf P w K mg base CX0 1 A.J4 A.jaL ["entries", "number"] (Zb7 K) := by
  refine T.Ybr.ok ygx (fun vs H Q E h => ?_) (fun cdv B outer s H vs Q E hr h => ?_)
  · obtain ⟨_, _, _, rfl, _⟩ := h
    rfl
  · obtain ⟨ea, es, k, rfl, hS, q⟩ := h
    refine ⟨_, (Yc (yO (Yq Zfg (pv 1) (Zu (jx (K := K) rfl) (by rfl) T.JcD PySem.boot_len (Za (pv 0) yc)) (jm _)) (jb (yf (Jj (Ye (K := K) rfl) (pv 0) (pv 1) (fun _ _ => rfl)))) Zo) (jb (yf Jha))), ?_⟩
    refine ⟨_, rfl, _, rfl, ea, es, rfl, .inl hS, _, _, rfl, rfl, _, rfl, ?_⟩
    rw [YdY]
    refine br (fun h => ?_) (fun h => ?_)
    · have h := of_decide_eq_true h
      have e : esF es k = es[k] := by unfold esF; rw [List.getElem?_eq_getElem h]; rfl
      rw [e] at q
      exact ⟨_, rfl, _, rfl, .inl ⟨ea, es, _, _, rfl, rfl, hS, zdo (List.getElem?_eq_getElem h), q⟩⟩
    · have h := of_decide_eq_false h
      have e : esF es k = .non := by unfold esF; rw [List.getElem?_eq_none (by omega)]; rfl
      rw [e] at q
      exact q
def Ydg (K : PySem.W.Frag) (A : Adr) (a : Act) : Sp := fun vs H Q _ => ∃ (v : V) (d : Nat) (o : V) (ea : Addr) (es : List V) (is : List Item), vs = [v, .ref ea] ∧ YbD A H v d a o ∧ SqL K H ea es ∧ jaX A H es is ∧ ∀ H' : Hp, ju H H' → Q (.bl (JfI is a)) H'
theorem ja3 (T : Txt K mg A) (a : Act) (ha : ∀ is, JfI is a = true) : Zf P w K mg base CX0 1 A.jd A.yU ["self", "entries"] (Ydg K A a) := by
  refine T.Ybf.ok zcA (fun vs H Q E h => ?_) (fun cdv B outer s H vs Q E hr h => ?_)
  · obtain ⟨_, _, _, _, _, _, rfl, _⟩ := h
    rfl
  · obtain ⟨v, d, o, ea, es, is, rfl, hE, hS, hI, k⟩ := h
    refine ⟨_, (jb (yf ydO)), ?_⟩
    rw [ha] at k
    exact k _ (ju.refl _)
theorem Jfq (T : Txt K mg A) (n : Nat) (b : Bool) : Zf P w K mg base CX0 2 A.Yh A.zQ ["self", "entries"] (Ydg K A (.fulfil n b)) := by
  have Ja3 : Zf P w K mg base CX0 1 A.J4 A.jaL ["entries", "number"] (Zb7 K) := ycT T
  refine T.Ja1.ok Ycr (fun vs H Q E h => ?_) (fun cdv B outer s H vs Q E hr h => ?_)
  · obtain ⟨_, _, _, _, _, _, rfl, _⟩ := h
    rfl
  · obtain ⟨v, d, o, ea, es, is, rfl, ⟨e, dx, rfl, hE⟩, hS, hI, k⟩ := h
    obtain ⟨t, ty, kd⟩ := Jb6 T hI n
    refine ⟨_, (jb (yf (Zu (YbU (K := K) rfl) (by rfl) T.yW zB (Za (zE Ja3 (hr.mono (by decide)) (by rfl) T.JbU T.Ybr.kp T.jbU .nil Jh (Za (pv 1) (Za (Jc (K := K) rfl (pv 0) rfl) yc))) (Za (jg (v := .ref A.Zd) (by rfl) T.YcC rfl) yc))))), ?_⟩
    exact ⟨_, rfl, _, rfl, Fld.rd (u := .int n) ⟨e, _, dx, _, rfl, hE, T.zbv, T.ZF, rfl⟩ ⟨ea, es, n, rfl, hS, _, _, t, _, rfl, ty, kd.n, k _ (ju.refl _)⟩⟩
theorem zfr (T : Txt K mg A) (n b : Nat) : Zf P w K mg base CX0 2 A.jh A.ZQ ["self", "entries"] (Ydg K A (.strike n b)) := by
  have Ja3 : Zf P w K mg base CX0 1 A.J4 A.jaL ["entries", "number"] (Zb7 K) := ycT T
  refine T.Za2.ok jcr (fun vs H Q E h => ?_) (fun cdv B outer s H vs Q E hr h => ?_)
  · obtain ⟨_, _, _, _, _, _, rfl, _⟩ := h
    rfl
  · obtain ⟨v, d, o, ea, es, is, rfl, ⟨e, dx, rfl, hE⟩, hS, hI, k⟩ := h
    refine ⟨_, (jb (yf (Zu (je4 (K := K) rfl) (by rfl) T.yW zB (Za (zE Ja3 (hr.mono (by decide)) (by rfl) T.JbU T.Ybr.kp T.jbU .nil Jh (Za (pv 1) (Za (Jc (K := K) rfl (pv 0) rfl) yc))) (Za (je3 (Za (jg (v := .ref A.jc) (by rfl) T.zb4 rfl) (Za (jg (v := .ref A.Zd) (by rfl) T.YcC rfl) (Za (jg (v := .ref A.Yb) (by rfl) T.YcR rfl) yc)))) yc))))), ?_⟩
    refine ⟨_, rfl, _, rfl, Fld.rd (u := .int n) ⟨e, _, dx, _, rfl, hE, T.Zbc, T.JG, rfl⟩ ⟨ea, es, n, rfl, hS, (by show 3 ≤ sizeLine; decide), fun tp htp => ?_⟩⟩
    have s1 := Jd (o := .tup [.ref A.jc, .ref A.Zd, .ref A.Yb]) htp
    obtain ⟨t, ty, kd⟩ := Jb6 T (hI.same s1) n
    exact ⟨_, tp, [A.jc, A.Zd, A.Yb], t, _, rfl, Ja, ty, JbD kd.c (JbD kd.n (JbD kd.o Zgj)), k _ s1⟩
theorem yfX (T : Txt K mg A) (n : Nat) : Zf P w K mg base CX0 2 A.zj A.Z1 ["self", "entries"] (Ydg K A (.void_ n)) := by
  have Ja3 : Zf P w K mg base CX0 1 A.J4 A.jaL ["entries", "number"] (Zb7 K) := ycT T
  refine T.jbm.ok ZcO (fun vs H Q E h => ?_) (fun cdv B outer s H vs Q E hr h => ?_)
  · obtain ⟨_, _, _, _, _, _, rfl, _⟩ := h
    rfl
  · obtain ⟨v, d, o, ea, es, is, rfl, ⟨e, dx, rfl, hE⟩, hS, hI, k⟩ := h
    refine ⟨_, (jb (yf (Zu (je4 (K := K) rfl) (by rfl) T.yW zB (Za (zE Ja3 (hr.mono (by decide)) (by rfl) T.JbU T.Ybr.kp T.jbU .nil Jh (Za (pv 1) (Za (Jc (K := K) rfl (pv 0) rfl) yc))) (Za (je3 (Za (jg (v := .ref A.Jb) (by rfl) T.zeB rfl) (Za (jg (v := .ref A.jc) (by rfl) T.zb4 rfl) (Za (jg (v := .ref A.Zd) (by rfl) T.YcC rfl) (Za (jg (v := .ref A.Yd) (by rfl) T.zfG rfl) yc))))) yc))))), ?_⟩
    refine ⟨_, rfl, _, rfl, Fld.rd (u := .int n) ⟨e, _, dx, _, rfl, hE, T.ZcS, T.jT, rfl⟩ ⟨ea, es, n, rfl, hS, (by show 4 ≤ sizeLine; decide), fun tp htp => ?_⟩⟩
    have s1 := Jd (o := .tup [.ref A.Jb, .ref A.jc, .ref A.Zd, .ref A.Yd]) htp
    obtain ⟨t, ty, kd⟩ := Jb6 T (hI.same s1) n
    exact ⟨_, tp, [A.Jb, A.jc, A.Zd, A.Yd], t, _, rfl, Ja, ty, JbD kd.tr (JbD kd.c (JbD kd.n (JbD kd.f Zgj))), k _ s1⟩
theorem yfJ (T : Txt K mg A) (x y : Nat) : Zf P w K mg base CX0 2 A.ji A.jU ["self", "entries"] (Ydg K A (.ahead x y)) := by
  have Ja3 : Zf P w K mg base CX0 1 A.J4 A.jaL ["entries", "number"] (Zb7 K) := ycT T
  refine T.jbf.ok ZcA (fun vs H Q E h => ?_) (fun cdv B outer s H vs Q E hr h => ?_)
  · obtain ⟨_, _, _, _, _, _, rfl, _⟩ := h
    rfl
  · obtain ⟨v, d, o, ea, es, is, rfl, ⟨e, dx, rfl, hE⟩, hS, hI, k⟩ := h
    have f1 : Fld K H (.ref e) "one" (.int x) := ⟨e, _, dx, _, rfl, hE, T.Zbn, T.zao, rfl⟩
    have f2 : Fld K H (.ref e) "other" (.int y) := ⟨e, _, dx, _, rfl, hE, T.Zbn, T.yab, rfl⟩
    obtain ⟨t1, ty1, kd1⟩ := Jb6 T hI x
    obtain ⟨t2, ty2, kd2⟩ := Jb6 T hI y
    refine ⟨_, (Yc (yO (PW.pt (pw_or (Yq YaL (Jc (K := K) rfl (pv 0) rfl) (Jc (K := K) rfl (pv 0) rfl) (jm _)) (pw_or1 (ydn (Jby (Zu (YbU (K := K) rfl) (by rfl) T.yW zB (Za (zE Ja3 (hr.mono (by decide)) (by rfl) T.JbU T.Ybr.kp T.jbU .nil Jh (Za (pv 1) (Za (Jc (K := K) rfl (pv 0) rfl) yc))) (Za (jg (v := .ref A.jc) (by rfl) T.zb4 rfl) yc)))))))) (jb (yf ydO)) Zo) (jb (yf (Zu (YbU (K := K) rfl) (by rfl) T.yW zB (Za (zE Ja3 (hr.mono (by decide)) (by rfl) T.JbU T.Ybr.kp T.jbU .nil Jh (Za (pv 1) (Za (Jc (K := K) rfl (pv 0) rfl) yc))) (Za (jg (v := .ref A.jc) (by rfl) T.zb4 rfl) yc)))))), ?_⟩
    refine ygX (c := decide (V.int (x : Int) = V.int (y : Int))) (d := !kC (Yag is x)) (fun R z => ⟨_, rfl, f1.rd ⟨_, rfl, f2.rd ⟨rfl, _, rfl, z⟩⟩⟩) (fun _ R z => ⟨_, rfl, _, rfl, f1.rd ⟨ea, es, x, rfl, hS, _, _, t1, _, rfl, ty1, kd1.c, _, rfl, z⟩⟩) ?_
    have k := k _ (ju.refl _)
    unfold JfI at k
    dsimp only at k
    rw [jbc]
    refine br (fun h => ?_) (fun h => ?_)
    · rw [h] at k
      exact k
    · rw [h] at k
      exact ⟨_, rfl, _, rfl, f2.rd ⟨ea, es, y, rfl, hS, _, _, t2, _, rfl, ty2, kd2.c, k⟩⟩
theorem YgP (T : Txt K mg A) (a : Act) : YfC P w K mg base CX0 2 "finds_its_entries" (clsOf A a) (Ydg K A a) := by
  refine ⟨jbD T a, ?_⟩
  cases a with
  | transfer => exact ⟨_, _, _, T.YaS, (ja3 T _ fun _ => rfl).mono (by decide), T.Yz⟩
  | charge => exact ⟨_, _, _, T.Ya2, (ja3 T _ fun _ => rfl).mono (by decide), T.Yz⟩
  | notice => exact ⟨_, _, _, T.ja2, (ja3 T _ fun _ => rfl).mono (by decide), T.Yz⟩
  | fulfil => exact ⟨_, _, _, T.Ja2, (Jfq T _ _).mono (by decide), T.za2⟩
  | objection => exact ⟨_, _, _, T.JaL, (ja3 T _ fun _ => rfl).mono (by decide), T.Yz⟩
  | strike => exact ⟨_, _, _, T.za3, (zfr T _ _).mono (by decide), T.ya2⟩
  | ahead => exact ⟨_, _, _, T.zbg, (yfJ T _ _).mono (by decide), T.Jbf⟩
  | correct => exact ⟨_, _, _, T.YaX, (ja3 T _ fun _ => rfl).mono (by decide), T.Yz⟩
  | void_ => exact ⟨_, _, _, T.ybn, (yfX T _).mono (by decide), T.Jbm⟩
theorem jgP {f : File} (h : WF f) {k : Nat} {x : Item} (hx : f.items[k]? = some x) (hp : (holder f.items k).isSome = true) : jfI x.act = some (plotOf f.items k) := by
  have z := (h.ok k x hx).2
  rw [yaU hx]
  unfold holder at hp
  rw [hx] at hp
  cases ha : x.act with
  | charge => rw [ha] at z; rw [z.1]; rfl
  | notice => rw [ha] at z; rw [z.1]; rfl
  | objection => rw [ha] at z; rw [z.1]; rfl
  | _ => rw [show (some x).bind _ = _ from rfl] at hp; simp [ha] at hp
def ZeP (K : PySem.W.Frag) (A : Adr) (a : Act) : Sp := fun vs H Q _ => ∃ (v : V) (d : Nat) (o : V) (ea : Addr) (es : List V) (f : File) (p : Nat), vs = [v, .ref ea] ∧ YbD A H v d a o ∧ SqL K H ea es ∧ jaX A H es f.items ∧ WF f ∧ about f a = some p ∧ Q (.int p) H
theorem Yaz (T : Txt K mg A) (a : Act) (ha : ∀ f, about f a = jfI a) : Zf P w K mg base CX0 1 A.ye A.jae ["self", "entries"] (ZeP K A a) := by
  refine T.YbB.ok ydb (fun vs H Q E h => ?_) (fun cdv B outer s H vs Q E hr h => ?_)
  · obtain ⟨_, _, _, _, _, _, _, rfl, _⟩ := h
    rfl
  · obtain ⟨v, d, o, ea, es, f, p, rfl, hE, hS, hI, hW, hp, k⟩ := h
    rw [ha] at hp
    refine ⟨_, (jb (yf (Jc (K := K) rfl (pv 0) rfl))), ?_⟩
    exact ⟨_, rfl, (JeO T hE hp).rd k⟩
theorem Jhu {f : File} {k : Nat} (h : (holder f.items k).isSome = true) : ∃ x, f.items[k]? = some x := by
  unfold holder at h
  cases e : f.items[k]? with
  | none => rw [e] at h; cases h
  | some x => exact ⟨x, rfl⟩
theorem zhm (T : Txt K mg A) {H : Hp} {ea : Addr} {es : List V} {f : File} (hS : SqL K H ea es) (hI : jaX A H es f.items) (hW : WF f) {k : Nat} (hk : (holder f.items k).isSome = true) {Q : VK} (q : Q (.int (plotOf f.items k : Nat)) H) : rIx K (.ref ea) (.int k) H fun x H1 => ∃ a C dx fs w, x = .ref a ∧ H1 a = some (.ins C dx fs) ∧ Cls K C ∧ Jm K C "plot" ∧ fs.lookup ("plot" : Str) = some w ∧ Q w H1 := by
  obtain ⟨x, hx⟩ := Jhu hk
  obtain ⟨v, hv, r⟩ := Paired.Jhk hI hx
  exact .inl ⟨ea, es, _, v, rfl, rfl, hS, zdo hv, (JeO T r (jgP hW hx hk)).rd (Q := fun w => Q w H) q⟩
theorem YfJ (T : Txt K mg A) (n : Nat) (b : Bool) : Zf P w K mg base CX0 1 A.Js A.Jay ["self", "entries"] (ZeP K A (.fulfil n b)) := by
  refine T.Yck.ok ZdQ (fun vs H Q E h => ?_) (fun cdv B outer s H vs Q E hr h => ?_)
  · obtain ⟨_, _, _, _, _, _, _, rfl, _⟩ := h
    rfl
  · obtain ⟨v, d, o, ea, es, f, p, rfl, ⟨e, dx, rfl, hE⟩, hS, hI, hW, hp, k⟩ := h
    obtain ⟨y, hy, e1⟩ := Option.map_eq_some_iff.mp (show (noticeOf f.items n).map (fun (_ : Nat × Nat) => plotOf f.items n) = some p from hp)
    subst e1
    have hk : (holder f.items n).isSome = true := by
      have := ZfJ f.items n
      rw [hy] at this
      rw [zfJ, ← this]
      simp
    refine ⟨_, (jb (yf (Jc (K := K) rfl (Jj (Ye (K := K) rfl) (pv 1) (Jc (K := K) rfl (pv 0) rfl) (fun _ _ => rfl)) rfl))), ?_⟩
    exact ⟨_, rfl, _, rfl, Fld.rd (u := .int n) ⟨e, _, dx, _, rfl, hE, T.zbv, T.ZF, rfl⟩ (zhm T hS hI hW hk k)⟩
theorem jfJ (T : Txt K mg A) (n b : Nat) : Zf P w K mg base CX0 1 A.Zt A.zaz ["self", "entries"] (ZeP K A (.strike n b)) := by
  refine T.Jck.ok ydQ (fun vs H Q E h => ?_) (fun cdv B outer s H vs Q E hr h => ?_)
  · obtain ⟨_, _, _, _, _, _, _, rfl, _⟩ := h
    rfl
  · obtain ⟨v, d, o, ea, es, f, p, rfl, ⟨e, dx, rfl, hE⟩, hS, hI, hW, hp, k⟩ := h
    obtain ⟨y, hy, e1⟩ := Option.map_eq_some_iff.mp (show (holder f.items n).map (fun (_ : Nat) => plotOf f.items n) = some p from hp)
    subst e1
    refine ⟨_, (jb (yf (Jc (K := K) rfl (Jj (Ye (K := K) rfl) (pv 1) (Jc (K := K) rfl (pv 0) rfl) (fun _ _ => rfl)) rfl))), ?_⟩
    exact ⟨_, rfl, _, rfl, Fld.rd (u := .int n) ⟨e, _, dx, _, rfl, hE, T.Zbc, T.JG, rfl⟩ (zhm T hS hI hW (by rw [hy]; rfl) k)⟩
theorem YfX (T : Txt K mg A) (x y : Nat) : Zf P w K mg base CX0 1 A.Zw A.JaD ["self", "entries"] (ZeP K A (.ahead x y)) := by
  refine T.ycB.ok jej (fun vs H Q E h => ?_) (fun cdv B outer s H vs Q E hr h => ?_)
  · obtain ⟨_, _, _, _, _, _, _, rfl, _⟩ := h
    rfl
  · obtain ⟨v, d, o, ea, es, f, p, rfl, ⟨e, dx, rfl, hE⟩, hS, hI, hW, hp, k⟩ := h
    have hp : (if (isCharge f.items x && (isCharge f.items y && x != y)) = true then some (plotOf f.items x) else none) = some p := hp
    split at hp
    · rename_i hc
      rw [Bool.and_eq_true] at hc
      have e1 := Option.some.inj hp
      subst e1
      refine ⟨_, (jb (yf (Jc (K := K) rfl (Jj (Ye (K := K) rfl) (pv 1) (Jc (K := K) rfl (pv 0) rfl) (fun _ _ => rfl)) rfl))), ?_⟩
      refine ⟨_, rfl, _, rfl, Fld.rd (u := .int x) ⟨e, _, dx, _, rfl, hE, T.Zbn, T.zao, rfl⟩ (zhm T hS hI hW ?_ k)⟩
      rw [zfJ, ← JcE, hc.1]
      rfl
    · cases hp
theorem JfJ (T : Txt K mg A) (a : Act) (ha : kW (some a) = false) : YfC P w K mg base CX0 1 "plot_among" (clsOf A a) (ZeP K A a) := by
  refine ⟨jbD T a, ?_⟩
  cases a with
  | transfer => exact ⟨_, _, _, T.ybP, Yaz T _ fun _ => rfl, T.yH⟩
  | charge => exact ⟨_, _, _, T.Zcm, Yaz T _ fun _ => rfl, T.yH⟩
  | notice => exact ⟨_, _, _, T.ycm, Yaz T _ fun _ => rfl, T.yH⟩
  | fulfil => exact ⟨_, _, _, T.Ycm, YfJ T _ _, T.jck⟩
  | objection => exact ⟨_, _, _, T.ZbD, Yaz T _ fun _ => rfl, T.yH⟩
  | strike => exact ⟨_, _, _, T.jcm, jfJ T _ _, T.zcl⟩
  | ahead => exact ⟨_, _, _, T.JcC, YfX T _ _, T.YcB⟩
  | correct => exact ⟨_, _, _, T.Jb5, Yaz T _ fun _ => rfl, T.yH⟩
  | void_ => cases ha
def AB (f : File) : Prop := ∀ (i : Nat) (x : Item), f.items[i]? = some x → about f x.act = some x.plot
def ygD (K : PySem.W.Frag) (A : Adr) (a : Act) : Sp := fun vs H Q _ => ∃ (v : V) (d : Nat) (o : V) (ea : Addr) (es : List V) (f : File) (p : Nat), vs = [v, .ref ea] ∧ YbD A H v d a o ∧ SqL K H ea es ∧ jaX A H es f.items ∧ WF f ∧ AB f ∧ about f a = some p ∧ Q (.int p) H
theorem ygj (T : Txt K mg A) (n : Nat) : Zf P w K mg base CX0 2 A.Zz A.JaM ["self", "entries"] (ygD K A (.void_ n)) := by
  refine T.ycQ.ok yeA (fun vs H Q E h => ?_) (fun cdv B outer s H vs Q E hr h => ?_)
  · obtain ⟨_, _, _, _, _, _, _, rfl, _⟩ := h
    rfl
  · obtain ⟨v, d, o, ea, es, f, p, rfl, ⟨e, dx, rfl, hE⟩, hS, hI, hW, hA, hp, k⟩ := h
    obtain ⟨x, hx, e1⟩ := Option.bind_eq_some_iff.mp (show (f.items[n]?).bind _ = some p from hp)
    obtain ⟨v, hv, r⟩ := Paired.Jhk hI hx
    have h1 : kW (some x.act) = false ∧ x.plot = p := by
      cases ha : x.act with
      | transfer => rw [ha] at e1; exact ⟨rfl, Option.some.inj e1⟩
      | charge => rw [ha] at e1; exact ⟨rfl, Option.some.inj e1⟩
      | notice => rw [ha] at e1; exact ⟨rfl, Option.some.inj e1⟩
      | fulfil => rw [ha] at e1; exact ⟨rfl, Option.some.inj e1⟩
      | _ => rw [ha] at e1; cases e1
    have h2 := hA n x hx
    rw [h1.2] at h2
    obtain ⟨e', dx', rfl, hE'⟩ := id r
    refine ⟨_, (jb (yf (zay (P := P) (w := w) (K := K) (mg := mg) (base := base) (k := 1) (CX := CX0) ⟨rfl, rfl, rfl, rfl, rfl⟩ (Jj (Ye (K := K) rfl) (pv 1) (Jc (K := K) rfl (pv 0) rfl) (fun _ _ => rfl)) (hr.mono (by decide)) Jh (Za (pv 1) yc)))), ?_⟩
    exact ⟨_, rfl, _, rfl, Fld.rd (u := .int n) ⟨e, _, dx, _, rfl, hE, T.ZcS, T.jT, rfl⟩ (.inl ⟨ea, es, _, _, rfl, rfl, hS, zdo hv, e', _, dx', _, _, rfl, hE', JfJ T x.act h1.1, (ZbE _ _ _).2.2.2.2.1, _, rfl, _, x.day, _, ea, es, f, p, rfl, r, hS, hI, hW, h2, k⟩)⟩
theorem jga (T : Txt K mg A) (a : Act) : YfC P w K mg base CX0 2 "plot_among" (clsOf A a) (ygD K A a) := by
  by_cases ha : kW (some a) = false
  · obtain ⟨c, g, gd, ps, hm, F, hb⟩ := JfJ (P := P) (w := w) (base := base) T a ha
    refine ⟨c, g, gd, ps, hm, (F.mono (by decide)).imp fun vs H Q E h => ?_, hb⟩
    obtain ⟨v, d, o, ea, es, f, p, h1, h2, h3, h4, h5, _, h6, h7⟩ := h
    exact ⟨v, d, o, ea, es, f, p, h1, h2, h3, h4, h5, h6, h7⟩
  · cases a with
    | void_ n => exact ⟨T.ZcS, _, _, _, T.ycS, (ygj T n).mono (by decide), T.YcQ⟩
    | _ => exact absurd rfl ha
end
end Lr
namespace Lr
open PySem hiding Act
open PySem.Spec
open PyProof.Rows hiding St
open L2
open Sy33 (Act Item File bit noticeOf holder voids plotOf isCharge about actOk)
theorem ZaO (g : Nat → V) (e : Nat) (l : List Nat) : (za1 (zA g l) (Sum.inl (e : Int))).isSome = l.contains e := by
  rw [jas]
  by_cases h : e ∈ l
  · rw [if_pos h, List.contains_iff_mem.mpr h]; rfl
  · rw [if_neg h]
    cases e1 : l.contains e with
    | false => rfl
    | true => exact absurd (List.contains_iff_mem.mp e1) h
theorem Jga (x y : Nat) : ∀ l : List Pl, jbp x y l = Yb6 x y l
  | [] => rfl
  | p :: l => by
    rw [jbp, Yb6, Jga x y l]
theorem YbY {f : File} {k p : Nat} (h : holder f.items k = some p) : ∃ x, f.items[k]? = some x ∧ YcE x.act = some p := by
  unfold holder at h
  obtain ⟨x, hx, e⟩ := Option.bind_eq_some_iff.mp h
  refine ⟨x, hx, ?_⟩
  cases ha : x.act with
  | charge => rw [ha] at e; exact e
  | notice => rw [ha] at e; exact e
  | objection => rw [ha] at e; exact e
  | _ => rw [ha] at e; cases e
theorem StOk.len {f : File} {q i : Nat} {s : Sh} (h : StOk f q i s) : s.std.length ≤ i := by
  have := zhl (m := 0) (n := i) h.up fun e he => ⟨Nat.zero_le e, h.lt e he⟩
  omega
section
variable {P : Program} {w : World} {K : PySem.W.Frag} {mg : Str → Option Value} {base : Heap} {A : Adr}
def yeC (A : Adr) (a : Act) : Sp := fun vs H Q _ => ∃ (H0 : Hp) (v : V) (d : Nat) (o sv : V) (void : List Nat) (evs : List V) (f : File) (q n : Nat) (s : Sh), vs = [v, sv] ∧ YbD A H v d a o ∧ jaX A H0 evs f.items ∧ Jbh A H0 H sv void (esF evs) s ∧ StOk f q n s ∧ Q (.bl (Jg6 f.items void s a)) H
theorem yeP (T : Txt K mg A) (a : Act) (ha : ∀ is void s, Jg6 is void s a = true) : Zf P w K mg base CX0 1 A.Yj A.Zay ["self", "sheet"] (yeC A a) := by
  refine T.Jcj.ok YdP (fun vs H Q E h => ?_) (fun cdv B outer s H vs Q E hr h => ?_)
  · obtain ⟨_, _, _, _, _, _, _, _, _, _, _, rfl, _⟩ := h
    rfl
  · obtain ⟨H0, v, d, o, sv, void, evs, f, q, n, s, rfl, hE, its, hS, hO, k⟩ := h
    refine ⟨_, (jb (yf ydO)), ?_⟩
    rw [ha] at k
    exact k
theorem ydq (T : Txt K mg A) (a : Act) (g : Nat) (hg : zef a = some g) (ha : ∀ is void s, Jg6 is void s a = (g == s.reg)) : Zf P w K mg base CX0 1 A.Yg A.Yay ["self", "sheet"] (yeC A a) := by
  refine T.Zck.ok JdP (fun vs H Q E h => ?_) (fun cdv B outer s H vs Q E hr h => ?_)
  · obtain ⟨_, _, _, _, _, _, _, _, _, _, _, rfl, _⟩ := h
    rfl
  · obtain ⟨H0, v, d, o, sv, void, evs, f, q, n, s, rfl, hE, its, ⟨sa, dx, vd, st, pl, gv, kvv, ys, rfl, r⟩, hO, k⟩ := h
    obtain ⟨f1, f2, f3, f4, f5, f6⟩ := r.fld T
    refine ⟨_, (jb (yf (YaW YaL (Jc (K := K) rfl (pv 0) rfl) (Jc (K := K) rfl (pv 1) rfl) (jm _)))), ?_⟩
    refine ⟨_, rfl, (ze8 T hE hg).rd ⟨_, rfl, f1.rd ⟨rfl, ?_⟩⟩⟩
    dsimp only
    rw [jbc, ← ha f.items void s]
    exact k
theorem jfX (T : Txt K mg A) (n : Nat) (b : Bool) : Zf P w K mg base CX0 1 A.Yp A.zav ["self", "sheet"] (yeC A (.fulfil n b)) := by
  refine T.jb2.ok zdL (fun vs H Q E h => ?_) (fun cdv B outer s H vs Q E hr h => ?_)
  · obtain ⟨_, _, _, _, _, _, _, _, _, _, _, rfl, _⟩ := h
    rfl
  · have hu := zcE hr
    obtain ⟨H0, v, d, o, sv, void, evs, f, q, m, s, rfl, ⟨e, edx, rfl, hE⟩, its, ⟨sa, dx, vd, st, pl, gv, kvv, ys, rfl, r⟩, hO, k⟩ := h
    obtain ⟨f1, f2, f3, f4, f5, f6⟩ := r.fld T
    refine ⟨_, (jb (yf (zgK (YfB hu (Jc (K := K) rfl (pv 0) rfl) (Jc (K := K) rfl (pv 1) rfl))))), ?_⟩
    refine ⟨_, rfl, Fld.rd (u := .int n) ⟨e, _, edx, _, rfl, hE, T.zbv, T.ZF, rfl⟩ ⟨_, rfl, f4.rd ⟨st, _, rfl, Zbz.k (k := Sum.inl (n : Int)) r.so, ?_⟩⟩⟩
    dsimp only
    rw [ZaO]
    exact k
theorem YgD (T : Txt K mg A) (n : Nat) : Zf P w K mg base CX0 1 A.yw A.zaE ["self", "sheet"] (yeC A (.void_ n)) := by
  refine T.jcB.ok Jej (fun vs H Q E h => ?_) (fun cdv B outer s H vs Q E hr h => ?_)
  · obtain ⟨_, _, _, _, _, _, _, _, _, _, _, rfl, _⟩ := h
    rfl
  · have hu := zcE hr
    obtain ⟨H0, v, d, o, sv, void, evs, f, q, m, s, rfl, ⟨e, edx, rfl, hE⟩, its, ⟨sa, dx, vd, st, pl, gv, kvv, ys, rfl, r⟩, hO, k⟩ := h
    obtain ⟨f1, f2, f3, f4, f5, f6⟩ := r.fld T
    refine ⟨_, (jb (yf (zgK (Zee hu (Jc (K := K) rfl (pv 0) rfl) (Jc (K := K) rfl (pv 1) rfl))))), ?_⟩
    refine ⟨_, rfl, Fld.rd (u := .int n) ⟨e, _, edx, _, rfl, hE, T.ZcS, T.jT, rfl⟩ ⟨_, rfl, f3.rd ⟨vd, _, rfl, Zbz.k (k := Sum.inl (n : Int)) r.vo, ?_⟩⟩⟩
    dsimp only
    rw [r.vs]
    exact k
theorem JfX (T : Txt K mg A) (n b : Nat) : Zf P w K mg base CX0 1 A.zq A.yav ["self", "sheet"] (yeC A (.strike n b)) := by
  refine T.yb3.ok ZdL (fun vs H Q E h => ?_) (fun cdv B outer s H vs Q E hr h => ?_)
  · obtain ⟨_, _, _, _, _, _, _, _, _, _, _, rfl, _⟩ := h
    rfl
  · have hu := zcE hr
    obtain ⟨H0, v, d, o, sv, void, evs, f, q, m, s, rfl, ⟨e, edx, rfl, hE⟩, its, ⟨sa, dx, vd, st, pl, gv, kvv, ys, rfl, r⟩, hO, k⟩ := h
    obtain ⟨f1, f2, f3, f4, f5, f6⟩ := r.fld T
    have g1 : Fld K H (.ref e) "struck" (.int n) := ⟨e, _, edx, _, rfl, hE, T.Zbc, T.JG, rfl⟩
    have g2 : Fld K H (.ref e) "striker" (.int b) := ⟨e, _, edx, _, rfl, hE, T.Zbc, T.ZP, rfl⟩
    refine ⟨_, (jb (yf (Zez (zgK (YfB hu (Jc (K := K) rfl (pv 0) rfl) (Jc (K := K) rfl (pv 1) rfl))) (Ydn (YaW YaL (Jc (K := K) rfl (Zdo hu (Jc (K := K) rfl (pv 1) rfl) (Jc (K := K) rfl (pv 0) rfl) (fun _ _ => rfl)) rfl) (Jc (K := K) rfl (pv 0) rfl) (jm _)))))), ?_⟩
    refine ybD (c := s.std.contains n) (d := holder f.items n == some b) (fun R z => ⟨_, rfl, g1.rd ⟨_, rfl, f4.rd ⟨st, _, rfl, Zbz.k (k := Sum.inl (n : Int)) r.so, ?_⟩⟩⟩) (fun hc R z => ?_) k
    · skip
      rw [ZaO]
      exact z
    · have hm := List.contains_iff_mem.mp hc
      obtain ⟨p, hp⟩ := Option.isSome_iff_exists.mp (hO.hd n hm).1
      obtain ⟨x, hx, hpx⟩ := YbY hp
      have g3 := (Jas T (its.at hx) hpx).same r.sm
      refine ⟨_, rfl, f4.rd ⟨_, rfl, g1.rd ⟨st, esF evs n, rfl, ?_, g3.rd ⟨_, rfl, g2.rd ⟨rfl, ?_⟩⟩⟩⟩⟩
      · have := Zbz.k (H := H) (a := st) (k := Sum.inl (n : Int)) r.so
        rw [jas, if_pos hm] at this
        exact this
      · skip
        rw [jbc]
        rw [hp] at z
        exact z
theorem Ygj (T : Txt K mg A) (x y : Nat) : Zf P w K mg base CX0 2 A.yt A.Zaz ["self", "sheet"] (yeC A (.ahead x y)) := by
  have zfK : Zf P w K mg base CX0 1 A.YL A.jaR ["places", "one", "other"] (ydB K) := Yfq T
  refine T.Zcl.ok YdQ (fun vs H Q E h => ?_) (fun cdv B outer s H vs Q E hr h => ?_)
  · obtain ⟨_, _, _, _, _, _, _, _, _, _, _, rfl, _⟩ := h
    rfl
  · have hu := zcE hr
    obtain ⟨H0, v, d, o, sv, void, evs, f, q, m, s, rfl, ⟨e, edx, rfl, hE⟩, its, ⟨sa, dx, vd, st, pl, gv, kvv, ys, rfl, r⟩, hO, k⟩ := h
    obtain ⟨f1, f2, f3, f4, f5, f6⟩ := r.fld T
    have g1 : Fld K H (.ref e) "one" (.int x) := ⟨e, _, edx, _, rfl, hE, T.Zbn, T.zao, rfl⟩
    have g2 : Fld K H (.ref e) "other" (.int y) := ⟨e, _, edx, _, rfl, hE, T.Zbn, T.yab, rfl⟩
    refine ⟨_, (Yc (yO (PW.pt (pw_or (ye3 (Zee hu (Jc (K := K) rfl (pv 0) rfl) (Jc (K := K) rfl (pv 1) rfl))) (pw_or1 (ye3 (Zee hu (Jc (K := K) rfl (pv 0) rfl) (Jc (K := K) rfl (pv 1) rfl)))))) (jb (yf ydO)) Zo) (jb (yf (zE zfK (hr.mono (by decide)) (by rfl) T.JdR T.JcA.kp T.jdR .nil Jh (Za (Jc (K := K) rfl (pv 1) rfl) (Za (Jc (K := K) rfl (pv 0) rfl) (Za (Jc (K := K) rfl (pv 0) rfl) yc))))))), ?_⟩
    refine ygX (c := !s.std.contains x) (d := !s.std.contains y) (fun R z => ⟨_, rfl, g1.rd ⟨_, rfl, f4.rd ⟨st, _, rfl, Zbz.k (k := Sum.inl (x : Int)) r.so, _, rfl, ?_⟩⟩⟩) (fun _ R z => ⟨_, rfl, g2.rd ⟨_, rfl, f4.rd ⟨st, _, rfl, Zbz.k (k := Sum.inl (y : Int)) r.so, _, rfl, ?_⟩⟩⟩) ?_
    · skip
      rw [ZaO]
      exact z
    · skip
      rw [ZaO]
      exact z
    · unfold Jg6 at k
      dsimp only at k
      refine br (fun h => ?_) (fun h => ?_)
      · have e1 : (s.std.contains x && (s.std.contains y && Yb6 y x s.pls)) = false := by
          revert h
          cases s.std.contains x <;> cases s.std.contains y <;> simp
        rw [e1] at k
        exact k
      · have e1 : s.std.contains x = true ∧ s.std.contains y = true := by
          revert h
          cases s.std.contains x <;> cases s.std.contains y <;> simp
        rw [e1.1, e1.2, Bool.true_and, Bool.true_and, ← Jga] at k
        exact ⟨_, rfl, f5.rd ⟨_, rfl, g2.rd ⟨_, rfl, g1.rd ⟨pl, ys, s.pls, y, x, rfl, SqL.of r.po, r.ps, k⟩⟩⟩⟩
theorem Zhm (T : Txt K mg A) (a : Act) : YfC P w K mg base CX0 2 "may_be_made" (clsOf A a) (yeC A a) := by
  refine ⟨jbD T a, ?_⟩
  cases a with
  | transfer => exact ⟨_, _, _, T.jbC, (ydq T _ _ rfl fun _ _ _ => rfl).mono (by decide), T.yaE⟩
  | charge => exact ⟨_, _, _, T.Zb4, (ydq T _ _ rfl fun _ _ _ => rfl).mono (by decide), T.yaE⟩
  | notice => exact ⟨_, _, _, T.Yb4, (ydq T _ _ rfl fun _ _ _ => rfl).mono (by decide), T.yaE⟩
  | fulfil => exact ⟨_, _, _, T.Zb5, (jfX T _ _).mono (by decide), T.Jb2⟩
  | objection => exact ⟨_, _, _, T.jbu, (yeP T _ fun _ _ _ => rfl).mono (by decide), T.Zbh⟩
  | strike => exact ⟨_, _, _, T.Yb5, (JfX T _ _).mono (by decide), T.Yb3⟩
  | ahead => exact ⟨_, _, _, T.Jcm, (Ygj T _ _).mono (by decide), T.ycl⟩
  | correct => exact ⟨_, _, _, T.YbP, (yeP T _ fun _ _ _ => rfl).mono (by decide), T.Zbh⟩
  | void_ => exact ⟨_, _, _, T.ycD, (YgD T _).mono (by decide), T.JcB⟩
def Ye8 (A : Adr) (a : Act) : Sp := fun vs H Q _ => ∃ (H0 : Hp) (e : Addr) (d : Nat) (o sv : V) (void : List Nat) (es : Nat → V) (s : Sh), vs = [.ref e, sv] ∧ YbD A H (.ref e) d a o ∧ Jbh A H0 H sv void es s ∧ ∀ H' : Hp, (∀ c, c ≠ e → H' c = H c) → YbD A H' (.ref e) d a (.int s.own) → Q .non H'
theorem J0 (T : Txt K mg A) (a : Act) (ha : ∀ d o o', zdg d a o = zdg d a o') : Zf P w K mg base CX0 1 A.zg A.jbo ["self", "sheet"] (Ye8 A a) := by
  refine T.YdS.ok yfp (fun vs H Q E h => ?_) (fun cdv B outer s H vs Q E hr h => ?_)
  · obtain ⟨_, _, _, _, _, _, _, _, rfl, _⟩ := h
    rfl
  · obtain ⟨H0, e, d, o, sv, void, es, s, rfl, hE, hS, k⟩ := h
    refine ⟨_, (jb Jge), ?_⟩
    refine k H (fun _ _ => rfl) ?_
    obtain ⟨e', dx, x, y⟩ := hE
    exact ⟨e', dx, x, by rw [ha d _ o]; exact y⟩
theorem YeP (T : Txt K mg A) (q : Nat) : Zf P w K mg base CX0 1 A.JC A.ZaX ["self", "sheet"] (Ye8 A (.correct q)) := by
  refine T.ydd.ok JeJ (fun vs H Q E h => ?_) (fun cdv B outer s H vs Q E hr h => ?_)
  · obtain ⟨_, _, _, _, _, _, _, _, rfl, _⟩ := h
    rfl
  · obtain ⟨H0, e, d, o, sv, void, es, s, rfl, ⟨e', edx, e1, hE⟩, ⟨sa, dx, vd, st, pl, gv, kvv, ys, rfl, r⟩, k⟩ := h
    cases e1
    obtain ⟨f1, f2, f3, f4, f5, f6⟩ := r.fld T
    refine ⟨_, (jb (yu (K := K) rfl (pv 0) (Jc (K := K) rfl (pv 1) rfl) rfl)), ?_⟩
    refine ⟨_, rfl, f2.rd ⟨_, rfl, e, _, edx, _, rfl, hE, T.zcD, T.j0, (by show (3 : Nat) < 1000; decide), ?_⟩⟩
    exact k _ (fun c hc => Zc hc) ⟨e, edx, rfl, Ja⟩
theorem jgD (T : Txt K mg A) (a : Act) : YfC P w K mg base CX0 1 "settle" (clsOf A a) (Ye8 A a) := by
  refine ⟨jbD T a, ?_⟩
  cases a with
  | transfer => exact ⟨_, _, _, T.jcQ, (J0 T _ fun _ _ _ => rfl).mono (by decide), T.jV⟩
  | charge => exact ⟨_, _, _, T.ZdA, (J0 T _ fun _ _ _ => rfl).mono (by decide), T.jV⟩
  | notice => exact ⟨_, _, _, T.ydA, (J0 T _ fun _ _ _ => rfl).mono (by decide), T.jV⟩
  | fulfil => exact ⟨_, _, _, T.YdA, (J0 T _ fun _ _ _ => rfl).mono (by decide), T.jV⟩
  | objection => exact ⟨_, _, _, T.jcC, (J0 T _ fun _ _ _ => rfl).mono (by decide), T.jV⟩
  | strike => exact ⟨_, _, _, T.jdA, (J0 T _ fun _ _ _ => rfl).mono (by decide), T.jV⟩
  | ahead => exact ⟨_, _, _, T.jdW, (J0 T _ fun _ _ _ => rfl).mono (by decide), T.jV⟩
  | correct => exact ⟨_, _, _, T.Yde, (YeP T _).mono (by decide), T.Ydd⟩
  | void_ => exact ⟨_, _, _, T.Zeq, (J0 T _ fun _ _ _ => rfl).mono (by decide), T.jV⟩
end
end Lr
namespace Lr
open PySem hiding Act
open PySem.Spec
open PyProof.Rows hiding St
open L2
open Sy33 (Act Item File bit noticeOf holder voids plotOf isCharge about actOk before_)
theorem Zfm {f : File} {n : Nat} {y : Nat × Nat} (h : noticeOf f.items n = some y) : ∃ x, f.items[n]? = some x ∧ zef x.act = some y.1 ∧ YcE x.act = some y.2 := by
  unfold noticeOf at h
  obtain ⟨x, hx, e⟩ := Option.bind_eq_some_iff.mp h
  refine ⟨x, hx, ?_⟩
  cases ha : x.act with
  | notice q g p k =>
    rw [ha] at e
    have e := Option.some.inj e
    subst e
    exact ⟨rfl, rfl⟩
  | _ => rw [ha] at e; cases e
section
variable {P : Program} {w : World} {K : PySem.W.Frag} {mg : Str → Option Value} {base : Heap} {A : Adr}
def jdg (A : Adr) (a : Act) : Sp := fun vs H Q _ => ∃ (H0 : Hp) (v : V) (d : Nat) (o : V) (i : Nat) (sv : V) (void : List Nat) (evs : List V) (f : File) (q : Nat) (s : Sh), vs = [v, .int i, sv] ∧ YbD A H v d a o ∧ jaX A H0 evs f.items ∧ Jbh A H0 H sv void (esF evs) s ∧ ShOk f q i s ∧ i ≤ 40 ∧
  (∀ n b, a = .fulfil n b → n ∈ s.std ∧ ∃ y, noticeOf f.items n = some y) ∧ ∀ H' : Hp, Jbh A H0 H' sv void (esF evs) (s.effect f.items i a) → Q .non H'
theorem JaS (T : Txt K mg A) (a : Act) (ha : ∀ is i s, Sh.effect is i a s = s) : Zf P w K mg base CX0 1 A.jf A.yay ["self", "number", "sheet"] (jdg A a) := by
  refine T.zck.ok jdP (fun vs H Q E h => ?_) (fun cdv B outer s H vs Q E hr h => ?_)
  · obtain ⟨_, _, _, _, _, _, _, _, _, _, _, rfl, _⟩ := h
    rfl
  · obtain ⟨H0, v, d, o, i, sv, void, evs, f, q, s, rfl, hE, its, hS, hO, h40, hf, k⟩ := h
    refine ⟨_, (jb Jge), ?_⟩
    rw [ha] at k
    exact k _ hS
theorem YeC (T : Txt K mg A) (q0 g t : Nat) (kn : Bool) : Zf P w K mg base CX0 3 A.Zm A.Zaf ["self", "number", "sheet"] (jdg A (.transfer q0 g t kn)) := by
  have j8 : Zf P w K mg base CX0 2 A.Zn A.YJ ["self", "knows"] (zb7 A) := JaX T
  refine T.ZbC.ok Jdb (fun vs H Q E h => ?_) (fun cdv B outer s H vs Q E hr h => ?_)
  · obtain ⟨_, _, _, _, _, _, _, _, _, _, _, rfl, _⟩ := h
    rfl
  · obtain ⟨H0, v, d, o, i, sv, void, evs, f, q, s, rfl, hE, its, hS, hO, h40, hf, k⟩ := h
    obtain ⟨sa, dx, vd, st, pl, gv, kvv, ys, rfl, r⟩ := id hS
    have hl := hO.toStOk.len
    refine ⟨_, (jb (yO (Jby (z9 (pv 2) T.Yn T.yaI j8 (hr.mono (by decide)) T.ZaI .nil Jh (Za (Jc (K := K) rfl (pv 0) rfl) yc))) (jb (yu (K := K) rfl (pv 2) (Jc (K := K) rfl (pv 0) rfl) rfl)) Zo)), ?_⟩
    refine ⟨_, rfl, sa, dx, _, rfl, r.ob, rfl, _, rfl, (Ze8 T hE rfl).rd ⟨H0, _, kn, void, evs, f.items, s, rfl, its, hS, by omega, fun H1 s1 => ⟨_, rfl, ?_⟩⟩⟩
    have r1 := r.same s1
    unfold Sh.effect at k
    dsimp only at k
    refine br (fun h => ?_) (fun h => ?_)
    · rw [if_pos h] at k
      refine ⟨_, rfl, ((Jas T hE rfl).same s1).rd ⟨_, rfl, sa, _, dx, _, rfl, r1.ob, T.Yn, T.JT, (by show (6 : Nat) < 1000; decide), ?_⟩⟩
      exact k _ ⟨sa, dx, vd, st, pl, gv, kvv, ys, rfl, r1.obj (s' := { s with own := t }) rfl rfl rfl⟩
    · rw [if_neg (by simp [h])] at k
      exact k _ (hS.same s1)
theorem zdC (T : Txt K mg A) (a : Act) (kn : Bool) (hk : zgZ a = some kn) (ha : ∀ is i s, Sh.effect is i a s = if s.acq is kn = true then { s with giv := s.giv ++ [i] } else s) : Zf P w K mg base CX0 3 A.jj A.jay ["self", "number", "sheet"] (jdg A a) := by
  have j8 : Zf P w K mg base CX0 2 A.Zn A.YJ ["self", "knows"] (zb7 A) := JaX T
  refine T.yck.ok zdQ (fun vs H Q E h => ?_) (fun cdv B outer s H vs Q E hr h => ?_)
  · obtain ⟨_, _, _, _, _, _, _, _, _, _, _, rfl, _⟩ := h
    rfl
  · have hu := zcE hr
    obtain ⟨H0, v, d, o, i, sv, void, evs, f, q, s, rfl, hE, its, hS, hO, h40, hf, k⟩ := h
    obtain ⟨sa, dx, vd, st, pl, gv, kvv, ys, rfl, r⟩ := id hS
    have hl := hO.toStOk.len
    refine ⟨_, (jb (yO (Jby (z9 (pv 2) T.Yn T.yaI j8 (hr.mono (by decide)) T.ZaI .nil Jh (Za (Jc (K := K) rfl (pv 0) rfl) yc))) (jb (Jfx hu (Jc (K := K) rfl (pv 2) rfl) (pv 1) ydO rfl)) Zo)), ?_⟩
    refine ⟨_, rfl, sa, dx, _, rfl, r.ob, rfl, _, rfl, (Ze8 T hE hk).rd ⟨H0, _, kn, void, evs, f.items, s, rfl, its, hS, by omega, fun H1 s1 => ⟨_, rfl, ?_⟩⟩⟩
    have r1 := r.same s1
    obtain ⟨f1, f2, f3, f4, f5, f6⟩ := r1.fld T
    rw [ha] at k
    refine br (fun h => ?_) (fun h => ?_)
    · rw [if_pos h] at k
      have hn : i ∉ s.giv := fun hm => Nat.lt_irrefl _ (hO.gl i hm)
      have hg := hO.gn
      refine ⟨_, rfl, f6.rd ⟨_, rfl, gv, _, rfl, Ygg.k (k := Sum.inl (i : Int)) r1.go (Nat.lt_of_le_of_lt (show _ ≤ 100 by rw [Zbd]; omega) (by decide)), ?_⟩⟩
      rw [show V.bl true = tru i from rfl, YfI tru hn]
      exact k _ ⟨sa, dx, vd, st, pl, gv, kvv, ys, rfl, r1.giv _⟩
    · rw [if_neg (by simp [h])] at k
      exact k _ (hS.same s1)
theorem je8 (T : Txt K mg A) (n : Nat) (kn : Bool) : Zf P w K mg base CX0 3 A.Jp A.Zav ["self", "number", "sheet"] (jdg A (.fulfil n kn)) := by
  have j8 : Zf P w K mg base CX0 2 A.Zn A.YJ ["self", "knows"] (zb7 A) := JaX T
  refine T.zb3.ok jbO (fun vs H Q E h => ?_) (fun cdv B outer s H vs Q E hr h => ?_)
  · obtain ⟨_, _, _, _, _, _, _, _, _, _, _, rfl, _⟩ := h
    rfl
  · have hu := zcE hr
    obtain ⟨H0, v, d, o, i, sv, void, evs, f, q, s, rfl, hE, its, hS, hO, h40, hf, k⟩ := h
    obtain ⟨sa, dx, vd, st, pl, gv, kvv, ys, rfl, r⟩ := id hS
    obtain ⟨e, edx, rfl, hH⟩ := id hE
    have g1 : Fld K H (.ref e) "noted" (.int n) := ⟨e, _, edx, _, rfl, hH, T.zbv, T.ZF, rfl⟩
    obtain ⟨f1, f2, f3, f4, f5, f6⟩ := r.fld T
    have hl := hO.toStOk.len
    obtain ⟨hm, y, hy⟩ := hf n kn rfl
    obtain ⟨x, hx, hgx, hpx⟩ := Zfm hy
    have hN := its.at hx
    unfold Sh.effect at k
    dsimp only at k
    rw [hy] at k
    dsimp only at k
    refine ⟨_, (Yc (zac (i := 3) jbO.nd rfl (by first | exact Or.inl rfl | exact Or.inr rfl) (Zdo hu (Jc (K := K) rfl (pv 2) rfl) (Jc (K := K) rfl (pv 0) rfl) (fun _ _ => rfl))) (jb (yO (ye3 (YfB hu (Jc (K := K) rfl (pv 0) rfl) (Jc (K := K) rfl (pv 2) rfl))) (jb (yu (K := K) rfl (pv 2) (Jc (K := K) rfl (pv 3) rfl) rfl)) (jb (yO (PW.pt (pw_and (Yq YaL (Jc (K := K) rfl (pv 3) rfl) (Jc (K := K) rfl (pv 2) rfl) (jm _)) (pw_and1 (Jby (z9 (pv 2) T.Yn T.yaI j8 (hr.mono (by decide)) T.ZaI .nil Jh (Za (Jc (K := K) rfl (pv 0) rfl) yc)))))) (jb (yu (K := K) rfl (pv 2) (Jc (K := K) rfl (pv 3) rfl) rfl)) Zo))))), ?_⟩
    refine ⟨_, rfl, f4.rd ⟨_, rfl, g1.rd ⟨st, esF evs n, rfl, ?_, ?_⟩⟩⟩
    · have := Zbz.k (H := H) (a := st) (k := Sum.inl (n : Int)) r.so
      rw [jas, if_pos hm] at this
      exact this
    · refine ⟨_, rfl, g1.rd ⟨_, rfl, f6.rd ⟨gv, _, rfl, Zbz.k (k := Sum.inl (n : Int)) r.go, _, rfl, ?_⟩⟩⟩
      rw [ZaO]
      refine br (fun h => ?_) (fun h => ?_)
      · rw [if_pos (.inl (List.contains_iff_mem.mp h))] at k
        refine ⟨_, rfl, ((Jas T hN hpx).same r.sm).rd ⟨_, rfl, sa, _, dx, _, rfl, r.ob, T.Yn, T.JT, (by show (6 : Nat) < 1000; decide), ?_⟩⟩
        exact k _ ⟨sa, dx, vd, st, pl, gv, kvv, ys, rfl, r.obj (s' := { s with own := y.2 }) rfl rfl rfl⟩
      · have hng : n ∉ s.giv := fun z => by rw [List.contains_iff_mem.mpr z] at h; cases h
        refine ⟨_, rfl, ((ze8 T hN hgx).same r.sm).rd ⟨_, rfl, f1.rd ⟨rfl, _, rfl, ?_⟩⟩⟩
        rw [jbc]
        refine br (fun h2 => ?_) (fun h2 => ?_)
        · have h2 := eq_of_beq h2
          refine ⟨_, rfl, sa, dx, _, rfl, r.ob, rfl, _, rfl, (Ze8 T hE rfl).rd ⟨H0, _, kn, void, evs, f.items, s, rfl, its, hS, by omega, fun H1 s1 => ⟨_, rfl, ?_⟩⟩⟩
          have r1 := r.same s1
          refine br (fun h3 => ?_) (fun h3 => ?_)
          · rw [if_pos (.inr ⟨h2, h3⟩)] at k
            refine ⟨_, rfl, ((Jas T hN hpx).same r1.sm).rd ⟨_, rfl, sa, _, dx, _, rfl, r1.ob, T.Yn, T.JT, (by show (6 : Nat) < 1000; decide), ?_⟩⟩
            exact k _ ⟨sa, dx, vd, st, pl, gv, kvv, ys, rfl, r1.obj (s' := { s with own := y.2 }) rfl rfl rfl⟩
          · rw [if_neg (fun z => z.elim hng fun z => by rw [z.2] at h3; cases h3)] at k
            exact k _ (hS.same s1)
        · rw [if_neg (fun z => z.elim hng fun z => by rw [z.1, beq_self_eq_true] at h2; cases h2)] at k
          exact k _ hS
theorem JgD (T : Txt K mg A) (a : Act) : YfC P w K mg base CX0 3 "take_effect" (clsOf A a) (jdg A a) := by
  refine ⟨jbD T a, ?_⟩
  cases a with
  | transfer => exact ⟨_, _, _, T.YbC, (YeC T _ _ _ _).mono (by decide), T.ybC⟩
  | charge => exact ⟨_, _, _, T.yb4, (zdC T _ _ rfl fun _ _ _ => rfl).mono (by decide), T.ybh⟩
  | notice => exact ⟨_, _, _, T.jb4, (zdC T _ _ rfl fun _ _ _ => rfl).mono (by decide), T.ybh⟩
  | fulfil => exact ⟨_, _, _, T.yb5, (je8 T _ _).mono (by decide), T.Zb3⟩
  | objection => exact ⟨_, _, _, T.Jbu, (JaS T _ fun _ _ _ => rfl).mono (by decide), T.YX⟩
  | strike => exact ⟨_, _, _, T.jb5, (JaS T _ fun _ _ _ => rfl).mono (by decide), T.YX⟩
  | ahead => exact ⟨_, _, _, T.zcn, (JaS T _ fun _ _ _ => rfl).mono (by decide), T.YX⟩
  | correct => exact ⟨_, _, _, T.jbP, (JaS T _ fun _ _ _ => rfl).mono (by decide), T.YX⟩
  | void_ => exact ⟨_, _, _, T.YcD, (JaS T _ fun _ _ _ => rfl).mono (by decide), T.YX⟩
def Ybn (A : Adr) (a : Act) : Sp := fun vs H Q _ => ∃ (H0 : Hp) (i : Nat) (sv : V) (void : List Nat) (evs : List V) (f : File) (q : Nat) (s : Sh) (x : Item), vs = [esF evs i, .int i, sv] ∧ f.items[i]? = some x ∧ x.act = a ∧ jaX A H0 evs f.items ∧ Jbh A H0 H sv void (esF evs) s ∧ StOk f q i s ∧ i ≤ 40 ∧
  (∀ e ∈ jfl a, e ∈ s.std) ∧ (∀ n b, a = .fulfil n b → ∃ g, noticeOf f.items n = some (g, x.now)) ∧ ∀ H' : Hp, Jbh A H0 H' sv void (esF evs) (s.enter f.items i a x.now) → Q .non H'
theorem ZfK (T : Txt K mg A) (n : Nat) : Zf P w K mg base CX0 1 A.JL A.jbz ["self", "number", "sheet"] (Ybn A (.void_ n)) := by
  refine T.yen.ok ZfD (fun vs H Q E h => ?_) (fun cdv B outer s H vs Q E hr h => ?_)
  · obtain ⟨_, _, _, _, _, _, _, _, _, rfl, _⟩ := h
    rfl
  · obtain ⟨H0, i, sv, void, evs, f, q, s, x, rfl, hx, ha, its, hS, hO, h40, hs, hf, k⟩ := h
    refine ⟨_, (jb Jge), ?_⟩
    exact k _ hS
theorem jeP (T : Txt K mg A) (q0 g t : Nat) (kn : Bool) : Zf P w K mg base CX0 1 A.jC A.zaX ["self", "number", "sheet"] (Ybn A (.transfer q0 g t kn)) := by
  refine T.zdd.ok jeJ (fun vs H Q E h => ?_) (fun cdv B outer s H vs Q E hr h => ?_)
  · obtain ⟨_, _, _, _, _, _, _, _, _, rfl, _⟩ := h
    rfl
  · obtain ⟨H0, i, sv, void, evs, f, q, s, x, rfl, hx, ha, its, hS, hO, h40, hs, hf, k⟩ := h
    obtain ⟨sa, dx, vd, st, pl, gv, kvv, ys, rfl, r⟩ := id hS
    have hE := (its.at hx).same r.sm
    rw [ha] at hE
    refine ⟨_, (jb (yu (K := K) rfl (pv 2) (Jc (K := K) rfl (pv 0) rfl) rfl)), ?_⟩
    refine ⟨_, rfl, (Jas T hE rfl).rd ⟨_, rfl, sa, _, dx, _, rfl, r.ob, T.Yn, T.Yw, (by show (6 : Nat) < 1000; decide), ?_⟩⟩
    exact k _ ⟨sa, dx, vd, st, pl, gv, kvv, ys, rfl, r.obj (s' := { s with reg := t }) rfl rfl rfl⟩
theorem Je8 (T : Txt K mg A) (q0 : Nat) : Zf P w K mg base CX0 1 A.YG A.Zbb ["self", "number", "sheet"] (Ybn A (.correct q0)) := by
  refine T.Zdz.ok ze5 (fun vs H Q E h => ?_) (fun cdv B outer s H vs Q E hr h => ?_)
  · obtain ⟨_, _, _, _, _, _, _, _, _, rfl, _⟩ := h
    rfl
  · obtain ⟨H0, i, sv, void, evs, f, q, s, x, rfl, hx, ha, its, hS, hO, h40, hs, hf, k⟩ := h
    obtain ⟨sa, dx, vd, st, pl, gv, kvv, ys, rfl, r⟩ := id hS
    have hE := (its.at hx).same r.sm
    rw [ha] at hE
    obtain ⟨e, edx, hve, hE⟩ := hE
    refine ⟨_, (jb (yu (K := K) rfl (pv 2) (Jc (K := K) rfl (pv 0) rfl) rfl)), ?_⟩
    refine ⟨_, rfl, Fld.rd (u := .int x.now) ⟨e, _, edx, _, hve, hE, T.zcD, T.j0, rfl⟩ ⟨_, rfl, sa, _, dx, _, rfl, r.ob, T.Yn, T.Yw, (by show (6 : Nat) < 1000; decide), ?_⟩⟩
    exact k _ ⟨sa, dx, vd, st, pl, gv, kvv, ys, rfl, r.obj (s' := { s with reg := x.now }) rfl rfl rfl⟩
theorem Zfr (T : Txt K mg A) (q0 g t : Nat) (kn : Bool) : Zf P w K mg base CX0 2 A.ZM A.zbp ["self", "number", "sheet"] (Ybn A (.notice q0 g t kn)) := by
  have jbn : Zf P w K mg base CX0 1 A.ZD A.Zar ["self", "number", "entry"] (zbE A) := jcE T
  refine T.zdT.ok jfp (fun vs H Q E h => ?_) (fun cdv B outer s H vs Q E hr h => ?_)
  · obtain ⟨_, _, _, _, _, _, _, _, _, rfl, _⟩ := h
    rfl
  · obtain ⟨H0, i, sv, void, evs, f, q, s, x, rfl, hx, ha, its, hS, hO, h40, hs, hf, k⟩ := h
    obtain ⟨sa, dx, vd, st, pl, gv, kvv, ys, rfl, r⟩ := id hS
    have hl := hO.len
    refine ⟨_, (jb (jD (z9 (pv 2) T.Yn T.ybY jbn (hr.mono (by decide)) T.ZbY .nil Jh (Za (pv 1) (Za (pv 0) yc))))), ?_⟩
    exact ⟨_, rfl, sa, dx, _, rfl, r.ob, rfl, _, rfl, _, rfl, H0, _, i, void, esF evs, s, rfl, hS, fun hm => Nat.lt_irrefl _ (hO.lt i hm), by omega, k⟩
theorem jeC (T : Txt K mg A) (q0 t : Nat) : Zf P w K mg base CX0 2 A.Jy A.YaM ["self", "number", "sheet"] (Ybn A (.objection q0 t)) := by
  have jbn : Zf P w K mg base CX0 1 A.ZD A.Zar ["self", "number", "entry"] (zbE A) := jcE T
  refine T.jcP.ok zeA (fun vs H Q E h => ?_) (fun cdv B outer s H vs Q E hr h => ?_)
  · obtain ⟨_, _, _, _, _, _, _, _, _, rfl, _⟩ := h
    rfl
  · obtain ⟨H0, i, sv, void, evs, f, q, s, x, rfl, hx, ha, its, hS, hO, h40, hs, hf, k⟩ := h
    obtain ⟨sa, dx, vd, st, pl, gv, kvv, ys, rfl, r⟩ := id hS
    have hl := hO.len
    refine ⟨_, (jb (jD (z9 (pv 2) T.Yn T.ybY jbn (hr.mono (by decide)) T.ZbY .nil Jh (Za (pv 1) (Za (pv 0) yc))))), ?_⟩
    exact ⟨_, rfl, sa, dx, _, rfl, r.ob, rfl, _, rfl, _, rfl, H0, _, i, void, esF evs, s, rfl, hS, fun hm => Nat.lt_irrefl _ (hO.lt i hm), by omega, k⟩
theorem yfr (T : Txt K mg A) (q0 g t am : Nat) (kn : Bool) : Zf P w K mg base CX0 2 A.zM A.Jbo ["self", "number", "sheet"] (Ybn A (.charge q0 g t am kn)) := by
  have jbn : Zf P w K mg base CX0 1 A.ZD A.Zar ["self", "number", "entry"] (zbE A) := jcE T
  refine T.jdS.ok Yfp (fun vs H Q E h => ?_) (fun cdv B outer s H vs Q E hr h => ?_)
  · obtain ⟨_, _, _, _, _, _, _, _, _, rfl, _⟩ := h
    rfl
  · obtain ⟨H0, i, sv, void, evs, f, q, s, x, rfl, hx, ha, its, hS, hO, h40, hs, hf, k⟩ := h
    obtain ⟨sa, dx, vd, st, pl, gv, kvv, ys, rfl, r⟩ := id hS
    have hE : YbD A H0 (esF evs i) x.day x.act (.int x.now) := its.at hx
    rw [ha] at hE
    obtain ⟨e, edx, hve, hE⟩ := hE
    have hl := hO.len
    have hpl := hO.pl
    refine ⟨_, (Yc (jD (z9 (pv 2) T.Yn T.ybY jbn (hr.mono (by decide)) T.ZbY .nil Jh (Za (pv 1) (Za (pv 0) yc)))) (jb (jD (Zen PySem.F.plainAttrs_list PySem.F.slot_list_append PySem.F.type_list_append ybU (Jc (K := K) rfl (pv 2) rfl) (Za (je3 (Za (pv 1) (Za (Jc (K := K) rfl (pv 0) rfl) yc))) yc))))), ?_⟩
    refine ⟨_, rfl, sa, dx, _, rfl, r.ob, rfl, _, rfl, _, rfl, H0, _, i, void, esF evs, s, rfl, hS, fun hm => Nat.lt_irrefl _ (hO.lt i hm), by omega, fun H1 hS1 => ?_⟩
    obtain ⟨sa1, dx1, vd1, st1, pl1, gv1, kvv1, ys1, e1, r1⟩ := hS1
    cases e1
    obtain ⟨f1, f2, f3, f4, f5, f6⟩ := r1.fld T
    have hl1 := ycs r1.ps
    have hl2 : ys1.length = s.pls.length := hl1
    have g1 : Fld K H1 (esF evs i) "amount" (.int am) := ⟨e, _, edx, _, hve, r1.sm _ _ hE, T.zde, T.Y0, rfl⟩
    refine ⟨_, rfl, f5.rd ⟨.inl ⟨rfl, _, SqL.of r1.po⟩, _, rfl, _, rfl, g1.rd ⟨(by show 2 ≤ sizeLine; decide), fun tp htp => ⟨pl1, ys1, _, rfl, rfl, Jd htp _ _ r1.po, Nat.lt_of_le_of_lt (show _ ≤ 100 by omega) (by decide), ?_⟩⟩⟩⟩
    have s2 := Jd (o := .tup [.int i, .int am]) htp
    refine k _ ⟨sa, dx1, vd1, st1, pl1, gv1, kvv1, ys1 ++ [.ref tp], rfl, ?_⟩
    exact (r1.same s2).pls (yag.app (r1.ps.same s2) (.cons ⟨tp, rfl, Ja⟩ .nil))
theorem Yfr (T : Txt K mg A) (n b : Nat) : Zf P w K mg base CX0 3 A.YM A.ybp ["self", "number", "sheet"] (Ybn A (.strike n b)) := by
  have Ydq : Zf P w K mg base CX0 2 A.JN A.zaU ["self", "number"] (yc5 A) := Jeq T
  refine T.jdT.ok Jfp (fun vs H Q E h => ?_) (fun cdv B outer s H vs Q E hr h => ?_)
  · obtain ⟨_, _, _, _, _, _, _, _, _, rfl, _⟩ := h
    rfl
  · obtain ⟨H0, i, sv, void, evs, f, q, s, x, rfl, hx, ha, its, hS, hO, h40, hs, hf, k⟩ := h
    obtain ⟨sa, dx, vd, st, pl, gv, kvv, ys, rfl, r⟩ := id hS
    have hE := (its.at hx).same r.sm
    rw [ha] at hE
    obtain ⟨e, edx, hve, hE⟩ := hE
    have hpl := hO.pl
    refine ⟨_, (jb (jD (z9 (pv 2) T.Yn T.ydp Ydq (hr.mono (by decide)) T.Jdo .nil Jh (Za (Jc (K := K) rfl (pv 0) rfl) yc)))), ?_⟩
    exact ⟨_, rfl, sa, dx, _, rfl, r.ob, rfl, _, rfl, Fld.rd (u := .int n) ⟨e, _, edx, _, hve, hE, T.Zbc, T.JG, rfl⟩ ⟨H0, _, n, void, esF evs, s, rfl, hS, hs n (List.mem_singleton.mpr rfl), by omega, k⟩⟩
theorem yfK (T : Txt K mg A) (x y : Nat) : Zf P w K mg base CX0 3 A.JS A.ybA ["self", "number", "sheet"] (Ybn A (.ahead x y)) := by
  have zgE : Zf P w K mg base CX0 2 A.Jam A.Ybz ["places", "one", "other"] (JeN K) := jgi T
  refine T.jeo.ok JfD (fun vs H Q E h => ?_) (fun cdv B outer s H vs Q E hr h => ?_)
  · obtain ⟨_, _, _, _, _, _, _, _, _, rfl, _⟩ := h
    rfl
  · obtain ⟨H0, i, sv, void, evs, f, q, s, x', rfl, hx, ha, its, hS, hO, h40, hs, hf, k⟩ := h
    obtain ⟨sa, dx, vd, st, pl, gv, kvv, ys, rfl, r⟩ := id hS
    obtain ⟨f1, f2, f3, f4, f5, f6⟩ := r.fld T
    have hE := (its.at hx).same r.sm
    rw [ha] at hE
    obtain ⟨e, edx, hve, hE⟩ := hE
    have hpl := hO.pl
    have g1 : Fld K H (esF evs i) "one" (.int x) := ⟨e, _, edx, _, hve, hE, T.Zbn, T.zao, rfl⟩
    have g2 : Fld K H (esF evs i) "other" (.int y) := ⟨e, _, edx, _, hve, hE, T.Zbn, T.yab, rfl⟩
    refine ⟨_, (jb (yu (K := K) rfl (pv 2) (zE zgE (hr.mono (by decide)) (by rfl) T.jfh T.zdS.kp T.Yfh .nil Jh (Za (Jc (K := K) rfl (pv 2) rfl) (Za (Jc (K := K) rfl (pv 0) rfl) (Za (Jc (K := K) rfl (pv 0) rfl) yc)))) rfl)), ?_⟩
    refine ⟨_, rfl, f5.rd ⟨_, rfl, g1.rd ⟨_, rfl, g2.rd ⟨pl, ys, s.pls, x, y, rfl, SqL.of r.po, r.ps, by omega, fun H' l zs sH hl hz hp => ?_⟩⟩⟩⟩
    have r3 := r.same sH
    refine ⟨_, rfl, sa, _, dx, _, rfl, r3.ob, T.Yn, T.ZW, (by show (6 : Nat) < 1000; decide), ?_⟩
    exact k _ ⟨sa, dx, vd, st, l, gv, kvv, zs, rfl, r3.Zhl (r.sm.free hl) hz hp⟩
theorem ShR.weaken {H0 H0' H : Hp} {void : List Nat} {es : Nat → V} {s : Sh} {a dx vd st pl gv : Addr} {kvv : List (Key × V)} {ys : List V} (h : ShR A H0' H void es s a dx vd st pl gv kvv ys) (t : ju H0 H0') : ShR A H0 H void es s a dx vd st pl gv kvv ys :=
  ⟨t.trans h.sm, t.free h.fa, t.free h.fst, t.free h.fpl, t.free h.fgv, h.n1, h.n2, h.n3, h.ob, h.vo, h.vs, h.so, h.po, h.ps, h.go⟩
theorem Jbh.weaken {H0 H0' H : Hp} {v : V} {void : List Nat} {es : Nat → V} {s : Sh} (h : Jbh A H0' H v void es s) (t : ju H0 H0') : Jbh A H0 H v void es s := by
  obtain ⟨a, dx, vd, st, pl, gv, kvv, ys, e, r⟩ := h
  exact ⟨a, dx, vd, st, pl, gv, kvv, ys, e, r.weaken t⟩
theorem ShR.beside {H0 H : Hp} {void : List Nat} {es : Nat → V} {s : Sh} {a dx vd st pl gv L : Addr} {o : HO} {kvv : List (Key × V)} {ys : List V} (h : ShR A H0 H void es s a dx vd st pl gv kvv ys) (hL : H L = Option.none) : ShR A (upd H0 L o) (upd H L o) void es s a dx vd st pl gv kvv ys := by
  have r := h.same (Jd (o := o) hL)
  have nf : ∀ {c : Addr} {u : HO}, H c = some u → H0 c = Option.none → upd H0 L o c = Option.none := fun {c u} hc h0 => by
    rw [Zc (yd hc hL)]
    exact h0
  refine ⟨fun c u e => ?_, nf h.ob h.fa, nf h.so h.fst, nf h.po h.fpl, nf h.go h.fgv, h.n1, h.n2, h.n3, r.ob, r.vo, r.vs, r.so, r.po, r.ps, r.go⟩
  by_cases hc : c = L
  · subst hc
    rw [Ja] at e ⊢
    exact e
  · rw [Zc hc] at e ⊢
    exact h.sm _ _ e
theorem jfr (T : Txt K mg A) (n : Nat) (kn : Bool) : Zf P w K mg base CX0 3 A.yM A.Zbp ["self", "number", "sheet"] (Ybn A (.fulfil n kn)) := by
  have Ydq : Zf P w K mg base CX0 2 A.JN A.zaU ["self", "number"] (yc5 A) := Jeq T
  refine T.ydT.ok zdz (fun vs H Q E h => ?_) (fun cdv B outer s H vs Q E hr h => ?_)
  · obtain ⟨_, _, _, _, _, _, _, _, _, rfl, _⟩ := h
    rfl
  · have hu := zcE hr
    obtain ⟨H0, i, sv, void, evs, f, q, s, x', rfl, hx', ha, its, hS, hO, h40, hs, hf, k⟩ := h
    obtain ⟨sa, dx, vd, st, pl, gv, kvv, ys, rfl, r⟩ := id hS
    have hE : YbD A H0 (esF evs i) x'.day x'.act (.int x'.now) := its.at hx'
    rw [ha] at hE
    obtain ⟨e, edx, hve, hE⟩ := hE
    have g1 : Fld K H0 (esF evs i) "noted" (.int n) := ⟨e, _, edx, _, hve, hE, T.zbv, T.ZF, rfl⟩
    obtain ⟨f1, f2, f3, f4, f5, f6⟩ := r.fld T
    have hm := hs n (List.mem_singleton.mpr rfl)
    obtain ⟨gg, hy⟩ := hf n kn rfl
    obtain ⟨x, hx, hgx, hpx⟩ := Zfm hy
    have hN := its.at hx
    have hl := hO.len
    have hpl := hO.pl
    refine ⟨_, (Yc (yu (K := K) rfl (pv 2) (Jc (K := K) rfl (Zdo hu (Jc (K := K) rfl (pv 2) rfl) (Jc (K := K) rfl (pv 0) rfl) (fun _ _ => rfl)) rfl) rfl) (jb (jdn PassesOwn.never rfl (jaH (K := K) rfl (jf4 (jfC rfl) (by rfl) T.YgN JfC (Za (Jc (K := K) rfl (pv 2) rfl) yc))) (zaj (i := 3) zdz.nd rfl (by first | exact Or.inl rfl | exact Or.inr rfl)) (jb (yO (PW.pt (pw_and (Yq yhc (pv 3) (Jc (K := K) rfl (pv 0) rfl) (jm _)) (pw_and1 (Jby (Zu (je4 (K := K) rfl) (by rfl) T.yW zB (Za (Zdo hu (Jc (K := K) rfl (pv 2) rfl) (pv 3) (fun _ _ => rfl)) (Za (je3 (Za (jg (v := .ref A.jc) (by rfl) T.zb4 rfl) (Za (jg (v := .ref A.Zd) (by rfl) T.YcC rfl) yc))) yc))))))) (jb (jD (z9 (pv 2) T.Yn T.ydp Ydq (hr.mono (by decide)) T.Jdo .nil Jh (Za (pv 3) yc)))) Zo))))), ?_⟩
    refine ⟨_, rfl, f4.rd ⟨_, rfl, (g1.same r.sm).rd ⟨st, esF evs n, rfl, ?_, ?_⟩⟩⟩
    · have := Zbz.k (H := H) (a := st) (k := Sum.inl (n : Int)) r.so
      rw [jas, if_pos hm] at this
      exact this
    refine ((Jas T hN hpx).same r.sm).rd ⟨_, rfl, sa, _, dx, _, rfl, r.ob, T.Yn, T.Yw, (by show (6 : Nat) < 1000; decide), ?_⟩
    have r1 := r.obj (s' := { s with reg := x'.now }) rfl rfl rfl
    obtain ⟨j1, j2, j3, j4, j5, j6⟩ := r1.fld T
    refine ⟨_, rfl, j4.rd ⟨st, _, rfl, r1.so, fun L hL => ?_⟩⟩
    rw [ZgP]
    have r2 := r1.beside (o := .lst (s.std.map fun (e : Nat) => V.int (e : Int))) hL
    have hL0 : H0 L = Option.none := r1.sm.free hL
    have sL : ju H0 (upd H0 L (.lst (s.std.map fun (e : Nat) => V.int (e : Int)))) := Jd hL0
    have nd : s.std.Nodup := hO.up.imp fun h => Nat.ne_of_lt h
    refine ⟨L, rfl, ⟨_, SqL.of Ja⟩, Jcz (K := K) (a := L) (xs := s.std.map fun (e : Nat) => V.int (e : Int)) (fun j σ H' => (∃ v3, σ = [some (esF evs i), some (.int i), some (.ref sa), v3]) ∧ Jbh A (upd H0 L (.lst (s.std.map fun (e : Nat) => V.int (e : Int)))) H' (.ref sa) void (esF evs) (({ s with reg := x'.now } : Sh).drop fun z => (s.std.take j).contains z && (decide (n ≤ z) && Zek f.items z))) ?_ (fun j σ H' _ h => ?_) ?_ ?_⟩
    · refine ⟨⟨_, rfl⟩, ?_⟩
      have e1 : ({ s with reg := x'.now } : Sh).drop (fun z => (s.std.take 0).contains z && (decide (n ≤ z) && Zek f.items z)) = { s with reg := x'.now } := jg6 _
      rw [e1]
      exact ⟨sa, dx, vd, st, pl, gv, kvv, ys, rfl, r2⟩
    · obtain ⟨_, _, _, _, _, _, _, _, _, _, rr⟩ := h
      exact SqL.of (rr.sm _ _ Ja)
    · rintro j v σ H' hv ⟨⟨v3, rfl⟩, hS'⟩
      rw [List.getElem?_map] at hv
      obtain ⟨z, hz, e1⟩ := Option.map_eq_some_iff.mp hv
      subst e1
      have hzm : z ∈ s.std := List.mem_of_getElem? hz
      have hzt : (s.std.take j).contains z = false := by
        cases hc : (s.std.take j).contains z with
        | false => rfl
        | true =>
          exfalso
          obtain ⟨m, hm1, hm2⟩ := List.getElem_of_mem (List.contains_iff_mem.mp hc)
          have hm3 : m < j := by rw [List.length_take] at hm1; omega
          have hm4 : s.std[m]? = some z := by
            rw [List.getElem_take] at hm2
            rw [← hm2]
            exact List.getElem?_eq_getElem _
          have := (List.getElem?_inj (by rw [List.length_take] at hm1; omega) nd).mp (hm4.trans hz.symm)
          omega
      obtain ⟨sa', dx', vd', st', pl', gv', kvv', ys', e2, r'⟩ := id hS'
      cases e2
      obtain ⟨j1, j2, j3, j4, j5, j6⟩ := r'.fld T
      have hin : z ∈ (({ s with reg := x'.now } : Sh).drop fun z => (s.std.take j).contains z && (decide (n ≤ z) && Zek f.items z)).std := by
        refine List.mem_filter.mpr ⟨hzm, ?_⟩
        show (!((s.std.take j).contains z && (decide (n ≤ z) && Zek f.items z))) = true
        rw [hzt]
        rfl
      have step : ∀ b : Bool, b = (decide (n ≤ z) && Zek f.items z) → (if b = true then (({ s with reg := x'.now } : Sh).drop fun z => (s.std.take j).contains z && (decide (n ≤ z) && Zek f.items z)).drop (fun e => e == z) else (({ s with reg := x'.now } : Sh).drop fun z => (s.std.take j).contains z && (decide (n ≤ z) && Zek f.items z))) = (({ s with reg := x'.now } : Sh).drop fun z => (s.std.take (j + 1)).contains z && (decide (n ≤ z) && Zek f.items z)) := by
        intro b hb
        have ct : ∀ y, (s.std.take (j + 1)).contains y = ((s.std.take j).contains y || y == z) := fun y => by
          rw [Yas hz, List.contains_eq_any_beq, List.contains_eq_any_beq, List.any_append]
          simp [Bool.beq_comm]
        have pt : ∀ y, ((s.std.take (j + 1)).contains y && (decide (n ≤ y) && Zek f.items y)) = (((s.std.take j).contains y && (decide (n ≤ y) && Zek f.items y)) || (b && y == z)) := fun y => by
          rw [ct]
          by_cases hyz : y = z
          · subst hyz
            rw [hzt, hb]
            simp
          · have e3 : (y == z) = false := by simpa using hyz
            rw [e3]
            simp
        cases b with
        | true =>
          rw [if_pos rfl, drop_drop]
          refine jeB (fun y _ => ?_) (fun p _ => ?_)
          · rw [pt]; simp
          · rw [pt]; simp
        | false =>
          rw [if_neg (by simp)]
          refine jeB (fun y _ => ?_) (fun p _ => ?_)
          · rw [pt]; simp
          · rw [pt]; simp
      refine ⟨_, rfl, _, rfl, ((g1.same sL).same r'.sm).rd ⟨_, _, rfl, rfl, _, rfl, ?_⟩⟩
      have e4 : decide ((n : Int) ≤ (z : Int)) = decide (n ≤ z) := ygP
      rw [e4]
      refine br (fun h1 => ?_) (fun h1 => ?_)
      · refine ⟨_, rfl, j4.rd ⟨_, rfl, st', esF evs z, rfl, ?_, (by show 2 ≤ sizeLine; decide), fun tp htp => ?_⟩⟩
        · have := Zbz.k (H := H') (a := st') (k := Sum.inl (z : Int)) r'.so
          rw [jas, if_pos hin] at this
          exact this
        have s3 := Jd (o := .tup [.ref A.jc, .ref A.Zd]) htp
        obtain ⟨t, ty, kd⟩ := Jb6 T (its.same ((sL.trans r'.sm).trans s3)) z
        refine ⟨_, tp, [A.jc, A.Zd], t, _, rfl, Ja, ty, JbD kd.c (JbD kd.n Zgj), _, rfl, ?_⟩
        have e5 : (kC (Yag f.items z) || (kN (Yag f.items z) || false)) = Zek f.items z := by rw [JhD, Bool.or_false]
        rw [e5]
        refine br (fun h2 => ?_) (fun h2 => ?_)
        · refine ⟨_, rfl, sa, dx', _, rfl, (r'.same s3).ob, rfl, _, rfl, _, _, z, void, esF evs, _, rfl, hS'.same s3, hin, ?_, fun H'' hS'' => ?_⟩
          · exact Nat.le_trans (List.length_filter_le _ _) (by show s.pls.length ≤ 1000; omega)
          · refine ⟨⟨_, rfl⟩, ?_⟩
            have st1 := step true (by rw [h1, h2]; rfl)
            rw [if_pos rfl] at st1
            rw [← st1]
            exact hS''
        · refine ⟨⟨_, rfl⟩, ?_⟩
          have st1 := step false (by rw [h1, h2]; rfl)
          rw [if_neg (by simp)] at st1
          rw [← st1]
          exact hS'.same s3
      · refine ⟨⟨_, rfl⟩, ?_⟩
        have st1 := step false (by rw [h1]; rfl)
        rw [if_neg (by simp)] at st1
        rw [← st1]
        exact hS'
    · rintro σ H' ⟨⟨v3, rfl⟩, hS'⟩
      rw [List.length_map, List.take_length] at hS'
      refine k H' ?_
      have e6 : (({ s with reg := x'.now } : Sh).drop fun z => s.std.contains z && (decide (n ≤ z) && Zek f.items z)) = s.enter f.items i (.fulfil n kn) x'.now := by
        show _ = ({ s with reg := x'.now } : Sh).drop _
        refine jeB (fun y hy => ?_) (fun p hp => ?_)
        · rw [List.contains_iff_mem.mpr hy]; rfl
        · rw [List.contains_iff_mem.mpr (hO.pin p hp).1]; rfl
      rw [← e6]
      exact hS'.weaken sL
theorem JgP (T : Txt K mg A) (a : Act) : YfC P w K mg base CX0 3 "enter" (clsOf A a) (Ybn A a) := by
  refine ⟨jbD T a, ?_⟩
  cases a with
  | transfer => exact ⟨_, _, _, T.Jdd, (jeP T _ _ _ _).mono (by decide), T.Zdd⟩
  | charge => exact ⟨_, _, _, T.zdW, (yfr T _ _ _ _ _).mono (by decide), T.JdS⟩
  | notice => exact ⟨_, _, _, T.ZdW, (Zfr T _ _ _ _).mono (by decide), T.ZdT⟩
  | fulfil => exact ⟨_, _, _, T.ydW, (jfr T _ _).mono (by decide), T.YdT⟩
  | objection => exact ⟨_, _, _, T.jcR, (jeC T _ _).mono (by decide), T.JcP⟩
  | strike => exact ⟨_, _, _, T.YdW, (Yfr T _ _).mono (by decide), T.JdT⟩
  | ahead => exact ⟨_, _, _, T.zeq, (yfK T _ _).mono (by decide), T.Jeo⟩
  | correct => exact ⟨_, _, _, T.JdA, (Je8 T _).mono (by decide), T.ydz⟩
  | void_ => exact ⟨_, _, _, T.yeM, (ZfK T _).mono (by decide), T.Yen⟩
end
end Lr
namespace Lr
open PySem hiding Act
open PySem.Spec
open PyProof.Rows hiding St
open L2
open Sy33 (Act Item File bit noticeOf holder voids plotOf isCharge about actOk before_ DAY)
theorem zgQ (l : List Item) (x : Item) (k : Nat) : voids (l ++ [x]) k = voids l k ++ (match x.act with
    | .void_ n => if x.day ≤ k then [n] else []
    | _ => []) := by
  unfold voids
  rw [List.filterMap_append]
  congr 1
  cases ha : x.act with
  | void_ n =>
    by_cases h : x.day ≤ k
    · simp [ha, h]
    · simp [ha, h]
  | _ => simp [ha]
section
variable {P : Program} {w : World} {K : PySem.W.Frag} {mg : Str → Option Value} {base : Heap} {A : Adr}
def jhy (A : Adr) : Sp := fun vs H Q _ => ∃ (H0 : Hp) (i : Nat) (sv : V) (void : List Nat) (evs : List V) (f : File) (q : Nat) (s : Sh) (x : Item), vs = [sv, .int i, esF evs i] ∧ WF f ∧ f.items[i]? = some x ∧ jaX A H0 evs f.items ∧ Jbh A H0 H sv void (esF evs) s ∧ ShOk f q i s ∧ i ≤ 40 ∧
  (∀ e ∈ jfl x.act, e ∈ s.std) ∧ ∀ H' : Hp, Jbh A H0 H' sv void (esF evs) (s.go f.items void i x) → Q .non H'
theorem yek (T : Txt K mg A) : Zf P w K mg base CX0 4 A.jq A.zai ["self", "number", "entry"] (jhy A) := by
  refine T.zcC.ok zek (fun vs H Q E h => ?_) (fun cdv B outer s H vs Q E hr h => ?_)
  · obtain ⟨_, _, _, _, _, _, _, _, _, rfl, _⟩ := h
    rfl
  · have hu := zcE hr
    obtain ⟨H0, i, sv, void, evs, f, q, s, x, rfl, hW, hx, its, hS, hO, h40, hs, k⟩ := h
    obtain ⟨sa, dx, vd, st, pl, gv, kvv, ys, rfl, r⟩ := id hS
    obtain ⟨f1, f2, f3, f4, f5, f6⟩ := r.fld T
    obtain ⟨e, edx, hve, hE0⟩ := its.at hx
    have z := (hW.ok i x hx).2
    have hf : ∀ n b, x.act = .fulfil n b → ∃ g, noticeOf f.items n = some (g, x.now) := fun n b ha => by
      rw [ha] at z
      obtain ⟨_, _, g, p, h1, h2⟩ := z
      exact ⟨g, by rw [h1, h2]⟩
    refine ⟨_, (Yc (yO (ye3 (Zee hu (pv 1) (Jc (K := K) rfl (pv 0) rfl))) (jb (jD (zay (P := P) (w := w) (K := K) (mg := mg) (base := base) (k := 3) (CX := CX0) ⟨rfl, rfl, rfl, rfl, rfl⟩ (pv 2) (hr.mono (by decide)) Jh (Za (pv 1) (Za (pv 0) yc))))) Zo) (jb (jD (zay (P := P) (w := w) (K := K) (mg := mg) (base := base) (k := 3) (CX := CX0) ⟨rfl, rfl, rfl, rfl, rfl⟩ (pv 2) (hr.mono (by decide)) Jh (Za (pv 1) (Za (pv 0) yc)))))), ?_⟩
    refine ⟨_, rfl, _, rfl, f3.rd ⟨vd, _, rfl, Zbz.k (k := Sum.inl (i : Int)) r.vo, _, rfl, ?_⟩⟩
    rw [r.vs]
    unfold Sh.go at k
    have fin : ∀ (H1 : Hp) (s1 : Sh), Jbh A H0 H1 (.ref sa) void (esF evs) s1 → StOk f q i s1 → s1.std = s.std → (∀ H' : Hp, Jbh A H0 H' (.ref sa) void (esF evs) (s1.enter f.items i x.act x.now) → Q .non H') →
        Jhf P w K mg base CX0 3 "enter" E0 (jha 2) (Jhc (jha 1) (Jhc (jha 0) zhq)) [some (.ref sa), some (.int i), some (esF evs i)] H1 (fun _ H' => Q .non H') := fun H1 s1 hS1 hO1 he1 k1 => by
      obtain ⟨_, _, _, _, _, _, _, _, _, rr⟩ := id hS1
      exact ⟨_, rfl, e, _, edx, _, _, hve, rr.sm _ _ hE0, JgP T x.act, (ZbE _ _ _).2.2.2.2.2.2.2.2, _, rfl, _, rfl, H0, i, _, void, evs, f, q, s1, x, rfl, hx, rfl, its, hS1, hO1, h40, fun e he => by rw [he1]; exact hs e he, hf, k1⟩
    refine br (fun h => ?_) (fun h => ?_)
    · have hv : void.contains i = false := by simpa using h
      rw [if_neg (by rw [hv]; simp)] at k
      obtain ⟨e1, e2⟩ := JgO f.items i x.act s
      refine ⟨_, rfl, e, _, edx, _, _, hve, r.sm _ _ hE0, JgD T x.act, (ZbE _ _ _).2.2.2.2.2.2.2.1, _, rfl, _, rfl, H0, _, x.day, _, i, _, void, evs, f, q, s, rfl, (its.at hx).same r.sm, its, hS, hO, h40, fun n b ha => ⟨hs n (by rw [ha]; exact List.mem_singleton.mpr rfl), let ⟨g, hg⟩ := hf n b ha; ⟨_, hg⟩⟩, fun H1 hS1 => ?_⟩
      exact fin H1 _ hS1 (hO.toStOk.congr e1 e2) e1 k
    · have hv : void.contains i = true := by simpa using h
      rw [if_pos hv] at k
      exact fin H s hS hO.toStOk rfl k
structure BkR (A : Adr) (H : Hp) (b : Addr) (f : File) (dx oa ea : Addr) (es : List V) : Prop where
  ob : H b = some (.ins A.yD dx [("persons", .int f.persons), ("owners", .ref oa), ("entries", .ref ea)])
  oo : H oa = some (.lst (f.owners.map fun (n : Nat) => V.int (n : Int)))
  eo : H ea = some (.lst es)
  its : jaX A H es f.items
theorem BkR.same {H H' : Hp} {b : Addr} {f : File} {dx oa ea : Addr} {es : List V} (h : BkR A H b f dx oa ea es) (s : ju H H') : BkR A H' b f dx oa ea es := ⟨s _ _ h.ob, s _ _ h.oo, s _ _ h.eo, h.its.same s⟩
theorem BkR.fld (T : Txt K mg A) {H : Hp} {b : Addr} {f : File} {dx oa ea : Addr} {es : List V} (h : BkR A H b f dx oa ea es) : Fld K H (.ref b) "persons" (.int f.persons) ∧ Fld K H (.ref b) "owners" (.ref oa) ∧ Fld K H (.ref b) "entries" (.ref ea) :=
  ⟨⟨b, _, dx, _, rfl, h.ob, T.Yab, T.zad, rfl⟩, ⟨b, _, dx, _, rfl, h.ob, T.Yab, T.Zao, rfl⟩, ⟨b, _, dx, _, rfl, h.ob, T.Yab, T.Zad, rfl⟩⟩
def Jdg (A : Adr) : Sp := fun vs H Q _ => ∃ (b : Addr) (f : File) (dx oa ea : Addr) (es : List V) (k : Nat), vs = [.ref b, .int k] ∧ BkR A H b f dx oa ea es ∧ f.items.length ≤ 40 ∧ ∀ (H' : Hp) (d : Addr) (kvv : List (Key × V)), ju H H' → H d = Option.none → H' d = some (.dK kvv) → (∀ e : Nat, (za1 kvv (Sum.inl (e : Int))).isSome = (voids f.items k).contains e) → Q (.ref d) H'
theorem yhm (kvs : List (Key × V)) (k : Key) (v : V) : (putK kvs k v).length ≤ kvs.length + 1 := by
  unfold putK
  split
  · rw [List.length_map]; omega
  · rw [List.length_append]; exact Nat.le_refl _
theorem jdL (T : Txt K mg A) : Zf P w K mg base CX0 1 A.Ym A.J3 ["self", "known"] (Jdg A) := by
  refine T.jb3.ok jaU (fun vs H Q E h => ?_) (fun cdv B outer s H vs Q E hr h => ?_)
  · obtain ⟨_, _, _, _, _, _, _, rfl, _⟩ := h
    rfl
  · have hu := zcE hr
    obtain ⟨b, f, dx, oa, ea, es, k, rfl, hB, h40, q⟩ := h
    have hlen := Zef hB.its
    refine ⟨_, (Yc (zac (i := 2) jaU.nd rfl (by first | exact Or.inl rfl | exact Or.inr rfl) jeI) (Yc (jdn PassesOwn.never rfl (jaH (K := K) rfl (Jc (K := K) rfl (pv 0) rfl)) (zaj (i := 3) jaU.nd rfl (by first | exact Or.inl rfl | exact Or.inr rfl)) (jb (yO (PW.pt (pw_and (Jby (Zu (YbU (K := K) rfl) (by rfl) T.yW zB (Za (pv 3) (Za (jg (v := .ref A.yg) (by rfl) T.ygN rfl) yc)))) (pw_and1 (Yq zen (Jc (K := K) rfl (pv 3) rfl) (pv 1) (jm _))))) (jb (Jfx hu (pv 2) (Jc (K := K) rfl (pv 3) rfl) ydO rfl)) Zo))) (jb (yf (pv 2))))), ?_⟩
    refine fun d hd => ?_
    have s1 := Jd (o := .dK []) hd
    obtain ⟨f1, f2, f3⟩ := (hB.same s1).fld T
    refine ⟨_, rfl, f3.rd ⟨ea, rfl, ⟨_, SqL.of (hB.same s1).eo⟩, Jcz (K := K) (a := ea) (xs := es) (fun j σ H' => ∃ (v3 : Option V) (kvv : List (Key × V)), σ = [some (.ref b), some (.int k), some (.ref d), v3] ∧ ju H H' ∧ H' d = some (.dK kvv) ∧ kvv.length ≤ j ∧ ∀ e : Nat, (za1 kvv (Sum.inl (e : Int))).isSome = (voids (f.items.take j) k).contains e) ⟨_, _, rfl, s1, Ja, Nat.le_refl _, fun e => rfl⟩ (fun j σ H' _ ⟨_, _, _, sH, _⟩ => SqL.of (hB.same sH).eo) ?_ ?_⟩⟩
    · rintro j v σ H' hv ⟨v3, kvv, rfl, sH, hk, hkl, hvo⟩
      obtain ⟨x, hx, r⟩ := Paired.get hB.its hv
      have r' := YbD.same r sH
      obtain ⟨t, ty, kd⟩ := zgD T r'
      have hj : j < es.length := (List.getElem?_eq_some_iff.mp hv).1
      refine ygi (c := kW (some x.act)) (d := decide ((x.day : Int) ≤ (k : Int))) (fun R z => ⟨_, rfl, _, _, t, _, rfl, ty, kd.w, _, rfl, z⟩) (fun _ R z => ⟨_, rfl, (zdq T r').rd ⟨_, rfl, _, _, rfl, rfl, _, rfl, z⟩⟩) ?_
      rw [ygP]
      have vt : voids (f.items.take (j + 1)) k = voids (f.items.take j) k ++ (match x.act with
        | .void_ n => if x.day ≤ k then [n] else []
        | _ => []) := by rw [Yas hx, zgQ]
      refine br (fun h => ?_) (fun h => ?_)
      · rw [Bool.and_eq_true] at h
        obtain ⟨n, ha⟩ : ∃ n, x.act = .void_ n := by
          have h1 := h.1
          cases ha : x.act with
          | void_ n => exact ⟨n, rfl⟩
          | _ => rw [ha] at h1; cases h1
        have hd2 := of_decide_eq_true h.2
        rw [ha] at r' vt
        obtain ⟨e, edx, rfl, hE⟩ := r'
        refine ⟨_, rfl, _, rfl, Fld.rd (u := .int n) ⟨e, _, edx, _, rfl, hE, T.ZcS, T.jT, rfl⟩ ⟨d, _, rfl, Ygg.k (k := Sum.inl (n : Int)) hk (Nat.lt_of_le_of_lt (show _ ≤ 100 by omega) (by decide)), ?_⟩⟩
        refine ⟨_, _, rfl, fun c u e1 => ?_, Ja, Nat.le_trans (yhm _ _ _) (by omega), fun y => ?_⟩
        · rw [Zc (yd e1 hd)]
          exact sH _ _ e1
        · rw [vt]
          dsimp only
          rw [if_pos hd2, Zhe]
          by_cases hy : y = n
          · subst hy
            rw [if_pos rfl]
            symm
            rw [show (some (V.bl true)).isSome = true from rfl, List.contains_iff_mem]
            exact List.mem_append_right _ (List.mem_singleton.mpr rfl)
          · rw [if_neg (key_ne hy), hvo]
            rw [Bool.eq_iff_iff, List.contains_iff_mem, List.contains_iff_mem, List.mem_append, List.mem_singleton]
            exact ⟨.inl, fun z => z.elim id fun z => absurd z hy⟩
      · refine ⟨_, kvv, rfl, sH, hk, by omega, fun y => ?_⟩
        rw [hvo, vt]
        have e5 : (match x.act with
          | .void_ n => if x.day ≤ k then [n] else []
          | _ => []) = ([] : List Nat) := by
          cases ha : x.act with
          | void_ n =>
            rw [ha] at h
            have h2 : decide (x.day ≤ k) = false := h
            dsimp only
            rw [if_neg (of_decide_eq_false h2)]
          | _ => rfl
        rw [e5, List.append_nil]
    · rintro σ H' ⟨v3, kvv, rfl, sH, hk, hkl, hvo⟩
      rw [hlen, List.take_length] at hvo
      exact ⟨_, rfl, q H' d kvv sH hd hk hvo⟩
def YcT (A : Adr) : Sp := fun vs H Q _ => ∃ (b : Addr) (f : File) (dx oa ea : Addr) (es : List V) (q d k : Nat), vs = [.ref b, .int q, .int d, .int k] ∧ BkR A H b f dx oa ea es ∧ WF f ∧ AB f ∧ q < f.owners.length ∧ ∀ (H' : Hp) (v : V), Jbh A H H' v (voids f.items k) (esF es) (yaj f q d k) → Q v H'
theorem YbV (T : Txt K mg A) : Zf P w K mg base CX0 5 A.zu A.Z5 ["self", "plot", "day", "known"] (YcT A) := by
  have jgj : Zf P w K mg base CX0 1 A.zV A.zbm ["self", "owner", "void"] (jeq A) := zfX T
  have JeC : Zf P w K mg base CX0 4 A.jq A.zai ["self", "number", "entry"] (jhy A) := yek T
  have JdY : Zf P w K mg base CX0 1 A.Ym A.J3 ["self", "known"] (Jdg A) := jdL T
  refine T.zdA.ok zbb (fun vs H Q E h => ?_) (fun cdv B outer s H vs Q E hr h => ?_)
  · obtain ⟨_, _, _, _, _, _, _, _, _, rfl, _⟩ := h
    rfl
  · obtain ⟨b, f, dx, oa, ea, es, q, d, k, rfl, hB, hW, hA, hq, kk⟩ := h
    obtain ⟨f1, f2, f3⟩ := hB.fld T
    have h40 := hW.n
    have hlen := Zef hB.its
    obtain ⟨n, hn, hday, hon⟩ := upto hW d
    have hown : (f.owners.map fun (n : Nat) => V.int (n : Int))[q]? = some (.int (Sy33.ownerAt f.owners q : Nat)) := by
      rw [List.getElem?_map, List.getElem?_eq_getElem hq]
      show some (V.int _) = some (V.int _)
      rw [show Sy33.ownerAt f.owners q = f.owners[q] from by unfold Sy33.ownerAt; rw [YcS, List.getElem?_eq_getElem hq]; rfl]
    refine ⟨_, (Yc (zac (i := 4) zbb.nd rfl (by first | exact Or.inl rfl | exact Or.inr rfl) (JbX T.jde jgj (hr.mono (by decide)) (by rfl) T.ygW T.yeL .nil Jh (Za (Jj (Ye (K := K) rfl) (Jc (K := K) rfl (pv 0) rfl) (pv 1) (fun _ _ => rfl)) (Za (z9 (pv 0) T.Yab T.zb6 JdY (hr.mono (by decide)) T.Jb3 .nil Jh (Za (pv 3) yc)) yc)))) (Yc (jdn PassesOwn.never rfl (yhs (by rfl) T.yfl (Za (Jc (K := K) rfl (pv 0) rfl) yc)) (zhb rfl (YeH (zaj (i := 5) zbb.nd rfl (by first | exact Or.inl rfl | exact Or.inr rfl)) (YeH (zaj (i := 6) zbb.nd rfl (by first | exact Or.inl rfl | exact Or.inr rfl)) YgT))) (jb (yO (PW.pt (pw_and (Yq zen (Jc (K := K) rfl (pv 6) rfl) (pv 2) (jm _)) (pw_and1 (Yq YaL (zay (P := P) (w := w) (K := K) (mg := mg) (base := base) (k := 2) (CX := CX0) ⟨rfl, rfl, rfl, rfl, rfl⟩ (pv 6) (hr.mono (by decide)) Jh (Za (Jc (K := K) rfl (pv 0) rfl) yc)) (pv 1) (jm _))))) (jb (jD (z9 (pv 4) T.Yn T.jcD JeC (hr.mono (by decide)) T.ZcC .nil Jh (Za (pv 5) (Za (pv 6) yc))))) Zo))) (jb (yf (pv 4))))), ?_⟩
    refine ⟨_, rfl, f2.rd ⟨_, rfl, .inl ⟨oa, _, _, _, rfl, rfl, SqL.of hB.oo, zdo hown, ?_⟩⟩⟩
    refine ⟨_, rfl, b, dx, _, rfl, hB.ob, rfl, _, rfl, b, f, dx, oa, ea, es, k, rfl, hB, h40, fun H1 vd kvv s1 hvd hvo hvs => ?_⟩
    intro sa sdx hsa hsdx hne
    have s2 : ju H1 (upd (upd H1 sdx (.own sa)) sa (.ins A.Jk sdx [])) := (Jd hsdx).zH hsa
    refine ⟨H, sa, sdx, vd, Sy33.ownerAt f.owners q, kvv, voids f.items k, esF es, rfl, s1.trans s2, s1.free hsa, Ja, s2 _ _ hvo, hvs, fun H2 hS2 => ⟨rfl, ?_⟩⟩
    rw [← yg6 f (voids f.items k) hq] at hS2
    have sm2 : ju H H2 := by obtain ⟨_, _, _, _, _, _, _, _, _, r⟩ := hS2; exact r.sm
    obtain ⟨g1, g2, g3⟩ := (hB.same sm2).fld T
    refine ⟨_, rfl, g3.rd ⟨ea, es, rfl, SqL.of (hB.same sm2).eo, JgY f.items.length (fun j σ H' => (∃ v5 v6, σ = [some (.ref b), some (.int q), some (.int d), some (.int k), some (.ref sa), v5, v6]) ∧ Jbh A H H' (.ref sa) (voids f.items k) (esF es) (YgB f (voids f.items k) q (min j n))) ⟨⟨_, _, rfl⟩, by rw [Nat.zero_min]; exact hS2⟩ ?_ ?_ ?_ ?_⟩⟩
    · rintro j σ H' hj ⟨_, hS⟩
      obtain ⟨_, _, _, _, _, _, _, _, _, r⟩ := hS
      exact ⟨es, es[j], SqL.of (hB.same r.sm).eo, List.getElem?_eq_getElem (by omega)⟩
    · rintro σ H' ⟨_, hS⟩
      obtain ⟨_, _, _, _, _, _, _, _, _, r⟩ := hS
      exact ⟨es, SqL.of (hB.same r.sm).eo, by omega⟩
    · rintro j v σ H' H'' hj ⟨⟨v5, v6, rfl⟩, hS⟩ ⟨tp, ev, rfl, htp, rfl, hev⟩
      have sm : ju H H' := by obtain ⟨_, _, _, _, _, _, _, _, _, r⟩ := hS; exact r.sm
      have hev := hev es (SqL.of (hB.same sm).eo)
      obtain ⟨x, hx, hxe⟩ := Paired.get hB.its hev
      have hev2 : ev = esF es j := by unfold esF; rw [hev]; rfl
      subst hev2
      have s3 := Jd (o := .tup [.int (j : Nat), esF es j]) htp
      have hS3 := hS.same s3
      have sm3 := sm.trans s3
      have hB3 := hB.same sm3
      obtain ⟨g1, g2, g3⟩ := hB3.fld T
      refine ⟨tp, _, rfl, SqT.of Ja, rfl, _, _, rfl, _, _, rfl, rfl, ?_⟩
      have hx3 := YbD.same hxe sm3
      obtain ⟨e, edx, hve, hE⟩ := id hx3
      refine ygi (c := decide ((x.day : Int) ≤ (d : Int))) (d := decide (V.int (x.plot : Int) = V.int (q : Int))) (fun R z => ⟨_, rfl, (zdq T hx3).rd ⟨_, rfl, _, _, rfl, rfl, _, rfl, z⟩⟩)
        (fun _ R z => ⟨_, rfl, e, _, edx, _, _, hve, hE, jga T x.act, (ZbE _ _ _).2.2.2.2.1, _, rfl, g3.rd ⟨_, x.day, _, ea, es, f, x.plot, rfl, hx3, SqL.of hB3.eo, hB3.its, hW, hA, hA j x hx, _, rfl, rfl, _, rfl, z⟩⟩) ?_
      rw [ygP, jbc]
      have hsucc := Yg6 hW (voids f.items k) hq hx
      refine br (fun h => ?_) (fun h => ?_)
      · rw [Bool.and_eq_true] at h
        have hjn := (hday j x hx).mp (of_decide_eq_true h.1)
        have hpq := eq_of_beq h.2
        rw [Nat.min_eq_left (Nat.le_of_lt hjn)] at hS3
        rw [if_pos hpq] at hsucc
        have so := hW.Zhk (voids f.items k) hq (Nat.le_trans (Nat.le_of_lt hjn) hn)
        obtain ⟨sa', sdx', vd', st', pl', gv', kvv', ys', e1, r'⟩ := id hS3
        cases e1
        refine ⟨_, rfl, sa, sdx', _, rfl, r'.ob, rfl, _, rfl, _, rfl, H, j, _, voids f.items k, es, f, q, _, x, rfl, hW, hx, hB.its, hS3, so, by omega, fun e he => ?_, fun H4 hS4 => ?_⟩
        · have h1 := hW.std j x hx e he
          refine List.mem_filter.mpr ⟨by rw [YeB]; exact h1, ?_⟩
          have hz := (hW.ok j x hx).2
          have : plotOf f.items e = x.plot := by
            cases ha : x.act with
            | fulfil n b => rw [ha] at he hz; rw [List.mem_singleton.mp he]; exact hz.2.1
            | strike n b => rw [ha] at he hz; rw [List.mem_singleton.mp he]; exact hz.2.1
            | ahead y z =>
              rw [ha] at he hz
              rcases List.mem_cons.mp he with e2 | he
              · rw [e2]; exact hz.2.2.2.2.2.1
              · rw [List.mem_singleton.mp he]; exact hz.2.2.2.2.2.2.1
            | _ => rw [ha] at he; cases he
          rw [this, hpq]
          exact beq_self_eq_true q
        · refine ⟨⟨_, _, rfl⟩, ?_⟩
          rw [Nat.min_eq_left hjn, hsucc]
          exact hS4
      · refine ⟨⟨_, _, rfl⟩, ?_⟩
        by_cases hjn : j < n
        · rw [Nat.min_eq_left (Nat.le_of_lt hjn)] at hS3
          have hd := decide_eq_true ((hday j x hx).mpr hjn)
          rw [hd, Bool.true_and] at h
          rw [if_neg (by simpa using h)] at hsucc
          rw [Nat.min_eq_left hjn, hsucc]
          exact hS3
        · rw [Nat.min_eq_right (by omega)] at hS3 ⊢
          exact hS3
    · rintro σ H' ⟨⟨v5, v6, rfl⟩, hS⟩
      rw [Nat.min_eq_right hn] at hS
      refine ⟨_, rfl, kk H' _ ?_⟩
      unfold yaj
      rw [hon]
      exact hS
end
end Lr
namespace Lr
open PySem hiding Act
open PySem.Spec
open PyProof.Rows hiding St
open L2
open Sy33 (Act Item File bit noticeOf holder voids plotOf isCharge about actOk before_ DAY may today becomes step ownerAt)
def refuse (f : File) (d : Nat) (a : Act) : Int := if DAY < d ∨ actOk f a = false then -1 else match about f a with
  | none => -2
  | some plot => if d < today f then -4 else if may f f.now.1 plot a = false then -6 else if Sy33.ITEMS ≤ f.items.length then -5 else 0
theorem jdq {f : File} {d : Nat} {a : Act} (h : refuse f d a ≠ 0) : step f (.act d a) = (f, Sy33.ok (refuse f d a)) := by
  unfold refuse at h ⊢
  show (if DAY < d ∨ actOk f a = false then (f, Sy33.ok (-1)) else _) = _
  by_cases h1 : DAY < d ∨ actOk f a = false
  · rw [if_pos h1, if_pos h1]
  · rw [if_neg h1] at h ⊢
    rw [if_neg h1]
    cases h2 : about f a with
    | none => rfl
    | some plot =>
      rw [h2] at h
      dsimp only at h ⊢
      by_cases h3 : d < today f
      · rw [if_pos h3, if_pos h3]
      · rw [if_neg h3] at h ⊢
        rw [if_neg h3]
        by_cases h4 : may f f.now.1 plot a = false
        · rw [if_pos h4, if_pos h4]
        · rw [if_neg h4] at h ⊢
          rw [if_neg h4]
          by_cases h5 : Sy33.ITEMS ≤ f.items.length
          · rw [if_pos h5, if_pos h5]
          · rw [if_neg h5] at h
            exact absurd rfl h
theorem ze9 {f : File} {d : Nat} {a : Act} (h : refuse f d a = 0) : ∃ plot, about f a = some plot ∧ actOk f a = true ∧ f.items.length < 40 ∧ step f (.act d a) = ({ f with items := f.items ++ [⟨d, a, plot, ownerAt f.now.1.owner plot, becomes f f.now plot a⟩] }, Sy33.ok (f.items.length : Nat)) := by
  unfold refuse at h
  by_cases h1 : DAY < d ∨ actOk f a = false
  · rw [if_pos h1] at h; cases h
  · rw [if_neg h1] at h
    cases h2 : about f a with
    | none => rw [h2] at h; cases h
    | some plot =>
      rw [h2] at h
      dsimp only at h
      by_cases h3 : d < today f
      · rw [if_pos h3] at h; cases h
      · rw [if_neg h3] at h
        by_cases h4 : may f f.now.1 plot a = false
        · rw [if_pos h4] at h; cases h
        · rw [if_neg h4] at h
          by_cases h5 : Sy33.ITEMS ≤ f.items.length
          · rw [if_pos h5] at h; cases h
          · refine ⟨plot, rfl, ?_, Nat.lt_of_not_le h5, ?_⟩
            · rw [not_or] at h1
              simpa using h1.2
            · show (if DAY < d ∨ actOk f a = false then (f, Sy33.ok (-1)) else _) = _
              rw [if_neg h1, h2]
              dsimp only
              rw [if_neg h3, if_neg h4, if_neg h5]
theorem Zg8 {f : File} {ys : List Item} {a : Act} {p : Nat} (h : about f a = some p) : about { f with items := f.items ++ ys } a = some p := by
  unfold about at h ⊢
  cases a with
  | fulfil k b =>
    obtain ⟨y, hy, e⟩ := Option.map_eq_some_iff.mp h
    have hk := zdY hy
    show (noticeOf (f.items ++ ys) k).map (fun _ => plotOf (f.items ++ ys) k) = some p
    rw [ZeO hk, ya3 hk]
    exact h
  | strike k b =>
    obtain ⟨y, hy, e⟩ := Option.map_eq_some_iff.mp h
    have hk := ye7 hy
    show (holder (f.items ++ ys) k).map (fun _ => plotOf (f.items ++ ys) k) = some p
    rw [zfI hk, ya3 hk]
    exact h
  | ahead x y =>
    dsimp only at h ⊢
    split at h
    · rename_i hc
      have hc' := hc
      rw [Bool.and_eq_true, Bool.and_eq_true] at hc'
      have hx := jb6 hc'.1
      have hy := jb6 hc'.2.1
      rw [jcs hx, jcs hy, ya3 hx, if_pos hc]
      exact h
    · cases h
  | void_ k =>
    obtain ⟨x, hx, e⟩ := Option.bind_eq_some_iff.mp h
    dsimp only
    rw [List.getElem?_append_left (Yah hx), hx]
    exact e
  | _ => exact h
theorem AB.snoc {f : File} (h : AB f) {x : Item} (hx : about f x.act = some x.plot) : AB { f with items := f.items ++ [x] } := fun i y hy => by
  have hy : (f.items ++ [x])[i]? = some y := hy
  refine Zg8 ?_
  by_cases hi : i < f.items.length
  · rw [List.getElem?_append_left hi] at hy
    exact h i y hy
  · rw [List.getElem?_append_right (by omega)] at hy
    have : y = x := by
      cases hz : i - f.items.length with
      | zero => rw [hz] at hy; exact (Option.some.inj hy).symm
      | succ m => rw [hz] at hy; cases hy
    subst this
    exact hx
theorem ZgZ {f : File} (h : AB f) (c : Sy33.Call) : AB (step f c).1 := by
  cases c with
  | begins p o =>
    show AB (if _ then (f, Sy33.ok (-1)) else ((⟨o, p, []⟩ : File), Sy33.ok 0)).1
    split
    · exact h
    · exact fun i x hx => by cases hx
  | act d a =>
    by_cases hr : refuse f d a = 0
    · obtain ⟨plot, h1, _, _, e⟩ := ze9 hr
      rw [e]
      exact h.snoc h1
    · rw [jdq hr]
      exact h
  | _ => exact h
theorem Yhm : AB Sy33.start := fun i x hx => by cases hx
section
variable {P : Program} {w : World} {K : PySem.W.Frag} {mg : Str → Option Value} {base : Heap} {A : Adr}
def zdZ (A : Adr) : Sp := fun vs H Q _ => ∃ (b : Addr) (f : File) (dx oa ea : Addr) (es : List V) (v : V) (d : Nat) (a : Act) (o : V) (p : Nat), vs = [.ref b, v] ∧ BkR A H b f dx oa ea es ∧ WF f ∧ AB f ∧ YbD A H v d a o ∧ about f a = some p ∧ p < f.owners.length ∧ ∀ (H' : Hp) (sv : V), Jbh A H H' sv (voids f.items DAY) (esF es) (ycE f p) → Q sv H'
theorem zdh (T : Txt K mg A) : Zf P w K mg base CX0 6 A.Yx A.yao ["self", "entry"] (zdZ A) := by
  have Jax : Zf P w K mg base CX0 5 A.zu A.Z5 ["self", "plot", "day", "known"] (YcT A) := YbV T
  refine T.Ydz.ok Ze5 (fun vs H Q E h => ?_) (fun cdv B outer s H vs Q E hr h => ?_)
  · obtain ⟨_, _, _, _, _, _, _, _, _, _, _, rfl, _⟩ := h
    rfl
  · obtain ⟨b, f, dx, oa, ea, es, v, d, a, o, p, rfl, hB, hW, hA, hE, hp, hl, k⟩ := h
    obtain ⟨f1, f2, f3⟩ := hB.fld T
    obtain ⟨e, edx, rfl, hH⟩ := id hE
    refine ⟨_, (jb (yf (z9 (pv 0) T.Yab T.jaS Jax (hr.mono (by decide)) T.yaS .nil Jh (Za (zay (P := P) (w := w) (K := K) (mg := mg) (base := base) (k := 2) (CX := CX0) ⟨rfl, rfl, rfl, rfl, rfl⟩ (pv 1) (hr.mono (by decide)) Jh (Za (Jc (K := K) rfl (pv 0) rfl) yc)) (Za (jg (by rfl) T.Ydp T.jdp) (Za (jg (by rfl) T.Ydp T.jdp) yc)))))), ?_⟩
    refine ⟨_, rfl, b, dx, _, rfl, hB.ob, rfl, _, rfl, e, _, edx, _, _, rfl, hH, jga T a, (ZbE _ _ _).2.2.2.2.1, _, rfl, f3.rd ⟨_, d, o, ea, es, f, p, rfl, hE, SqL.of hB.eo, hB.its, hW, hA, hp, ?_⟩⟩
    refine ⟨b, f, dx, oa, ea, es, p, DAY, DAY, rfl, hB, hW, hA, hl, fun H' sv hS => k H' sv ?_⟩
    rw [YhD hW]
    exact hS
def YfK (A : Adr) : Sp := fun vs H Q _ => ∃ (b : Addr) (f : File) (dx oa ea : Addr) (es : List V) (v : V) (d : Nat) (a : Act) (o : V), vs = [.ref b, v] ∧ BkR A H b f dx oa ea es ∧ WF f ∧ AB f ∧ YbD A H v d a o ∧ ∀ H' : Hp, ju H H' → Q (.int (refuse f d a)) H'
theorem ygZ {es : List V} {v : V} {n : Nat} (hn : es.length = n + 1) (h : es[n]? = some v) : atI es (-1) = some v := by
  unfold atI ixN
  rw [hn, if_neg (by decide)]
  have e1 : (-(((n + 1 : Nat) : Int)) ≤ (-1 : Int)) := by omega
  rw [if_pos e1]
  have e2 : (-1 + (((n + 1 : Nat) : Int))).toNat = n := by omega
  simp only [Option.bind_some]
  first
    | (rw [e2]; exact h)
    | (rw [Int.add_comm, e2]; exact h)
theorem Jfr (T : Txt K mg A) : Zf P w K mg base CX0 7 A.zF A.zaS ["self", "entry"] (YfK A) := by
  have Zcf : Zf P w K mg base CX0 6 A.Yx A.yao ["self", "entry"] (zdZ A) := zdh T
  refine T.ydU.ok Zfq (fun vs H Q E h => ?_) (fun cdv B outer s H vs Q E hr h => ?_)
  · obtain ⟨_, _, _, _, _, _, _, _, _, _, rfl, _⟩ := h
    rfl
  · obtain ⟨b, f, dx, oa, ea, es, v, d, a, o, rfl, hB, hW, hA, hE, k⟩ := h
    obtain ⟨f1, f2, f3⟩ := hB.fld T
    obtain ⟨e, edx, rfl, hH⟩ := id hE
    have hlen := Zef hB.its
    unfold refuse at k
    refine ⟨_, (Yc (yO (PW.pt (pw_or (Yq ygU (Jc (K := K) rfl (pv 1) rfl) (jg (by rfl) T.Ydp T.jdp) (jm _)) (pw_or1 (ydn (Jby (zay (P := P) (w := w) (K := K) (mg := mg) (base := base) (k := 2) (CX := CX0) ⟨rfl, rfl, rfl, rfl, rfl⟩ (pv 1) (hr.mono (by decide)) Jh (Za (Jc (K := K) rfl (pv 0) rfl) (Za (Zu (jx (K := K) rfl) (by rfl) T.JcD PySem.boot_len (Za (Jc (K := K) rfl (pv 0) rfl) yc)) yc)))))))) (jb (yf (jg (by rfl) T.Zb6 T.yb6))) Zo) (Yc (yO (ydn (Jby (zay (P := P) (w := w) (K := K) (mg := mg) (base := base) (k := 2) (CX := CX0) ⟨rfl, rfl, rfl, rfl, rfl⟩ (pv 1) (hr.mono (by decide)) Jh (Za (Jc (K := K) rfl (pv 0) rfl) yc)))) (jb (yf (jg (by rfl) T.yfk T.Yfk))) Zo) (Yc (yO (PW.pt (pw_and (Yq ygU (Zu (jx (K := K) rfl) (by rfl) T.JcD PySem.boot_len (Za (Jc (K := K) rfl (pv 0) rfl) yc)) je (jm _)) (pw_and1 (Yq ygU (Jc (K := K) rfl (Jj (Ye (K := K) rfl) (Jc (K := K) rfl (pv 0) rfl) (zhx zhc je) (fun _ _ => rfl)) rfl) (Jc (K := K) rfl (pv 1) rfl) (jm _))))) (jb (yf (jg (by rfl) T.jfk T.Jfk))) Zo) (Yc (yO (ydn (Jby (zay (P := P) (w := w) (K := K) (mg := mg) (base := base) (k := 2) (CX := CX0) ⟨rfl, rfl, rfl, rfl, rfl⟩ (pv 1) (hr.mono (by decide)) Jh (Za (z9 (pv 0) T.Yab T.zcf Zcf (hr.mono (by decide)) T.Jce .nil Jh (Za (pv 1) yc)) yc)))) (jb (yf (jg (by rfl) T.yeq T.Yeq))) Zo) (Yc (yO (Yq yhc (Zu (jx (K := K) rfl) (by rfl) T.JcD PySem.boot_len (Za (Jc (K := K) rfl (pv 0) rfl) yc)) (jg (by rfl) T.ydX T.YdX) (jm _)) (jb (yf (jg (by rfl) T.Jhg T.zhh))) Zo) (jb (yf je))))))), ?_⟩
    refine ygX (c := decide ((d : Int) > 1000000)) (d := !ye8 f.persons f.owners.length a) (fun R z => ⟨_, rfl, (zdq T hE).rd ⟨_, _, rfl, rfl, _, rfl, z⟩⟩)
      (fun _ R z => ⟨_, rfl, e, _, edx, _, _, rfl, hH, ZfX T a, (ZbE _ _ _).2.2.1, _, rfl, f1.rd ⟨_, rfl, f2.rd ⟨oa, _, rfl, .inl (SqL.of hB.oo), _, d, o, f.persons, f.owners.length, ?_, hE, _, rfl, z⟩⟩⟩) ?_
    · rw [List.length_map]
    rw [jhl]
    refine br (fun h => ?_) (fun h => ?_)
    · have h1 : DAY < d ∨ actOk f a = false := by
        rw [Bool.or_eq_true] at h
        rcases h with h | h
        · exact .inl (by have := of_decide_eq_true h; unfold DAY; omega)
        · exact .inr (by simpa using h)
      rw [if_pos h1] at k
      exact k _ (ju.refl _)
    have h1 : ¬ (DAY < d ∨ actOk f a = false) := by
      rw [Bool.or_eq_false_iff] at h
      rintro (z | z)
      · have := of_decide_eq_false h.1; unfold DAY at z; omega
      · rw [z] at h; exact absurd h.2 (by simp)
    rw [if_neg h1] at k
    refine ⟨_, rfl, e, _, edx, _, _, rfl, hH, YgP T a, (ZbE _ _ _).2.2.2.1, _, rfl, f3.rd ⟨_, d, o, ea, es, f.items, rfl, hE, SqL.of hB.eo, hB.its, fun H1 s1 => ⟨_, rfl, ?_⟩⟩⟩
    rw [Jhl]
    refine br (fun h => ?_) (fun h => ?_)
    · have h2 : about f a = none := by
        cases hz : about f a with
        | none => rfl
        | some p => rw [hz] at h; cases h
      rw [h2] at k
      exact k _ s1
    obtain ⟨p, hp⟩ : ∃ p, about f a = some p := Option.isSome_iff_exists.mp (by simpa using h)
    rw [hp] at k
    dsimp only at k
    have hB1 := hB.same s1
    have hE1 := hE.same s1
    obtain ⟨g1, g2, g3⟩ := hB1.fld T
    have hpl := JgB hW (by rw [not_or] at h1; simpa using h1.2) hp
    have hday : decide (d < today f) = (decide ((es.length : Int) > 0) && decide (d < today f)) := by
      by_cases hz : f.items = []
      · have e1 : today f = 0 := by unfold today; rw [hz]; rfl
        rw [e1]
        simp
      · have : 0 < es.length := by rw [hlen]; exact List.length_pos_iff.mpr hz
        rw [show decide ((es.length : Int) > 0) = true from decide_eq_true (by omega), Bool.true_and]
    dsimp only [ygT, ZhF, jhF]
    refine ygi (c := decide ((es.length : Int) > 0)) (d := decide (d < today f)) (fun R z => ⟨_, rfl, g3.rd ⟨ea, es, rfl, .inl (SqL.of hB1.eo), _, _, rfl, rfl, _, rfl, z⟩⟩) (fun hc R z => ?_) ?_
    · have hc := of_decide_eq_true hc
      obtain ⟨n, hn⟩ : ∃ n, es.length = n + 1 := ⟨es.length - 1, by omega⟩
      have hxn : f.items[n]? = some f.items[n] := List.getElem?_eq_getElem (by omega)
      obtain ⟨v, hv, r⟩ := Paired.Jhk hB1.its hxn
      have htd : today f = (f.items[n]'(by omega)).day := by
        unfold today
        rw [List.getLast?_eq_getElem?, show f.items.length - 1 = n by omega, hxn]
        rfl
      refine ⟨_, rfl, g3.rd ⟨_, rfl, .inl ⟨ea, es, -1, v, rfl, rfl, SqL.of hB1.eo, ygZ hn hv, (zdq T r).rd ⟨_, rfl, (zdq T hE1).rd ⟨_, _, rfl, rfl, _, rfl, ?_⟩⟩⟩⟩⟩
      have e1 : decide (((f.items[n]'(by omega)).day : Int) > (d : Int)) = decide (d < today f) := by
        rw [htd, decide_eq_decide]
        omega
      rw [e1]
      exact z
    rw [← hday]
    refine br (fun h3 => ?_) (fun h3 => ?_)
    · rw [if_pos (of_decide_eq_true h3)] at k
      exact k _ s1
    rw [if_neg (of_decide_eq_false h3)] at k
    refine ⟨_, rfl, e, _, edx, _, _, rfl, s1 _ _ hH, Zhm T a, (ZbE _ _ _).2.2.2.2.2.1, _, rfl, b, dx, _, rfl, hB1.ob, rfl, _, rfl, b, f, dx, oa, ea, es, _, d, a, o, p, rfl, hB1, hW, hA, hE1, hp, hpl, fun H2 sv hS => ?_⟩
    have s2 : ju H1 H2 := by obtain ⟨_, _, _, _, _, _, _, _, _, r⟩ := hS; exact r.sm
    have so : StOk f p f.items.length (ycE f p) := by
      have := (hW.Zhk (voids f.items DAY) hpl (Nat.le_refl _)).toStOk
      unfold YgB at this
      rw [← jgB] at this
      exact this
    refine ⟨H1, _, d, o, sv, voids f.items DAY, es, f, p, f.items.length, ycE f p, rfl, hE1.same s2, hB1.its, hS, so, _, rfl, ?_⟩
    rw [← yhk hp]
    refine br (fun h4 => ?_) (fun h4 => ?_)
    · rw [if_pos (by simpa using h4)] at k
      exact k _ (s1.trans s2)
    rw [if_neg (by simpa using h4)] at k
    have hB2 := hB1.same s2
    obtain ⟨j1, j2, j3⟩ := hB2.fld T
    refine ⟨_, rfl, j3.rd ⟨ea, es, rfl, .inl (SqL.of hB2.eo), _, _, rfl, rfl, _, rfl, ?_⟩⟩
    refine br (fun h5 => ?_) (fun h5 => ?_)
    · have h5 := of_decide_eq_true h5
      rw [if_pos (show Sy33.ITEMS ≤ f.items.length by unfold Sy33.ITEMS; omega)] at k
      exact k _ (s1.trans s2)
    · have h5 := of_decide_eq_false h5
      rw [if_neg (show ¬ Sy33.ITEMS ≤ f.items.length by unfold Sy33.ITEMS; omega)] at k
      exact k _ (s1.trans s2)
def za4 (A : Adr) (G H : Hp) (b : Addr) (f : File) : Prop := ∃ dx oa ea es, ju G H ∧ G b = Option.none ∧ G oa = Option.none ∧ G ea = Option.none ∧ oa ≠ ea ∧ BkR A H b f dx oa ea es ∧ WF f ∧ AB f
theorem za4.same {G H H' : Hp} {b : Addr} {f : File} (h : za4 A G H b f) (s : ju H H') : za4 A G H' b f := by
  obtain ⟨dx, oa, ea, es, h1, h2, h3, h4, h5, h6, h7⟩ := h
  exact ⟨dx, oa, ea, es, h1.trans s, h2, h3, h4, h5, h6.same s, h7⟩
def YgZ (A : Adr) : Sp := fun vs H Q _ => ∃ (G H1 : Hp) (b e : Addr) (f : File) (d : Nat) (a : Act), vs = [.ref b, .ref e] ∧ za4 A G H1 b f ∧ ju H1 H ∧ H1 e = Option.none ∧ YbD A H (.ref e) d a .non ∧ ∀ H' : Hp, za4 A G H' b (step f (.act d a)).1 → Q (.int (step f (.act d a)).2.v) H'
theorem Jgj (T : Txt K mg A) : Zf P w K mg base CX0 8 A.jac A.jbA ["self", "entry"] (YgZ A) := by
  have Zcf : Zf P w K mg base CX0 6 A.Yx A.yao ["self", "entry"] (zdZ A) := zdh T
  have jfK : Zf P w K mg base CX0 7 A.zF A.zaS ["self", "entry"] (YfK A) := Jfr T
  refine T.Yfi.ok ZeK (fun vs H Q E h => ?_) (fun cdv B outer s H vs Q E hr h => ?_)
  · obtain ⟨_, _, _, _, _, _, _, rfl, _⟩ := h
    rfl
  · obtain ⟨G, H1, b, e, f, d, a, rfl, hBk, s1, he, hE, k⟩ := h
    obtain ⟨dx, oa, ea, es, hG, gb, go, ge, noe, hB, hW, hA⟩ := id hBk
    have hB0 := hB.same s1
    refine ⟨_, (Yc (zac (i := 2) ZeK.nd rfl (by first | exact Or.inl rfl | exact Or.inr rfl) (z9 (pv 0) T.Yab T.JdW jfK (hr.mono (by decide)) T.YdU .nil Jh (Za (pv 1) yc))) (Yc (yO (Yq jf3 (pv 2) je (jm _)) (jb (yf (pv 2))) Zo) (Yc (jD (zay (P := P) (w := w) (K := K) (mg := mg) (base := base) (k := 1) (CX := CX0) ⟨rfl, rfl, rfl, rfl, rfl⟩ (pv 1) (hr.mono (by decide)) Jh (Za (z9 (pv 0) T.Yab T.zcf Zcf (hr.mono (by decide)) T.Jce .nil Jh (Za (pv 1) yc)) yc))) (Yc (jD (Zen PySem.F.plainAttrs_list PySem.F.slot_list_append PySem.F.type_list_append ybU (Jc (K := K) rfl (pv 0) rfl) (Za (pv 1) yc))) (jb (yf (JeH ZgK (Zu (jx (K := K) rfl) (by rfl) T.JcD PySem.boot_len (Za (Jc (K := K) rfl (pv 0) rfl) yc)) je))))))), ?_⟩
    refine ⟨_, rfl, b, dx, _, rfl, hB0.ob, rfl, _, rfl, b, f, dx, oa, ea, es, _, d, a, _, rfl, hB0, hW, hA, hE, fun H2 s2 => ?_⟩
    refine ⟨_, rfl, rfl, _, rfl, ?_⟩
    by_cases hr0 : refuse f d a = 0
    · rw [hr0]
      refine brF (by decide) ?_
      obtain ⟨p, hp, hok, h40, est⟩ := ze9 hr0
      have hpl := JgB hW hok hp
      rw [est] at k
      dsimp only at k
      have hB2 := hB0.same s2
      have hE2 := hE.same s2
      obtain ⟨e', edx, e1, hH⟩ := id hE2
      cases e1
      refine ⟨_, rfl, e, _, edx, _, _, rfl, hH, jgD T a, (ZbE _ _ _).2.2.2.2.2.2.1, _, rfl, b, dx, _, rfl, hB2.ob, rfl, _, rfl, b, f, dx, oa, ea, es, _, d, a, _, p, rfl, hB2, hW, hA, hE2, hp, hpl, fun H3 sv hS => ?_⟩
      have s3 : ju H2 H3 := by obtain ⟨_, _, _, _, _, _, _, _, _, r⟩ := hS; exact r.sm
      refine ⟨H2, e, d, _, sv, _, _, _, rfl, hE2.same s3, hS, fun H4 hk hE4 => ?_⟩
      have s14 : ju H1 H4 := fun c u hc => by
        rw [hk c (yd hc he)]
        exact (s1.trans (s2.trans s3)) _ _ hc
      have hB4 := hB.same s14
      obtain ⟨j1, j2, j3⟩ := hB4.fld T
      have hlen := Zef hB.its
      refine ⟨_, rfl, j3.rd ⟨.inl ⟨rfl, _, SqL.of hB4.eo⟩, _, rfl, ea, es, _, rfl, rfl, hB4.eo, Nat.lt_of_le_of_lt (show es.length ≤ 100 by omega) (by decide), ?_⟩⟩
      have nbe : b ≠ ea := yaR hB4.ob hB4.eo (by intro z; cases z)
      have own : YbD A H4 (.ref e) d a (.int (becomes f f.now p a)) := by
        obtain ⟨e', edx', e1, hH4⟩ := hE4
        refine ⟨e', edx', e1, ?_⟩
        cases a with
        | correct q0 => exact hH4
        | _ => exact hH4
      have hW' : WF { f with items := f.items ++ [⟨d, a, p, ownerAt f.now.1.owner p, becomes f f.now p a⟩] } := by
        have := ygY hW (.act d a)
        rw [est] at this
        exact this
      have hB5 : BkR A (upd H4 ea (.lst (es ++ [.ref e]))) b { f with items := f.items ++ [⟨d, a, p, ownerAt f.now.1.owner p, becomes f f.now p a⟩] } dx oa ea (es ++ [.ref e]) := by
        refine ⟨by rw [Zc nbe]; exact hB4.ob, by rw [Zc noe]; exact hB4.oo, Ja, ?_⟩
        refine Paired.snoc (Paired.Zej hB4.its fun v x ⟨c, cdx, e1, hc⟩ => ⟨c, cdx, e1, ?_⟩) ?_
        · rw [Zc (yaR hc hB4.eo (by intro z; cases z))]
          exact hc
        · obtain ⟨c, cdx, e1, hc⟩ := own
          refine ⟨c, cdx, e1, ?_⟩
          rw [Zc (yaR hc hB4.eo (by intro z; cases z))]
          exact hc
      obtain ⟨m1, m2, m3⟩ := hB5.fld T
      refine ⟨_, rfl, m3.rd ⟨ea, _, rfl, .inl (SqL.of Ja), _, _, rfl, rfl, ?_⟩⟩
      have e2 : (((es ++ [V.ref e]).length : Nat) : Int) - 1 = ((f.items.length : Nat) : Int) := by
        rw [List.length_append, List.length_singleton, hlen]
        omega
      dsimp only
      rw [e2]
      refine k _ ⟨dx, oa, ea, es ++ [.ref e], (hG.trans s14).zH ge, gb, go, ge, noe, hB5, hW', ?_⟩
      have := ZgZ hA (.act d a)
      rw [est] at this
      exact this
    · have hd : (!decide (V.int (refuse f d a) = V.int 0)) = true := by
        rw [Bool.not_eq_true', decide_eq_false_iff_not]
        intro z
        exact hr0 (by injection z)
      refine brT hd ?_
      rw [jdq hr0] at k
      exact ⟨_, rfl, k _ (hBk.same (s1.trans s2))⟩
def yfm (A : Adr) : Sp := fun vs H Q _ => ∃ (b : Addr) (f : File) (dx oa ea : Addr) (es : List V) (q : Nat), vs = [.ref b, .int q] ∧ BkR A H b f dx oa ea es ∧ Q (.bl (decide (q < f.owners.length))) H
theorem Ze9 (T : Txt K mg A) : Zf P w K mg base CX0 1 A.Jz A.zaI ["self", "plot"] (yfm A) := by
  refine T.jdz.ok ye5 (fun vs H Q E h => ?_) (fun cdv B outer s H vs Q E hr h => ?_)
  · obtain ⟨_, _, _, _, _, _, _, rfl, _⟩ := h
    rfl
  · obtain ⟨b, f, dx, oa, ea, es, q, rfl, hB, k⟩ := h
    obtain ⟨f1, f2, f3⟩ := hB.fld T
    refine ⟨_, (jb (yf (YaW Zfg (pv 1) (Zu (jx (K := K) rfl) (by rfl) T.JcD PySem.boot_len (Za (Jc (K := K) rfl (pv 0) rfl) yc)) (jm _)))), ?_⟩
    refine ⟨_, rfl, _, rfl, f2.rd ⟨oa, _, rfl, .inl (SqL.of hB.oo), _, _, rfl, rfl, ?_⟩⟩
    dsimp only
    rw [List.length_map, YdY]
    exact k
end
end Lr
namespace Lr
open PySem hiding Act
open PySem.Spec
open PyProof.Rows hiding St
open L2
open Sy33 (Act Item File bit step)
section
variable {P : Program} {w : World} {K : PySem.W.Frag} {mg : Str → Option Value} {base : Heap} {A : Adr}
def JeP (A : Adr) : Sp := fun vs H Q _ => ∃ (G : Hp) (b dx : Addr), vs = [.ref b] ∧ ju G H ∧ G b = Option.none ∧ H b = some (.ins A.yD dx []) ∧ ∀ H' : Hp, za4 A G H' b Sy33.start → Q .non H'
theorem zgk (T : Txt K mg A) : Zf P w K mg base CX0 1 A.Yac A.YbA ["self"] (JeP A) := by
  refine T.Zfi.ok ygh (fun vs H Q E h => ?_) (fun cdv B outer s H vs Q E hr h => ?_)
  · obtain ⟨_, _, _, rfl, _⟩ := h
    rfl
  · obtain ⟨G, b, dx, rfl, hG, gb, hb, k⟩ := h
    refine ⟨_, (Yc (yu (K := K) rfl (pv 0) je rfl) (Yc (yu (K := K) rfl (pv 0) (yaw (Za je yc)) rfl) (jb (yu (K := K) rfl (pv 0) (yaw yc) rfl)))), ?_⟩
    refine ⟨_, rfl, b, _, dx, _, rfl, hb, T.Yab, T.zad, by decide, ?_⟩
    refine ⟨(by show 1 ≤ sizeLine; decide), fun oa hoa => ⟨_, rfl, b, _, dx, _, rfl, (by rw [Zc (yd Ja hoa)]; exact Ja), T.Yab, T.Zao, (by show (1 : Nat) < 1000; decide), ?_⟩⟩
    refine ⟨Nat.zero_le _, fun ea hea => ⟨_, rfl, b, _, dx, _, rfl, (by rw [Zc (yd Ja hea)]; exact Ja), T.Yab, T.Zad, (by show (2 : Nat) < 1000; decide), ?_⟩⟩
    have nob : oa ≠ b := Ne.symm (yd Ja hoa)
    have neb : ea ≠ b := Ne.symm (yd Ja hea)
    have noe : oa ≠ ea := yd (o := .lst [.int 0]) (by rw [Zc nob]; exact Ja) hea
    have f1 : G oa = Option.none := (hG.zH gb).free hoa
    have f2 : G ea = Option.none := (((hG.zH gb).zH f1).zH gb).free hea
    refine k _ ⟨dx, oa, ea, [], ((((hG.zH gb).zH f1).zH gb).zH f2).zH gb, gb, f1, f2, noe, ⟨Ja, ?_, ?_, .nil⟩, Yhj, Yhm⟩
    · rw [Zc nob, Zc noe, Zc nob]; exact Ja
    · rw [Zc neb]; exact Ja
def ZgE (K : PySem.W.Frag) (A : Adr) : Sp := fun vs H Q _ => ∃ (G : Hp) (b la : Addr) (f : File) (p : Nat) (o : List Nat), vs = [.ref b, .int p, .ref la] ∧ za4 A G H b f ∧ H la = some (.lst (o.map fun (n : Nat) => V.int (n : Int))) ∧ o.length ≤ 60 ∧ ∀ H' : Hp, za4 A G H' b (step f (.begins p o)).1 → Q (.int (step f (.begins p o)).2.v) H'
theorem zfY (T : Txt K mg A) : Zf P w K mg base CX0 1 A.yV A.Zbm ["self", "persons", "owners"] (ZgE K A) := by
  refine T.jeL.ok Jc3 (fun vs H Q E h => ?_) (fun cdv B outer s H vs Q E hr h => ?_)
  · obtain ⟨_, _, _, _, _, _, rfl, _⟩ := h
    rfl
  · obtain ⟨G, b, la, f, p, o, rfl, hBk, hla, h60, k⟩ := h
    obtain ⟨dx, oa, ea, es, hG, gb, go, ge, noe, hB, hW, hA⟩ := id hBk
    have hstep : step f (.begins p o) = if p = 0 ∨ Sy33.PERSONS < p ∨ o.length = 0 ∨ Sy33.PLOTS < o.length ∨ (o.any fun (x : Nat) => decide (p ≤ x)) = true then (f, Sy33.ok (-1)) else (⟨o, p, []⟩, Sy33.ok 0) := rfl
    refine ⟨_, (Yc (yO (PW.pt (pw_or (ydn (YfA zen zen je (pv 1) (jg (by rfl) T.zdX T.ZdX))) (pw_or1 (ydn (YfA zen zen je (Zu (jx (K := K) rfl) (by rfl) T.JcD PySem.boot_len (Za (pv 2) yc)) (jg (by rfl) T.jeM T.JeM)))))) (jb (yf (jg (by rfl) T.Zb6 T.yb6))) Zo) (Yc (yO (Jby (Zu (JgV (K := K) rfl rfl) (by rfl) T.Yhi Jf6 (Za (zf5 rfl Jc3.nd (jaH (K := K) rfl (pv 2)) (own := [("owner", 3)]) (by show ydy ["self", "persons", "owners", "owner"] (za zU) _ [("owner", 3)]; exact ⟨rfl, by decide +kernel, by decide +kernel, by decide +kernel, by decide +kernel⟩) (fun _ _ _ _ _ => (zaj (i := 3) Jc3.nd rfl (by first | exact Or.inl rfl | exact Or.inr rfl))) (fun _ _ _ _ _ => yeI) (fun _ _ _ _ _ => (YaW yhc (pv 3) (pv 1) (jm _)))) yc))) (jb (yf (jg (by rfl) T.Zb6 T.yb6))) Zo) (Yc (yu (K := K) rfl (pv 0) (pv 1) rfl) (Yc (yu (K := K) rfl (pv 0) (jf4 (jfV (K := K) rfl) (by rfl) T.YgN JfC (Za (pv 2) yc)) rfl) (Yc (yu (K := K) rfl (pv 0) (yaw yc) rfl) (jb (yf je))))))), ?_⟩
    refine ygX (c := !(decide (1 ≤ p) && decide (p ≤ 10))) (d := !(decide (1 ≤ o.length) && decide (o.length ≤ 6))) (fun R z => ⟨_, rfl, _, _, rfl, rfl, _, rfl, ?_⟩) (fun _ R z => ⟨_, rfl, la, _, rfl, .inl (SqL.of hla), _, _, rfl, rfl, _, rfl, ?_⟩) ?_
    · rw [show decide ((1 : Int) ≤ (p : Int)) = decide (1 ≤ p) from by rw [decide_eq_decide]; omega]
      refine br (fun h => ?_) (fun h => ?_)
      · rw [h, Bool.true_and] at z
        refine ⟨_, _, rfl, rfl, _, rfl, ?_⟩
        rw [show decide ((p : Int) ≤ (10 : Int)) = decide (p ≤ 10) from by rw [decide_eq_decide]; omega]
        exact z
      · rw [h, Bool.false_and] at z
        exact ⟨_, rfl, z⟩
    · rw [List.length_map, show decide ((1 : Int) ≤ ((o.length : Nat) : Int)) = decide (1 ≤ o.length) from by rw [decide_eq_decide]; omega]
      refine br (fun h => ?_) (fun h => ?_)
      · rw [h, Bool.true_and] at z
        refine ⟨_, _, rfl, rfl, _, rfl, ?_⟩
        rw [show decide (((o.length : Nat) : Int) ≤ (6 : Int)) = decide (o.length ≤ 6) from by rw [decide_eq_decide]; omega]
        exact z
      · rw [h, Bool.false_and] at z
        exact ⟨_, rfl, z⟩
    refine br (fun h => ?_) (fun h => ?_)
    · have h1 : p = 0 ∨ Sy33.PERSONS < p ∨ o.length = 0 ∨ Sy33.PLOTS < o.length ∨ (o.any fun (x : Nat) => decide (p ≤ x)) = true := by
        unfold Sy33.PERSONS Sy33.PLOTS
        apply Decidable.byContradiction
        intro hn
        rw [not_or, not_or, not_or, not_or] at hn
        obtain ⟨n1, n2, n3, n4, _⟩ := hn
        rw [decide_eq_true (show 1 ≤ p by omega), decide_eq_true (show p ≤ 10 by omega), decide_eq_true (show 1 ≤ o.length by omega), decide_eq_true (show o.length ≤ 6 by omega)] at h
        cases h
      rw [hstep, if_pos h1] at k
      exact k _ hBk
    have h1 : (1 ≤ p ∧ p ≤ 10) ∧ 1 ≤ o.length ∧ o.length ≤ 6 := by
      simp at h
      omega
    refine ⟨_, rfl, la, rfl, ⟨_, SqL.of hla⟩, fun D hD => YeN (K := K) (a := la) (xs := o.map fun (n : Nat) => V.int (n : Int)) (fun _ => true) (fun v => match v with | .int n => .bl (decide (n ≥ (p : Int))) | _ => .non) (SqL.of hla) hD (YgX (by rw [List.length_map]; omega)) ?_ ?_ ?_⟩
    · intro x acc R hx z
      exact z
    · intro x acc R hx _ z
      obtain ⟨n, hn, rfl⟩ := List.mem_map.mp hx
      exact ⟨_, rfl, _, rfl, _, _, rfl, rfl, z⟩
    have e1 : (List.map (fun v => match v with | V.int n => V.bl (decide (n ≥ (p : Int))) | _ => V.non) (List.filter (fun _ => true) (o.map fun (n : Nat) => V.int (n : Int)))) = (o.map fun (x : Nat) => decide (p ≤ x)).map V.bl := by
      rw [List.filter_eq_self.mpr (fun _ _ => rfl), List.map_map, List.map_map]
      refine List.map_congr_left fun n _ => ?_
      show V.bl (decide ((n : Int) ≥ (p : Int))) = V.bl (decide (p ≤ n))
      congr 1
      rw [decide_eq_decide]
      omega
    rw [e1]
    have s1 := Jd (o := .lst ((o.map fun (x : Nat) => decide (p ≤ x)).map V.bl)) hD
    refine ⟨D, _, rfl, SqL.of Ja, _, rfl, ?_⟩
    rw [List.any_map, show (id ∘ fun (x : Nat) => decide (p ≤ x)) = fun (x : Nat) => decide (p ≤ x) from rfl]
    refine br (fun h2 => ?_) (fun h2 => ?_)
    · rw [hstep, if_pos (.inr (.inr (.inr (.inr h2))))] at k
      exact k _ (hBk.same s1)
    have h3 : ¬ (p = 0 ∨ Sy33.PERSONS < p ∨ o.length = 0 ∨ Sy33.PLOTS < o.length ∨ (o.any fun (x : Nat) => decide (p ≤ x)) = true) := by
      unfold Sy33.PERSONS Sy33.PLOTS
      rintro (z | z | z | z | z)
      · omega
      · omega
      · omega
      · omega
      · rw [z] at h2; cases h2
    have hwf := ygY hW (.begins p o)
    have hab := ZgZ hA (.begins p o)
    rw [hstep, if_neg h3] at k hwf hab
    dsimp only at k hwf hab
    refine ⟨_, rfl, _, rfl, b, _, dx, _, rfl, s1 _ _ hB.ob, T.Yab, T.zad, (by show (3 : Nat) < 1000; decide), ?_⟩
    have nlb : la ≠ b := yaR hla hB.ob (by intro z; cases z)
    have hla2 := s1 _ _ hla
    refine ⟨_, rfl, la, _, rfl, .inl (SqL.of (by rw [Zc nlb]; exact hla2)), fun l hl => ⟨_, rfl, b, _, dx, _, rfl, (by rw [Zc (yd Ja hl)]; exact Ja), T.Yab, T.Zao, (by show (3 : Nat) < 1000; decide), ?_⟩⟩
    refine ⟨Nat.zero_le _, fun l2 hl2 => ⟨_, rfl, b, _, dx, _, rfl, (by rw [Zc (yd Ja hl2)]; exact Ja), T.Yab, T.Zad, (by show (3 : Nat) < 1000; decide), ?_⟩⟩
    have nb1 : l ≠ b := Ne.symm (yd Ja hl)
    have nb2 : l2 ≠ b := Ne.symm (yd Ja hl2)
    have n12 : l ≠ l2 := yd (by rw [Zc nb1]; exact Ja) hl2
    have g0 := hG.trans s1
    have g1 : G l = Option.none := (g0.zH gb).free hl
    have g2 : G l2 = Option.none := (((g0.zH gb).zH g1).zH gb).free hl2
    refine k _ ⟨dx, l, l2, [], ((((g0.zH gb).zH g1).zH gb).zH g2).zH gb, gb, g1, g2, n12, ⟨Ja, ?_, ?_, .nil⟩, hwf, hab⟩
    · rw [Zc nb1, Zc n12, Zc nb1]; exact Ja
    · rw [Zc nb2]; exact Ja
end
end Lr
namespace Lr
open PySem hiding Act
open PySem.Spec
open PyProof.Rows hiding St
open L2
open Sy33 (Act Item File bit noticeOf holder voids plotOf isCharge getsOf creditor)
abbrev jaJ (l : List Nat) : List V := l.map fun (n : Nat) => V.int (n : Int)
def YhL (H : Hp) (v : V) (l : List Nat) : Prop := ∃ a, v = .ref a ∧ H a = some (.lst (jaJ l))
abbrev Zgk (H : Hp) : List V → List (List Nat) → Prop := Paired (YhL H)
def zcF (H : Hp) (ns : List Int) (Q : VK) : Prop := ∀ (H' : Hp) (l : Addr), ju H H' → H l = Option.none → H' l = some (.lst (ns.map V.int)) → Q (.ref l) H'
theorem zcF.same {H H1 : Hp} {ns : List Int} {Q : VK} (h : zcF H ns Q) (s : ju H H1) : zcF H1 ns Q := fun H' l t e q => h H' l (s.trans t) (s.free e) q
def ye9 (v : Int) (ls : List (List Nat)) : List Int := Sy33Neutral.out ⟨v, ls⟩
theorem zgb (v : Int) (ls : List (List Nat)) (l : List Nat) : ye9 v (ls ++ [l]) = (ye9 v ls ++ [(l.length : Int)]) ++ casts l := by
  unfold ye9 Sy33Neutral.out
  simp [List.flatMap_append]
theorem jhm (v : Int) : ∀ ls : List (List Nat), (∀ l ∈ ls, l.length ≤ 10) → (ye9 v ls).length ≤ 1 + 11 * ls.length := by
  refine Jdp (fun _ => Nat.le_refl _) fun ls l ih h => ?_
  rw [zgb, List.length_append, List.length_append, List.length_map, List.length_append]
  have h1 := ih fun x hx => h x (List.mem_append_left _ hx)
  have h2 := h l (List.mem_append_right _ (List.mem_singleton.mpr rfl))
  rw [List.length_singleton, List.length_singleton]
  omega
section
variable {P : Program} {w : World} {K : PySem.W.Frag} {mg : Str → Option Value} {base : Heap} {A : Adr}
def YaU : Sp := fun vs H Q _ => ∃ (n : Int) (ra : Addr) (rs : List V) (ls : List (List Nat)), vs = [.int n, .ref ra] ∧ H ra = some (.lst rs) ∧ Zgk H rs ls ∧ ls.length ≤ 1000 ∧ (∀ l ∈ ls, l.length ≤ 10) ∧ zcF H (ye9 n ls) Q
theorem Jbn (T : Txt K mg A) : Zf P w K mg base CX0 1 A.JD A.zab ["number", "rows"] (YaU) := by
  refine T.zaN.ok zc4 (fun vs H Q E h => ?_) (fun cdv B outer s H vs Q E hr h => ?_)
  · obtain ⟨_, _, _, _, rfl, _⟩ := h
    rfl
  · obtain ⟨n, ra, rs, ls, rfl, hra, hrs, hl, hb, k⟩ := h
    have hlen : rs.length = ls.length := Paired.length hrs
    refine ⟨_, (Yc (zac (i := 2) zc4.nd rfl (by first | exact Or.inl rfl | exact Or.inr rfl) (yaw (Za (pv 0) yc))) (Yc (jdn PassesOwn.never rfl (jaH (K := K) rfl (pv 1)) (zaj (i := 3) zc4.nd rfl (by first | exact Or.inl rfl | exact Or.inr rfl)) (Yc (jD (Zen PySem.F.plainAttrs_list PySem.F.slot_list_append PySem.F.type_list_append ybU (pv 2) (Za (Zu (jx (K := K) rfl) (by rfl) T.JcD PySem.boot_len (Za (pv 3) yc)) yc))) (jb (jD (Zen PySem.F.plainAttrs_list PySem.F.slot_list_extend PySem.F.type_list_extend Je3 (pv 2) (Za (pv 3) yc)))))) (jb (yf (pv 2))))), ?_⟩
    refine ⟨_, rfl, (by show 1 ≤ sizeLine; decide), fun t ht => ?_⟩
    have s1 := Jd (o := .lst [.int n]) ht
    refine ⟨_, rfl, ra, rfl, ⟨_, SqL.of (s1 _ _ hra)⟩, Jcz (K := K) (a := ra) (xs := rs) (fun j σ H' => (∃ v3, σ = [some (.int n), some (.ref ra), some (.ref t), v3]) ∧ ju H H' ∧ H' t = some (.lst ((ye9 n (ls.take j)).map V.int))) ⟨⟨_, rfl⟩, s1, Ja⟩ (fun j σ H' _ h => SqL.of (h.2.1 _ _ hra)) ?_ ?_⟩
    · rintro j v σ H' hv ⟨⟨v3, rfl⟩, sH, ht'⟩
      obtain ⟨l, hlx, a, rfl, ha⟩ := Paired.get hrs hv
      have hj : j < rs.length := (List.getElem?_eq_some_iff.mp hv).1
      have ha' := sH _ _ ha
      have nat : t ≠ a := Ne.symm (yd ha ht)
      have hlb := hb l (List.mem_of_getElem? hlx)
      have hob := jhm n (ls.take j) fun x hx => hb x (List.mem_of_mem_take hx)
      rw [List.length_take] at hob
      refine ⟨_, rfl, .inl ⟨rfl, _, SqL.of ht'⟩, _, rfl, a, _, rfl, .inl (SqL.of ha'), t, _, _, rfl, rfl, ht', ?_, ?_⟩
      · rw [List.length_map]
        exact Nat.lt_of_le_of_lt (show _ ≤ 100000 by omega) (by decide)
      have hat : upd H' t (.lst ((ye9 n (ls.take j)).map V.int ++ [V.int ((jaJ l).length : Nat)])) a = some (.lst (jaJ l)) := by
        rw [Zc (Ne.symm nat)]
        exact ha'
      refine ⟨_, rfl, .inl ⟨rfl, _, SqL.of Ja⟩, _, rfl, t, a, _, _, rfl, rfl, Ja, hat, ?_, ?_⟩
      · rw [List.length_append, List.length_map, List.length_map, List.length_singleton]
        exact Nat.le_trans (show _ ≤ 100000 by omega) (by decide)
      refine ⟨⟨_, rfl⟩, ?_, ?_⟩
      · rw [Jai]
        intro c u e
        rw [Zc (yd e ht)]
        exact sH _ _ e
      · rw [Ja, Yas hlx, zgb, List.map_append, List.map_append, List.length_map]
        show some (HO.lst ((_ ++ [V.int _]) ++ jaJ l)) = some (HO.lst ((_ ++ [V.int _]) ++ (casts l).map V.int))
        rw [List.map_map]
        rfl
    · rintro σ H' ⟨⟨v3, rfl⟩, sH, ht'⟩
      rw [hlen, List.take_length] at ht'
      exact ⟨_, rfl, k H' t sH ht ht'⟩
def zer (A : Adr) : Sp := fun vs H Q _ => ∃ (H0 : Hp) (sv : V) (void : List Nat) (es : Nat → V) (s : Sh), vs = [sv] ∧ Jbh A H0 H sv void es s ∧ zcF H (ye9 0 [[s.reg, s.own]]) Q
theorem ZfY (T : Txt K mg A) : Zf P w K mg base CX0 2 A.Zab A.ybm ["sheet"] (zer A) := by
  have Yaj : Zf P w K mg base CX0 1 A.JD A.zab ["number", "rows"] (YaU) := Jbn T
  refine T.zdp.ok jfW (fun vs H Q E h => ?_) (fun cdv B outer s H vs Q E hr h => ?_)
  · obtain ⟨_, _, _, _, _, rfl, _⟩ := h
    rfl
  · obtain ⟨H0, sv, void, es, s, rfl, ⟨sa, dx, vd, st, pl, gv, kvv, ys, rfl, r⟩, k⟩ := h
    obtain ⟨f1, f2, f3, f4, f5, f6⟩ := r.fld T
    refine ⟨_, (jb (yf (zE Yaj (hr.mono (by decide)) (by rfl) T.Jbb T.zaN.kp T.jbb .nil Jh (Za je (Za (yaw (Za (yaw (Za (Jc (K := K) rfl (pv 0) rfl) (Za (Jc (K := K) rfl (pv 0) rfl) yc))) yc)) yc))))), ?_⟩
    refine ⟨_, rfl, f1.rd ⟨_, rfl, f2.rd ⟨(by show 2 ≤ sizeLine; decide), fun r1 h1 => ⟨(by show 1 ≤ sizeLine; decide), fun r2 h2 => ?_⟩⟩⟩⟩
    have s1 := Jd (o := .lst [.int s.reg, .int s.own]) h1
    have s2 := Jd (o := .lst [.ref r1]) h2
    refine ⟨0, r2, _, [[s.reg, s.own]], rfl, Ja, .cons ⟨r1, rfl, s2 _ _ Ja⟩ .nil, (by show (1 : Nat) ≤ 1000; decide), fun l hl => ?_, k.same (s1.trans s2)⟩
    rw [List.mem_singleton.mp hl]
    exact (by decide : 2 ≤ 10)
def zeQ (A : Adr) : Sp := fun vs H Q _ => ∃ (H0 : Hp) (sv : V) (void : List Nat) (evs : List V) (is : List Item) (s : Sh), vs = [sv] ∧ jaX A H0 evs is ∧ Jbh A H0 H sv void (esF evs) s ∧ s.std.length ≤ 100 ∧ zcF H (ye9 (bit (s.acq is false) : Nat) []) Q
theorem ygk (T : Txt K mg A) : Zf P w K mg base CX0 3 A.yan A.zbB ["sheet"] (zeQ A) := by
  have j8 : Zf P w K mg base CX0 2 A.Zn A.YJ ["self", "knows"] (zb7 A) := JaX T
  refine T.ZdV.ok jgh (fun vs H Q E h => ?_) (fun cdv B outer s H vs Q E hr h => ?_)
  · obtain ⟨_, _, _, _, _, _, rfl, _⟩ := h
    rfl
  · obtain ⟨H0, sv, void, evs, is, s, rfl, its, hS, hl, k⟩ := h
    obtain ⟨sa, dx, vd, st, pl, gv, kvv, ys, rfl, r⟩ := id hS
    refine ⟨_, (jb (yf (yaw (Za (yeH (Jby (z9 (pv 0) T.Yn T.yaI j8 (hr.mono (by decide)) T.ZaI .nil Jh (Za je yc))) je je) yc)))), ?_⟩
    refine ⟨_, rfl, sa, dx, _, rfl, r.ob, rfl, H0, _, false, void, evs, is, s, rfl, its, hS, hl, fun H1 s1 => ⟨_, rfl, ?_⟩⟩
    refine br (fun h => ?_) (fun h => ?_)
    · rw [h] at k
      exact ⟨(by show 1 ≤ sizeLine; decide), fun l hl => k _ l (s1.trans (Jd hl)) (s1.free hl) Ja⟩
    · rw [h] at k
      exact ⟨(by show 1 ≤ sizeLine; decide), fun l hl => k _ l (s1.trans (Jd hl)) (s1.free hl) Ja⟩
def ZeQ (A : Adr) : Sp := fun vs H Q _ => ∃ (H0 : Hp) (sv : V) (void : List Nat) (evs : List V) (f : File) (s : Sh) (e am p : Nat), vs = [sv, .int e, .int am] ∧ jaX A H0 evs f.items ∧ Jbh A H0 H sv void (esF evs) s ∧ e ∈ s.std ∧ holder f.items e = some p ∧ ∀ l : Addr, H l = Option.none → Q (.ref l) (upd H l (.lst (jaJ [e, p, am, bit (s.giv.contains e)])))
theorem Ygk (T : Txt K mg A) : Zf P w K mg base CX0 1 A.Zan A.JbA ["sheet", "charge", "amount"] (ZeQ A) := by
  refine T.zdV.ok Ygh (fun vs H Q E h => ?_) (fun cdv B outer s H vs Q E hr h => ?_)
  · obtain ⟨_, _, _, _, _, _, _, _, _, rfl, _⟩ := h
    rfl
  · have hu := zcE hr
    obtain ⟨H0, sv, void, evs, f, s, e, am, p, rfl, its, ⟨sa, dx, vd, st, pl, gv, kvv, ys, rfl, r⟩, he, hp, k⟩ := h
    obtain ⟨f1, f2, f3, f4, f5, f6⟩ := r.fld T
    obtain ⟨x, hx, hpx⟩ := YbY hp
    refine ⟨_, (jb (yf (yaw (Za (pv 1) (Za (Jc (K := K) rfl (Zdo hu (Jc (K := K) rfl (pv 0) rfl) (pv 1) (fun _ _ => rfl)) rfl) (Za (pv 2) (Za (yeH (ye3 (YfB hu (pv 1) (Jc (K := K) rfl (pv 0) rfl))) je je) yc))))))), ?_⟩
    refine ⟨_, rfl, _, rfl, f4.rd ⟨_, rfl, st, esF evs e, rfl, ?_, ((Jas T (its.at hx) hpx).same r.sm).rd ⟨_, rfl, _, rfl, _, rfl, f6.rd ⟨gv, _, rfl, Zbz.k (k := Sum.inl (e : Int)) r.go, _, rfl, ?_⟩⟩⟩⟩
    · have := Zbz.k (H := H) (a := st) (k := Sum.inl (e : Int)) r.so
      rw [jas, if_pos he] at this
      exact this
    · rw [ZaO]
      refine br (fun h => ?_) (fun h => ?_)
      · rw [h] at k
        exact ⟨(by show 4 ≤ sizeLine; decide), k⟩
      · rw [h] at k
        exact ⟨(by show 4 ≤ sizeLine; decide), k⟩
def zhE (f : File) (s : Sh) (p : Pl) : List Nat := [p.entry, creditor f.items p.entry, p.amount, bit (s.giv.contains p.entry)]
theorem ZdC {f : File} {e : Nat} (h : isCharge f.items e = true) : holder f.items e = some (creditor f.items e) := by
  unfold isCharge at h
  unfold holder creditor
  cases hx : f.items[e]? with
  | none => rw [hx] at h; cases h
  | some x =>
    rw [hx] at h
    obtain ⟨d, a, p, w, n⟩ := x
    cases a with
    | charge => rfl
    | _ => cases h
def ydC (A : Adr) : Sp := fun vs H Q _ => ∃ (H0 : Hp) (sv : V) (void : List Nat) (evs : List V) (f : File) (q n : Nat) (s : Sh), vs = [sv] ∧ jaX A H0 evs f.items ∧ Jbh A H0 H sv void (esF evs) s ∧ StOk f q n s ∧ n ≤ 40 ∧ zcF H (ye9 (s.pls.length : Nat) (s.pls.map (zhE f s))) Q
def yb7 (D : Addr) (H : Hp) (v : V) (l : List Nat) : Prop := ∃ a, v = .ref a ∧ a ≠ D ∧ H a = some (.lst (jaJ l))
theorem yb7.upd {D : Addr} {H : Hp} {o : HO} {vs : List V} {ls : List (List Nat)} (h : Paired (yb7 D H) vs ls) : Paired (yb7 D (upd H D o)) vs ls := Paired.Zej h fun _ _ ⟨a, e, n, q⟩ => ⟨a, e, n, by rw [Zc n]; exact q⟩
theorem yb7.same {D : Addr} {H H' : Hp} {vs : List V} {ls : List (List Nat)} (h : Paired (yb7 D H) vs ls) (s : ju H H') : Paired (yb7 D H') vs ls := Paired.Zej h fun _ _ ⟨a, e, n, q⟩ => ⟨a, e, n, s _ _ q⟩
theorem yb7.rows {D : Addr} {H : Hp} {vs : List V} {ls : List (List Nat)} (h : Paired (yb7 D H) vs ls) : Zgk H vs ls := Paired.Zej h fun _ _ ⟨a, e, _, q⟩ => ⟨a, e, q⟩
theorem zfs (T : Txt K mg A) : Zf P w K mg base CX0 2 A.JM A.ZaS ["sheet"] (ydC A) := by
  have Yaj : Zf P w K mg base CX0 1 A.JD A.zab ["number", "rows"] (YaU) := Jbn T
  have ygE : Zf P w K mg base CX0 1 A.Zan A.JbA ["sheet", "charge", "amount"] (ZeQ A) := Ygk T
  refine T.ycC.ok jce (fun vs H Q E h => ?_) (fun cdv B outer s H vs Q E hr h => ?_)
  · obtain ⟨_, _, _, _, _, _, _, _, rfl, _⟩ := h
    rfl
  · obtain ⟨H0, sv, void, evs, f, q, n, s, rfl, its, hS, hO, h40, k⟩ := h
    obtain ⟨sa, dx, vd, st, pl, gv, kvv, ys, rfl, r⟩ := id hS
    obtain ⟨f1, f2, f3, f4, f5, f6⟩ := r.fld T
    have hlen := ycs r.ps
    have hpl := hO.pl
    refine ⟨_, (Yc (jgv (i := 1) rfl jce.nd rfl rfl (JgU rfl rfl rfl rfl) (jaH (K := K) rfl (Jc (K := K) rfl (pv 0) rfl)) (own := [("place", 2)]) (by show ydy ["sheet", "rows", "place"] (za jE) _ [("place", 2)]; exact ⟨rfl, by decide +kernel, by decide +kernel, by decide +kernel, by decide +kernel⟩) (fun _ _ _ _ _ => (zaj (i := 2) jce.nd rfl (by first | exact Or.inl rfl | exact Or.inr rfl))) (fun _ _ _ _ _ => yeI) (fun _ _ _ _ _ => (zE ygE (hr.mono (by decide)) (by rfl) T.zfj T.zdV.kp T.Jfi .nil Jh (Za (pv 0) (Za (Jj (Ye (K := K) rfl) (pv 2) je (fun _ _ => rfl)) (Za (Jj (Ye (K := K) rfl) (pv 2) je (fun _ _ => rfl)) yc)))))) (jb (yf (zE Yaj (hr.mono (by decide)) (by rfl) T.Jbb T.zaN.kp T.jbb .nil Jh (Za (Zu (jx (K := K) rfl) (by rfl) T.JcD PySem.boot_len (Za (pv 1) yc)) (Za (pv 1) yc)))))), ?_⟩
    refine ⟨_, rfl, f5.rd ⟨pl, rfl, ⟨_, SqL.of r.po⟩, fun D hD => zgV (K := K) (a := pl) (xs := ys) (fun j H' => ∃ acc, H' D = some (.lst acc) ∧ ju H H' ∧ Paired (yb7 D H') acc ((s.pls.take j).map (zhE f s))) ⟨[], Ja, Jd hD, .nil⟩ (fun j H' _ ⟨_, _, sH, _⟩ => SqL.of (sH _ _ r.po)) ?_ ?_⟩⟩
    · rintro j v H' hv ⟨acc, hacc, sH, hrows⟩
      obtain ⟨p, hp, b, rfl, hb⟩ := r.ps.get hv
      have hj : j < ys.length := (List.getElem?_eq_some_iff.mp hv).1
      have hb' := sH _ _ hb
      obtain ⟨hpin, hic⟩ := hO.pin p (List.mem_of_getElem? hp)
      show wipe ((wipe _ [2]).set 2 (some (V.ref b))) [2] = wipe _ [2] ∧ _
      refine ⟨by simp [wipe], ?_⟩
      refine ⟨_, rfl, _, rfl, yfq hb' ⟨_, rfl, Jg4 hb' ⟨H0, _, void, evs, f, s, p.entry, p.amount, _, rfl, its, hS.same sH, hpin, ZdC hic, fun l hl => ?_⟩⟩⟩
      have s2 := Jd (o := .lst (jaJ (zhE f s p))) hl
      have nlD : l ≠ D := Ne.symm (yd hacc hl)
      refine ⟨acc, s2 _ _ hacc, ?_, acc ++ [.ref l], Ja, ?_, ?_⟩
      · have := Paired.length hrows
        rw [List.length_map, List.length_take] at this
        exact Nat.lt_of_le_of_lt (show _ ≤ 100 by omega) (by decide)
      · intro c u e
        rw [Zc (yd e hD)]
        exact s2 _ _ (sH _ _ e)
      · rw [Yas hp, List.map_append]
        exact yb7.upd (Paired.snoc (yb7.same hrows s2) ⟨l, rfl, nlD, Ja⟩)
    · rintro H' ⟨acc, hacc, sH, hrows⟩
      rw [hlen, List.take_length] at hrows
      have hal : acc.length = s.pls.length := by
        have := Paired.length hrows
        rw [List.length_map] at this
        exact this
      refine ⟨_, rfl, D, _, rfl, .inl (SqL.of hacc), _, rfl, _, D, acc, _, rfl, hacc, yb7.rows hrows, ?_, ?_, ?_⟩
      · rw [List.length_map]; omega
      · intro l hl
        obtain ⟨p, _, rfl⟩ := List.mem_map.mp hl
        exact (by decide : 4 ≤ 10)
      · rw [hal]
        exact k.same sH
end
end Lr
namespace Lr
open PySem hiding Act
open PySem.Spec
open PyProof.Rows hiding St
open L2
open Sy33 (Act Item File bit noticeOf holder voids plotOf isCharge getsOf creditor total changes)
def jc5 (L : List (Nat × Nat)) (e : Nat) : V := .int (getsOf L e : Nat)
theorem YgE {g g' : Nat → V} {l : List Nat} (h : ∀ e ∈ l, g e = g' e) : zA g l = zA g' l := List.map_congr_left fun e he => by rw [h e he]
theorem yg8 (L : List (Nat × Nat)) (e n : Nat) : putK (zA (jc5 L) (chN L)) (Sum.inl (e : Int)) (.int ((getsOf L e + n : Nat) : Int)) = zA (jc5 (L ++ [(e, n)])) (chN (L ++ [(e, n)])) := by
  have ne : ∀ x, x ≠ e → jc5 L x = jc5 (L ++ [(e, n)]) x := fun x hx => by
    unfold jc5
    rw [je7, if_neg (Ne.symm hx), Nat.add_zero]
  have eq : V.int ((getsOf L e + n : Nat) : Int) = jc5 (L ++ [(e, n)]) e := by
    unfold jc5
    rw [je7, if_pos rfl]
  rw [ydY]
  unfold putK
  rw [Yga]
  by_cases h : e ∈ chN L
  · rw [if_pos (by simpa using h), if_pos (List.contains_iff_mem.mpr h)]
    unfold zA
    rw [List.map_map]
    refine List.map_congr_left fun x _ => ?_
    show (if (Sum.inl (x : Int) : Key) = Sum.inl (e : Int) then (Sum.inl (x : Int), _) else _) = _
    by_cases hx : x = e
    · subst hx
      rw [if_pos rfl, eq]
    · rw [if_neg (key_ne hx), ne x hx]
  · rw [if_neg (by simpa using h), if_neg (fun z => h (List.contains_iff_mem.mp z))]
    have e1 : zA (jc5 L) (chN L) = zA (jc5 (L ++ [(e, n)])) (chN L) := YgE fun x hx => ne x fun z => h (z ▸ hx)
    rw [e1, eq]
    unfold zA
    rw [List.map_append]
    rfl
section
variable {P : Program} {w : World} {K : PySem.W.Frag} {mg : Str → Option Value} {base : Heap} {A : Adr}
def Zgb (K : PySem.W.Frag) : Sp := fun vs H Q _ => ∃ (pl gv : Addr) (ys : List V) (ps : List Pl) (giv : List Nat) (n : Nat), vs = [.ref pl, .ref gv, .int n] ∧ SqL K H pl ys ∧ yag H ys ps ∧ H gv = some (.dK (zA tru giv)) ∧ ps.length ≤ 1000 ∧
  ∀ (H' : Hp) (d : Addr), ju H H' → H d = Option.none → H' d = some (.dK (zA (jc5 (shr giv n ps)) (chN (shr giv n ps)))) → Q (.ref d) H'
theorem Yg8 (T : Txt K mg A) : Zf P w K mg base CX0 1 A.jbl A.Zdc ["places", "given", "amount"] (Zgb K) := by
  refine T.yfF.ok Ycy (fun vs H Q E h => ?_) (fun cdv B outer s H vs Q E hr h => ?_)
  · obtain ⟨_, _, _, _, _, _, rfl, _⟩ := h
    rfl
  · have hu := zcE hr
    obtain ⟨pl, gv, ys, ps, giv, n, rfl, hS, hP, hg, hl, k⟩ := h
    have hlen := ycs hP
    refine ⟨_, (Yc (zac (i := 3) Ycy.nd rfl (by first | exact Or.inl rfl | exact Or.inr rfl) jeI) (Yc (zac (i := 4) Ycy.nd rfl (by first | exact Or.inl rfl | exact Or.inr rfl) (pv 2)) (Yc (jdn PassesOwn.never rfl (jaH (K := K) rfl (pv 0)) (zaj (i := 5) Ycy.nd rfl (by first | exact Or.inl rfl | exact Or.inr rfl)) (Yc (zac (i := 6) Ycy.nd rfl (by first | exact Or.inl rfl | exact Or.inr rfl) (yeH (ye3 (YfB hu (Jj (Ye (K := K) rfl) (pv 5) je (fun _ _ => rfl)) (pv 1))) (Zu (Jf3 rfl) (by rfl) T.jhi Yf6 (Za (pv 4) (Za (Jj (Ye (K := K) rfl) (pv 5) je (fun _ _ => rfl)) yc))) je)) (Yc (Jfx hu (pv 3) (Jj (Ye (K := K) rfl) (pv 5) je (fun _ _ => rfl)) (JeH zgf (Jhe hu (pv 3) (Jj (Ye (K := K) rfl) (pv 5) je (fun _ _ => rfl)) je ⟨rfl, rfl, rfl, rfl⟩) (pv 6)) rfl) (jb (Zhb (i := 4) Ycy.nd rfl (by first | exact Or.inl rfl | exact Or.inr rfl) (pv 6) yhb))))) (jb (yf (pv 3)))))), ?_⟩
    refine fun d hd => ?_
    have s1 := Jd (o := .dK []) hd
    refine ⟨_, rfl, _, rfl, pl, rfl, ⟨_, s1.seq hS⟩, Jcz (K := K) (a := pl) (xs := ys) (fun j σ H' => (∃ v5 v6, σ = [some (.ref pl), some (.ref gv), some (.int n), some (.ref d), some (.int (left giv n (ps.take j) : Nat)), v5, v6]) ∧ ju H H' ∧ H' d = some (.dK (zA (jc5 (shr giv n (ps.take j))) (chN (shr giv n (ps.take j)))))) ⟨⟨_, _, rfl⟩, s1, Ja⟩ (fun j σ H' _ h => h.2.1.seq hS) ?_ ?_⟩
    · rintro j v σ H' hv ⟨⟨v5, v6, rfl⟩, sH, hd'⟩
      obtain ⟨p, hp, b, rfl, hb⟩ := hP.get hv
      have hj : j < ys.length := (List.getElem?_eq_some_iff.mp hv).1
      have hb' := sH _ _ hb
      have hg' := sH _ _ hg
      have sn := yfI giv p (ps.take j) n
      have ln := Je7 giv p (ps.take j) n
      have fin : ∀ part : Nat, part = (if giv.contains p.entry = true then min (left giv n (ps.take j)) p.amount else 0) → left giv n (ps.take (j + 1)) = left giv n (ps.take j) - part ∧ putK (zA (jc5 (shr giv n (ps.take j))) (chN (shr giv n (ps.take j)))) (Sum.inl (p.entry : Int)) (.int ((getsOf (shr giv n (ps.take j)) p.entry + part : Nat) : Int)) = zA (jc5 (shr giv n (ps.take (j + 1)))) (chN (shr giv n (ps.take (j + 1)))) := fun part hpart => by
        rw [Yas hp, sn, ln, ← hpart]
        exact ⟨rfl, yg8 _ _ _⟩
      have gt : ∀ part : Nat, part = (if giv.contains p.entry = true then min (left giv n (ps.take j)) p.amount else 0) → (za1 (zA (jc5 (shr giv n (ps.take j))) (chN (shr giv n (ps.take j)))) (Sum.inl (p.entry : Int))).getD (.int 0) = V.int (getsOf (shr giv n (ps.take j)) p.entry : Nat) := fun part _ => by
        rw [jas]
        by_cases hm : p.entry ∈ chN (shr giv n (ps.take j))
        · rw [if_pos hm]; rfl
        · rw [if_neg hm, yga hm]; rfl
      have cl : (zA (jc5 (shr giv n (ps.take j))) (chN (shr giv n (ps.take j)))).length < sizeLine := by
        rw [Zbd]
        have h1 := jgY (shr giv n (ps.take j))
        have h2 : (shr giv n (ps.take j)).length = (ps.take j).length := by
          have := congrArg List.length (jeO giv (ps.take j) n)
          rw [List.length_map, List.length_map] at this
          exact this
        rw [List.length_take] at h2
        exact Nat.lt_of_le_of_lt (show _ ≤ 1000 by omega) (by decide)
      have tail : ∀ part : Nat, part = (if giv.contains p.entry = true then min (left giv n (ps.take j)) p.amount else 0) → (part : Int) ≤ (left giv n (ps.take j) : Nat) := fun part h => by
        rw [h]
        split <;> omega
      refine ⟨_, rfl, yfq hb' ⟨_, rfl, gv, _, rfl, Zbz.k (k := Sum.inl (p.entry : Int)) hg', _, rfl, ?_⟩⟩
      rw [ZaO]
      refine br (fun h => ?_) (fun h => ?_)
      · refine ⟨_, rfl, _, rfl, Jg4 hb' ⟨_, _, rfl, ?_⟩⟩
        have e1 : (if (p.amount : Int) < ((left giv n (ps.take j) : Nat) : Int) then (p.amount : Int) else ((left giv n (ps.take j) : Nat) : Int)) = ((min (left giv n (ps.take j)) p.amount : Nat) : Int) := by split <;> omega
        rw [e1]
        have hpart : min (left giv n (ps.take j)) p.amount = (if giv.contains p.entry = true then min (left giv n (ps.take j)) p.amount else 0) := by rw [if_pos h]
        generalize min (left giv n (ps.take j)) p.amount = part at *
        obtain ⟨q1, q2⟩ := fin part hpart
        refine ⟨_, rfl, d, rfl, .inl ⟨_, .inl hd'⟩, _, rfl, yfq hb' ⟨_, Zbz.k (k := Sum.inl (p.entry : Int)) hd', ?_⟩⟩
        rw [gt part hpart]
        refine ⟨_, rfl, _, _, rfl, rfl, _, rfl, _, rfl, yfq hb' ⟨d, _, rfl, Ygg.k (k := Sum.inl (p.entry : Int)) hd' cl, ?_⟩⟩
        have e3 : ((left giv n (ps.take j) : Nat) : Int) - (part : Int) = ((left giv n (ps.take (j + 1)) : Nat) : Int) := by
          have := tail part hpart
          rw [q1]
          omega
        have e4 : ((getsOf (shr giv n (ps.take j)) p.entry : Nat) : Int) + (part : Int) = ((getsOf (shr giv n (ps.take j)) p.entry + part : Nat) : Int) := by omega
        refine ⟨_, rfl, _, rfl, _, _, rfl, rfl, ?_⟩
        dsimp only
        rw [e3, e4, q2]
        refine ⟨⟨_, _, rfl⟩, fun c u e => ?_, Ja⟩
        rw [Zc (yd e hd)]
        exact sH _ _ e
      · have hpart : 0 = (if giv.contains p.entry = true then min (left giv n (ps.take j)) p.amount else 0) := by rw [if_neg (by rw [h]; simp)]
        obtain ⟨q1, q2⟩ := fin 0 hpart
        refine ⟨_, rfl, d, rfl, .inl ⟨_, .inl hd'⟩, _, rfl, yfq hb' ⟨_, Zbz.k (k := Sum.inl (p.entry : Int)) hd', ?_⟩⟩
        rw [gt 0 hpart]
        refine ⟨_, rfl, _, _, rfl, rfl, _, rfl, _, rfl, yfq hb' ⟨d, _, rfl, Ygg.k (k := Sum.inl (p.entry : Int)) hd' cl, ?_⟩⟩
        have e3 : ((left giv n (ps.take j) : Nat) : Int) - (0 : Int) = ((left giv n (ps.take (j + 1)) : Nat) : Int) := by
          rw [q1]
          omega
        have e4 : ((getsOf (shr giv n (ps.take j)) p.entry : Nat) : Int) + (0 : Int) = ((getsOf (shr giv n (ps.take j)) p.entry + 0 : Nat) : Int) := by omega
        refine ⟨_, rfl, _, rfl, _, _, rfl, rfl, ?_⟩
        dsimp only
        rw [e3, e4, q2]
        refine ⟨⟨_, _, rfl⟩, fun c u e => ?_, Ja⟩
        rw [Zc (yd e hd)]
        exact sH _ _ e
    · rintro σ H' ⟨⟨v5, v6, rfl⟩, sH, hd'⟩
      rw [hlen, List.take_length] at hd'
      exact ⟨_, rfl, k H' d sH hd hd'⟩
def zhv (f : File) (L : List (Nat × Nat)) (e : Nat) : List Nat := [e, creditor f.items e, getsOf L e]
def yeQ (A : Adr) : Sp := fun vs H Q _ => ∃ (H0 : Hp) (sv : V) (void : List Nat) (evs : List V) (f : File) (q m n : Nat) (s : Sh), vs = [sv, .int n] ∧ jaX A H0 evs f.items ∧ Jbh A H0 H sv void (esF evs) s ∧ StOk f q m s ∧ m ≤ 40 ∧ zcF H (ye9 ((n - total ((shr s.giv n s.pls).map fun x => x.2) : Nat) : Int) ((chN (shr s.giv n s.pls)).map (zhv f (shr s.giv n s.pls)))) Q
theorem Jhm (L : List (Nat × Nat)) : ((chN L).map fun e => ((getsOf L e : Nat) : Int)).sum = ((total (L.map fun x => x.2) : Nat) : Int) := by
  rw [← YgC]
  have := Je6 ((chN L).map (getsOf L)) 0
  unfold total
  rw [this, List.map_map]
  simp [Function.comp_def]
theorem jgk (T : Txt K mg A) : Zf P w K mg base CX0 2 A.Yan A.ZbB ["sheet", "amount"] (yeQ A) := by
  have Yaj : Zf P w K mg base CX0 1 A.JD A.zab ["number", "rows"] (YaU) := Jbn T
  have zhn : Zf P w K mg base CX0 1 A.jbl A.Zdc ["places", "given", "amount"] (Zgb K) := Yg8 T
  refine T.ydV.ok Jcr (fun vs H Q E h => ?_) (fun cdv B outer s H vs Q E hr h => ?_)
  · obtain ⟨_, _, _, _, _, _, _, _, _, rfl, _⟩ := h
    rfl
  · have hu := zcE hr
    obtain ⟨H0, sv, void, evs, f, q, m, n, s, rfl, its, hS, hO, h40, k⟩ := h
    obtain ⟨sa, dx, vd, st, pl, gv, kvv, ys, rfl, r⟩ := id hS
    obtain ⟨f1, f2, f3, f4, f5, f6⟩ := r.fld T
    have hpl := hO.pl
    refine ⟨_, (Yc (zac (i := 2) Jcr.nd rfl (by first | exact Or.inl rfl | exact Or.inr rfl) (zE zhn (hr.mono (by decide)) (by rfl) T.zgy T.yfF.kp T.Jgx .nil Jh (Za (Jc (K := K) rfl (pv 0) rfl) (Za (Jc (K := K) rfl (pv 0) rfl) (Za (pv 1) yc))))) (Yc (ZgV (jgv (i := 3) rfl Jcr.nd rfl rfl (JgU rfl rfl rfl rfl) (Zhs (pv 2)) (own := [("charge", 4)]) (by show ydy ["sheet", "amount", "parts", "rows", "charge"] (za Zac) _ [("charge", 4)]; exact ⟨rfl, by decide +kernel, by decide +kernel, by decide +kernel, by decide +kernel⟩) (fun _ _ _ _ _ => (zaj (i := 4) Jcr.nd rfl (by first | exact Or.inl rfl | exact Or.inr rfl))) (fun _ _ _ _ _ => yeI) (fun _ _ _ _ _ => (yaw (Za (pv 4) (Za (Jc (K := K) rfl (Zdo hu (Jc (K := K) rfl (pv 0) rfl) (pv 4) (fun _ _ => rfl)) rfl) (Za (Zdo hu (pv 2) (pv 4) (fun _ _ => rfl)) yc))))))) (jb (yf (zE Yaj (hr.mono (by decide)) (by rfl) T.Jbb T.zaN.kp T.jbb .nil Jh (Za (JeH ZgK (pv 1) (Zht rfl (by rfl) T.Jhi (pv 2))) (Za (pv 3) yc))))))), ?_⟩
    refine ⟨_, rfl, f5.rd ⟨_, rfl, f6.rd ⟨_, rfl, pl, gv, ys, s.pls, s.giv, n, rfl, SqL.of r.po, r.ps, r.go, by omega, fun H1 d s1 hd hd1 => ?_⟩⟩⟩
    generalize hL : shr s.giv n s.pls = L at *
    have cin : ∀ e ∈ chN L, e ∈ s.std ∧ isCharge f.items e = true := fun e he => by
      obtain ⟨p, hp, e1⟩ := (YgY L e).mp he
      have : e ∈ s.pls.map fun p => p.entry := by
        rw [← jeO s.giv s.pls n, hL]
        exact List.mem_map.mpr ⟨p, hp, e1⟩
      obtain ⟨pp, hpp, e2⟩ := List.mem_map.mp this
      rw [← e2]
      exact hO.pin pp hpp
    have clen : (chN L).length ≤ 40 := by
      have h1 := jgY L
      have h2 : L.length = s.pls.length := by
        have := congrArg List.length (jeO s.giv s.pls n)
        rw [List.length_map, List.length_map, hL] at this
        exact this
      omega
    have r1 := r.same s1
    refine ⟨d, _, hd1, (by trivial), fun od => ?_⟩
    generalize hHL : upd H1 d (.frz od (.dK (zA (jc5 L) (chN L)))) = HL
    have hdL : HL d = some (.frz od (.dK (zA (jc5 L) (chN L)))) := by rw [← hHL]; exact Ja
    have sHL : ju H HL := fun c u e => by rw [← hHL, Zc (yd e hd)]; exact s1 _ _ e
    refine ⟨_, rfl, d, od, rfl, .inl ⟨_, hdL, fun D hD => jhk (chN L).length (fun j H' => ∃ acc, H' D = some (.lst acc) ∧ ju HL H' ∧ Paired (yb7 D H') acc (((chN L).take j).map (zhv f L))) ⟨[], Ja, Jd hD, .nil⟩ ?_ ?_ ?_ ?_⟩⟩
    · rintro j H' hj ⟨acc, hacc, sH, _⟩
      exact ⟨sH _ _ hdL, by rw [Zbd]; exact hj⟩
    · rintro H' ⟨acc, hacc, sH, _⟩
      exact ⟨sH _ _ hdL, by rw [Zbd]; exact Nat.le_refl _⟩
    · rintro j x H' H'' hj ⟨acc, hacc, sH, hrows⟩ ⟨rfl, k1, v1, hk1, rfl⟩
      obtain ⟨e, he⟩ : ∃ e, (chN L)[j]? = some e := ⟨(chN L)[j], List.getElem?_eq_getElem hj⟩
      have e1 : k1 = Sum.inl (e : Int) := by
        unfold zA at hk1
        rw [List.getElem?_map, he] at hk1
        exact (congrArg Prod.fst (Option.some.inj hk1)).symm
      subst e1
      have hem : e ∈ chN L := List.mem_of_getElem? he
      obtain ⟨hstd, hic⟩ := cin e hem
      have r2 := r.same (sHL.trans sH)
      obtain ⟨g1, g2, g3, g4, g5, g6⟩ := r2.fld T
      obtain ⟨x, hx, hpx⟩ := YbY (ZdC hic)
      show wipe ((wipe _ [4]).set 4 (some (V.int (e : Int)))) [4] = wipe _ [4] ∧ _
      refine ⟨by simp [wipe], ?_⟩
      refine ⟨_, rfl, _, rfl, g4.rd ⟨_, rfl, st, esF evs e, rfl, ?_, ((Jas T (its.at hx) hpx).same r2.sm).rd ⟨_, rfl, _, rfl, d, jc5 L e, rfl, ?_, (by show 3 ≤ sizeLine; decide), fun l hl => ?_⟩⟩⟩
      · have := Zbz.k (H := H'') (a := st) (k := Sum.inl (e : Int)) r2.so
        rw [jas, if_pos hstd] at this
        exact this
      · have : Zbz H'' d (kV (Sum.inl (e : Int))) (za1 (zA (jc5 L) (chN L)) (Sum.inl (e : Int))) := .inl ⟨_, _, .inr ⟨od, sH _ _ hdL⟩, rfl, rfl⟩
        rw [jas, if_pos hem] at this
        exact this
      have s2 := Jd (o := .lst (jaJ (zhv f L e))) hl
      have nlD : l ≠ D := Ne.symm (yd hacc hl)
      refine ⟨acc, s2 _ _ hacc, ?_, acc ++ [.ref l], Ja, ?_, ?_⟩
      · have := Paired.length hrows
        rw [List.length_map, List.length_take] at this
        exact Nat.lt_of_le_of_lt (show _ ≤ 100 by omega) (by decide)
      · intro c u e
        rw [Zc (yd e hD)]
        exact s2 _ _ (sH _ _ e)
      · rw [Yas he, List.map_append]
        exact yb7.upd (Paired.snoc (yb7.same hrows s2) ⟨l, rfl, nlD, Ja⟩)
    · rintro H' ⟨acc, hacc, sH, hrows⟩
      rw [List.take_length] at hrows
      have nDd : D ≠ d := by
        intro z
        subst z
        rw [hdL] at hD
        cases hD
      have sF : ju H (upd H' d (.dK (zA (jc5 L) (chN L)))) := fun c u e => by
        rw [Zc (yd e hd)]
        exact sH _ _ (sHL _ _ e)
      have rowsF : Zgk (upd H' d (.dK (zA (jc5 L) (chN L)))) acc ((chN L).map (zhv f L)) := Paired.Zej hrows fun _ _ ⟨a, e, _, qq⟩ => ⟨a, e, by
        rw [Zc (yaR qq (sH _ _ hdL) (by intro z; cases z))]
        exact qq⟩
      refine ⟨sH _ _ hdL, ?_⟩
      refine ⟨_, rfl, _, rfl, d, _, (chN L).map (fun e => ((getsOf L e : Nat) : Int)), rfl, Ja, ?_, _, _, rfl, rfl, _, rfl, _, D, acc, _, rfl, ?_, rowsF, ?_, ?_, ?_⟩
      · unfold zA
        rw [List.map_map, List.map_map]
        rfl
      · rw [Zc nDd]; exact hacc
      · rw [List.length_map]; omega
      · intro l hl
        obtain ⟨p, _, rfl⟩ := List.mem_map.mp hl
        exact (by decide : 3 ≤ 10)
      · have hle := jhD s.giv s.pls n
        rw [hL] at hle
        rw [Jhm, show (n : Int) - ((total (L.map fun x => x.2) : Nat) : Int) = ((n - total (L.map fun x => x.2) : Nat) : Int) by omega]
        exact k.same sF
end
end Lr
namespace Lr
open PySem hiding Act
open PySem.Spec
open PyProof.Rows hiding St
open L2
open Sy33 (Act Item File bit noticeOf holder voids plotOf isCharge getsOf creditor total changes)
def Zer (b : Option (List Nat)) (l : List (List Nat)) : Option (List Nat) := match l.getLast? with
  | none => b
  | some r => some (r.drop 1)
theorem JfK (x : List Nat) : ∀ (l : List (List Nat)) (b : Option (List Nat)), changes b (l ++ [x]) = changes b l ++ (if Zer b (changes b l) = some (x.drop 1) then [] else [x])
  | [], b => by
    show changes b [x] = _
    rw [changes, changes, changes]
    rfl
  | y :: l, b => by
    show changes b (y :: (l ++ [x])) = _
    rw [changes, changes]
    by_cases h : b = some (y.drop 1)
    · rw [if_pos h, if_pos h]
      exact JfK x l b
    · rw [if_neg h, if_neg h, JfK x l, List.cons_append]
      have e : Zer (some (y.drop 1)) (changes (some (y.drop 1)) l) = Zer b (y :: changes (some (y.drop 1)) l) := by
        unfold Zer
        cases changes (some (y.drop 1)) l with
        | nil => rfl
        | cons z r => rw [List.getLast?_cons_cons]; rw [List.getLast?_eq_some_getLast (List.cons_ne_nil z r)]
      rw [e]
section
variable {P : Program} {w : World} {K : PySem.W.Frag} {mg : Str → Option Value} {base : Heap} {A : Adr}
def jgE (f : File) (e : Nat) : List Nat := [e, bit ((noticeOf f.items e).isSome), (holder f.items e).getD 0]
def ZdZ (A : Adr) : Sp := fun vs H Q _ => ∃ (H0 : Hp) (sv : V) (void : List Nat) (evs : List V) (f : File) (q n : Nat) (s : Sh), vs = [sv] ∧ jaX A H0 evs f.items ∧ Jbh A H0 H sv void (esF evs) s ∧ StOk f q n s ∧ n ≤ 40 ∧ zcF H (ye9 ((s.std.filter fun e => !isCharge f.items e).length : Nat) ((s.std.filter fun e => !isCharge f.items e).map (jgE f))) Q
theorem zfL (T : Txt K mg A) : Zf P w K mg base CX0 2 A.zT A.Ya1 ["sheet"] (ZdZ A) := by
  have Yaj : Zf P w K mg base CX0 1 A.JD A.zab ["number", "rows"] (YaU) := Jbn T
  refine T.jc4.ok ybz (fun vs H Q E h => ?_) (fun cdv B outer s H vs Q E hr h => ?_)
  · obtain ⟨_, _, _, _, _, _, _, _, rfl, _⟩ := h
    rfl
  · obtain ⟨H0, sv, void, evs, f, q, n, s, rfl, its, hS, hO, h40, k⟩ := h
    obtain ⟨sa, dx, vd, st, pl, gv, kvv, ys, rfl, r⟩ := id hS
    have hl := hO.len
    refine ⟨_, (Yc (zac (i := 1) ybz.nd rfl (by first | exact Or.inl rfl | exact Or.inr rfl) (yaw yc)) (Yc (ZgV (jdn PassesOwn.never rfl (Zhf (Jc (K := K) rfl (pv 0) rfl)) (zhb rfl (YeH (zaj (i := 2) ybz.nd rfl (by first | exact Or.inl rfl | exact Or.inr rfl)) (YeH (zaj (i := 3) ybz.nd rfl (by first | exact Or.inl rfl | exact Or.inr rfl)) YgT))) (jb (yO (ydn (Jby (Zu (YbU (K := K) rfl) (by rfl) T.yW zB (Za (pv 3) (Za (jg (v := .ref A.jc) (by rfl) T.zb4 rfl) yc))))) (jb (jD (Zen PySem.F.plainAttrs_list PySem.F.slot_list_append PySem.F.type_list_append ybU (pv 1) (Za (yaw (Za (pv 2) (Za (yeH (Jby (Zu (YbU (K := K) rfl) (by rfl) T.yW zB (Za (pv 3) (Za (jg (v := .ref A.Zd) (by rfl) T.YcC rfl) yc)))) je je) (Za (Jc (K := K) rfl (pv 3) rfl) yc)))) yc)))) Zo)))) (jb (yf (zE Yaj (hr.mono (by decide)) (by rfl) T.Jbb T.zaN.kp T.jbb .nil Jh (Za (Zu (jx (K := K) rfl) (by rfl) T.JcD PySem.boot_len (Za (pv 1) yc)) (Za (pv 1) yc))))))), ?_⟩
    refine ⟨Nat.zero_le _, fun rl hrl => ?_⟩
    have s1 := Jd (o := .lst []) hrl
    refine ⟨st, _, s1 _ _ r.so, (by trivial), fun od => ?_⟩
    have nrs : rl ≠ st := Ne.symm (yd r.so hrl)
    have nas : sa ≠ st := yaR r.ob r.so (by intro z; cases z)
    generalize hHb : upd H st (.frz od (.dK (zA (esF evs) s.std))) = Hb
    have hbst : Hb st = some (.frz od (.dK (zA (esF evs) s.std))) := by rw [← hHb]; exact Ja
    have hbrl : Hb rl = Option.none := by rw [← hHb, Zc nrs]; exact hrl
    have hbsa : Hb sa = some (.ins A.Jk dx (Jg7 s vd st pl gv)) := by rw [← hHb, Zc nas]; exact r.ob
    have s0b : ju H0 Hb := by rw [← hHb]; exact r.sm.zH r.fst
    generalize hH1 : upd (upd H rl (.lst [])) st (.frz od (.dK (zA (esF evs) s.std))) = H1
    have h1rl : H1 rl = some (.lst []) := by rw [← hH1, Zc nrs]; exact Ja
    have sb1 : ju Hb H1 := fun c u e => by
      rw [← hH1]
      rw [← hHb] at e
      by_cases hc : c = st
      · subst hc
        rw [Ja] at e ⊢
        exact e
      · rw [Zc hc] at e ⊢
        rw [Zc (yd e hrl)]
        exact e
    refine ⟨_, rfl, Fld.rd (u := .ref st) ⟨sa, _, dx, _, rfl, sb1 _ _ hbsa, T.Yn, T.YH, rfl⟩ ⟨st, od, _, rfl, sb1 _ _ hbst, JgY s.std.length (fun j σ H' => (∃ v2 v3, σ = [some (.ref sa), some (.ref rl), v2, v3]) ∧ ∃ acc, H' rl = some (.lst acc) ∧ ju Hb H' ∧ Paired (yb7 rl H') acc (((s.std.take j).filter fun e => !isCharge f.items e).map (jgE f))) ⟨⟨_, _, rfl⟩, [], h1rl, sb1, .nil⟩ ?_ ?_ ?_ ?_⟩⟩
    · rintro j σ H' hj ⟨_, acc, hacc, sH, _⟩
      exact ⟨sH _ _ hbst, by rw [Zbd]; exact hj⟩
    · rintro σ H' ⟨_, acc, hacc, sH, _⟩
      exact ⟨sH _ _ hbst, by rw [Zbd]; exact Nat.le_refl _⟩
    · rintro j v σ H' H'' hj ⟨⟨v2, v3, rfl⟩, acc, hacc, sH, hrows⟩ ⟨tp, k1, v1, hk1, rfl, htp, rfl⟩
      obtain ⟨e, he⟩ : ∃ e, s.std[j]? = some e := ⟨s.std[j], List.getElem?_eq_getElem hj⟩
      have e1 : k1 = Sum.inl (e : Int) ∧ v1 = esF evs e := by
        unfold zA at hk1
        rw [List.getElem?_map, he] at hk1
        exact ⟨(congrArg Prod.fst (Option.some.inj hk1)).symm, (congrArg Prod.snd (Option.some.inj hk1)).symm⟩
      obtain ⟨rfl, rfl⟩ := e1
      have hem : e ∈ s.std := List.mem_of_getElem? he
      have s2 := Jd (o := .tup [kV (Sum.inl (e : Int)), esF evs e]) htp
      have sHt := sH.trans s2
      have hacc2 := s2 _ _ hacc
      obtain ⟨p, hp⟩ := Option.isSome_iff_exists.mp (hO.hd e hem).1
      obtain ⟨x, hx, hpx⟩ := YbY hp
      have itsT := its.same (s0b.trans sHt)
      have fp := Jas T (itsT.at hx) hpx
      obtain ⟨t, ty, kd⟩ := Jb6 T itsT e
      have hlen : acc.length ≤ 40 := by
        have h1 := Paired.length hrows
        have h2 := List.length_filter_le (fun e => !isCharge f.items e) (s.std.take j)
        rw [List.length_map] at h1
        rw [List.length_take] at h2
        omega
      refine ⟨tp, _, rfl, SqT.of Ja, rfl, _, _, rfl, _, _, rfl, rfl, ?_⟩
      refine ⟨_, rfl, _, _, t, _, rfl, ty, kd.c, _, rfl, ?_⟩
      refine br (fun h => ?_) (fun h => ?_)
      · have hic : isCharge f.items e = false := by rw [JcE]; simpa using h
        have erow : jgE f e = [e, bit (kN (Yag f.items e)), p] := by
          unfold jgE
          rw [ZfJ, hp]
          rfl
        have fin : ∀ (l : Addr), (upd H' tp (.tup [kV (Sum.inl (e : Int)), esF evs e])) l = Option.none → ∀ zs : List V, zs = jaJ (jgE f e) → (∃ v2 v3, [some (V.ref sa), some (V.ref rl), some (kV (Sum.inl (e : Int))), some (esF evs e)] = [some (V.ref sa), some (V.ref rl), v2, v3]) ∧ ∃ acc', (upd (upd (upd H' tp (.tup [kV (Sum.inl (e : Int)), esF evs e])) l (.lst zs)) rl (.lst (acc ++ [.ref l]))) rl = some (.lst acc') ∧ ju Hb (upd (upd (upd H' tp (.tup [kV (Sum.inl (e : Int)), esF evs e])) l (.lst zs)) rl (.lst (acc ++ [.ref l]))) ∧ Paired (yb7 rl (upd (upd (upd H' tp (.tup [kV (Sum.inl (e : Int)), esF evs e])) l (.lst zs)) rl (.lst (acc ++ [.ref l])))) acc' (((s.std.take (j + 1)).filter fun e => !isCharge f.items e).map (jgE f)) := fun l hl zs hz => by
          subst hz
          have s3 := Jd (o := .lst (jaJ (jgE f e))) hl
          have nlr : l ≠ rl := Ne.symm (yd hacc2 hl)
          refine ⟨⟨_, _, rfl⟩, acc ++ [.ref l], Ja, fun c u e => ?_, ?_⟩
          · rw [Zc (yd e hbrl)]
            exact s3 _ _ (sHt _ _ e)
          · rw [Yas he, List.filter_append, List.map_append]
            have e2 : ([e].filter fun e => !isCharge f.items e) = [e] := by
              rw [List.filter_cons, hic]
              rfl
            rw [e2]
            exact yb7.upd (Paired.snoc (yb7.same hrows (s2.trans s3)) ⟨l, rfl, nlr, Ja⟩)
        rw [erow] at fin
        refine ⟨_, rfl, .inl ⟨rfl, _, SqL.of hacc2⟩, _, rfl, _, rfl, _, _, t, _, rfl, ty, kd.n, _, rfl, ?_⟩
        refine br (fun h2 => ?_) (fun h2 => ?_)
        · rw [h2] at fin
          exact ⟨_, rfl, fp.rd ⟨(by show 3 ≤ sizeLine; decide), fun l hl => ⟨rl, acc, _, rfl, rfl, Jd hl _ _ hacc2, Nat.lt_of_le_of_lt (show _ ≤ 100 by omega) (by decide), fin l hl _ rfl⟩⟩⟩
        · rw [h2] at fin
          exact ⟨_, rfl, fp.rd ⟨(by show 3 ≤ sizeLine; decide), fun l hl => ⟨rl, acc, _, rfl, rfl, Jd hl _ _ hacc2, Nat.lt_of_le_of_lt (show _ ≤ 100 by omega) (by decide), fin l hl _ rfl⟩⟩⟩
      · have hic : isCharge f.items e = true := by rw [JcE]; simpa using h
        refine ⟨⟨_, _, rfl⟩, acc, hacc2, sHt, ?_⟩
        rw [Yas he, List.filter_append, List.map_append]
        have e2 : ([e].filter fun e => !isCharge f.items e) = [] := by
          rw [List.filter_cons, hic]
          rfl
        rw [e2, List.map_nil, List.append_nil]
        exact yb7.same hrows s2
    · rintro σ H' ⟨⟨v2, v3, rfl⟩, acc, hacc, sH, hrows⟩
      rw [List.take_length] at hrows
      have sF : ju H (upd H' st (.dK (zA (esF evs) s.std))) := fun c u e => by
        by_cases hc : c = st
        · subst hc
          rw [Ja]
          rw [r.so] at e
          exact e
        · rw [Zc hc]
          refine sH _ _ ?_
          rw [← hHb, Zc hc]
          exact e
      have haccF : upd H' st (.dK (zA (esF evs) s.std)) rl = some (.lst acc) := by rw [Zc nrs]; exact hacc
      have rowsF : Zgk (upd H' st (.dK (zA (esF evs) s.std))) acc ((s.std.filter fun e => !isCharge f.items e).map (jgE f)) := Paired.Zej hrows fun _ _ ⟨a, e, _, qq⟩ => ⟨a, e, by
        rw [Zc (yaR qq (sH _ _ hbst) (by intro z; cases z))]
        exact qq⟩
      have hal : acc.length = (s.std.filter fun e => !isCharge f.items e).length := by
        have := Paired.length hrows
        rw [List.length_map] at this
        exact this
      have hfl := List.length_filter_le (fun e => !isCharge f.items e) s.std
      refine ⟨sH _ _ hbst, ?_⟩
      refine ⟨_, rfl, rl, _, rfl, .inl (SqL.of haccF), _, rfl, _, rl, acc, _, rfl, haccF, rowsF, ?_, ?_, ?_⟩
      · rw [List.length_map]; omega
      · intro l hl
        obtain ⟨p, _, rfl⟩ := List.mem_map.mp hl
        exact (by decide : 3 ≤ 10)
      · rw [hal]
        exact k.same sF
end
end Lr
namespace Lr
open PySem hiding Act
open PySem.Spec
open PyProof.Rows hiding St
open L2
open Sy33 (Act Item File bit noticeOf holder voids plotOf isCharge getsOf creditor total changes)
def Zhn (H : Hp) (v : V) : V := match v with
  | .ref a => (match H a with
    | some (.ins _ _ fs) => (fs.lookup ("day" : Str)).getD .non
    | _ => .non)
  | _ => .non
theorem jgZ {K : PySem.W.Frag} {H : Hp} {v : V} {d : Nat} (h : Fld K H v "day" (.int d)) : Zhn H v = .int d := by
  obtain ⟨a, C, dx, fs, rfl, e, _, _, l⟩ := h
  simp only [Zhn, e, l, Option.getD_some]
theorem Zhv (f : File) (q k d : Nat) : (prs f q k d).length = 2 := rfl
theorem YeQ (f : File) (q k : Nat) : ∀ (l : List Nat) (b : Option (List Nat)) (r : List Nat), r ∈ changes b (l.map fun d => d :: prs f q k d) → ∃ d, r = d :: prs f q k d
  | [], _, _, h => by cases h
  | x :: l, b, r, h => by
    rw [zbd] at h
    split at h
    · exact YeQ f q k l b r h
    · rcases List.mem_cons.mp h with e | h
      · exact ⟨x, e⟩
      · exact YeQ f q k l _ r h
theorem Jfy (b : Option (List Nat)) : ∀ (l : List (List Nat)), ∀ b, (changes b l).length ≤ l.length
  | [], _ => Nat.le_refl _
  | x :: l, b => by
    rw [changes]
    split
    · exact Nat.le_succ_of_le (Jfy b l b)
    · exact Nat.succ_le_succ (Jfy b l _)
section
variable {P : Program} {w : World} {K : PySem.W.Frag} {mg : Str → Option Value} {base : Heap} {A : Adr}
def jaz (f : File) : List Nat := 0 :: f.items.map fun x => x.day
def Yek (f : File) (q k : Nat) (l : List Nat) : List (List Nat) := changes none (l.map fun d => d :: prs f q k d)
def jeQ (A : Adr) : Sp := fun vs H Q _ => ∃ (b : Addr) (f : File) (dx oa ea : Addr) (es : List V) (q k : Nat), vs = [.ref b, .int q, .int k] ∧ BkR A H b f dx oa ea es ∧ WF f ∧ AB f ∧ q < f.owners.length ∧ zcF H (ye9 ((Yek f q k (jaz f)).length : Nat) (Yek f q k (jaz f))) Q
theorem Jgk (T : Txt K mg A) : Zf P w K mg base CX0 6 A.jan A.ybB ["book", "plot", "known"] (jeQ A) := by
  have Yaj : Zf P w K mg base CX0 1 A.JD A.zab ["number", "rows"] (YaU) := Jbn T
  have Jax : Zf P w K mg base CX0 5 A.zu A.Z5 ["self", "plot", "day", "known"] (YcT A) := YbV T
  refine T.YdV.ok ZaM (fun vs H Q E h => ?_) (fun cdv B outer s H vs Q E hr h => ?_)
  · obtain ⟨_, _, _, _, _, _, _, _, rfl, _⟩ := h
    rfl
  · obtain ⟨b, f, dx, oa, ea, es, q, k, rfl, hB, hW, hA, hq, kk⟩ := h
    have hlen := Zef hB.its
    have h40 := hW.n
    refine ⟨_, (Yc (zac (i := 3) ZaM.nd rfl (by first | exact Or.inl rfl | exact Or.inr rfl) (yaw yc)) (Yc (jdn PassesOwn.never rfl (jaH (K := K) rfl (JeH jhd (yaw (Za je yc)) (zf5 rfl ZaM.nd (jaH (K := K) rfl (Jc (K := K) rfl (pv 0) rfl)) (own := [("entry", 5)]) (by show ydy ["book", "plot", "known", "rows", "day", "entry", "sheet", "persons"] (za yac) _ [("entry", 5)]; exact ⟨rfl, by decide +kernel, by decide +kernel, by decide +kernel, by decide +kernel⟩) (fun _ _ _ _ _ => (zaj (i := 5) ZaM.nd rfl (by first | exact Or.inl rfl | exact Or.inr rfl))) (fun _ _ _ _ _ => yeI) (fun _ _ _ _ _ => (Jc (K := K) rfl (pv 5) rfl))))) (zaj (i := 4) ZaM.nd rfl (by first | exact Or.inl rfl | exact Or.inr rfl)) (Yc (zac (i := 6) ZaM.nd rfl (by first | exact Or.inl rfl | exact Or.inr rfl) (z9 (pv 0) T.Yab T.jaS Jax (hr.mono (by decide)) T.yaS .nil Jh (Za (pv 1) (Za (pv 4) (Za (pv 2) yc))))) (Yc (zac (i := 7) ZaM.nd rfl (by first | exact Or.inl rfl | exact Or.inr rfl) (yaw (Za (Jc (K := K) rfl (pv 6) rfl) (Za (Jc (K := K) rfl (pv 6) rfl) yc)))) (jb (yO (PW.pt (pw_or (Yq YaL (Zu (jx (K := K) rfl) (by rfl) T.JcD PySem.boot_len (Za (pv 3) yc)) je (jm _)) (pw_or1 (Yq (yht (K := K) rfl (Yht hr)) (JfA (zfD (K := K) rfl) (Jj (Ye (K := K) rfl) (pv 3) (zhx zhc je) (fun _ _ => rfl)) (Yfx je) YgU) (pv 7) (jm _))))) (jb (jD (Zen PySem.F.plainAttrs_list PySem.F.slot_list_append PySem.F.type_list_append ybU (pv 3) (Za (JeH jhd (yaw (Za (pv 4) yc)) (pv 7)) yc)))) Zo))))) (jb (yf (zE Yaj (hr.mono (by decide)) (by rfl) T.Jbb T.zaN.kp T.jbb .nil Jh (Za (Zu (jx (K := K) rfl) (by rfl) T.JcD PySem.boot_len (Za (pv 3) yc)) (Za (pv 3) yc))))))), ?_⟩
    refine ⟨Nat.zero_le _, fun rl hrl => ?_⟩
    have s1 := Jd (o := .lst []) hrl
    refine ⟨(by show 1 ≤ sizeLine; decide), fun l1 hl1 => ?_⟩
    have s2 := Jd (o := .lst [.int 0]) hl1
    have hB2 := hB.same (s1.trans s2)
    obtain ⟨f1, f2, f3⟩ := hB2.fld T
    generalize hH2 : upd (upd H rl (.lst [])) l1 (.lst [.int 0]) = H2 at *
    have h2l1 : H2 l1 = some (.lst [.int 0]) := by rw [← hH2]; exact Ja
    have h2rl : H2 rl = some (.lst []) := s2 _ _ Ja
    refine ⟨_, rfl, f3.rd ⟨ea, rfl, ⟨_, SqL.of hB2.eo⟩, fun D hD => YeN (K := K) (a := ea) (xs := es) (fun _ => true) (Zhn H2) (SqL.of hB2.eo) hD (YgX (by omega)) ?_ ?_ ?_⟩⟩
    · intro x acc R hx z
      exact z
    · intro x acc R hx _ z
      obtain ⟨i, hi⟩ := List.getElem?_of_mem hx
      obtain ⟨it, hit, r⟩ := Paired.get hB2.its hi
      have fd := zdq T r
      rw [jgZ fd] at z
      exact ⟨_, rfl, (fd.same (Jd hD)).rd z⟩
    have edays : List.map (Zhn H2) (List.filter (fun _ => true) es) = jaJ (f.items.map fun x => x.day) := by
      rw [List.filter_eq_self.mpr (fun _ _ => rfl)]
      have : ∀ {xs : List V} {is : List Item}, jaX A H2 xs is → xs.map (Zhn H2) = jaJ (is.map fun x => x.day) := by
        intro xs is h
        induction h with
        | nil => rfl
        | cons r t ih =>
          show _ :: _ = _ :: _
          rw [ih, jgZ (zdq T r)]
      exact this hB2.its
    rw [edays]
    have s3 := Jd (o := .lst (jaJ (f.items.map fun x => x.day))) hD
    refine ⟨l1, D, _, _, rfl, rfl, s3 _ _ h2l1, Ja, ?_, fun p hp => ?_⟩
    · rw [List.length_map, List.length_map]
      exact Nat.le_trans (show _ ≤ 100 by show 1 + f.items.length ≤ 100; omega) (by decide)
    have edl : [V.int 0] ++ jaJ (f.items.map fun x => x.day) = jaJ (jaz f) := rfl
    rw [edl]
    have s4 := Jd (o := .lst (jaJ (jaz f))) hp
    have hpH : H p = Option.none := ((s1.trans s2).trans s3).free hp
    have hprl : p ≠ rl := Ne.symm (yd (s3 _ _ h2rl) hp)
    generalize hHb : upd H p (.lst (jaJ (jaz f))) = Hb
    have hbp : Hb p = some (.lst (jaJ (jaz f))) := by rw [← hHb]; exact Ja
    have hbrl : Hb rl = Option.none := by rw [← hHb, Zc (Ne.symm hprl)]; exact hrl
    have sHb : ju H Hb := by rw [← hHb]; exact Jd hpH
    have s0 : ju Hb (upd (upd H2 D (.lst (jaJ (f.items.map fun x => x.day)))) p (.lst (jaJ (jaz f)))) := fun c u e => by
      by_cases hc : c = p
      · subst hc
        rw [hbp] at e
        rw [Ja]
        exact e
      · rw [← hHb, Zc hc] at e
        exact s4 _ _ (s3 _ _ ((s1.trans s2) _ _ e))
    refine ⟨p, rfl, ⟨_, SqL.of Ja⟩, Jcz (K := K) (a := p) (xs := jaJ (jaz f)) (fun j σ H' => (∃ v4 v5 v6 v7, σ = [some (.ref b), some (.int q), some (.int k), some (.ref rl), v4, v5, v6, v7]) ∧ ∃ acc, H' rl = some (.lst acc) ∧ ju Hb H' ∧ Paired (yb7 rl H') acc (Yek f q k ((jaz f).take j))) ⟨⟨_, _, _, _, rfl⟩, [], s4 _ _ (s3 _ _ h2rl), s0, .nil⟩ (fun j σ H' _ h => ?_) ?_ ?_⟩
    · obtain ⟨_, acc, _, sH, _⟩ := h
      exact SqL.of (sH _ _ hbp)
    · rintro j v σ H' hv ⟨⟨v4, v5, v6, v7, rfl⟩, acc, hacc, sH, hrows⟩
      rw [List.getElem?_map] at hv
      obtain ⟨d, hd, e1⟩ := Option.map_eq_some_iff.mp hv
      subst e1
      have hB' := hB.same (sHb.trans sH)
      have hdl : (jaz f).length = f.items.length + 1 := by unfold jaz; rw [List.length_cons, List.length_map]
      have hal : acc.length ≤ 41 := by
        have h1 := Paired.length hrows
        have h2 := Jfy none (((jaz f).take j).map fun d => d :: prs f q k d) none
        rw [List.length_map, List.length_take] at h2
        have h3 : (Yek f q k ((jaz f).take j)).length ≤ min j (jaz f).length := h2
        omega
      refine ⟨_, rfl, b, dx, _, rfl, hB'.ob, rfl, _, rfl, _, rfl, _, rfl, b, f, dx, oa, ea, es, q, d, k, rfl, hB', hW, hA, hq, fun H1 sv hS => ?_⟩
      obtain ⟨sa, sdx, vd, st, pl, gv, kvv, ys, rfl, r⟩ := hS
      obtain ⟨g1, g2, g3, g4, g5, g6⟩ := r.fld T
      have t1 := r.sm
      refine ⟨_, rfl, g1.rd ⟨_, rfl, g2.rd ⟨(by show 2 ≤ sizeLine; decide), fun pp hpp => ?_⟩⟩⟩
      have t2 := Jd (o := .lst [.int ((yaj f q d k).reg : Nat), .int ((yaj f q d k).own : Nat)]) hpp
      have t12 := t1.trans t2
      generalize hHp : upd H1 pp (.lst [.int ((yaj f q d k).reg : Nat), .int ((yaj f q d k).own : Nat)]) = Hp2 at *
      have hpp2 : Hp2 pp = some (.lst (jaJ (prs f q k d))) := by rw [← hHp]; exact Ja
      have hacc2 := t12 _ _ hacc
      have nppr : pp ≠ rl := Ne.symm (yd (t1 _ _ hacc) hpp)
      have csnoc : Yek f q k ((jaz f).take (j + 1)) = Yek f q k ((jaz f).take j) ++ (if Zer none (Yek f q k ((jaz f).take j)) = some (prs f q k d) then [] else [d :: prs f q k d]) := by
        unfold Yek
        rw [Yas hd, List.map_append]
        exact JfK _ _ _
      have app : ∀ (Hx : Hp) (l c : Addr), ju Hp2 Hx → Hx l = Option.none → (upd Hx l (.lst [.int (d : Int)])) c = Option.none → Zer none (Yek f q k ((jaz f).take j)) ≠ some (prs f q k d) →
          ∃ acc', (upd (upd (upd Hx l (.lst [.int (d : Int)])) c (.lst ([.int (d : Int)] ++ jaJ (prs f q k d)))) rl (.lst (acc ++ [.ref c]))) rl = some (.lst acc') ∧ ju Hb (upd (upd (upd Hx l (.lst [.int (d : Int)])) c (.lst ([.int (d : Int)] ++ jaJ (prs f q k d)))) rl (.lst (acc ++ [.ref c]))) ∧
            Paired (yb7 rl (upd (upd (upd Hx l (.lst [.int (d : Int)])) c (.lst ([.int (d : Int)] ++ jaJ (prs f q k d)))) rl (.lst (acc ++ [.ref c])))) acc' (Yek f q k ((jaz f).take (j + 1))) := fun Hx l c sx hl hc hne => by
        have u1 := Jd (o := .lst [.int (d : Int)]) hl
        have u2 := Jd (o := .lst ([.int (d : Int)] ++ jaJ (prs f q k d))) hc
        have ncr : c ≠ rl := Ne.symm (yd (u1 _ _ (sx _ _ hacc2)) hc)
        have full := (t12.trans sx).trans (u1.trans u2)
        refine ⟨acc ++ [.ref c], Ja, fun cc u e => ?_, ?_⟩
        · rw [Zc (yd e hbrl)]
          exact full _ _ (sH _ _ e)
        · rw [csnoc, if_neg hne]
          exact yb7.upd (Paired.snoc (yb7.same hrows full) ⟨c, rfl, ncr, Ja⟩)
      refine ⟨_, rfl, rl, acc, rfl, .inl (SqL.of hacc2), rfl, _, rfl, ?_⟩
      by_cases hz : acc.length = 0
      · have hchg : Zer none (Yek f q k ((jaz f).take j)) ≠ some (prs f q k d) := by
          have h1 := Paired.length hrows
          rw [hz] at h1
          rw [List.length_eq_zero_iff.mp h1.symm]
          intro z
          cases z
        refine brT (decide_eq_true (by rw [hz]; rfl)) ?_
        refine ⟨_, rfl, .inl ⟨rfl, _, SqL.of hacc2⟩, _, rfl, (by show 1 ≤ sizeLine; decide), fun l hl => ⟨_, rfl, l, pp, _, _, rfl, rfl, Ja, Jd hl _ _ hpp2, (by show 3 ≤ sizeLine; decide), fun c hc => ⟨rl, acc, _, rfl, rfl, Jd hc _ _ (Jd hl _ _ hacc2), Nat.lt_of_le_of_lt (show _ ≤ 100 by omega) (by decide), ⟨_, _, _, _, rfl⟩, app Hp2 l c (ju.refl _) hl hc hchg⟩⟩⟩
      · obtain ⟨n, hn⟩ : ∃ n, acc.length = n + 1 := ⟨acc.length - 1, by omega⟩
        have hvn : acc[n]? = some acc[n] := List.getElem?_eq_getElem (by omega)
        obtain ⟨rr, hrr, ra, hva, nra, hra⟩ := Paired.get hrows hvn
        rw [hva] at hvn
        have hcl : (Yek f q k ((jaz f).take j)).length = n + 1 := by rw [← hn]; exact (Paired.length hrows).symm
        have hlast : Zer none (Yek f q k ((jaz f).take j)) = some (rr.drop 1) := by
          unfold Zer
          rw [List.getLast?_eq_getElem?, hcl, Nat.add_sub_cancel, hrr]
        obtain ⟨d', hd'⟩ := YeQ f q k _ _ rr (List.mem_of_getElem? hrr)
        subst hd'
        have hra2 := t12 _ _ hra
        refine brF (decide_eq_false (fun z => by injection z with z; omega)) ?_
        refine ⟨_, rfl, _, rfl, .inl ⟨rl, acc, -1, .ref ra, rfl, rfl, SqL.of hacc2, ygZ hn hvn, _, rfl, ra, _, rfl, SqL.of hra2, fun c hc => ?_⟩⟩
        have u0 := Jd (o := .lst (jaJ (prs f q k d'))) hc
        refine ⟨_, rfl, .list [.int ((yaj f q d' k).reg : Nat), .int ((yaj f q d' k).own : Nat)], .list [.int ((yaj f q d k).reg : Nat), .int ((yaj f q d k).own : Nat)], .lst (SqL.of Ja) (.cons (.int _) (.cons (.int _) .nil)), .lst (SqL.of (u0 _ _ hpp2)) (.cons (.int _) (.cons (.int _) .nil)), rfl, rfl, _, rfl, ?_⟩
        have eeq : PyData.eqv (.list [.int ((yaj f q d' k).reg : Nat), .int ((yaj f q d' k).own : Nat)]) (.list [.int ((yaj f q d k).reg : Nat), .int ((yaj f q d k).own : Nat)]) = decide (prs f q k d' = prs f q k d) := by
          show ((((yaj f q d' k).reg : Nat) : Int) == (((yaj f q d k).reg : Nat) : Int) && ((((yaj f q d' k).own : Nat) : Int) == (((yaj f q d k).own : Nat) : Int) && true)) = _
          unfold prs
          rw [Bool.eq_iff_iff]
          simp
          omega
        rw [eeq]
        refine br (fun h => ?_) (fun h => ?_)
        · have hchg : Zer none (Yek f q k ((jaz f).take j)) ≠ some (prs f q k d) := by
            rw [hlast]
            intro z
            have : prs f q k d' = prs f q k d := Option.some.inj z
            simp [this] at h
          refine ⟨_, rfl, .inl ⟨rfl, _, SqL.of (u0 _ _ hacc2)⟩, _, rfl, (by show 1 ≤ sizeLine; decide), fun l hl => ⟨_, rfl, l, pp, _, _, rfl, rfl, Ja, Jd hl _ _ (u0 _ _ hpp2), (by show 3 ≤ sizeLine; decide), fun c2 hc2 => ⟨rl, acc, _, rfl, rfl, Jd hc2 _ _ (Jd hl _ _ (u0 _ _ hacc2)), Nat.lt_of_le_of_lt (show _ ≤ 100 by omega) (by decide), ⟨_, _, _, _, rfl⟩, app _ l c2 u0 hl hc2 hchg⟩⟩⟩
        · have hsame : prs f q k d' = prs f q k d := by simpa using h
          refine ⟨⟨_, _, _, _, rfl⟩, acc, u0 _ _ hacc2, (sH.trans t12).trans u0, ?_⟩
          rw [csnoc, hlast, if_pos (by show some (prs f q k d') = _; rw [hsame]), List.append_nil]
          exact yb7.same hrows (t12.trans u0)
    · rintro σ H' ⟨⟨v4, v5, v6, v7, rfl⟩, acc, hacc, sH, hrows⟩
      rw [List.length_map, List.take_length] at hrows
      have hal : acc.length = (Yek f q k (jaz f)).length := Paired.length hrows
      have h2 := Jfy none ((jaz f).map fun d => d :: prs f q k d) none
      have hdl : (jaz f).length = f.items.length + 1 := by unfold jaz; rw [List.length_cons, List.length_map]
      rw [List.length_map] at h2
      have h3 : (Yek f q k (jaz f)).length ≤ (jaz f).length := h2
      refine ⟨_, rfl, rl, _, rfl, .inl (SqL.of hacc), _, rfl, _, rl, acc, _, rfl, hacc, yb7.rows hrows, ?_, ?_, ?_⟩
      · omega
      · intro l hl
        obtain ⟨d, rfl⟩ := YeQ f q k _ _ l hl
        show (prs f q k d).length + 1 ≤ 10
        rw [Zhv]
        decide
      · rw [hal]
        exact kk.same (sHb.trans sH)
end
end Lr
namespace Lr
open PySem hiding Act
open PySem.Spec
open PyProof.Rows hiding St
open L2
open Sy33 (Act Item File bit Call step)
section
variable {P : Program} {w : World} {K : PySem.W.Frag} {mg : Str → Option Value} {base : Heap} {A : Adr}
def yaO (K : PySem.W.Frag) (fs : List (Str × V)) (vs0 : List V) : Sp := fun vs H Q _ => ∃ (x C dx : Addr), vs = .ref x :: vs0 ∧ H x = some (.ins C dx []) ∧ Cls K C ∧ (∀ f ∈ fs.map (fun p => p.1), Jm K C f) ∧ Q .non (upd H x (.ins C dx fs))
theorem few {n : Nat} (h : n < 1000 := by decide) : n < 1000 := h
theorem zbo (T : Txt K mg A) (d : V) : Zf P w K mg base CX0 1 A.Jw A.jaa ["self", "day"] (yaO K [("day", d)] [d]) := by
  refine T.YeK.ok JfV (fun vs H Q E h => ?_) (fun cdv B outer s H vs Q E hr h => ?_)
  · obtain ⟨_, _, _, rfl, _⟩ := h
    rfl
  · obtain ⟨x, C, dx, rfl, hx, cl, na, k⟩ := h
    refine ⟨_, (jb (yu (K := K) rfl (pv 0) (pv 1) rfl)), ?_⟩
    exact ⟨_, rfl, _, rfl, x, C, dx, _, rfl, hx, cl, na _ (by simp), (few : 0 < 1000), k⟩
theorem jcT (T : Txt K mg A) (d q : V) : Zf P w K mg base CX0 2 A.Zq A.Yae ["self", "day", "plot"] (yaO K [("day", d), ("plot", q)] [d, q]) := by
  have jaj : Zf P w K mg base CX0 1 A.Jw A.jaa ["self", "day"] (yaO K [("day", d)] [d]) := zbo T d
  refine T.jdc.ok yeJ (fun vs H Q E h => ?_) (fun cdv B outer s H vs Q E hr h => ?_)
  · obtain ⟨_, _, _, rfl, _⟩ := h
    rfl
  · obtain ⟨x, C, dx, rfl, hx, cl, na, k⟩ := h
    refine ⟨_, (Yc (jD (ycr (by rfl) T.yee T.zO jaj (hr.mono (by decide)) T.ybb Jh (Za (pv 0) (Za (pv 1) yc)))) (jb (yu (K := K) rfl (pv 0) (pv 2) rfl))), ?_⟩
    refine ⟨_, rfl, _, rfl, x, C, dx, rfl, hx, cl, fun f hf => na f (by simp at hf; simp [hf]), ?_⟩
    refine ⟨_, rfl, _, rfl, x, C, dx, _, rfl, Ja, cl, na _ (by simp), (few : 1 < 1000), ?_⟩
    rw [Jai]
    exact k
theorem Zcn (T : Txt K mg A) (d q p : V) : Zf P w K mg base CX0 3 A.Zj A.Jah ["self", "day", "plot", "person"] (yaO K [("day", d), ("plot", q), ("person", p)] [d, q, p]) := by
  have jbV : Zf P w K mg base CX0 2 A.Zq A.Yae ["self", "day", "plot"] (yaO K [("day", d), ("plot", q)] [d, q]) := jcT T d q
  refine T.ZcB.ok Yej (fun vs H Q E h => ?_) (fun cdv B outer s H vs Q E hr h => ?_)
  · obtain ⟨_, _, _, rfl, _⟩ := h
    rfl
  · obtain ⟨x, C, dx, rfl, hx, cl, na, k⟩ := h
    refine ⟨_, (Yc (jD (ycr (by rfl) T.jdV T.jH jbV (hr.mono (by decide)) T.zbV Jh (Za (pv 0) (Za (pv 1) (Za (pv 2) yc))))) (jb (yu (K := K) rfl (pv 0) (pv 3) rfl))), ?_⟩
    refine ⟨_, rfl, _, rfl, _, rfl, x, C, dx, rfl, hx, cl, fun f hf => na f (by simp at hf; rcases hf with hf | hf <;> simp [hf]), ?_⟩
    refine ⟨_, rfl, _, rfl, x, C, dx, _, rfl, Ja, cl, na _ (by simp), (few : 2 < 1000), ?_⟩
    rw [Jai]
    exact k
theorem yer (T : Txt K mg A) (d q g p kn : V) : Zf P w K mg base CX0 4 A.zx A.Jbl ["self", "day", "plot", "giver", "person", "knows"] (yaO K [("day", d), ("plot", q), ("person", p), ("giver", g), ("knows", kn)] [d, q, g, p, kn]) := by
  have zbs : Zf P w K mg base CX0 3 A.Zj A.Jah ["self", "day", "plot", "person"] (yaO K [("day", d), ("plot", q), ("person", p)] [d, q, p]) := Zcn T d q p
  refine T.jeK.ok zfW (fun vs H Q E h => ?_) (fun cdv B outer s H vs Q E hr h => ?_)
  · obtain ⟨_, _, _, rfl, _⟩ := h
    rfl
  · obtain ⟨x, C, dx, rfl, hx, cl, na, k⟩ := h
    refine ⟨_, (Yc (jD (ycr (by rfl) T.Jep T.yF zbs (hr.mono (by decide)) T.jbr Jh (Za (pv 0) (Za (pv 1) (Za (pv 2) (Za (pv 4) yc)))))) (Yc (yu (K := K) rfl (pv 0) (pv 3) rfl) (jb (yu (K := K) rfl (pv 0) (pv 5) rfl)))), ?_⟩
    refine ⟨_, rfl, _, rfl, _, rfl, _, rfl, x, C, dx, rfl, hx, cl, fun f hf => na f (by simp at hf; rcases hf with hf | hf | hf <;> simp [hf]), ?_⟩
    refine ⟨_, rfl, _, rfl, x, C, dx, _, rfl, Ja, cl, na _ (by simp), (few : 3 < 1000), ?_⟩
    rw [Jai]
    refine ⟨_, rfl, _, rfl, x, C, dx, _, rfl, Ja, cl, na _ (by simp), (few : 4 < 1000), ?_⟩
    rw [Jai]
    exact k
theorem ZfL (T : Txt K mg A) (d q g p am kn : V) : Zf P w K mg base CX0 5 A.ZS A.Jbz ["self", "day", "plot", "giver", "person", "amount", "knows"] (yaO K [("day", d), ("plot", q), ("person", p), ("giver", g), ("knows", kn), ("amount", am)] [d, q, g, p, am, kn]) := by
  have zct : Zf P w K mg base CX0 4 A.zx A.Jbl ["self", "day", "plot", "giver", "person", "knows"] (yaO K [("day", d), ("plot", q), ("person", p), ("giver", g), ("knows", kn)] [d, q, g, p, kn]) := yer T d q g p kn
  refine T.jen.ok yfD (fun vs H Q E h => ?_) (fun cdv B outer s H vs Q E hr h => ?_)
  · obtain ⟨_, _, _, rfl, _⟩ := h
    rfl
  · obtain ⟨x, C, dx, rfl, hx, cl, na, k⟩ := h
    refine ⟨_, (Yc (jD (ycr (by rfl) T.zgW T.yaz zct (hr.mono (by decide)) T.Zcs Jh (Za (pv 0) (Za (pv 1) (Za (pv 2) (Za (pv 3) (Za (pv 4) (Za (pv 6) yc)))))))) (jb (yu (K := K) rfl (pv 0) (pv 5) rfl))), ?_⟩
    refine ⟨_, rfl, _, rfl, _, rfl, _, rfl, _, rfl, _, rfl, x, C, dx, rfl, hx, cl, fun f hf => na f (by simp at hf; rcases hf with hf | hf | hf | hf | hf <;> simp [hf]), ?_⟩
    refine ⟨_, rfl, _, rfl, x, C, dx, _, rfl, Ja, cl, na _ (by simp), (few : 5 < 1000), ?_⟩
    rw [Jai]
    exact k
theorem Zfs (T : Txt K mg A) (d q : V) : Zf P w K mg base CX0 3 A.jM A.Ybp ["self", "day", "plot"] (yaO K [("day", d), ("plot", q), ("owner", .non)] [d, q]) := by
  have jbV : Zf P w K mg base CX0 2 A.Zq A.Yae ["self", "day", "plot"] (yaO K [("day", d), ("plot", q)] [d, q]) := jcT T d q
  refine T.zdU.ok zfq (fun vs H Q E h => ?_) (fun cdv B outer s H vs Q E hr h => ?_)
  · obtain ⟨_, _, _, rfl, _⟩ := h
    rfl
  · obtain ⟨x, C, dx, rfl, hx, cl, na, k⟩ := h
    refine ⟨_, (Yc (jD (ycr (by rfl) T.jdV T.jH jbV (hr.mono (by decide)) T.zbV Jh (Za (pv 0) (Za (pv 1) (Za (pv 2) yc))))) (jb (yu (K := K) rfl (pv 0) Jha rfl))), ?_⟩
    refine ⟨_, rfl, _, rfl, _, rfl, x, C, dx, rfl, hx, cl, fun f hf => na f (by simp at hf; rcases hf with hf | hf <;> simp [hf]), ?_⟩
    refine ⟨_, rfl, x, C, dx, _, rfl, Ja, cl, na _ (by simp), (few : 2 < 1000), ?_⟩
    rw [Jai]
    exact k
theorem zgl (T : Txt K mg A) (d n : V) : Zf P w K mg base CX0 2 A.zan A.zcs ["self", "day", "voided"] (yaO K [("day", d), ("voided", n)] [d, n]) := by
  have jaj : Zf P w K mg base CX0 1 A.Jw A.jaa ["self", "day"] (yaO K [("day", d)] [d]) := zbo T d
  refine T.Jfh.ok Zgh (fun vs H Q E h => ?_) (fun cdv B outer s H vs Q E hr h => ?_)
  · obtain ⟨_, _, _, rfl, _⟩ := h
    rfl
  · obtain ⟨x, C, dx, rfl, hx, cl, na, k⟩ := h
    refine ⟨_, (Yc (jD (ycr (by rfl) T.yee T.zO jaj (hr.mono (by decide)) T.ybb Jh (Za (pv 0) (Za (pv 1) yc)))) (jb (yu (K := K) rfl (pv 0) (pv 2) rfl))), ?_⟩
    refine ⟨_, rfl, _, rfl, x, C, dx, rfl, hx, cl, fun f hf => na f (by simp at hf; simp [hf]), ?_⟩
    refine ⟨_, rfl, _, rfl, x, C, dx, _, rfl, Ja, cl, na _ (by simp), (few : 1 < 1000), ?_⟩
    rw [Jai]
    exact k
theorem yfL (T : Txt K mg A) (d n m : V) : Zf P w K mg base CX0 2 A.yS A.zbA ["self", "day", "noted", "knows"] (yaO K [("day", d), ("noted", n), ("knows", m)] [d, n, m]) := by
  have jaj : Zf P w K mg base CX0 1 A.Jw A.jaa ["self", "day"] (yaO K [("day", d)] [d]) := zbo T d
  refine T.zeo.ok YfD (fun vs H Q E h => ?_) (fun cdv B outer s H vs Q E hr h => ?_)
  · obtain ⟨_, _, _, rfl, _⟩ := h
    rfl
  · obtain ⟨x, C, dx, rfl, hx, cl, na, k⟩ := h
    refine ⟨_, (Yc (jD (ycr (by rfl) T.yee T.zO jaj (hr.mono (by decide)) T.ybb Jh (Za (pv 0) (Za (pv 1) yc)))) (Yc (yu (K := K) rfl (pv 0) (pv 2) rfl) (jb (yu (K := K) rfl (pv 0) (pv 3) rfl)))), ?_⟩
    refine ⟨_, rfl, _, rfl, x, C, dx, rfl, hx, cl, fun f hf => na f (by simp at hf; simp [hf]), ?_⟩
    refine ⟨_, rfl, _, rfl, x, C, dx, _, rfl, Ja, cl, na _ (by simp), (few : 1 < 1000), ?_⟩
    rw [Jai]
    refine ⟨_, rfl, _, rfl, x, C, dx, _, rfl, Ja, cl, na _ (by simp), (few : 2 < 1000), ?_⟩
    rw [Jai]
    exact k
theorem YfL (T : Txt K mg A) (d n m : V) : Zf P w K mg base CX0 2 A.YS A.ZbA ["self", "day", "struck", "striker"] (yaO K [("day", d), ("struck", n), ("striker", m)] [d, n, m]) := by
  have jaj : Zf P w K mg base CX0 1 A.Jw A.jaa ["self", "day"] (yaO K [("day", d)] [d]) := zbo T d
  refine T.yeo.ok jfD (fun vs H Q E h => ?_) (fun cdv B outer s H vs Q E hr h => ?_)
  · obtain ⟨_, _, _, rfl, _⟩ := h
    rfl
  · obtain ⟨x, C, dx, rfl, hx, cl, na, k⟩ := h
    refine ⟨_, (Yc (jD (ycr (by rfl) T.yee T.zO jaj (hr.mono (by decide)) T.ybb Jh (Za (pv 0) (Za (pv 1) yc)))) (Yc (yu (K := K) rfl (pv 0) (pv 2) rfl) (jb (yu (K := K) rfl (pv 0) (pv 3) rfl)))), ?_⟩
    refine ⟨_, rfl, _, rfl, x, C, dx, rfl, hx, cl, fun f hf => na f (by simp at hf; simp [hf]), ?_⟩
    refine ⟨_, rfl, _, rfl, x, C, dx, _, rfl, Ja, cl, na _ (by simp), (few : 1 < 1000), ?_⟩
    rw [Jai]
    refine ⟨_, rfl, _, rfl, x, C, dx, _, rfl, Ja, cl, na _ (by simp), (few : 2 < 1000), ?_⟩
    rw [Jai]
    exact k
theorem yfY (T : Txt K mg A) (d n m : V) : Zf P w K mg base CX0 2 A.Jaa A.zbY ["self", "day", "one", "other"] (yaO K [("day", d), ("one", n), ("other", m)] [d, n, m]) := by
  have jaj : Zf P w K mg base CX0 1 A.Jw A.jaa ["self", "day"] (yaO K [("day", d)] [d]) := zbo T d
  refine T.JeK.ok ZfW (fun vs H Q E h => ?_) (fun cdv B outer s H vs Q E hr h => ?_)
  · obtain ⟨_, _, _, rfl, _⟩ := h
    rfl
  · obtain ⟨x, C, dx, rfl, hx, cl, na, k⟩ := h
    refine ⟨_, (Yc (jD (ycr (by rfl) T.yee T.zO jaj (hr.mono (by decide)) T.ybb Jh (Za (pv 0) (Za (pv 1) yc)))) (Yc (yu (K := K) rfl (pv 0) (pv 2) rfl) (jb (yu (K := K) rfl (pv 0) (pv 3) rfl)))), ?_⟩
    refine ⟨_, rfl, _, rfl, x, C, dx, rfl, hx, cl, fun f hf => na f (by simp at hf; simp [hf]), ?_⟩
    refine ⟨_, rfl, _, rfl, x, C, dx, _, rfl, Ja, cl, na _ (by simp), (few : 1 < 1000), ?_⟩
    rw [Jai]
    refine ⟨_, rfl, _, rfl, x, C, dx, _, rfl, Ja, cl, na _ (by simp), (few : 2 < 1000), ?_⟩
    rw [Jai]
    exact k
end
end Lr
namespace L2
open PySem PySem.Spec PyProof.Rows
theorem Zf.ex {P : Program} {w : World} {K : PySem.W.Frag} {mg : Str → Option Value} {base : Heap} {CX : CXT} {k : Nat} {f : Addr} {fd : FuncData} {ps : List Str} {ι : Type} {sp : ι → Sp} (F : ∀ i, Zf P w K mg base CX k f fd ps (sp i)) : Zf P w K mg base CX k f fd ps (fun vs H Q E => ∃ i, sp i vs H Q E) :=
  ⟨fun vs H Q E ⟨i, q⟩ => (F i).len vs H Q E q, fun A outer s H args us vs Q E hr he hb hv ⟨i, q⟩ => (F i).run A outer s H args us vs Q E hr he hb hv q⟩
theorem Zx {K : PySem.W.Frag} {H : Hp} {ca : Addr} {xs : List V} {i : Int} {v : V} {Q : VK} (hS : SqL K H ca xs) (h : atI xs i = some v) (q : Q v H) : rIx K (.ref ca) (.int i) H Q := .inl ⟨ca, xs, i, v, rfl, rfl, hS, h, q⟩
end L2
namespace Lr
open PySem hiding Act
open PySem.Spec
open PyProof.Rows hiding St
open L2
open Sy33 (Act Item File bit Call step)
theorem Zgl {k : Nat} (h : k ≤ 1) : bit (k == 1) = k := by
  have : k = 0 ∨ k = 1 := by omega
  rcases this with rfl | rfl <;> rfl
section
variable {P : Program} {w : World} {K : PySem.W.Frag} {mg : Str → Option Value} {base : Heap} {A : Adr}
def Yfm (K : PySem.W.Frag) (A : Adr) : Sp := fun vs H Q _ => ∃ (ca : Addr) (l : List Int) (d : Nat) (a : Act), vs = [.ref ca] ∧ SqL K H ca (l.map V.int) ∧ yad l (.act d a) ∧ ∀ (H' : Hp) (e : Addr), ju H H' → H e = Option.none → YbD A H' (.ref e) d a .non → Q (.ref e) H'
theorem JgE (T : Txt K mg A) : Zf P w K mg base CX0 7 A.YaC A.Zb2 ["call"] (Yfm K A) := by
  have zct := Zf.ex (ι := V × V × V × V × V) (P := P) (w := w) (base := base) fun i => yer T i.1 i.2.1 i.2.2.1 i.2.2.2.1 i.2.2.2.2
  have YfY := Zf.ex (ι := V × V × V × V × V × V) (P := P) (w := w) (base := base) fun i => ZfL T i.1 i.2.1 i.2.2.1 i.2.2.2.1 i.2.2.2.2.1 i.2.2.2.2.2
  have zbs := Zf.ex (ι := V × V × V) (P := P) (w := w) (base := base) fun i => Zcn T i.1 i.2.1 i.2.2
  have jfY := Zf.ex (ι := V × V × V) (P := P) (w := w) (base := base) fun i => yfL T i.1 i.2.1 i.2.2
  have JfY := Zf.ex (ι := V × V × V) (P := P) (w := w) (base := base) fun i => YfL T i.1 i.2.1 i.2.2
  have ygl := Zf.ex (ι := V × V × V) (P := P) (w := w) (base := base) fun i => yfY T i.1 i.2.1 i.2.2
  have jfL := Zf.ex (ι := V × V) (P := P) (w := w) (base := base) fun i => Zfs T i.1 i.2
  have zgF := Zf.ex (ι := V × V) (P := P) (w := w) (base := base) fun i => zgl T i.1 i.2
  refine T.JeA.ok yfh (fun vs H Q E h => ?_) (fun cdv B outer s H vs Q E hr h => ?_)
  · obtain ⟨_, _, _, _, rfl, _⟩ := h
    rfl
  · obtain ⟨ca, l, d, a, rfl, hS, hc, kk⟩ := h
    refine ⟨_, (Yc (zac (i := 1) yfh.nd rfl (by first | exact Or.inl rfl | exact Or.inr rfl) (Jj (Ye (K := K) rfl) (pv 0) je (fun _ _ => rfl))) (Yc (yO (Yq YaL (pv 1) (jg (by rfl) T.ZfG T.yfG) (jm _)) (jb (yf (JbX T.Ybu zct (hr.mono (by decide)) (by rfl) T.zeB T.Zcs .nil Jh (Za (Jj (Ye (K := K) rfl) (pv 0) je (fun _ _ => rfl)) (Za (Jj (Ye (K := K) rfl) (pv 0) je (fun _ _ => rfl)) (Za (Jj (Ye (K := K) rfl) (pv 0) je (fun _ _ => rfl)) (Za (Jj (Ye (K := K) rfl) (pv 0) je (fun _ _ => rfl)) (Za (Jj (Ye (K := K) rfl) (pv 0) je (fun _ _ => rfl)) yc)))))))) Zo) (Yc (yO (Yq YaL (pv 1) (jg (by rfl) T.jgy T.Jgy) (jm _)) (jb (yf (JbX T.jcy YfY (hr.mono (by decide)) (by rfl) T.zb4 T.Jen .nil Jh (Za (Jj (Ye (K := K) rfl) (pv 0) je (fun _ _ => rfl)) (Za (Jj (Ye (K := K) rfl) (pv 0) je (fun _ _ => rfl)) (Za (Jj (Ye (K := K) rfl) (pv 0) je (fun _ _ => rfl)) (Za (Jj (Ye (K := K) rfl) (pv 0) je (fun _ _ => rfl)) (Za (Jj (Ye (K := K) rfl) (pv 0) je (fun _ _ => rfl)) (Za (Jj (Ye (K := K) rfl) (pv 0) je (fun _ _ => rfl)) yc))))))))) Zo) (Yc (yO (Yq YaL (pv 1) (jg (by rfl) T.zgz T.Zgz) (jm _)) (jb (yf (JbX T.Jcy zct (hr.mono (by decide)) (by rfl) T.YcC T.Zcs .nil Jh (Za (Jj (Ye (K := K) rfl) (pv 0) je (fun _ _ => rfl)) (Za (Jj (Ye (K := K) rfl) (pv 0) je (fun _ _ => rfl)) (Za (Jj (Ye (K := K) rfl) (pv 0) je (fun _ _ => rfl)) (Za (Jj (Ye (K := K) rfl) (pv 0) je (fun _ _ => rfl)) (Za (Jj (Ye (K := K) rfl) (pv 0) je (fun _ _ => rfl)) yc)))))))) Zo) (Yc (yO (Yq YaL (pv 1) (jg (by rfl) T.ygz T.Ygz) (jm _)) (jb (yf (JbX T.zcz jfY (hr.mono (by decide)) (by rfl) T.zfG T.Zeo .nil Jh (Za (Jj (Ye (K := K) rfl) (pv 0) je (fun _ _ => rfl)) (Za (Jj (Ye (K := K) rfl) (pv 0) je (fun _ _ => rfl)) (Za (Jj (Ye (K := K) rfl) (pv 0) je (fun _ _ => rfl)) yc)))))) Zo) (Yc (yO (Yq YaL (pv 1) (jg (by rfl) T.zfl T.Zfl) (jm _)) (jb (yf (JbX T.zbc zbs (hr.mono (by decide)) (by rfl) T.YcR T.jbr .nil Jh (Za (Jj (Ye (K := K) rfl) (pv 0) je (fun _ _ => rfl)) (Za (Jj (Ye (K := K) rfl) (pv 0) je (fun _ _ => rfl)) (Za (Jj (Ye (K := K) rfl) (pv 0) je (fun _ _ => rfl)) yc)))))) Zo) (Yc (yO (Yq YaL (pv 1) (jg (by rfl) T.jgz T.Jgz) (jm _)) (jb (yf (JbX T.Zcz JfY (hr.mono (by decide)) (by rfl) T.Ygy T.Yeo .nil Jh (Za (Jj (Ye (K := K) rfl) (pv 0) je (fun _ _ => rfl)) (Za (Jj (Ye (K := K) rfl) (pv 0) je (fun _ _ => rfl)) (Za (Jj (Ye (K := K) rfl) (pv 0) je (fun _ _ => rfl)) yc)))))) Zo) (Yc (yO (Yq YaL (pv 1) (jg (by rfl) T.YgW T.jgW) (jm _)) (jb (yf (JbX T.Zde ygl (hr.mono (by decide)) (by rfl) T.ZgW T.zeL .nil Jh (Za (Jj (Ye (K := K) rfl) (pv 0) je (fun _ _ => rfl)) (Za (Jj (Ye (K := K) rfl) (pv 0) je (fun _ _ => rfl)) (Za (Jj (Ye (K := K) rfl) (pv 0) je (fun _ _ => rfl)) yc)))))) Zo) (Yc (yO (Yq YaL (pv 1) (jg (by rfl) T.Jf7 T.zf8) (jm _)) (jb (yf (JbX T.ybV jfL (hr.mono (by decide)) (by rfl) T.jf7 T.ZdU .nil Jh (Za (Jj (Ye (K := K) rfl) (pv 0) je (fun _ _ => rfl)) (Za (Jj (Ye (K := K) rfl) (pv 0) je (fun _ _ => rfl)) yc))))) Zo) (jb (yf (JbX T.Yee zgF (hr.mono (by decide)) (by rfl) T.ygN T.zfi .nil Jh (Za (Jj (Ye (K := K) rfl) (pv 0) je (fun _ _ => rfl)) (Za (Jj (Ye (K := K) rfl) (pv 0) je (fun _ _ => rfl)) yc)))))))))))))), ?_⟩
    cases hc with
    | transfer d q g t k hk =>
      refine ⟨_, rfl, Zx hS rfl ?_⟩
      refine ⟨_, rfl, rfl, _, rfl, brT (by decide) ?_⟩
      refine ⟨_, rfl, Zx hS rfl ⟨_, rfl, Zx hS rfl ⟨_, rfl, Zx hS rfl ⟨_, rfl, Zx hS rfl ⟨_, rfl, Zx hS rfl (fun x dx hx hdx hne => ⟨(.int (d : Nat), .int (q : Nat), .int (g : Nat), .int (t : Nat), .int (k : Nat)), x, A.Jb, dx, rfl, Ja, T.JdV, ?_, rfl, ?_⟩)⟩⟩⟩⟩⟩
      · intro f hf
        simp at hf
        rcases hf with rfl | rfl | rfl | rfl | rfl
        · exact T.yar
        · exact T.Jag
        · exact T.zW
        · exact T.J5
        · exact T.Y5
      · refine kk _ x (((Jd hdx).zH hx).zH hx) hx ⟨x, dx, rfl, ?_⟩
        rw [show zdg d (.transfer q g t (k == 1)) .non = ([("day", .int (d : Nat)), ("plot", .int (q : Nat)), ("person", .int (t : Nat)), ("giver", .int (g : Nat)), ("knows", .int (k : Nat))] : List (Str × V)) from by unfold zdg; dsimp only; rw [Zgl hk]]
        exact Ja
    | charge d q g t n k hk =>
      refine ⟨_, rfl, Zx hS rfl ?_⟩
      refine ⟨_, rfl, rfl, _, rfl, brF (by decide) ?_⟩
      refine ⟨_, rfl, rfl, _, rfl, brT (by decide) ?_⟩
      refine ⟨_, rfl, Zx hS rfl ⟨_, rfl, Zx hS rfl ⟨_, rfl, Zx hS rfl ⟨_, rfl, Zx hS rfl ⟨_, rfl, Zx hS rfl ⟨_, rfl, Zx hS rfl (fun x dx hx hdx hne => ⟨(.int (d : Nat), .int (q : Nat), .int (g : Nat), .int (t : Nat), .int (n : Nat), .int (k : Nat)), x, A.jc, dx, rfl, Ja, T.zde, ?_, rfl, ?_⟩)⟩⟩⟩⟩⟩⟩
      · intro f hf
        simp at hf
        rcases hf with rfl | rfl | rfl | rfl | rfl | rfl
        · exact T.ZaN
        · exact T.jaC
        · exact T.zah
        · exact T.Yar
        · exact T.jar
        · exact T.Y0
      · refine kk _ x (((Jd hdx).zH hx).zH hx) hx ⟨x, dx, rfl, ?_⟩
        rw [show zdg d (.charge q g t n (k == 1)) .non = ([("day", .int (d : Nat)), ("plot", .int (q : Nat)), ("person", .int (t : Nat)), ("giver", .int (g : Nat)), ("knows", .int (k : Nat)), ("amount", .int (n : Nat))] : List (Str × V)) from by unfold zdg; dsimp only; rw [Zgl hk]]
        exact Ja
    | notice d q g t k hk =>
      refine ⟨_, rfl, Zx hS rfl ?_⟩
      refine ⟨_, rfl, rfl, _, rfl, brF (by decide) ?_⟩
      refine ⟨_, rfl, rfl, _, rfl, brF (by decide) ?_⟩
      refine ⟨_, rfl, rfl, _, rfl, brT (by decide) ?_⟩
      refine ⟨_, rfl, Zx hS rfl ⟨_, rfl, Zx hS rfl ⟨_, rfl, Zx hS rfl ⟨_, rfl, Zx hS rfl ⟨_, rfl, Zx hS rfl (fun x dx hx hdx hne => ⟨(.int (d : Nat), .int (q : Nat), .int (g : Nat), .int (t : Nat), .int (k : Nat)), x, A.Zd, dx, rfl, Ja, T.Ze6, ?_, rfl, ?_⟩)⟩⟩⟩⟩⟩
      · intro f hf
        simp at hf
        rcases hf with rfl | rfl | rfl | rfl | rfl
        · exact T.yaN
        · exact T.JaC
        · exact T.Zah
        · exact T.Jar
        · exact T.zas
      · refine kk _ x (((Jd hdx).zH hx).zH hx) hx ⟨x, dx, rfl, ?_⟩
        rw [show zdg d (.notice q g t (k == 1)) .non = ([("day", .int (d : Nat)), ("plot", .int (q : Nat)), ("person", .int (t : Nat)), ("giver", .int (g : Nat)), ("knows", .int (k : Nat))] : List (Str × V)) from by unfold zdg; dsimp only; rw [Zgl hk]]
        exact Ja
    | fulfil d n k hk =>
      refine ⟨_, rfl, Zx hS rfl ?_⟩
      refine ⟨_, rfl, rfl, _, rfl, brF (by decide) ?_⟩
      refine ⟨_, rfl, rfl, _, rfl, brF (by decide) ?_⟩
      refine ⟨_, rfl, rfl, _, rfl, brF (by decide) ?_⟩
      refine ⟨_, rfl, rfl, _, rfl, brT (by decide) ?_⟩
      refine ⟨_, rfl, Zx hS rfl ⟨_, rfl, Zx hS rfl ⟨_, rfl, Zx hS rfl (fun x dx hx hdx hne => ⟨(.int (d : Nat), .int (n : Nat), .int (k : Nat)), x, A.Yd, dx, rfl, Ja, T.zbv, ?_, rfl, ?_⟩)⟩⟩⟩
      · intro f hf
        simp at hf
        rcases hf with rfl | rfl | rfl
        · exact T.YaN
        · exact T.ZF
        · exact T.Zas
      · refine kk _ x (((Jd hdx).zH hx).zH hx) hx ⟨x, dx, rfl, ?_⟩
        rw [show zdg d (.fulfil n (k == 1)) .non = ([("day", .int (d : Nat)), ("noted", .int (n : Nat)), ("knows", .int (k : Nat))] : List (Str × V)) from by unfold zdg; dsimp only; rw [Zgl hk]]
        exact Ja
    | objection d q t =>
      refine ⟨_, rfl, Zx hS rfl ?_⟩
      refine ⟨_, rfl, rfl, _, rfl, brF (by decide) ?_⟩
      refine ⟨_, rfl, rfl, _, rfl, brF (by decide) ?_⟩
      refine ⟨_, rfl, rfl, _, rfl, brF (by decide) ?_⟩
      refine ⟨_, rfl, rfl, _, rfl, brF (by decide) ?_⟩
      refine ⟨_, rfl, rfl, _, rfl, brT (by decide) ?_⟩
      refine ⟨_, rfl, Zx hS rfl ⟨_, rfl, Zx hS rfl ⟨_, rfl, Zx hS rfl (fun x dx hx hdx hne => ⟨(.int (d : Nat), .int (q : Nat), .int (t : Nat)), x, A.Yb, dx, rfl, Ja, T.Zdp, ?_, rfl, ?_⟩)⟩⟩⟩
      · intro f hf
        simp at hf
        rcases hf with rfl | rfl | rfl
        · exact T.yah
        · exact T.Z6
        · exact T.jO
      · refine kk _ x (((Jd hdx).zH hx).zH hx) hx ⟨x, dx, rfl, ?_⟩
        exact Ja
    | strike d n b =>
      refine ⟨_, rfl, Zx hS rfl ?_⟩
      refine ⟨_, rfl, rfl, _, rfl, brF (by decide) ?_⟩
      refine ⟨_, rfl, rfl, _, rfl, brF (by decide) ?_⟩
      refine ⟨_, rfl, rfl, _, rfl, brF (by decide) ?_⟩
      refine ⟨_, rfl, rfl, _, rfl, brF (by decide) ?_⟩
      refine ⟨_, rfl, rfl, _, rfl, brF (by decide) ?_⟩
      refine ⟨_, rfl, rfl, _, rfl, brT (by decide) ?_⟩
      refine ⟨_, rfl, Zx hS rfl ⟨_, rfl, Zx hS rfl ⟨_, rfl, Zx hS rfl (fun x dx hx hdx hne => ⟨(.int (d : Nat), .int (n : Nat), .int (b : Nat)), x, A.Jf, dx, rfl, Ja, T.Zbc, ?_, rfl, ?_⟩)⟩⟩⟩
      · intro f hf
        simp at hf
        rcases hf with rfl | rfl | rfl
        · exact T.jaN
        · exact T.JG
        · exact T.ZP
      · refine kk _ x (((Jd hdx).zH hx).zH hx) hx ⟨x, dx, rfl, ?_⟩
        exact Ja
    | ahead d n m =>
      refine ⟨_, rfl, Zx hS rfl ?_⟩
      refine ⟨_, rfl, rfl, _, rfl, brF (by decide) ?_⟩
      refine ⟨_, rfl, rfl, _, rfl, brF (by decide) ?_⟩
      refine ⟨_, rfl, rfl, _, rfl, brF (by decide) ?_⟩
      refine ⟨_, rfl, rfl, _, rfl, brF (by decide) ?_⟩
      refine ⟨_, rfl, rfl, _, rfl, brF (by decide) ?_⟩
      refine ⟨_, rfl, rfl, _, rfl, brF (by decide) ?_⟩
      refine ⟨_, rfl, rfl, _, rfl, brT (by decide) ?_⟩
      refine ⟨_, rfl, Zx hS rfl ⟨_, rfl, Zx hS rfl ⟨_, rfl, Zx hS rfl (fun x dx hx hdx hne => ⟨(.int (d : Nat), .int (n : Nat), .int (m : Nat)), x, A.Jg, dx, rfl, Ja, T.Zbn, ?_, rfl, ?_⟩)⟩⟩⟩
      · intro f hf
        simp at hf
        rcases hf with rfl | rfl | rfl
        · exact T.Za3
        · exact T.zao
        · exact T.yab
      · refine kk _ x (((Jd hdx).zH hx).zH hx) hx ⟨x, dx, rfl, ?_⟩
        exact Ja
    | correct d q =>
      refine ⟨_, rfl, Zx hS rfl ?_⟩
      refine ⟨_, rfl, rfl, _, rfl, brF (by decide) ?_⟩
      refine ⟨_, rfl, rfl, _, rfl, brF (by decide) ?_⟩
      refine ⟨_, rfl, rfl, _, rfl, brF (by decide) ?_⟩
      refine ⟨_, rfl, rfl, _, rfl, brF (by decide) ?_⟩
      refine ⟨_, rfl, rfl, _, rfl, brF (by decide) ?_⟩
      refine ⟨_, rfl, rfl, _, rfl, brF (by decide) ?_⟩
      refine ⟨_, rfl, rfl, _, rfl, brF (by decide) ?_⟩
      refine ⟨_, rfl, rfl, _, rfl, brT (by decide) ?_⟩
      refine ⟨_, rfl, Zx hS rfl ⟨_, rfl, Zx hS rfl (fun x dx hx hdx hne => ⟨(.int (d : Nat), .int (q : Nat)), x, A.Je, dx, rfl, Ja, T.zcD, ?_, rfl, ?_⟩)⟩⟩
      · intro f hf
        simp at hf
        rcases hf with rfl | rfl | rfl
        · exact T.zaD
        · exact T.yas
        · exact T.j0
      · refine kk _ x (((Jd hdx).zH hx).zH hx) hx ⟨x, dx, rfl, ?_⟩
        exact Ja
    | void_ d n =>
      refine ⟨_, rfl, Zx hS rfl ?_⟩
      refine ⟨_, rfl, rfl, _, rfl, brF (by decide) ?_⟩
      refine ⟨_, rfl, rfl, _, rfl, brF (by decide) ?_⟩
      refine ⟨_, rfl, rfl, _, rfl, brF (by decide) ?_⟩
      refine ⟨_, rfl, rfl, _, rfl, brF (by decide) ?_⟩
      refine ⟨_, rfl, rfl, _, rfl, brF (by decide) ?_⟩
      refine ⟨_, rfl, rfl, _, rfl, brF (by decide) ?_⟩
      refine ⟨_, rfl, rfl, _, rfl, brF (by decide) ?_⟩
      refine ⟨_, rfl, rfl, _, rfl, brF (by decide) ?_⟩
      refine ⟨_, rfl, Zx hS rfl ⟨_, rfl, Zx hS rfl (fun x dx hx hdx hne => ⟨(.int (d : Nat), .int (n : Nat)), x, A.yg, dx, rfl, Ja, T.ZcS, ?_, rfl, ?_⟩)⟩⟩
      · intro f hf
        simp at hf
        rcases hf with rfl | rfl
        · exact T.Jbr
        · exact T.jT
      · refine kk _ x (((Jd hdx).zH hx).zH hx) hx ⟨x, dx, rfl, ?_⟩
        exact Ja
end
end Lr
namespace Lr
open PySem hiding Act
open PySem.Spec
open PyProof.Rows hiding St
open L2
open Sy33 (Act Item File bit Call step)
abbrev zeD (a : Sy33.Ans) : List Int := Sy33Neutral.out a
def ZgQ (f : File) (c : Call) : Bool := match c with
  | .owner q _ _ => decide (q < f.owners.length)
  | .charges q _ _ => decide (q < f.owners.length)
  | .rely q _ _ => decide (q < f.owners.length)
  | .sale q _ _ n => decide (q < f.owners.length) && decide (n ≤ 1000000)
  | .stands q _ => decide (q < f.owners.length)
  | .days q _ => decide (q < f.owners.length)
  | _ => false
def isQ (c : Call) : Bool := match c with
  | .begins _ _ => false
  | .act _ _ => false
  | _ => true
def headOk (c : Call) (k : Int) : Prop := match c with
  | .begins _ _ => k = 0
  | .act _ _ => 1 ≤ k ∧ k ≤ 9
  | _ => 10 ≤ k
theorem Ye9 {l : List Int} {c : Call} (h : yad l c) : ∃ k r, l = k :: r ∧ headOk c k := by
  cases h <;> first
    | exact ⟨_, _, rfl, (rfl : (0 : Int) = 0)⟩
    | exact ⟨_, _, rfl, (by show (1 : Int) ≤ _ ∧ _ ≤ (9 : Int); decide)⟩
    | exact ⟨_, _, rfl, (by show (10 : Int) ≤ _; decide)⟩
theorem yhn {f : File} {c : Call} (h : isQ c = true) : (step f c).1 = f := by
  cases c <;> first | rfl | cases h
theorem jg8 {f : File} {c : Call} (h : isQ c = true) (h2 : ZgQ f c = false) : (step f c).2 = Sy33.ok (-1) := by
  have off : ∀ (q : Nat) (a : Sy33.Ans), decide (q < f.owners.length) = false → Sy33.onPlot f q a = Sy33.ok (-1) := fun q a hq => Yhk f q a (of_decide_eq_false hq)
  cases c with
  | begins => cases h
  | act => cases h
  | owner q d k => exact off q _ h2
  | charges q d k => exact off q _ h2
  | rely q d k => exact off q _ h2
  | stands q d => exact off q _ h2
  | days q k => exact off q _ h2
  | sale q d k n =>
    have h2 : (decide (q < f.owners.length) && decide (n ≤ 1000000)) = false := h2
    show Sy33.onPlot f q _ = _
    by_cases hq : q < f.owners.length
    · rw [decide_eq_true hq, Bool.true_and] at h2
      have hn := of_decide_eq_false h2
      unfold Sy33.onPlot
      rw [if_neg (by omega), if_pos (by unfold Sy33.AMOUNT; omega)]
    · exact off q _ (decide_eq_false hq)
theorem zfz {f : File} (w : WF f) {q : Nat} (d k : Nat) (hq : q < f.owners.length) : ∃ n, n ≤ 40 ∧ StOk f q n (yaj f q d k) := by
  obtain ⟨n, hn, _, e⟩ := upto w d
  refine ⟨n, Nat.le_trans hn w.n, ?_⟩
  unfold yaj
  rw [e]
  exact (w.Zhk _ hq hn).toStOk
section
variable {P : Program} {w : World} {K : PySem.W.Frag} {mg : Str → Option Value} {base : Heap} {A : Adr}
def JfL (K : PySem.W.Frag) (A : Adr) : Sp := fun vs H Q _ => ∃ (b : Addr) (f : File) (dx oa ea : Addr) (es : List V) (ca : Addr) (l : List Int) (c : Call), vs = [.ref b, .ref ca] ∧ BkR A H b f dx oa ea es ∧ SqL K H ca (l.map V.int) ∧ yad l c ∧ isQ c = true ∧ Q (.bl (ZgQ f c)) H
theorem ydZ (T : Txt K mg A) : Zf P w K mg base CX0 2 A.Yt A.Jac ["book", "call"] (JfL K A) := by
  have yfs : Zf P w K mg base CX0 1 A.Jz A.zaI ["self", "plot"] (yfm A) := Ze9 T
  refine T.Ybh.ok JdQ (fun vs H Q E h => ?_) (fun cdv B outer s H vs Q E hr h => ?_)
  · obtain ⟨_, _, _, _, _, _, _, _, _, rfl, _⟩ := h
    rfl
  · obtain ⟨b, f, dx, oa, ea, es, ca, l, c, rfl, hB, hS, hc, hq, k⟩ := h
    refine ⟨_, (jb (yf (Zez (z9 (pv 0) T.Yab T.ZdB yfs (hr.mono (by decide)) T.Jdz .nil Jh (Za (Jj (Ye (K := K) rfl) (pv 1) je (fun _ _ => rfl)) yc)) (Ydn (jhw (YaW jf3 (Jj (Ye (K := K) rfl) (pv 1) je (fun _ _ => rfl)) (jg (by rfl) T.Jhh T.zhi) (jm _)) (Ydn (YaW zen (Jj (Ye (K := K) rfl) (pv 1) je (fun _ _ => rfl)) (jg (by rfl) T.zc5 T.Zc5) (jm _)))))))), ?_⟩
    cases hc with
    | begins => cases hq
    | transfer => cases hq
    | charge => cases hq
    | notice => cases hq
    | fulfil => cases hq
    | objection => cases hq
    | strike => cases hq
    | ahead => cases hq
    | correct => cases hq
    | void_ => cases hq
    | owner q d kn => exact ybD (d := true) (fun R z => ⟨_, rfl, b, dx, _, rfl, hB.ob, rfl, _, rfl, Zx hS rfl ⟨b, f, dx, oa, ea, es, q, rfl, hB, z⟩⟩) (fun _ R z => je6 (c := true) (d := true) (fun R z => ⟨_, rfl, Zx hS rfl ⟨rfl, z⟩⟩) (fun z => nomatch z) z) (by rw [Bool.and_true]; exact k)
    | charges q d kn => exact ybD (d := true) (fun R z => ⟨_, rfl, b, dx, _, rfl, hB.ob, rfl, _, rfl, Zx hS rfl ⟨b, f, dx, oa, ea, es, q, rfl, hB, z⟩⟩) (fun _ R z => je6 (c := true) (d := true) (fun R z => ⟨_, rfl, Zx hS rfl ⟨rfl, z⟩⟩) (fun z => nomatch z) z) (by rw [Bool.and_true]; exact k)
    | rely q d kn => exact ybD (d := true) (fun R z => ⟨_, rfl, b, dx, _, rfl, hB.ob, rfl, _, rfl, Zx hS rfl ⟨b, f, dx, oa, ea, es, q, rfl, hB, z⟩⟩) (fun _ R z => je6 (c := true) (d := true) (fun R z => ⟨_, rfl, Zx hS rfl ⟨rfl, z⟩⟩) (fun z => nomatch z) z) (by rw [Bool.and_true]; exact k)
    | stands q d => exact ybD (d := true) (fun R z => ⟨_, rfl, b, dx, _, rfl, hB.ob, rfl, _, rfl, Zx hS rfl ⟨b, f, dx, oa, ea, es, q, rfl, hB, z⟩⟩) (fun _ R z => je6 (c := true) (d := true) (fun R z => ⟨_, rfl, Zx hS rfl ⟨rfl, z⟩⟩) (fun z => nomatch z) z) (by rw [Bool.and_true]; exact k)
    | days q kn => exact ybD (d := true) (fun R z => ⟨_, rfl, b, dx, _, rfl, hB.ob, rfl, _, rfl, Zx hS rfl ⟨b, f, dx, oa, ea, es, q, rfl, hB, z⟩⟩) (fun _ R z => je6 (c := true) (d := true) (fun R z => ⟨_, rfl, Zx hS rfl ⟨rfl, z⟩⟩) (fun z => nomatch z) z) (by rw [Bool.and_true]; exact k)
    | sale q d kn n =>
      refine ybD (d := decide (n ≤ 1000000)) (fun R z => ⟨_, rfl, b, dx, _, rfl, hB.ob, rfl, _, rfl, Zx hS rfl ⟨b, f, dx, oa, ea, es, q, rfl, hB, z⟩⟩) (fun _ R z => je6 (c := false) (d := decide ((n : Int) ≤ 1000000)) (fun R z => ⟨_, rfl, Zx hS rfl ⟨rfl, z⟩⟩) (fun _ R z => ⟨_, rfl, Zx hS rfl ⟨_, _, rfl, rfl, z⟩⟩) ?_) k
      rw [Bool.false_or, show decide ((n : Int) ≤ 1000000) = decide (n ≤ 1000000) from by rw [decide_eq_decide]; omega]
      exact z
def JgZ (K : PySem.W.Frag) (A : Adr) : Sp := fun vs H Q _ => ∃ (b : Addr) (f : File) (dx oa ea : Addr) (es : List V) (ca : Addr) (l : List Int) (c : Call), vs = [.ref b, .ref ca] ∧ BkR A H b f dx oa ea es ∧ WF f ∧ AB f ∧ SqL K H ca (l.map V.int) ∧ yad l c ∧ isQ c = true ∧ ZgQ f c = true ∧ zcF H (zeD (step f c).2) Q
theorem yhv (T : Txt K mg A) : Zf P w K mg base CX0 7 A.Zc4 A.yeK ["book", "call"] (JgZ K A) := by
  have ZgF : Zf P w K mg base CX0 6 A.jan A.ybB ["book", "plot", "known"] (jeQ A) := Jgk T
  have zfZ : Zf P w K mg base CX0 2 A.zT A.Ya1 ["sheet"] (ZdZ A) := zfL T
  have Ygl : Zf P w K mg base CX0 2 A.Zab A.ybm ["sheet"] (zer A) := ZfY T
  have zfM : Zf P w K mg base CX0 2 A.JM A.ZaS ["sheet"] (ydC A) := zfs T
  have ygF : Zf P w K mg base CX0 3 A.yan A.zbB ["sheet"] (zeQ A) := ygk T
  have YgF : Zf P w K mg base CX0 2 A.Yan A.ZbB ["sheet", "amount"] (yeQ A) := jgk T
  have Jax : Zf P w K mg base CX0 5 A.zu A.Z5 ["self", "plot", "day", "known"] (YcT A) := YbV T
  refine T.ZgN.ok Jgh (fun vs H Q E h => ?_) (fun cdv B outer s H vs Q E hr h => ?_)
  · obtain ⟨_, _, _, _, _, _, _, _, _, rfl, _⟩ := h
    rfl
  · obtain ⟨b, f, dx, oa, ea, es, ca, l, c, rfl, hB, hW, hA, hS, hc, hq, hs, kk⟩ := h
    refine ⟨_, (Yc (zac (i := 2) Jgh.nd rfl (by first | exact Or.inl rfl | exact Or.inr rfl) (Jj (Ye (K := K) rfl) (pv 1) je (fun _ _ => rfl))) (Yc (yO (Yq YaL (pv 2) (jg (by rfl) T.Zhi T.yhi) (jm _)) (jb (yf (zE ZgF (hr.mono (by decide)) (by rfl) T.zfk T.YdV.kp T.Jfj .nil Jh (Za (pv 0) (Za (Jj (Ye (K := K) rfl) (pv 1) je (fun _ _ => rfl)) (Za (Jj (Ye (K := K) rfl) (pv 1) je (fun _ _ => rfl)) yc)))))) Zo) (Yc (yO (Yq YaL (pv 2) (jg (by rfl) T.zgA T.ZgA) (jm _)) (jb (yf (zE zfZ (hr.mono (by decide)) (by rfl) T.yep T.jc4.kp T.Zep .nil Jh (Za (z9 (pv 0) T.Yab T.jaS Jax (hr.mono (by decide)) T.yaS .nil Jh (Za (Jj (Ye (K := K) rfl) (pv 1) je (fun _ _ => rfl)) (Za (Jj (Ye (K := K) rfl) (pv 1) je (fun _ _ => rfl)) (Za (Jj (Ye (K := K) rfl) (pv 1) je (fun _ _ => rfl)) yc)))) yc)))) Zo) (Yc (zac (i := 3) Jgh.nd rfl (by first | exact Or.inl rfl | exact Or.inr rfl) (z9 (pv 0) T.Yab T.jaS Jax (hr.mono (by decide)) T.yaS .nil Jh (Za (Jj (Ye (K := K) rfl) (pv 1) je (fun _ _ => rfl)) (Za (Jj (Ye (K := K) rfl) (pv 1) je (fun _ _ => rfl)) (Za (Jj (Ye (K := K) rfl) (pv 1) je (fun _ _ => rfl)) yc))))) (Yc (yO (Yq YaL (pv 2) (jg (by rfl) T.JgW T.zgX) (jm _)) (jb (yf (zE Ygl (hr.mono (by decide)) (by rfl) T.ZeM T.zdp.kp T.zeM .nil Jh (Za (pv 3) yc)))) Zo) (Yc (yO (Yq YaL (pv 2) (jg (by rfl) T.Zf8 T.yf8) (jm _)) (jb (yf (zE zfM (hr.mono (by decide)) (by rfl) T.JdU T.ycC.kp T.jdU .nil Jh (Za (pv 3) yc)))) Zo) (Yc (yO (Yq YaL (pv 2) (jg (by rfl) T.Yhh T.jhh) (jm _)) (jb (yf (zE ygF (hr.mono (by decide)) (by rfl) T.yfj T.ZdV.kp T.Zfj .nil Jh (Za (pv 3) yc)))) Zo) (jb (yf (zE YgF (hr.mono (by decide)) (by rfl) T.jfj T.ydV.kp T.Yfj .nil Jh (Za (pv 3) (Za (Jj (Ye (K := K) rfl) (pv 1) je (fun _ _ => rfl)) yc)))))))))))), ?_⟩
    cases hc with
    | begins => cases hq
    | transfer => cases hq
    | charge => cases hq
    | notice => cases hq
    | fulfil => cases hq
    | objection => cases hq
    | strike => cases hq
    | ahead => cases hq
    | correct => cases hq
    | void_ => cases hq
    | days q kn =>
      have hq := of_decide_eq_true hs
      rw [Yg7 hW q kn hq] at kk
      refine ⟨_, rfl, Zx hS rfl ?_⟩
      refine ⟨_, rfl, rfl, _, rfl, brT (by decide) ?_⟩
      exact ⟨_, rfl, _, rfl, Zx hS rfl ⟨_, rfl, Zx hS rfl ⟨b, f, dx, oa, ea, es, q, kn, rfl, hB, hW, hA, hq, kk⟩⟩⟩
    | stands q d =>
      have hq := of_decide_eq_true hs
      rw [zgC hW q d d hq] at kk
      obtain ⟨n, h40, hO⟩ := zfz hW d d hq
      refine ⟨_, rfl, Zx hS rfl ?_⟩
      refine ⟨_, rfl, rfl, _, rfl, brF (by decide) ?_⟩
      refine ⟨_, rfl, rfl, _, rfl, brT (by decide) ?_⟩
      refine ⟨_, rfl, b, dx, _, rfl, hB.ob, rfl, _, rfl, Zx hS rfl ⟨_, rfl, Zx hS rfl ⟨_, rfl, Zx hS rfl ⟨b, f, dx, oa, ea, es, q, d, d, rfl, hB, hW, hA, hq, fun H1 sv hSh => ?_⟩⟩⟩⟩
      have s1 : ju H H1 := by obtain ⟨_, _, _, _, _, _, _, _, _, r⟩ := hSh; exact r.sm
      exact ⟨H, sv, _, es, f, q, n, _, rfl, hB.its, hSh, hO, h40, kk.same s1⟩
    | owner q d kn =>
      have hq := of_decide_eq_true hs
      rw [zgP f q d kn hq] at kk
      refine ⟨_, rfl, Zx hS rfl ?_⟩
      refine ⟨_, rfl, rfl, _, rfl, brF (by decide) ?_⟩
      refine ⟨_, rfl, rfl, _, rfl, brF (by decide) ?_⟩
      refine ⟨_, rfl, b, dx, _, rfl, hB.ob, rfl, _, rfl, Zx hS rfl ⟨_, rfl, Zx hS rfl ⟨_, rfl, Zx hS rfl ⟨b, f, dx, oa, ea, es, q, d, kn, rfl, hB, hW, hA, hq, fun H1 sv hSh => ?_⟩⟩⟩⟩
      have s1 : ju H H1 := by obtain ⟨_, _, _, _, _, _, _, _, _, r⟩ := hSh; exact r.sm
      refine ⟨_, rfl, rfl, _, rfl, brT (by decide) ?_⟩
      exact ⟨_, rfl, H, sv, _, _, _, rfl, hSh, kk.same s1⟩
    | charges q d kn =>
      have hq := of_decide_eq_true hs
      rw [zgj hW q d kn hq] at kk
      obtain ⟨n, h40, hO⟩ := zfz hW d kn hq
      refine ⟨_, rfl, Zx hS rfl ?_⟩
      refine ⟨_, rfl, rfl, _, rfl, brF (by decide) ?_⟩
      refine ⟨_, rfl, rfl, _, rfl, brF (by decide) ?_⟩
      refine ⟨_, rfl, b, dx, _, rfl, hB.ob, rfl, _, rfl, Zx hS rfl ⟨_, rfl, Zx hS rfl ⟨_, rfl, Zx hS rfl ⟨b, f, dx, oa, ea, es, q, d, kn, rfl, hB, hW, hA, hq, fun H1 sv hSh => ?_⟩⟩⟩⟩
      have s1 : ju H H1 := by obtain ⟨_, _, _, _, _, _, _, _, _, r⟩ := hSh; exact r.sm
      refine ⟨_, rfl, rfl, _, rfl, brF (by decide) ?_⟩
      refine ⟨_, rfl, rfl, _, rfl, brT (by decide) ?_⟩
      exact ⟨_, rfl, H, sv, _, es, f, q, n, _, rfl, hB.its, hSh, hO, h40, kk.same s1⟩
    | rely q d kn =>
      have hq := of_decide_eq_true hs
      rw [zg7 f q d kn hq] at kk
      obtain ⟨n, h40, hO⟩ := zfz hW d kn hq
      have hl := hO.len
      refine ⟨_, rfl, Zx hS rfl ?_⟩
      refine ⟨_, rfl, rfl, _, rfl, brF (by decide) ?_⟩
      refine ⟨_, rfl, rfl, _, rfl, brF (by decide) ?_⟩
      refine ⟨_, rfl, b, dx, _, rfl, hB.ob, rfl, _, rfl, Zx hS rfl ⟨_, rfl, Zx hS rfl ⟨_, rfl, Zx hS rfl ⟨b, f, dx, oa, ea, es, q, d, kn, rfl, hB, hW, hA, hq, fun H1 sv hSh => ?_⟩⟩⟩⟩
      have s1 : ju H H1 := by obtain ⟨_, _, _, _, _, _, _, _, _, r⟩ := hSh; exact r.sm
      refine ⟨_, rfl, rfl, _, rfl, brF (by decide) ?_⟩
      refine ⟨_, rfl, rfl, _, rfl, brF (by decide) ?_⟩
      refine ⟨_, rfl, rfl, _, rfl, brT (by decide) ?_⟩
      exact ⟨_, rfl, H, sv, _, es, f.items, _, rfl, hB.its, hSh, by omega, kk.same s1⟩
    | sale q d kn m =>
      have hs : (decide (q < f.owners.length) && decide (m ≤ 1000000)) = true := hs
      rw [Bool.and_eq_true] at hs
      have hq := of_decide_eq_true hs.1
      rw [Zg7 hW q d kn m hq (of_decide_eq_true hs.2)] at kk
      obtain ⟨n, h40, hO⟩ := zfz hW d kn hq
      refine ⟨_, rfl, Zx hS rfl ?_⟩
      refine ⟨_, rfl, rfl, _, rfl, brF (by decide) ?_⟩
      refine ⟨_, rfl, rfl, _, rfl, brF (by decide) ?_⟩
      refine ⟨_, rfl, b, dx, _, rfl, hB.ob, rfl, _, rfl, Zx hS rfl ⟨_, rfl, Zx hS rfl ⟨_, rfl, Zx hS rfl ⟨b, f, dx, oa, ea, es, q, d, kn, rfl, hB, hW, hA, hq, fun H1 sv hSh => ?_⟩⟩⟩⟩
      have s1 : ju H H1 := by obtain ⟨_, _, _, _, _, _, _, _, _, r⟩ := hSh; exact r.sm
      refine ⟨_, rfl, rfl, _, rfl, brF (by decide) ?_⟩
      refine ⟨_, rfl, rfl, _, rfl, brF (by decide) ?_⟩
      refine ⟨_, rfl, rfl, _, rfl, brF (by decide) ?_⟩
      rw [← jgC _ _ (jeO _ _ _)] at kk
      exact ⟨_, rfl, _, rfl, Zx (s1.seq hS) rfl ⟨H, sv, _, es, f, q, n, m, _, rfl, hB.its, hSh, hO, h40, kk.same s1⟩⟩
end
end Lr
namespace Lr
open PySem hiding Act
open PySem.Spec
open PyProof.Rows hiding St
open L2
open Sy33 (Act Item File bit Call step)
theorem JhP (a b c : V) (xs : List V) : zfB (a :: b :: c :: xs) (some 3) none = xs := by
  unfold zfB
  have e1 : HT.sIx (a :: b :: c :: xs).length 0 (some 3) = 3 := by
    have := HT.ygf (a :: b :: c :: xs).length 0 3
    rw [show ((3 : Nat) : Int) = 3 from rfl] at this
    rw [this]
    simp only [List.length_cons]
    omega
  have e2 : HT.sIx (a :: b :: c :: xs).length (a :: b :: c :: xs).length none = xs.length + 3 := rfl
  rw [e1, e2, Nat.add_sub_cancel]
  exact List.take_length
theorem Yhv (pre l rest : List V) (s e : Int) (hs : s = (pre.length : Nat)) (he : e = ((pre.length + l.length : Nat) : Int)) : zfB (pre ++ (l ++ rest)) (some s) (some e) = l := by
  subst hs he
  unfold zfB
  rw [HT.ygf, HT.ygf]
  have h1 : (pre ++ (l ++ rest)).length = pre.length + (l.length + rest.length) := by rw [List.length_append, List.length_append]
  rw [h1, Nat.min_eq_left (by omega), Nat.min_eq_left (by omega), List.drop_left, Nat.add_sub_cancel_left, List.take_left]
theorem zhQ {f : File} {d : Nat} {a : Act} : zeD (step f (.act d a)).2 = [(step f (.act d a)).2.v] := by
  by_cases h : refuse f d a = 0
  · obtain ⟨_, _, _, _, e⟩ := ze9 h
    rw [e]
    rfl
  · rw [jdq h]
    rfl
theorem Yhn {f : File} {p : Nat} {o : List Nat} : zeD (step f (.begins p o)).2 = [(step f (.begins p o)).2.v] := by
  have : step f (.begins p o) = if p = 0 ∨ Sy33.PERSONS < p ∨ o.length = 0 ∨ Sy33.PLOTS < o.length ∨ (o.any fun (x : Nat) => decide (p ≤ x)) = true then (f, Sy33.ok (-1)) else (⟨o, p, []⟩, Sy33.ok 0) := rfl
  rw [this]
  split <;> rfl
section
variable {P : Program} {w : World} {K : PySem.W.Frag} {mg : Str → Option Value} {base : Heap} {A : Adr}
def YdZ (K : PySem.W.Frag) : Sp := fun vs H Q _ => ∃ (ca : Addr) (pre l rest : List Int) (c : Call), vs = [.ref ca, .int (pre.length : Nat)] ∧ SqL K H ca ((pre ++ (l ++ rest)).map V.int) ∧ yad l c ∧ Q (.int (l.length : Nat)) H
theorem jhn {pre l rest : List Int} {i : Nat} {x : Int} (h : l[i]? = some x) : atI ((pre ++ (l ++ rest)).map V.int) ((pre.length + i : Nat) : Int) = some (.int x) := by
  refine zdo ?_
  have hi : i < l.length := (List.getElem?_eq_some_iff.mp h).1
  rw [List.getElem?_map, List.getElem?_append_right (by omega), Nat.add_sub_cancel_left, List.getElem?_append_left hi, h]
  rfl
theorem ZfM (T : Txt K mg A) : Zf P w K mg base CX0 1 A.YT A.ja1 ["calls", "start"] (YdZ K) := by
  refine T.Jc4.ok jdQ (fun vs H Q E h => ?_) (fun cdv B outer s H vs Q E hr h => ?_)
  · obtain ⟨_, _, _, _, _, rfl, _⟩ := h
    rfl
  · obtain ⟨ca, pre, l, rest, c, rfl, hS, hc, k⟩ := h
    obtain ⟨kd, r, hl, _⟩ := Ye9 hc
    have h0 : atI ((pre ++ (l ++ rest)).map V.int) ((pre.length : Nat) : Int) = some (.int kd) := jhn (i := 0) (by rw [hl]; rfl)
    refine ⟨_, (Yc (zac (i := 2) jdQ.nd rfl (by first | exact Or.inl rfl | exact Or.inr rfl) (Jj (Ye (K := K) rfl) (pv 0) (pv 1) (fun _ _ => rfl))) (Yc (yO (Yq YaL (pv 2) (jg (by rfl) T.zeN T.ZeN) (jm _)) (jb (yf (JeH zgf (Jj (Ye (K := K) rfl) (jg (by rfl) T.ye6 T.Ye6) (jg (by rfl) T.zeN T.ZeN) (fun _ _ => rfl)) (Jj (Ye (K := K) rfl) (pv 0) (JeH zgf (pv 1) je) (fun _ _ => rfl))))) Zo) (jb (yf (Jj (Ye (K := K) rfl) (jg (by rfl) T.ye6 T.Ye6) (pv 2) (fun _ _ => rfl)))))), ?_⟩
    refine ⟨_, rfl, _, rfl, Zx hS h0 ?_⟩
    cases hc with
    | begins p o hp h60 ho =>
      have e0 : kd = 0 := (List.cons.inj hl).1.symm
      subst e0
      refine ⟨_, rfl, rfl, _, rfl, brT (by decide) ?_⟩
      have h2 : atI ((pre ++ ((((0 : Int) :: (p : Int) :: (o.length : Int) :: casts o)) ++ rest)).map V.int) (((pre.length : Nat) : Int) + 2) = some (.int (o.length : Nat)) := jhn (i := 2) rfl
      refine .inr (.inl ⟨A.jw, _, 0, .int 3, rfl, rfl, T.yP H, rfl, _, rfl, _, rfl, _, _, rfl, rfl, Zx hS h2 ⟨_, _, rfl, rfl, ?_⟩⟩)
      have e3 : (3 : Int) + ((o.length : Nat) : Int) = ((((0 : Int) :: (p : Int) :: (o.length : Int) :: casts o).length : Nat) : Int) := by
        simp only [List.length_cons, List.length_map]
        omega
      dsimp only
      rw [e3]
      exact k
    | transfer => obtain ⟨rfl, _⟩ := List.cons.inj hl; exact ⟨_, rfl, rfl, _, rfl, brF (by decide) ⟨_, rfl, .inr (.inl ⟨A.jw, _, _, _, rfl, rfl, T.yP H, rfl, k⟩)⟩⟩
    | charge => obtain ⟨rfl, _⟩ := List.cons.inj hl; exact ⟨_, rfl, rfl, _, rfl, brF (by decide) ⟨_, rfl, .inr (.inl ⟨A.jw, _, _, _, rfl, rfl, T.yP H, rfl, k⟩)⟩⟩
    | notice => obtain ⟨rfl, _⟩ := List.cons.inj hl; exact ⟨_, rfl, rfl, _, rfl, brF (by decide) ⟨_, rfl, .inr (.inl ⟨A.jw, _, _, _, rfl, rfl, T.yP H, rfl, k⟩)⟩⟩
    | fulfil => obtain ⟨rfl, _⟩ := List.cons.inj hl; exact ⟨_, rfl, rfl, _, rfl, brF (by decide) ⟨_, rfl, .inr (.inl ⟨A.jw, _, _, _, rfl, rfl, T.yP H, rfl, k⟩)⟩⟩
    | objection => obtain ⟨rfl, _⟩ := List.cons.inj hl; exact ⟨_, rfl, rfl, _, rfl, brF (by decide) ⟨_, rfl, .inr (.inl ⟨A.jw, _, _, _, rfl, rfl, T.yP H, rfl, k⟩)⟩⟩
    | strike => obtain ⟨rfl, _⟩ := List.cons.inj hl; exact ⟨_, rfl, rfl, _, rfl, brF (by decide) ⟨_, rfl, .inr (.inl ⟨A.jw, _, _, _, rfl, rfl, T.yP H, rfl, k⟩)⟩⟩
    | ahead => obtain ⟨rfl, _⟩ := List.cons.inj hl; exact ⟨_, rfl, rfl, _, rfl, brF (by decide) ⟨_, rfl, .inr (.inl ⟨A.jw, _, _, _, rfl, rfl, T.yP H, rfl, k⟩)⟩⟩
    | correct => obtain ⟨rfl, _⟩ := List.cons.inj hl; exact ⟨_, rfl, rfl, _, rfl, brF (by decide) ⟨_, rfl, .inr (.inl ⟨A.jw, _, _, _, rfl, rfl, T.yP H, rfl, k⟩)⟩⟩
    | void_ => obtain ⟨rfl, _⟩ := List.cons.inj hl; exact ⟨_, rfl, rfl, _, rfl, brF (by decide) ⟨_, rfl, .inr (.inl ⟨A.jw, _, _, _, rfl, rfl, T.yP H, rfl, k⟩)⟩⟩
    | owner => obtain ⟨rfl, _⟩ := List.cons.inj hl; exact ⟨_, rfl, rfl, _, rfl, brF (by decide) ⟨_, rfl, .inr (.inl ⟨A.jw, _, _, _, rfl, rfl, T.yP H, rfl, k⟩)⟩⟩
    | charges => obtain ⟨rfl, _⟩ := List.cons.inj hl; exact ⟨_, rfl, rfl, _, rfl, brF (by decide) ⟨_, rfl, .inr (.inl ⟨A.jw, _, _, _, rfl, rfl, T.yP H, rfl, k⟩)⟩⟩
    | rely => obtain ⟨rfl, _⟩ := List.cons.inj hl; exact ⟨_, rfl, rfl, _, rfl, brF (by decide) ⟨_, rfl, .inr (.inl ⟨A.jw, _, _, _, rfl, rfl, T.yP H, rfl, k⟩)⟩⟩
    | sale => obtain ⟨rfl, _⟩ := List.cons.inj hl; exact ⟨_, rfl, rfl, _, rfl, brF (by decide) ⟨_, rfl, .inr (.inl ⟨A.jw, _, _, _, rfl, rfl, T.yP H, rfl, k⟩)⟩⟩
    | stands => obtain ⟨rfl, _⟩ := List.cons.inj hl; exact ⟨_, rfl, rfl, _, rfl, brF (by decide) ⟨_, rfl, .inr (.inl ⟨A.jw, _, _, _, rfl, rfl, T.yP H, rfl, k⟩)⟩⟩
    | days => obtain ⟨rfl, _⟩ := List.cons.inj hl; exact ⟨_, rfl, rfl, _, rfl, brF (by decide) ⟨_, rfl, .inr (.inl ⟨A.jw, _, _, _, rfl, rfl, T.yP H, rfl, k⟩)⟩⟩
def ygb (K : PySem.W.Frag) (A : Adr) : Sp := fun vs H Q _ => ∃ (G : Hp) (b ca : Addr) (f : File) (l : List Int) (c : Call), vs = [.ref b, .ref ca] ∧ za4 A G H b f ∧ H ca = some (.lst (l.map V.int)) ∧ yad l c ∧ ∀ (H' : Hp) (r : Addr), za4 A G H' b (step f c).1 → G r = Option.none → H' r = some (.lst ((zeD (step f c).2).map V.int)) → Q (.ref r) H'
theorem Jg8 (T : Txt K mg A) : Zf P w K mg base CX0 9 A.Ybm A.ydc ["book", "call"] (ygb K A) := by
  have jgl : Zf P w K mg base CX0 1 A.yV A.Zbm ["self", "persons", "owners"] (ZgE K A) := zfY T
  have jgF : Zf P w K mg base CX0 8 A.jac A.jbA ["self", "entry"] (YgZ A) := Jgj T
  have ygQ : Zf P w K mg base CX0 7 A.YaC A.Zb2 ["call"] (Yfm K A) := JgE T
  have jek : Zf P w K mg base CX0 2 A.Yt A.Jac ["book", "call"] (JfL K A) := ydZ T
  have ZhE : Zf P w K mg base CX0 7 A.Zc4 A.yeK ["book", "call"] (JgZ K A) := yhv T
  refine T.YfF.ok Yg4 (fun vs H Q E h => ?_) (fun cdv B outer s H vs Q E hr h => ?_)
  · obtain ⟨_, _, _, _, _, _, rfl, _⟩ := h
    rfl
  · obtain ⟨G, b, ca, f, l, c, rfl, hBk, hca, hc, kk⟩ := h
    obtain ⟨dx, oa, ea, es, hG, gb, go, ge, noe, hB, hW, hA⟩ := id hBk
    obtain ⟨kd, r, hl, hh⟩ := Ye9 hc
    have hS : SqL K H ca (l.map V.int) := SqL.of hca
    have h0 : atI (l.map V.int) 0 = some (.int kd) := by rw [hl]; exact zdo (j := 0) rfl
    have gfree : ∀ {H1 : Hp} {x : Addr}, za4 A G H1 b f → H1 x = Option.none → G x = Option.none := fun {H1 x} hb hx => by
      obtain ⟨_, _, _, _, hG1, _⟩ := hb
      exact hG1.free hx
    have gfree2 : ∀ {H1 : Hp} {x : Addr} {f' : File}, za4 A G H1 b f' → H1 x = Option.none → G x = Option.none := fun {H1 x f'} hb hx => by
      obtain ⟨_, _, _, _, hG1, _⟩ := hb
      exact hG1.free hx
    refine ⟨_, (Yc (yO (Yq YaL (Jj (Ye (K := K) rfl) (pv 1) je (fun _ _ => rfl)) (jg (by rfl) T.zeN T.ZeN) (jm _)) (jb (yf (yaw (Za (z9 (pv 0) T.Yab T.YeM jgl (hr.mono (by decide)) T.JeL .nil Jh (Za (Jj (Ye (K := K) rfl) (pv 1) je (fun _ _ => rfl)) (Za (JfA (zfD (K := K) rfl) (pv 1) (Yfx je) YgU) yc))) yc)))) Zo) (Yc (yO (Yq zen (Jj (Ye (K := K) rfl) (pv 1) je (fun _ _ => rfl)) (jg (by rfl) T.Zhh T.yhh) (jm _)) (jb (yf (yaw (Za (z9 (pv 0) T.Yab T.Zfk jgF (hr.mono (by decide)) T.jfi .nil Jh (Za (zE ygQ (hr.mono (by decide)) (by rfl) T.JfF T.JeA.kp T.jfF .nil Jh (Za (pv 1) yc)) yc)) yc)))) Zo) (Yc (yO (ydn (Jby (zE jek (hr.mono (by decide)) (by rfl) T.jcl T.Ybh.kp T.Ycl .nil Jh (Za (pv 0) (Za (pv 1) yc))))) (jb (yf (yaw (Za (jg (by rfl) T.Zb6 T.yb6) yc)))) Zo) (jb (yf (zE ZhE (hr.mono (by decide)) (by rfl) T.Yhg T.ZgN.kp T.yhg .nil Jh (Za (pv 0) (Za (pv 1) yc)))))))), ?_⟩
    refine ⟨_, rfl, Zx hS h0 ⟨rfl, _, rfl, ?_⟩⟩
    by_cases hq : isQ c = true
    · have hkd : 10 ≤ kd := by
        cases c with
        | begins => cases hq
        | act => cases hq
        | _ => exact hh
      refine brF (decide_eq_false (fun z => by injection z with z; omega)) ?_
      refine ⟨_, rfl, Zx hS h0 ⟨_, _, rfl, rfl, _, rfl, brF (decide_eq_false (by omega)) ?_⟩⟩
      refine ⟨_, rfl, _, rfl, b, f, dx, oa, ea, es, ca, l, c, rfl, hB, hS, hc, hq, _, rfl, ?_⟩
      refine br (fun h => ?_) (fun h => ?_)
      · rw [yhn hq, jg8 hq (by simpa using h)] at kk
        exact ⟨(by show 1 ≤ sizeLine; decide), fun r hr => kk _ r (hBk.same (Jd hr)) (gfree hBk hr) Ja⟩
      · rw [yhn hq] at kk
        exact ⟨_, rfl, _, rfl, b, f, dx, oa, ea, es, ca, l, c, rfl, hB, hW, hA, hS, hc, hq, by simpa using h, fun H' r sH hr hr' => kk H' r (hBk.same sH) (gfree hBk hr) hr'⟩
    · cases c with
      | begins p o =>
        have e0 : kd = 0 := hh
        subst e0
        rw [Yhn] at kk
        cases hc with
        | begins _ _ hp h60 ho =>
          refine brT (by decide) ?_
          have h1 : atI (((0 : Int) :: (p : Int) :: (o.length : Int) :: casts o).map V.int) 1 = some (.int (p : Nat)) := zdo (j := 1) rfl
          refine ⟨_, rfl, b, dx, _, rfl, hB.ob, rfl, _, rfl, Zx hS h1 ⟨_, rfl, _, rfl, ca, _, rfl, hS, fun la hla => ?_⟩⟩
          have e1 : zfB (((0 : Int) :: (p : Int) :: (o.length : Int) :: casts o).map V.int) (some 3) none = o.map fun (n : Nat) => V.int (n : Int) := by
            show zfB (V.int 0 :: V.int (p : Int) :: V.int (o.length : Int) :: (casts o).map V.int) (some 3) none = _
            rw [JhP, List.map_map]
            rfl
          refine ⟨G, b, la, f, p, o, rfl, hBk.same (Jd hla), ?_, h60, fun H' hB' => ⟨(by show 1 ≤ sizeLine; decide), fun r hr => kk _ r (hB'.same (Jd hr)) (gfree2 hB' hr) Ja⟩⟩
          rw [Ja, e1]
      | act d a =>
        have hh : 1 ≤ kd ∧ kd ≤ 9 := hh
        rw [zhQ] at kk
        refine brF (decide_eq_false (fun z => by injection z with z; omega)) ?_
        refine ⟨_, rfl, Zx hS h0 ⟨_, _, rfl, rfl, _, rfl, brT (decide_eq_true (by omega)) ?_⟩⟩
        exact ⟨_, rfl, b, dx, _, rfl, hB.ob, rfl, _, rfl, ca, l, d, a, rfl, hS, hc, fun H1 e s1 he hE => ⟨G, H, b, e, f, d, a, rfl, hBk, s1, he, hE, fun H2 hB2 => ⟨(by show 1 ≤ sizeLine; decide), fun r hr => kk _ r (hB2.same (Jd hr)) (gfree2 hB2 hr) Ja⟩⟩⟩
      | _ => exact absurd rfl hq
theorem za4.tick {G H : Hp} {b an : Addr} {f : File} {xs ys : List V} (h : za4 A G H b f) (ha : G an = some (.lst xs)) : za4 A (upd G an (.lst ys)) (upd H an (.lst ys)) b f := by
  obtain ⟨dx, oa, ea, es, hG, gb, go, ge, noe, hB, hW, hA⟩ := h
  have hHa := hG _ _ ha
  have nb : b ≠ an := Ne.symm (yd ha gb)
  have no : oa ≠ an := Ne.symm (yd ha go)
  have ne : ea ≠ an := Ne.symm (yd ha ge)
  refine ⟨dx, oa, ea, es, fun c u e => ?_, by rw [Zc nb]; exact gb, by rw [Zc no]; exact go, by rw [Zc ne]; exact ge, noe, ⟨by rw [Zc nb]; exact hB.ob, by rw [Zc no]; exact hB.oo, by rw [Zc ne]; exact hB.eo, ?_⟩, hW, hA⟩
  · by_cases hc : c = an
    · subst hc
      rw [Ja] at e ⊢
      exact e
    · rw [Zc hc] at e ⊢
      exact hG _ _ e
  · exact Paired.Zej hB.its fun v x ⟨c, cdx, e1, hc⟩ => ⟨c, cdx, e1, by
      rw [Zc (yaR hc hHa (by intro z; cases z))]
      exact hc⟩
def yfM (K : PySem.W.Frag) : Sp := fun vs H Q _ => ∃ (a : Addr) (ns : List Int), vs = [.ref a] ∧ SqL K H a (ns.map V.int) ∧ ns.length ≤ 4000 ∧ (∀ x ∈ ns, (0 : Int) ≤ x ∧ x ≤ 4294967295) ∧ PySy33.answers_asked ns = true ∧ ∀ (H' : Hp) (p : Addr), H' p = some (.lst ((PySy33.answers ns).map V.int)) → Q (.ref p) H'
theorem yad.pos {l : List Int} {c : Call} (h : yad l c) : 0 < l.length := by
  obtain ⟨k, r, e, _⟩ := Ye9 h
  rw [e]
  exact Nat.succ_pos _
theorem JgF : ∀ l : List (List Int), (PyFlat.told l).length = l.flatten.length + l.length
  | [] => rfl
  | a :: l => by
    show (((a.length : Int) :: a) ++ PyFlat.told l).length = _
    rw [List.length_append, JgF l, List.flatten_cons, List.length_append, List.length_cons, List.length_cons]
    omega
theorem Ygb : ∀ (cs : List Call) (f : File), (jdB f cs).length = cs.length
  | [], _ => rfl
  | c :: cs, f => by
    show (_ :: jdB _ cs).length = _
    rw [List.length_cons, List.length_cons, Ygb cs]
theorem YgQ (T : Txt K mg A) : Zf P w K mg base CX0 10 A.zax A.ybr ["calls"] (yfM K) := by
  have zgG : Zf P w K mg base CX0 1 A.Yac A.YbA ["self"] (JeP A) := zgk T
  have ZfZ : Zf P w K mg base CX0 1 A.YT A.ja1 ["calls", "start"] (YdZ K) := ZfM T
  have Jhn : Zf P w K mg base CX0 9 A.Ybm A.ydc ["book", "call"] (ygb K A) := Jg8 T
  refine T.yf7.ok Zbr (fun vs H Q E h => ?_) (fun cdv B outer s H vs Q E hr h => ?_)
  · obtain ⟨_, _, rfl, _⟩ := h
    rfl
  · obtain ⟨a, ns, rfl, hS, h4000, _, hask, kk⟩ := h
    obtain ⟨ls, cs, hns, hbo, h60, hans, hmill⟩ := decoded hask
    have htl : (PySy33.answers ns).length ≤ 1000060 := by
      rw [hans, JgF, Ygb]
      omega
    refine ⟨_, (Yc (zac (i := 1) Zbr.nd rfl (by first | exact Or.inl rfl | exact Or.inr rfl) (Zhd T.jee zgG (hr.mono (by decide)) (by rfl) T.jhg T.yfi .nil Jh)) (Yc (zac (i := 2) Zbr.nd rfl (by first | exact Or.inl rfl | exact Or.inr rfl) (yaw yc)) (Yc (zac (i := 3) Zbr.nd rfl (by first | exact Or.inl rfl | exact Or.inr rfl) je) (Yc (jhb PassesOwn.never (Yq Zfg (pv 3) (Zu (jx (K := K) rfl) (by rfl) T.JcD PySem.boot_len (Za (pv 0) yc)) (jm _)) (Yc (zac (i := 4) Zbr.nd rfl (by first | exact Or.inl rfl | exact Or.inr rfl) (JeH zgf (pv 3) (zE ZfZ (hr.mono (by decide)) (by rfl) T.jep T.Jc4.kp T.Yep .nil Jh (Za (pv 0) (Za (pv 3) yc))))) (Yc (zac (i := 5) Zbr.nd rfl (by first | exact Or.inl rfl | exact Or.inr rfl) (zE Jhn (hr.mono (by decide)) (by rfl) T.ygy T.YfF.kp T.Zgy .nil Jh (Za (pv 1) (Za (JfA (zfD (K := K) rfl) (pv 0) (Yfx (pv 3)) (Yfx (pv 4))) yc)))) (Yc (jD (Zen PySem.F.plainAttrs_list PySem.F.slot_list_append PySem.F.type_list_append ybU (pv 2) (Za (Zu (jx (K := K) rfl) (by rfl) T.JcD PySem.boot_len (Za (pv 5) yc)) yc))) (Yc (jD (Zen PySem.F.plainAttrs_list PySem.F.slot_list_extend PySem.F.type_list_extend Je3 (pv 2) (Za (pv 5) yc))) (jb (zac (i := 3) Zbr.nd rfl (by first | exact Or.inl rfl | exact Or.inr rfl) (pv 4)))))))) (jb (yf (pv 2))))))), ?_⟩
    intro b bdx hb hbdx hne
    have s1 : ju H (upd (upd H bdx (.own b)) b (.ins A.yD bdx [])) := (Jd hbdx).zH hb
    refine ⟨H, b, bdx, rfl, s1, hb, Ja, fun H1 hB1 => ⟨rfl, ?_⟩⟩
    refine ⟨Nat.zero_le _, fun an han => ?_⟩
    have hHan : H an = Option.none := by
      obtain ⟨_, _, _, _, hG1, _⟩ := hB1
      exact hG1.free han
    have inv0 : za4 A (upd H an (.lst [])) (upd H1 an (.lst [])) b Sy33.start := by
      obtain ⟨dx, oa, ea, es, hG, gb, go, ge, noe, hB, hW, hA⟩ := hB1
      have nb : b ≠ an := yd hB.ob han
      have no : oa ≠ an := yd hB.oo han
      have ne : ea ≠ an := yd hB.eo han
      refine ⟨dx, oa, ea, es, fun c u e => ?_, by rw [Zc nb]; exact gb, by rw [Zc no]; exact go, by rw [Zc ne]; exact ge, noe, hB.same (Jd han), hW, hA⟩
      by_cases hc : c = an
      · subst hc
        rw [Ja] at e ⊢
        exact e
      · rw [Zc hc] at e ⊢
        exact hG _ _ e
    refine Jhb (fun σ H' => ∃ (v4 v5 : Option V) (G : Hp) (pre acc : List Int) (ls' : List (List Int)) (cs' : List Call) (f : File), σ = [some (.ref a), some (.ref b), some (.ref an), some (.int (pre.length : Nat)), v4, v5] ∧ ju H G ∧ G an = some (.lst (acc.map V.int)) ∧ za4 A G H' b f ∧ ns = pre ++ ls'.flatten ∧ Both ls' cs' ∧ PySy33.answers ns = acc ++ PyFlat.told (jdB f cs'))
      (fun σ _ => match σ with | [_, _, _, some (.int n), _, _] => ns.length - n.toNat | _ => 0) ⟨_, _, _, [], [], ls, cs, Sy33.start, rfl, Jd hHan, Ja, inv0, hns, hbo, hans⟩ ?_ ?_
    · rintro σ H' ⟨v4, v5, G, pre, acc, ls', cs', f, rfl, sG, hGa, hBk, hn, hbo', ha⟩
      have sH : ju G H' := by obtain ⟨_, _, _, _, hG1, _⟩ := hBk; exact hG1
      have hSa := (sG.trans sH).seq hS
      refine ⟨_, rfl, _, rfl, a, _, rfl, .inl hSa, _, _, rfl, rfl, _, rfl, ?_⟩
      rw [List.length_map, YdY]
      cases hbo' with
      | nil =>
        have e1 : ns = pre := by rw [hn]; exact List.append_nil pre
        refine brF (decide_eq_false (by rw [e1]; omega)) ?_
        refine ⟨_, rfl, kk H' an ?_⟩
        rw [ha]
        show H' an = some (.lst ((acc ++ []).map V.int))
        rw [List.append_nil]
        exact sH _ _ hGa
      | @cons l c ls2 cs2 hc hbt =>
        have hpos := hc.pos
        have hn2 : ns = pre ++ (l ++ ls2.flatten) := hn
        have hlen : ns.length = pre.length + (l.length + ls2.flatten.length) := by rw [hn2, List.length_append, List.length_append]
        refine brT (decide_eq_true (by omega)) ?_
        have hSa2 : SqL K H' a ((pre ++ (l ++ ls2.flatten)).map V.int) := by rw [← hn2]; exact hSa
        refine ⟨_, rfl, _, rfl, _, rfl, a, pre, l, ls2.flatten, c, rfl, hSa2, hc, _, _, rfl, rfl, ?_⟩
        refine ⟨_, rfl, _, rfl, _, rfl, _, rfl, _, rfl, _, rfl, a, _, rfl, hSa2, fun ca hca => ?_⟩
        have ecut : zfB ((pre ++ (l ++ ls2.flatten)).map V.int) (some ((pre.length : Nat) : Int)) (some (((pre.length : Nat) : Int) + ((l.length : Nat) : Int))) = l.map V.int := by
          rw [List.map_append, List.map_append]
          refine Yhv _ _ _ _ _ (by rw [List.length_map]) ?_
          rw [List.length_map, List.length_map]
          omega
        refine ⟨G, b, ca, f, l, c, rfl, hBk.same (Jd hca), by rw [Ja, ecut], hc, fun H2 r hB2 hGr hr2 => ?_⟩
        have sG2 : ju G H2 := by obtain ⟨_, _, _, _, hG1, _⟩ := hB2; exact hG1
        have han2 := sG2 _ _ hGa
        have nra : r ≠ an := Ne.symm (yd hGa hGr)
        have hal : acc.length + ((zeD (step f c).2).length + 1) ≤ 1000060 := by
          rw [ha] at htl
          have e1 : PyFlat.told (jdB f (c :: cs2)) = ((((zeD (step f c).2).length : Nat) : Int) :: zeD (step f c).2) ++ PyFlat.told (jdB (step f c).1 cs2) := rfl
          rw [e1, List.length_append, List.length_append, List.length_cons] at htl
          omega
        refine ⟨_, rfl, .inl ⟨rfl, _, SqL.of han2⟩, _, rfl, r, _, rfl, .inl (SqL.of hr2), an, _, _, rfl, rfl, han2, ?_, ?_⟩
        · rw [List.length_map]
          exact Nat.lt_of_le_of_lt (show _ ≤ 1000060 by omega) (by decide)
        refine ⟨_, rfl, .inl ⟨rfl, _, SqL.of Ja⟩, _, rfl, an, r, _, _, rfl, rfl, Ja, (by rw [Zc nra]; exact hr2), ?_, ?_⟩
        · rw [List.length_append, List.length_map, List.length_map, List.length_singleton]
          exact Nat.le_trans (show _ ≤ 1000060 by omega) (by decide)
        rw [Jai, List.length_map]
        refine ⟨_, rfl, ?_⟩
        have e5 : (acc.map V.int ++ [V.int ((zeD (step f c).2).length : Nat)]) ++ (zeD (step f c).2).map V.int = ((acc ++ [((zeD (step f c).2).length : Int)]) ++ zeD (step f c).2).map V.int := by
          rw [List.map_append, List.map_append]
          rfl
        rw [e5]
        have e6 : ((pre.length : Nat) : Int) + ((l.length : Nat) : Int) = (((pre ++ l).length : Nat) : Int) := by
          rw [List.length_append]
          omega
        dsimp only
        rw [e6]
        refine ⟨⟨_, _, upd G an (.lst (((acc ++ [((zeD (step f c).2).length : Int)]) ++ zeD (step f c).2).map V.int)), pre ++ l, _, ls2, cs2, (step f c).1, rfl, sG.zH hHan, Ja, hB2.tick hGa, ?_, hbt, ?_⟩, ?_⟩
        · rw [hn2, List.append_assoc]
        · rw [ha]
          show acc ++ (((((zeD (step f c).2).length : Nat) : Int) :: zeD (step f c).2) ++ PyFlat.told (jdB (step f c).1 cs2)) = _
          simp [List.append_assoc]
        · show ns.length - ((((pre ++ l).length : Nat) : Int)).toNat < ns.length - (((pre.length : Nat) : Int)).toNat
          rw [Int.toNat_natCast, Int.toNat_natCast, List.length_append]
          omega
    · rintro σ H1 R R' hm ⟨v, e1, v2, e2, p, ys, e3, e4, i, j, e5, e6, bb, e7, z⟩
      exact ⟨v, e1, v2, e2, p, ys, e3, e4, i, j, e5, e6, bb, e7, hm _ _ z⟩
end
end Lr
namespace Lr
open PySem PySem.Spec PyProof.Rows L2
theorem JcT {p : List Value → Prop} (h : ∀ a0 : Value, p [a0]) : ∀ us : List Value, us.length = 1 → p us
  | [a0], _ => h a0
theorem jt {p : List Value → Prop} (h : ∀ a0 a1 : Value, p [a0, a1]) : ∀ us : List Value, us.length = 2 → p us
  | [a0, a1], _ => h a0 a1
theorem yz {p : List Value → Prop} (h : ∀ a0 a1 a2 : Value, p [a0, a1, a2]) : ∀ us : List Value, us.length = 3 → p us
  | [a0, a1, a2], _ => h a0 a1 a2
theorem yef {p : List Value → Prop} (h : ∀ a0 a1 a2 a3 : Value, p [a0, a1, a2, a3]) : ∀ us : List Value, us.length = 4 → p us
  | [a0, a1, a2, a3], _ => h a0 a1 a2 a3
theorem jhL {p : List Value → Prop} (h : ∀ a0 a1 a2 a3 a4 : Value, p [a0, a1, a2, a3, a4]) : ∀ us : List Value, us.length = 5 → p us
  | [a0, a1, a2, a3, a4], _ => h a0 a1 a2 a3 a4
theorem jhv {p : List Value → Prop} (h : ∀ a0 a1 a2 a3 a4 a5 : Value, p [a0, a1, a2, a3, a4, a5]) : ∀ us : List Value, us.length = 6 → p us
  | [a0, a1, a2, a3, a4, a5], _ => h a0 a1 a2 a3 a4 a5
theorem Jhv {p : List Value → Prop} (h : ∀ a0 a1 a2 a3 a4 a5 a6 : Value, p [a0, a1, a2, a3, a4, a5, a6]) : ∀ us : List Value, us.length = 7 → p us
  | [a0, a1, a2, a3, a4, a5, a6], _ => h a0 a1 a2 a3 a4 a5 a6
theorem yhE {K : W.Frag} {h : Heap} {mg : Str → Option Value} (X : K.In h) (G : h.Ns mainGlobals mg)
    {ZaE : Addr}
    {Z0 : Addr}
    {jG : Addr}
    {yaX : Addr}
    {Jb : Addr}
    {jc : Addr}
    {Zd : Addr}
    {Yb : Addr}
    {Yd : Addr}
    {Jf : Addr}
    {Jg : Addr}
    {Je : Addr}
    {yg : Addr}
    {Jk : Addr}
    {yD : Addr}
    {Ybl : Addr} {zg9 jgb Jgb zgc je9 Zgc : Value} {Zg9 ygc : Option Addr} {yg9 : Array (Option Value)}
    {JaT : Addr} {jgQ YfM jfM JfM ZeD zfN : Value} {JgQ ZfN : Option Addr} {zgR : Array (Option Value)}
    {YL : Addr} {Yfs YdC jdC JdC ycf zdD : Value} {jfs ZdD : Option Addr} {Jfs : Array (Option Value)}
    {Jam : Addr} {Jgl JeQ zeR ZeR Jdq yeR : Value} {zgm YeR : Option Addr} {Zgm : Array (Option Value)}
    {jL : Addr} {zft ydD YdD jdD Ycf JdD : Value} {Zft zdE : Option Addr} {yft : Array (Option Value)}
    {jbl : Addr} {Yg9 Ygc jgc Jgc Je9 zgd : Value} {jg9 Zgd : Option Addr} {Jg9 : Array (Option Value)}
    {J4 : Addr} {ZgG jfm Jfm zfn jdZ Zfn : Value} {ygG yfn : Option Addr} {YgG : Array (Option Value)}
    {Jw : Addr} {yfZ Yer jer Jer Jc5 zes : Value} {YfZ Zes : Option Addr} {jfZ : Array (Option Value)}
    {yl : Addr} {jeR zcU ZcU ycU YbE YcU : Value} {JeR jcU : Option Addr} {zeS : Array (Option Value)}
    {jd : Addr} {ZcF Za4 ya4 Ya4 zat ja4 : Value} {ycF Ja4 : Option Addr} {YcF : Array (Option Value)}
    {Yj : Addr} {JdZ Yb7 jb7 Jb7 za5 zb8 : Value} {zd0 Zb8 : Option Addr} {Zd0 : Array (Option Value)}
    {zg : Addr} {Yft ZdE ydE YdE jcf jdE : Value} {jft JdE : Option Addr} {Jft : Array (Option Value)}
    {jf : Addr} {yd0 yb8 Yb8 jb8 Za5 Jb8 : Value} {Yd0 zb9 : Option Addr} {jd0 : Array (Option Value)}
    {JL : Addr} {yfN Jd0 zd1 Zd1 jcF yd1 : Value} {YfN Yd1 : Option Addr} {jfN : Array (Option Value)}
    {Zq : Addr} {ZeS JcU zcV ZcV jbE ycV : Value} {yeS YcV : Option Addr} {YeS : Array (Option Value)}
    {ym : Addr} {JdL zbQ ZbQ ybQ JaU YbQ : Value} {zdM jbQ : Option Addr} {ZdM : Array (Option Value)}
    {ye : Addr} {Zdh ybv Ybv jbv JaJ Jbv : Value} {ydh zbw : Option Addr} {Ydh : Array (Option Value)}
    {Zj : Addr} {Jek ycn Ycn jcn zbi Jcn : Value} {zel zco : Option Addr} {Zel : Array (Option Value)}
    {zf : Addr} {jdh Zbw ybw Ybw zaK jbw : Value} {Jdh Jbw : Option Addr} {zdi : Array (Option Value)}
    {yj : Addr} {Zdi zbx Zbx ybx ZaK Ybx : Value} {ydi jbx : Option Addr} {Ydi : Array (Option Value)}
    {zx : Addr} {JfZ Yes jes Jes zc6 zet : Value} {zf0 Zet : Option Addr} {Zf0 : Array (Option Value)}
    {Zg : Addr} {zdr JbE zbF ZbF YaO ybF : Value} {Zdr YbF : Option Addr} {ydr : Array (Option Value)}
    {yq : Addr} {jeS jcV JcV zcW jbF ZcW : Value} {JeS ycW : Option Addr} {zeT : Array (Option Value)}
    {Yg : Addr} {jd1 Zb9 yb9 Yb9 ya5 jb9 : Value} {Jd1 Jb9 : Option Addr} {zd2 : Array (Option Value)}
    {jj : Addr} {Zd2 zca Zca yca Ya5 Yca : Value} {yd2 jca : Option Addr} {Yd2 : Array (Option Value)}
    {Zm : Addr} {jdi Jbx zby Zby yaK yby : Value} {Jdi Yby : Option Addr} {zdj : Array (Option Value)}
    {jC : Addr} {ZeT YcW jcW JcW JbF zcX : Value} {yeT ZcX : Option Addr} {YeT : Array (Option Value)}
    {ZS : Addr} {JfN jd2 Jd2 zd3 JcF Zd3 : Value} {zfO yd3 : Option Addr} {ZfO : Array (Option Value)}
    {jy : Addr} {yeD zcG ZcG ycG Zbs YcG : Value} {YeD jcG : Option Addr} {jeD : Array (Option Value)}
    {zM : Addr} {zfu zdF ZdF ydF Jcf YdF : Value} {Zfu jdF : Option Addr} {yfu : Array (Option Value)}
    {ZM : Addr} {Yfu JdF zdG ZdG zcg ydG : Value} {jfu YdG : Option Addr} {Jfu : Array (Option Value)}
    {Jy : Addr} {JeD JcG zcH ZcH ybs ycH : Value} {zeE YcH : Option Addr} {ZeE : Array (Option Value)}
    {yS : Addr} {yfO Yd3 jd3 Jd3 jcH zd4 : Value} {YfO Zd4 : Option Addr} {jfO : Array (Option Value)}
    {Yh : Addr} {Zct zaY ZaY yaY Jaj YaY : Value} {yct jaY : Option Addr} {Yct : Array (Option Value)}
    {Js : Addr} {yd4 Jca zcb Zcb ja5 ycb : Value} {Yd4 Ycb : Option Addr} {jd4 : Array (Option Value)}
    {Yp : Addr} {ydM JbQ zbR ZbR zaV ybR : Value} {YdM YbR : Option Addr} {jdM : Array (Option Value)}
    {Jp : Addr} {JdM jbR JbR zbS ZaV ZbS : Value} {zdN ybS : Option Addr} {ZdN : Array (Option Value)}
    {yM : Addr} {zfv jdG JdG zdH Zcg ZdH : Value} {Zfv ydH : Option Addr} {yfv : Array (Option Value)}
    {YS : Addr} {JfO Jd4 zd5 Zd5 JcH yd5 : Value} {zfP Yd5 : Option Addr} {ZfP : Array (Option Value)}
    {zz : Addr} {yeE zcI ZcI ycI Ybs YcI : Value} {YeE jcI : Option Addr} {jeE : Array (Option Value)}
    {jh : Addr} {jct JaY zaZ ZaZ zak yaZ : Value} {Jct YaZ : Option Addr} {zcu : Array (Option Value)}
    {Zt : Addr} {jd5 jcb Jcb zcc Ja5 Zcc : Value} {Jd5 ycc : Option Addr} {zd6 : Array (Option Value)}
    {zq : Addr} {ydN YbS jbS JbS yaV zbT : Value} {YdN ZbT : Option Addr} {jdN : Array (Option Value)}
    {YM : Addr} {Yfv YdH jdH JdH ycg zdI : Value} {jfv ZdI : Option Addr} {Jfv : Array (Option Value)}
    {Jaa : Addr} {yf0 Yet jet Jet Zc6 zeu : Value} {Yf0 Zeu : Option Addr} {jf0 : Array (Option Value)}
    {ji : Addr} {JcI za6 Za6 ya6 Zat Ya6 : Value} {zcJ ja6 : Option Addr} {ZcJ : Array (Option Value)}
    {Zw : Addr} {yel Zco yco Yco Zbi jco : Value} {Yel Jco : Option Addr} {jel : Array (Option Value)}
    {yt : Addr} {Zd6 Ycc jcc Jcc Ja6 zcd : Value} {yd6 Zcd : Option Addr} {Yd6 : Array (Option Value)}
    {JS : Addr} {yfP jd6 Jd6 zd7 ycJ Zd7 : Value} {YfP yd7 : Option Addr} {jfP : Array (Option Value)}
    {jM : Addr} {zfw ydI YdI jdI Ycg JdI : Value} {Zfw zdJ : Option Addr} {yfw : Array (Option Value)}
    {JC : Addr} {jeT ycX YcX jcX zbG JcX : Value} {JeT zcY : Option Addr} {zeU : Array (Option Value)}
    {YG : Addr} {zfa Zdj ydj Ydj JbV jdj : Value} {Zfa Jdj : Option Addr} {yfa : Array (Option Value)}
    {zan : Addr} {ygm ZeU yeU YeU Ydr jeU : Value} {Ygm JeU : Option Addr} {jgm : Array (Option Value)}
    {zj : Addr} {ycO Zbg ybg Ybg Yaw jbg : Value} {YcO Jbg : Option Addr} {jcO : Array (Option Value)}
    {Zz : Addr} {JeE YcJ jcJ JcJ jbs zcK : Value} {zeF ZcK : Option Addr} {ZeF : Array (Option Value)}
    {yw : Addr} {Jel zcp Zcp ycp ybi Ycp : Value} {zem jcp : Option Addr} {Zem : Array (Option Value)}
    {zV : Addr} {Jf0 yeu Yeu jeu yc6 Jeu : Value} {zf1 Zev : Option Addr} {Zf1 : Array (Option Value)}
    {jq : Addr} {yem Jcp zcq Zcq Ybi ycq : Value} {Yem Ycq : Option Addr} {jem : Array (Option Value)}
    {Zn : Addr} {zeV ZcY ycY YcY ZbG jcY : Value} {ZeV JcY : Option Addr} {yeV : Array (Option Value)}
    {jk : Addr} {jdr ybG YbG jbG jaO JbG : Value} {Jdr zbH : Option Addr} {zds : Array (Option Value)}
    {ZD : Addr} {JfP Yd7 jd7 Jd7 ycK zd8 : Value} {zfQ Zd8 : Option Addr} {ZfQ : Array (Option Value)}
    {JN : Addr} {yf1 yev Yev jev Yc6 Jev : Value} {Yf1 zew : Option Addr} {jf1 : Array (Option Value)}
    {Yac : Addr} {Jgm YeV jeV JeV Zds zeW : Value} {zgn ZeW : Option Addr} {Zgn : Array (Option Value)}
    {yV : Addr} {Jf1 Zew yew Yew jc6 jew : Value} {zf2 Jew : Option Addr} {Zf2 : Array (Option Value)}
    {jac : Addr} {ygn yeW YeW jeW yds JeW : Value} {Ygn zeX : Option Addr} {jgn : Array (Option Value)}
    {zF : Addr} {Yfw ZdJ ydJ YdJ jcg jdJ : Value} {jfw JdJ : Option Addr} {Jfw : Array (Option Value)}
    {Yx : Addr} {Yfa zdk Zdk ydk zbW Ydk : Value} {jfa jdk : Option Addr} {Jfa : Array (Option Value)}
    {Jz : Addr} {zfb Jdk zdl Zdl ZbW ydl : Value} {Zfb Ydl : Option Addr} {yfb : Array (Option Value)}
    {zu : Addr} {Yfb jdl Jdl zdm ybW Zdm : Value} {jfb ydm : Option Addr} {Jfb : Array (Option Value)}
    {Ym : Addr} {JdN ybT YbT jbT YaV JbT : Value} {zdO zbU : Option Addr} {ZdO : Array (Option Value)}
    {JD : Addr} {yf2 zex Zex yex Jc6 Yex : Value} {Yf2 jex : Option Addr} {jf2 : Array (Option Value)}
    {Zab : Addr} {Jf2 Jex zey Zey zc7 yey : Value} {zf3 Yey : Option Addr} {Zf3 : Array (Option Value)}
    {JM : Addr} {zfx zdK ZdK ydK Jcg YdK : Value} {Zfx jdK : Option Addr} {yfx : Array (Option Value)}
    {Zan : Addr} {Jgn ZeX yeX YeX Yds jeX : Value} {zgo JeX : Option Addr} {Zgo : Array (Option Value)}
    {yan : Addr} {ygo zeY ZeY yeY jds YeY : Value} {Ygo jeY : Option Addr} {jgo : Array (Option Value)}
    {Yan : Addr} {Jgo JeY zeZ ZeZ Jds yeZ : Value} {zgp YeZ : Option Addr} {Zgp : Array (Option Value)}
    {zT : Addr} {yfQ yd8 Yd8 jd8 YcK Jd8 : Value} {YfQ zd9 : Option Addr} {jfQ : Array (Option Value)}
    {jan : Addr} {ygp jeZ JeZ ze0 zdt Ze0 : Value} {Ygp ye0 : Option Addr} {jgp : Array (Option Value)}
    {zax : Addr} {ZgR JfQ zfR ZfR yeF yfR : Value} {ygR YfR : Option Addr} {YgR : Array (Option Value)}
    {YT : Addr} {jfR Zd9 yd9 Yd9 jcK jd9 : Value} {JfR Jd9 : Option Addr} {zfS : Array (Option Value)}
    {Ybm : Addr} {zha ygd Ygd jgd zfc Jgd : Value} {Zha zge : Option Addr} {yha : Array (Option Value)}
    {YaC : Addr} {jgG Yfn jfn Jfn zea zfo : Value} {JgG Zfo : Option Addr} {zgH : Array (Option Value)}
    {Yt : Addr} {Zea ycd Ycd jcd za7 Jcd : Value} {yea zce : Option Addr} {Yea : Array (Option Value)}
    {Zc4 : Addr} {zhw zg0 Zg0 yg0 Jgp Yg0 : Value} {Zhw jg0 : Option Addr} {yhw : Array (Option Value)}
    {jey : Tok}
    {jea : Tok}
    {Ye0 : Tok}
    {ZfS : Tok}
    {Jea : Tok}
    {yfo : Tok}
    {Yfo : Tok}
    {jfo : Tok}
    {zho : Tok}
    {Jey : Tok}
    {ZgH : Tok}
    {yfS : Tok}
    {ygH : Tok}
    {YgH : Tok}
    {jgH : Tok}
    {Jfo : Tok}
    {JgH : Tok}
    {Jg0 : Tok}
    {Zge : Tok}
    {Zho : Tok}
    {zg1 : Tok}
    {yge : Tok}
    {yho : Tok}
    {Yho : Tok}
    {zgI : Tok}
    {jho : Tok}
    {jw : Addr}
    {jgR : Option Addr} {JgR : Nat} {zgS : Array (Option Value)} {ZgI : Tok} {ygI : Tok} {YgI : Tok} {jgI : Tok} {JgI : Tok} {zgJ : Tok} {ZgJ : Tok} {ygJ : Tok} {YgJ : Tok} {jgJ : Tok} {zgq : Tok} {Zgq : Tok} {ygq : Tok} {Ygq : Tok} {jgq : Tok} {Jgq : Tok}
    (YfS : W.nsIn K mainGlobals "Entry" = some (some (.ref ZaE)))
    (Zdt : W.nsIn K mainGlobals "PlotEntry" = some (some (.ref Z0)))
    (JcK : W.nsIn K mainGlobals "PersonEntry" = some (some (.ref jG)))
    (jfS : W.nsIn K mainGlobals "Grant" = some (some (.ref yaX)))
    (zeb : W.nsIn K mainGlobals "Transfer" = some (some (.ref Jb)))
    (Zfc : W.nsIn K mainGlobals "Charge" = some (some (.ref jc)))
    (yfc : W.nsIn K mainGlobals "Notice" = some (some (.ref Zd)))
    (ydt : W.nsIn K mainGlobals "Objection" = some (some (.ref Yb)))
    (Yfc : W.nsIn K mainGlobals "Fulfil" = some (some (.ref Yd)))
    (jfc : W.nsIn K mainGlobals "Strike" = some (some (.ref Jf)))
    (JfS : W.nsIn K mainGlobals "Ahead" = some (some (.ref Jg)))
    (YeF : W.nsIn K mainGlobals "Correct" = some (some (.ref Je)))
    (zgr : W.nsIn K mainGlobals "Void" = some (some (.ref yg)))
    (zfT : W.nsIn K mainGlobals "Sheet" = some (some (.ref Jk)))
    (Zgr : W.nsIn K mainGlobals "Book" = some (some (.ref yD)))
    (ZfT : W.nsIn K mainGlobals "all_of" = some (some (.ref Ybl)))
    (je0 : K.lookup Ybl = some ⟨zg9, Zg9, .func (W.fnOf "all_of" "all_of" (Zb ya1) (zb ya1) (za ya1) .none jgb Jgb zgc ygc je9 Zgc), yg9⟩)
    (Je0 : W.codeIn K je9 "all_of" = true)
    (ze1 : W.keepIn K (.ref Ybl) = true)
    (Jfc : W.nsIn K mainGlobals "without" = some (some (.ref JaT)))
    (Yef : K.lookup JaT = some ⟨jgQ, JgQ, .func (W.fnOf "without" "without" (Zb JaH) (zb JaH) (za JaH) .none YfM jfM JfM ZfN ZeD zfN), zgR⟩)
    (jef : W.codeIn K ZeD "without" = true)
    (Jef : W.keepIn K (.ref JaT) = true)
    (zcL : W.nsIn K mainGlobals "stands_first" = some (some (.ref YL)))
    (ZbH : K.lookup YL = some ⟨Yfs, jfs, .func (W.fnOf "stands_first" "stands_first" (Zb ZK) (zb ZK) (za ZK) .none YdC jdC JdC ZdD ycf zdD), Jfs⟩)
    (ybH : W.codeIn K ycf "stands_first" = true)
    (YbH : W.keepIn K (.ref YL) = true)
    (Zeb : W.nsIn K mainGlobals "put_ahead" = some (some (.ref Jam)))
    (zcZ : K.lookup Jam = some ⟨Jgl, zgm, .func (W.fnOf "put_ahead" "put_ahead" (Zb Jal) (zb Jal) (za Jal) .none JeQ zeR ZeR YeR Jdq yeR), Zgm⟩)
    (ZcZ : W.codeIn K Jdq "put_ahead" = true)
    (ycZ : W.keepIn K (.ref Jam) = true)
    (ZcL : W.nsIn K mainGlobals "shared_place" = some (some (.ref jL)))
    (jbH : K.lookup jL = some ⟨zft, Zft, .func (W.fnOf "shared_place" "shared_place" (Zb yE) (zb yE) (za yE) .none ydD YdD jdD zdE Ycf JdD), yft⟩)
    (JbH : W.codeIn K Ycf "shared_place" = true)
    (zbI : W.keepIn K (.ref jL) = true)
    (yfT : W.nsIn K mainGlobals "shares" = some (some (.ref jbl)))
    (Ze1 : K.lookup jbl = some ⟨Yg9, jg9, .func (W.fnOf "shares" "shares" (Zb Zbl) (zb Zbl) (za Zbl) .none Ygc jgc Jgc Zgd Je9 zgd), Jg9⟩)
    (ye1 : W.codeIn K Je9 "shares" = true)
    (Ye1 : W.keepIn K (.ref jbl) = true)
    (jeF : W.nsIn K mainGlobals "entry_at" = some (some (.ref J4)))
    (Ydt : K.lookup J4 = some ⟨ZgG, ygG, .func (W.fnOf "entry_at" "entry_at" (Zb ZaC) (zb ZaC) (za ZaC) .none jfm Jfm zfn yfn jdZ Zfn), YgG⟩)
    (jdt : W.codeIn K jdZ "entry_at" = true)
    (Jdt : W.keepIn K (.ref J4) = true)
    (je1 : W.findIn K (.ref ZaE) "__init__" = some (some (.ref Jw)))
    (Je1 : W.isFn K (.ref Jw) = true)
    (Zcu : K.lookup Jw = some ⟨yfZ, YfZ, .func (W.fnOf "__init__" "Entry.__init__" (Zb Y9) (zb Y9) (za Y9) .none Yer jer Jer Zes Jc5 zes), jfZ⟩)
    (ycu : W.codeIn K Jc5 "Entry.__init__" = true)
    (zO : W.keepIn K (.ref Jw) = true)
    (Ydm : W.findIn K (.ref ZaE) "is_sound" = some (some (.ref yl)))
    (YaK : W.isFn K (.ref yl) = true)
    (ybd : K.lookup yl = some ⟨jeR, JeR, .func (W.fnOf "is_sound" "Entry.is_sound" (Zb YB) (zb YB) (za YB) .none zcU ZcU ycU jcU YbE YcU), zeS⟩)
    (Ybd : W.codeIn K YbE "Entry.is_sound" = true)
    (J8 : W.keepIn K (.ref yl) = true)
    (zbh : W.findIn K (.ref ZaE) "finds_its_entries" = some (some (.ref jd)))
    (Jt : W.isFn K (.ref jd) = true)
    (J1 : K.lookup jd = some ⟨ZcF, ycF, .func (W.fnOf "finds_its_entries" "Entry.finds_its_entries" (Zb Zi) (zb Zi) (za Zi) .none Za4 ya4 Ya4 Ja4 zat ja4), YcF⟩)
    (Z2 : W.codeIn K zat "Entry.finds_its_entries" = true)
    (Zk : W.keepIn K (.ref jd) = true)
    (jcq : W.findIn K (.ref ZaE) "may_be_made" = some (some (.ref Yj)))
    (YaE : W.isFn K (.ref Yj) = true)
    (jaE : K.lookup Yj = some ⟨JdZ, zd0, .func (W.fnOf "may_be_made" "Entry.may_be_made" (Zb Jq) (zb Jq) (za Jq) .none Yb7 jb7 Jb7 Zb8 za5 zb8), Zd0⟩)
    (JaE : W.codeIn K za5 "Entry.may_be_made" = true)
    (jZ : W.keepIn K (.ref Yj) = true)
    (yeb : W.findIn K (.ref ZaE) "settle" = some (some (.ref zg)))
    (zN : W.isFn K (.ref zg) = true)
    (ZbI : K.lookup zg = some ⟨Yft, jft, .func (W.fnOf "settle" "Entry.settle" (Zb yK) (zb yK) (za yK) .none ZdE ydE YdE JdE jcf jdE), Jft⟩)
    (ybI : W.codeIn K jcf "Entry.settle" = true)
    (jA : W.keepIn K (.ref zg) = true)
    (Jcq : W.findIn K (.ref ZaE) "take_effect" = some (some (.ref jf)))
    (ZJ : W.isFn K (.ref jf) = true)
    (zaF : K.lookup jf = some ⟨yd0, Yd0, .func (W.fnOf "take_effect" "Entry.take_effect" (Zb zr) (zb zr) (za zr) .none yb8 Yb8 jb8 zb9 Za5 Jb8), jd0⟩)
    (ZaF : W.codeIn K Za5 "Entry.take_effect" = true)
    (yx : W.keepIn K (.ref jf) = true)
    (zez : W.findIn K (.ref ZaE) "enter" = some (some (.ref JL)))
    (Zc7 : W.isFn K (.ref JL) = true)
    (jbY : K.lookup JL = some ⟨yfN, YfN, .func (W.fnOf "enter" "Entry.enter" (Zb YQ) (zb YQ) (za YQ) .none Jd0 zd1 Zd1 Yd1 jcF yd1), jfN⟩)
    (JbY : W.codeIn K jcF "Entry.enter" = true)
    (Zbo : W.keepIn K (.ref JL) = true)
    (jdm : W.findIn K (.ref Z0) "__init__" = some (some (.ref Zq)))
    (Jdm : W.isFn K (.ref Zq) = true)
    (jbd : K.lookup Zq = some ⟨ZeS, yeS, .func (W.fnOf "__init__" "PlotEntry.__init__" (Zb jB) (zb jB) (za jB) .none JcU zcV ZcV YcV jbE ycV), YeS⟩)
    (Jbd : W.codeIn K jbE "PlotEntry.__init__" = true)
    (jH : W.keepIn K (.ref Zq) = true)
    (Zce : W.findIn K (.ref Z0) "is_sound" = some (some (.ref ym)))
    (Za7 : W.isFn K (.ref ym) = true)
    (Jaz : K.lookup ym = some ⟨JdL, zdM, .func (W.fnOf "is_sound" "PlotEntry.is_sound" (Zb Yo) (zb Yo) (za Yo) .none zbQ ZbQ ybQ jbQ JaU YbQ), ZdM⟩)
    (zaA : W.codeIn K JaU "PlotEntry.is_sound" = true)
    (Yad : W.keepIn K (.ref ym) = true)
    (YbI : W.findIn K (.ref Z0) "plot_among" = some (some (.ref ye)))
    (jz : W.isFn K (.ref ye) = true)
    (Zak : K.lookup ye = some ⟨Zdh, ydh, .func (W.fnOf "plot_among" "PlotEntry.plot_among" (Zb Yl) (zb Yl) (za Yl) .none ybv Ybv jbv zbw JaJ Jbv), Ydh⟩)
    (yak : W.codeIn K JaJ "PlotEntry.plot_among" = true)
    (yo : W.keepIn K (.ref ye) = true)
    (ycL : W.findIn K (.ref jG) "__init__" = some (some (.ref Zj)))
    (Jbs : W.isFn K (.ref Zj) = true)
    (JaO : K.lookup Zj = some ⟨Jek, zel, .func (W.fnOf "__init__" "PersonEntry.__init__" (Zb Ju) (zb Ju) (za Ju) .none ycn Ycn jcn zco zbi Jcn), Zel⟩)
    (zaP : W.codeIn K zbi "PersonEntry.__init__" = true)
    (yF : W.keepIn K (.ref Zj) = true)
    (jbI : W.findIn K (.ref jG) "is_there" = some (some (.ref zf)))
    (yI : W.isFn K (.ref zf) = true)
    (Yak : K.lookup zf = some ⟨jdh, Jdh, .func (W.fnOf "is_there" "PersonEntry.is_there" (Zb jl) (zb jl) (za jl) .none Zbw ybw Ybw Jbw zaK jbw), zdi⟩)
    (jak : W.codeIn K zaK "PersonEntry.is_there" = true)
    (Yu : W.keepIn K (.ref zf) = true)
    (JbI : W.findIn K (.ref jG) "is_sound" = some (some (.ref yj)))
    (ZaP : W.isFn K (.ref yj) = true)
    (Jak : K.lookup yj = some ⟨Zdi, ydi, .func (W.fnOf "is_sound" "PersonEntry.is_sound" (Zb Jl) (zb Jl) (za Jl) .none zbx Zbx ybx jbx ZaK Ybx), Ydi⟩)
    (zal : W.codeIn K ZaK "PersonEntry.is_sound" = true)
    (YW : W.keepIn K (.ref yj) = true)
    (ze2 : W.findIn K (.ref yaX) "__init__" = some (some (.ref zx)))
    (Ycu : W.isFn K (.ref zx) = true)
    (jcu : K.lookup zx = some ⟨JfZ, zf0, .func (W.fnOf "__init__" "Grant.__init__" (Zb j9) (zb j9) (za j9) .none Yes jes Jes Zet zc6 zet), Zf0⟩)
    (Jcu : W.codeIn K zc6 "Grant.__init__" = true)
    (yaz : W.keepIn K (.ref zx) = true)
    (ZbU : W.findIn K (.ref yaX) "has_its_giver" = some (some (.ref Zg)))
    (Z4 : W.isFn K (.ref Zg) = true)
    (jav : K.lookup Zg = some ⟨zdr, Zdr, .func (W.fnOf "has_its_giver" "Grant.has_its_giver" (Zb jn) (zb jn) (za jn) .none JbE zbF ZbF YbF YaO ybF), ydr⟩)
    (Jav : W.codeIn K YaO "Grant.has_its_giver" = true)
    (YD : W.keepIn K (.ref Zg) = true)
    (zdn : W.findIn K (.ref yaX) "is_sound" = some (some (.ref yq)))
    (zbe : W.isFn K (.ref yq) = true)
    (Zbe : K.lookup yq = some ⟨jeS, JeS, .func (W.fnOf "is_sound" "Grant.is_sound" (Zb JB) (zb JB) (za JB) .none jcV JcV zcW ycW jbF ZcW), zeT⟩)
    (ybe : W.codeIn K jbF "Grant.is_sound" = true)
    (zar : W.keepIn K (.ref yq) = true)
    (zcr : W.findIn K (.ref yaX) "may_be_made" = some (some (.ref Yg)))
    (Zai : W.isFn K (.ref Yg) = true)
    (yaF : K.lookup Yg = some ⟨jd1, Jd1, .func (W.fnOf "may_be_made" "Grant.may_be_made" (Zb Zr) (zb Zr) (za Zr) .none Zb9 yb9 Yb9 Jb9 ya5 jb9), zd2⟩)
    (YaF : W.codeIn K ya5 "Grant.may_be_made" = true)
    (yJ : W.keepIn K (.ref Yg) = true)
    (Zcr : W.findIn K (.ref yaX) "take_effect" = some (some (.ref jj)))
    (jaF : W.isFn K (.ref jj) = true)
    (JaF : K.lookup jj = some ⟨Zd2, yd2, .func (W.fnOf "take_effect" "Grant.take_effect" (Zb yr) (zb yr) (za yr) .none zca Zca yca jca Ya5 Yca), Yd2⟩)
    (zaG : W.codeIn K Ya5 "Grant.take_effect" = true)
    (JZ : W.keepIn K (.ref jj) = true)
    (yaP : W.findIn K (.ref Jb) "take_effect" = some (some (.ref Zm)))
    (YaP : W.isFn K (.ref Zm) = true)
    (Zal : K.lookup Zm = some ⟨jdi, Jdi, .func (W.fnOf "take_effect" "Transfer.take_effect" (Zb zm) (zb zm) (za zm) .none Jbx zby Zby Yby yaK yby), zdj⟩)
    (yal : W.codeIn K yaK "Transfer.take_effect" = true)
    (jW : W.keepIn K (.ref Zm) = true)
    (YbW : W.findIn K (.ref Jb) "enter" = some (some (.ref jC)))
    (jbW : W.isFn K (.ref jC) = true)
    (Ybe : K.lookup jC = some ⟨ZeT, yeT, .func (W.fnOf "enter" "Transfer.enter" (Zb ZC) (zb ZC) (za ZC) .none YcW jcW JcW ZcX JbF zcX), YeT⟩)
    (jbe : W.codeIn K JbF "Transfer.enter" = true)
    (jaK : W.keepIn K (.ref jC) = true)
    (yc7 : W.findIn K (.ref jc) "__init__" = some (some (.ref ZS)))
    (Yc7 : W.isFn K (.ref ZS) = true)
    (zbZ : K.lookup ZS = some ⟨JfN, zfO, .func (W.fnOf "__init__" "Charge.__init__" (Zb jQ) (zb jQ) (za jQ) .none jd2 Jd2 zd3 yd3 JcF Zd3), ZfO⟩)
    (ZbZ : W.codeIn K JcF "Charge.__init__" = true)
    (ybZ : W.keepIn K (.ref ZS) = true)
    (zbJ : W.findIn K (.ref jc) "is_sound" = some (some (.ref jy)))
    (ZbJ : W.isFn K (.ref jy) = true)
    (jaZ : K.lookup jy = some ⟨yeD, YeD, .func (W.fnOf "is_sound" "Charge.is_sound" (Zb Jx) (zb Jx) (za Jx) .none zcG ZcG ycG jcG Zbs YcG), jeD⟩)
    (JaZ : W.codeIn K Zbs "Charge.is_sound" = true)
    (ZaA : W.keepIn K (.ref jy) = true)
    (YcL : W.findIn K (.ref jc) "enter" = some (some (.ref zM)))
    (jcL : W.isFn K (.ref zM) = true)
    (ybJ : K.lookup zM = some ⟨zfu, Zfu, .func (W.fnOf "enter" "Charge.enter" (Zb YK) (zb YK) (za YK) .none zdF ZdF ydF jdF Jcf YdF), yfu⟩)
    (YbJ : W.codeIn K Jcf "Charge.enter" = true)
    (ya7 : W.keepIn K (.ref zM) = true)
    (JcL : W.findIn K (.ref Zd) "enter" = some (some (.ref ZM)))
    (zcM : W.isFn K (.ref ZM) = true)
    (jbJ : K.lookup ZM = some ⟨Yfu, jfu, .func (W.fnOf "enter" "Notice.enter" (Zb jK) (zb jK) (za jK) .none JdF zdG ZdG YdG zcg ydG), Jfu⟩)
    (JbJ : W.codeIn K zcg "Notice.enter" = true)
    (Ya7 : W.keepIn K (.ref ZM) = true)
    (zbK : W.findIn K (.ref Yb) "enter" = some (some (.ref Jy)))
    (ZbK : W.isFn K (.ref Jy) = true)
    (za0 : K.lookup Jy = some ⟨JeD, zeE, .func (W.fnOf "enter" "Objection.enter" (Zb zy) (zb zy) (za zy) .none JcG zcH ZcH YcH ybs ycH), ZeE⟩)
    (Za0 : W.codeIn K ybs "Objection.enter" = true)
    (yaA : W.keepIn K (.ref Jy) = true)
    (jc7 : W.findIn K (.ref Yd) "__init__" = some (some (.ref yS)))
    (Jc7 : W.isFn K (.ref yS) = true)
    (YbZ : K.lookup yS = some ⟨yfO, YfO, .func (W.fnOf "__init__" "Fulfil.__init__" (Zb JQ) (zb JQ) (za JQ) .none Yd3 jd3 Jd3 Zd4 jcH zd4), jfO⟩)
    (jbZ : W.codeIn K jcH "Fulfil.__init__" = true)
    (JbZ : W.keepIn K (.ref yS) = true)
    (yat : W.findIn K (.ref Yd) "finds_its_entries" = some (some (.ref Yh)))
    (Yat : W.isFn K (.ref Yh) = true)
    (JW : K.lookup Yh = some ⟨Zct, yct, .func (W.fnOf "finds_its_entries" "Fulfil.finds_its_entries" (Zb Zh) (zb Zh) (za Zh) .none zaY ZaY yaY jaY Jaj YaY), Yct⟩)
    (zX : W.codeIn K Jaj "Fulfil.finds_its_entries" = true)
    (YF : W.keepIn K (.ref Yh) = true)
    (jbi : W.findIn K (.ref Yd) "plot_among" = some (some (.ref Js)))
    (Jbi : W.isFn K (.ref Js) = true)
    (ZaG : K.lookup Js = some ⟨yd4, Yd4, .func (W.fnOf "plot_among" "Fulfil.plot_among" (Zb Yr) (zb Yr) (za Yr) .none Jca zcb Zcb Ycb ja5 ycb), jd4⟩)
    (yaG : W.codeIn K ja5 "Fulfil.plot_among" = true)
    (yai : W.keepIn K (.ref Js) = true)
    (ja7 : W.findIn K (.ref Yd) "may_be_made" = some (some (.ref Yp)))
    (Ja7 : W.isFn K (.ref Yp) = true)
    (YaA : K.lookup Yp = some ⟨ydM, YdM, .func (W.fnOf "may_be_made" "Fulfil.may_be_made" (Zb jo) (zb jo) (za jo) .none JbQ zbR ZbR YbR zaV ybR), jdM⟩)
    (jaA : W.codeIn K zaV "Fulfil.may_be_made" = true)
    (jad : W.keepIn K (.ref Yp) = true)
    (za8 : W.findIn K (.ref Yd) "take_effect" = some (some (.ref Jp)))
    (Za8 : W.isFn K (.ref Jp) = true)
    (JaA : K.lookup Jp = some ⟨JdM, zdN, .func (W.fnOf "take_effect" "Fulfil.take_effect" (Zb Jo) (zb Jo) (za Jo) .none jbR JbR zbS ybS ZaV ZbS), ZdN⟩)
    (zaB : W.codeIn K ZaV "Fulfil.take_effect" = true)
    (Jad : W.keepIn K (.ref Jp) = true)
    (ZcM : W.findIn K (.ref Yd) "enter" = some (some (.ref yM)))
    (ycM : W.isFn K (.ref yM) = true)
    (ybK : K.lookup yM = some ⟨zfv, Zfv, .func (W.fnOf "enter" "Fulfil.enter" (Zb JK) (zb JK) (za JK) .none jdG JdG zdH ydH Zcg ZdH), yfv⟩)
    (YbK : W.codeIn K Zcg "Fulfil.enter" = true)
    (ya8 : W.keepIn K (.ref yM) = true)
    (zc8 : W.findIn K (.ref Jf) "__init__" = some (some (.ref YS)))
    (Zc8 : W.isFn K (.ref YS) = true)
    (zb0 : K.lookup YS = some ⟨JfO, zfP, .func (W.fnOf "__init__" "Strike.__init__" (Zb zR) (zb zR) (za zR) .none Jd4 zd5 Zd5 Yd5 JcH yd5), ZfP⟩)
    (Zb0 : W.codeIn K JcH "Strike.__init__" = true)
    (yb0 : W.keepIn K (.ref YS) = true)
    (jbK : W.findIn K (.ref Jf) "is_sound" = some (some (.ref zz)))
    (JbK : W.isFn K (.ref zz) = true)
    (ya0 : K.lookup zz = some ⟨yeE, YeE, .func (W.fnOf "is_sound" "Strike.is_sound" (Zb Zy) (zb Zy) (za Zy) .none zcI ZcI ycI jcI Ybs YcI), jeE⟩)
    (Ya0 : W.codeIn K Ybs "Strike.is_sound" = true)
    (ZaB : W.keepIn K (.ref zz) = true)
    (jat : W.findIn K (.ref Jf) "finds_its_entries" = some (some (.ref jh)))
    (Jat : W.isFn K (.ref jh) = true)
    (ZX : K.lookup jh = some ⟨jct, Jct, .func (W.fnOf "finds_its_entries" "Strike.finds_its_entries" (Zb yh) (zb yh) (za yh) .none JaY zaZ ZaZ YaZ zak yaZ), zcu⟩)
    (yX : W.codeIn K zak "Strike.finds_its_entries" = true)
    (jF : W.keepIn K (.ref jh) = true)
    (zbj : W.findIn K (.ref Jf) "plot_among" = some (some (.ref Zt)))
    (Zbj : W.isFn K (.ref Zt) = true)
    (YaG : K.lookup Zt = some ⟨jd5, Jd5, .func (W.fnOf "plot_among" "Strike.plot_among" (Zb jr) (zb jr) (za jr) .none jcb Jcb zcc ycc Ja5 Zcc), zd6⟩)
    (jaG : W.codeIn K Ja5 "Strike.plot_among" = true)
    (Yai : W.keepIn K (.ref Zt) = true)
    (Ya8 : W.findIn K (.ref Jf) "may_be_made" = some (some (.ref zq)))
    (ja8 : W.isFn K (.ref zq) = true)
    (yaB : K.lookup zq = some ⟨ydN, YdN, .func (W.fnOf "may_be_made" "Strike.may_be_made" (Zb zp) (zb zp) (za zp) .none YbS jbS JbS ZbT yaV zbT), jdN⟩)
    (YaB : W.codeIn K yaV "Strike.may_be_made" = true)
    (zae : W.keepIn K (.ref zq) = true)
    (YcM : W.findIn K (.ref Jf) "enter" = some (some (.ref YM)))
    (jcM : W.isFn K (.ref YM) = true)
    (zbL : K.lookup YM = some ⟨Yfv, jfv, .func (W.fnOf "enter" "Strike.enter" (Zb zL) (zb zL) (za zL) .none YdH jdH JdH ZdI ycg zdI), Jfv⟩)
    (ZbL : W.codeIn K ycg "Strike.enter" = true)
    (Ja8 : W.keepIn K (.ref YM) = true)
    (zdu : W.findIn K (.ref Jg) "__init__" = some (some (.ref Jaa)))
    (Zdu : W.isFn K (.ref Jaa) = true)
    (zcv : K.lookup Jaa = some ⟨yf0, Yf0, .func (W.fnOf "__init__" "Ahead.__init__" (Zb J9) (zb J9) (za J9) .none Yet jet Jet Zeu Zc6 zeu), jf0⟩)
    (Zcv : W.codeIn K Zc6 "Ahead.__init__" = true)
    (ycv : W.keepIn K (.ref Jaa) = true)
    (jaw : W.findIn K (.ref Jg) "finds_its_entries" = some (some (.ref ji)))
    (Jaw : W.isFn K (.ref ji) = true)
    (J2 : K.lookup ji = some ⟨JcI, zcJ, .func (W.fnOf "finds_its_entries" "Ahead.finds_its_entries" (Zb Yi) (zb Yi) (za Yi) .none za6 Za6 ya6 ja6 Zat Ya6), ZcJ⟩)
    (Z3 : W.codeIn K Zat "Ahead.finds_its_entries" = true)
    (zJ : W.keepIn K (.ref ji) = true)
    (zbt : W.findIn K (.ref Jg) "plot_among" = some (some (.ref Zw)))
    (Zbt : W.isFn K (.ref Zw) = true)
    (jaP : K.lookup Zw = some ⟨yel, Yel, .func (W.fnOf "plot_among" "Ahead.plot_among" (Zb Zv) (zb Zv) (za Zv) .none Zco yco Yco Jco Zbi jco), jel⟩)
    (JaP : W.codeIn K Zbi "Ahead.plot_among" = true)
    (zau : W.keepIn K (.ref Zw) = true)
    (ybj : W.findIn K (.ref Jg) "may_be_made" = some (some (.ref yt)))
    (Ybj : W.isFn K (.ref yt) = true)
    (JaG : K.lookup yt = some ⟨Zd6, yd6, .func (W.fnOf "may_be_made" "Ahead.may_be_made" (Zb Jr) (zb Jr) (za Jr) .none Ycc jcc Jcc Zcd Ja6 zcd), Yd6⟩)
    (zaH : W.codeIn K Ja6 "Ahead.may_be_made" = true)
    (jai : W.keepIn K (.ref yt) = true)
    (yc8 : W.findIn K (.ref Jg) "enter" = some (some (.ref JS)))
    (Yc8 : W.isFn K (.ref JS) = true)
    (Yb0 : K.lookup JS = some ⟨yfP, YfP, .func (W.fnOf "enter" "Ahead.enter" (Zb ZR) (zb ZR) (za ZR) .none jd6 Jd6 zd7 yd7 ycJ Zd7), jfP⟩)
    (jb0 : W.codeIn K ycJ "Ahead.enter" = true)
    (ybo : W.keepIn K (.ref JS) = true)
    (JcM : W.findIn K (.ref Je) "__init__" = some (some (.ref jM)))
    (zcN : W.isFn K (.ref jM) = true)
    (ybL : K.lookup jM = some ⟨zfw, Zfw, .func (W.fnOf "__init__" "Correct.__init__" (Zb ZL) (zb ZL) (za ZL) .none ydI YdI jdI zdJ Ycg JdI), yfw⟩)
    (YbL : W.codeIn K Ycg "Correct.__init__" = true)
    (jbL : W.keepIn K (.ref jM) = true)
    (JbW : W.findIn K (.ref Je) "settle" = some (some (.ref JC)))
    (zbX : W.isFn K (.ref JC) = true)
    (Jbe : K.lookup JC = some ⟨jeT, JeT, .func (W.fnOf "settle" "Correct.settle" (Zb yC) (zb yC) (za yC) .none ycX YcX jcX zcY zbG JcX), zeU⟩)
    (zbf : W.codeIn K zbG "Correct.settle" = true)
    (JaK : W.keepIn K (.ref JC) = true)
    (zch : W.findIn K (.ref Je) "enter" = some (some (.ref YG)))
    (Zch : W.isFn K (.ref YG) = true)
    (Jbp : K.lookup YG = some ⟨zfa, Zfa, .func (W.fnOf "enter" "Correct.enter" (Zb JF) (zb JF) (za JF) .none Zdj ydj Ydj Jdj JbV jdj), yfa⟩)
    (zbq : W.codeIn K JbV "Correct.enter" = true)
    (zaT : W.keepIn K (.ref YG) = true)
    (Yeb : W.findIn K (.ref yg) "__init__" = some (some (.ref zan)))
    (jeb : W.isFn K (.ref zan) = true)
    (YcZ : K.lookup zan = some ⟨ygm, Ygm, .func (W.fnOf "__init__" "Void.__init__" (Zb zam) (zb zam) (za zam) .none ZeU yeU YeU JeU Ydr jeU), jgm⟩)
    (jcZ : W.codeIn K Ydr "Void.__init__" = true)
    (JcZ : W.keepIn K (.ref zan) = true)
    (yaD : W.findIn K (.ref yg) "finds_its_entries" = some (some (.ref zj)))
    (YaD : W.isFn K (.ref zj) = true)
    (jab : K.lookup zj = some ⟨ycO, YcO, .func (W.fnOf "finds_its_entries" "Void.finds_its_entries" (Zb Ji) (zb Ji) (za Ji) .none Zbg ybg Ybg Jbg Yaw jbg), jcO⟩)
    (Jab : W.codeIn K Yaw "Void.finds_its_entries" = true)
    (yN : W.keepIn K (.ref zj) = true)
    (JbL : W.findIn K (.ref yg) "plot_among" = some (some (.ref Zz)))
    (zbM : W.isFn K (.ref Zz) = true)
    (ja0 : K.lookup Zz = some ⟨JeE, zeF, .func (W.fnOf "plot_among" "Void.plot_among" (Zb Yy) (zb Yy) (za Yy) .none YcJ jcJ JcJ ZcK jbs zcK), ZeF⟩)
    (Ja0 : W.codeIn K jbs "Void.plot_among" = true)
    (jaB : W.keepIn K (.ref Zz) = true)
    (ybt : W.findIn K (.ref yg) "may_be_made" = some (some (.ref yw)))
    (Ybt : W.isFn K (.ref yw) = true)
    (zaQ : K.lookup yw = some ⟨Jel, zem, .func (W.fnOf "may_be_made" "Void.may_be_made" (Zb Yv) (zb Yv) (za Yv) .none zcp Zcp ycp jcp ybi Ycp), Zem⟩)
    (ZaQ : W.codeIn K ybi "Void.may_be_made" = true)
    (Zau : W.keepIn K (.ref yw) = true)
    (ydu : W.findIn K (.ref Jk) "__init__" = some (some (.ref zV)))
    (Ydu : W.isFn K (.ref zV) = true)
    (Ycv : K.lookup zV = some ⟨Jf0, zf1, .func (W.fnOf "__init__" "Sheet.__init__" (Zb zaa) (zb zaa) (za zaa) .none yeu Yeu jeu Zev yc6 Jeu), Zf1⟩)
    (jcv : W.codeIn K yc6 "Sheet.__init__" = true)
    (Jcv : W.keepIn K (.ref zV) = true)
    (jbt : W.findIn K (.ref Jk) "go_through" = some (some (.ref jq)))
    (Jbt : W.isFn K (.ref jq) = true)
    (yaQ : K.lookup jq = some ⟨yem, Yem, .func (W.fnOf "go_through" "Sheet.go_through" (Zb Jv) (zb Jv) (za Jv) .none Jcp zcq Zcq Ycq Ybi ycq), jem⟩)
    (YaQ : W.codeIn K Ybi "Sheet.go_through" = true)
    (yau : W.keepIn K (.ref jq) = true)
    (ZbX : W.findIn K (.ref Jk) "acquires" = some (some (.ref Zn)))
    (ybX : W.isFn K (.ref Zn) = true)
    (Zbf : K.lookup Zn = some ⟨zeV, ZeV, .func (W.fnOf "acquires" "Sheet.acquires" (Zb YC) (zb YC) (za YC) .none ZcY ycY YcY JcY ZbG jcY), yeV⟩)
    (ybf : W.codeIn K ZbG "Sheet.acquires" = true)
    (zaL : W.keepIn K (.ref Zn) = true)
    (jaV : W.findIn K (.ref Jk) "has_objection" = some (some (.ref jk)))
    (JaV : W.isFn K (.ref jk) = true)
    (zaw : K.lookup jk = some ⟨jdr, Jdr, .func (W.fnOf "has_objection" "Sheet.has_objection" (Zb Yk) (zb Yk) (za Yk) .none ybG YbG jbG zbH jaO JbG), zds⟩)
    (Zaw : W.codeIn K jaO "Sheet.has_objection" = true)
    (Y4 : W.keepIn K (.ref jk) = true)
    (jc8 : W.findIn K (.ref Jk) "stand" = some (some (.ref ZD)))
    (Jc8 : W.isFn K (.ref ZD) = true)
    (Jb0 : K.lookup ZD = some ⟨JfP, zfQ, .func (W.fnOf "stand" "Sheet.stand" (Zb yR) (zb yR) (za yR) .none Yd7 jd7 Jd7 Zd8 ycK zd8), ZfQ⟩)
    (zb1 : W.codeIn K ycK "Sheet.stand" = true)
    (Ybo : W.keepIn K (.ref ZD) = true)
    (jdu : W.findIn K (.ref Jk) "drop" = some (some (.ref JN)))
    (Jdu : W.isFn K (.ref JN) = true)
    (zcw : K.lookup JN = some ⟨yf1, Yf1, .func (W.fnOf "drop" "Sheet.drop" (Zb Zaa) (zb Zaa) (za Zaa) .none yev Yev jev zew Yc6 Jev), jf1⟩)
    (Zcw : W.codeIn K Yc6 "Sheet.drop" = true)
    (ZbM : W.keepIn K (.ref JN) = true)
    (Jeb : W.findIn K (.ref yD) "__init__" = some (some (.ref Yac)))
    (zec : W.isFn K (.ref Yac) = true)
    (zc0 : K.lookup Yac = some ⟨Jgm, zgn, .func (W.fnOf "__init__" "Book.__init__" (Zb Zam) (zb Zam) (za Zam) .none YeV jeV JeV ZeW Zds zeW), Zgn⟩)
    (Zc0 : W.codeIn K Zds "Book.__init__" = true)
    (yc0 : W.keepIn K (.ref Yac) = true)
    (zdv : W.findIn K (.ref yD) "begin" = some (some (.ref yV)))
    (Zdv : W.isFn K (.ref yV) = true)
    (ycw : K.lookup yV = some ⟨Jf1, zf2, .func (W.fnOf "begin" "Book.begin" (Zb zU) (zb zU) (za zU) .none Zew yew Yew Jew jc6 jew), Zf2⟩)
    (Ycw : W.codeIn K jc6 "Book.begin" = true)
    (ybM : W.keepIn K (.ref yV) = true)
    (Zec : W.findIn K (.ref yD) "make" = some (some (.ref jac)))
    (yec : W.isFn K (.ref jac) = true)
    (Yc0 : K.lookup jac = some ⟨ygn, Ygn, .func (W.fnOf "make" "Book.make" (Zb yam) (zb yam) (za yam) .none yeW YeW jeW zeX yds JeW), jgn⟩)
    (jc0 : W.codeIn K yds "Book.make" = true)
    (yce : W.keepIn K (.ref jac) = true)
    (ZcN : W.findIn K (.ref yD) "refusal" = some (some (.ref zF)))
    (ycN : W.isFn K (.ref zF) = true)
    (YbM : K.lookup zF = some ⟨Yfw, jfw, .func (W.fnOf "refusal" "Book.refusal" (Zb yL) (zb yL) (za yL) .none ZdJ ydJ YdJ JdJ jcg jdJ), Jfw⟩)
    (jbM : W.codeIn K jcg "Book.refusal" = true)
    (za9 : W.keepIn K (.ref zF) = true)
    (ych : W.findIn K (.ref yD) "sheet_of" = some (some (.ref Yx)))
    (Ych : W.isFn K (.ref Yx) = true)
    (Zbq : K.lookup Yx = some ⟨Yfa, jfa, .func (W.fnOf "sheet_of" "Book.sheet_of" (Zb zG) (zb zG) (za zG) .none zdk Zdk ydk jdk zbW Ydk), Jfa⟩)
    (ybq : W.codeIn K zbW "Book.sheet_of" = true)
    (ZaT : W.keepIn K (.ref Yx) = true)
    (jch : W.findIn K (.ref yD) "has_plot" = some (some (.ref Jz)))
    (Jch : W.isFn K (.ref Jz) = true)
    (Ybq : K.lookup Jz = some ⟨zfb, Zfb, .func (W.fnOf "has_plot" "Book.has_plot" (Zb ZG) (zb ZG) (za ZG) .none Jdk zdl Zdl Ydl ZbW ydl), yfb⟩)
    (jbq : W.codeIn K ZbW "Book.has_plot" = true)
    (yaT : W.keepIn K (.ref Jz) = true)
    (zci : W.findIn K (.ref yD) "sheet_on" = some (some (.ref zu)))
    (Zci : W.isFn K (.ref zu) = true)
    (Jbq : K.lookup zu = some ⟨Yfb, jfb, .func (W.fnOf "sheet_on" "Book.sheet_on" (Zb yG) (zb yG) (za yG) .none jdl Jdl zdm ydm ybW Zdm), Jfb⟩)
    (zbr : W.codeIn K ybW "Book.sheet_on" = true)
    (YaT : W.keepIn K (.ref zu) = true)
    (Za9 : W.findIn K (.ref yD) "void_as_known" = some (some (.ref Ym)))
    (ya9 : W.isFn K (.ref Ym) = true)
    (JaB : K.lookup Ym = some ⟨JdN, zdO, .func (W.fnOf "void_as_known" "Book.void_as_known" (Zb yp) (zb yp) (za yp) .none ybT YbT jbT zbU YaV JbT), ZdO⟩)
    (zaC : W.codeIn K YaV "Book.void_as_known" = true)
    (Zae : W.keepIn K (.ref Ym) = true)
    (ydv : W.nsIn K mainGlobals "with_lists" = some (some (.ref JD)))
    (jcw : K.lookup JD = some ⟨yf2, Yf2, .func (W.fnOf "with_lists" "with_lists" (Zb yaa) (zb yaa) (za yaa) .none zex Zex yex jex Jc6 Yex), jf2⟩)
    (Jcw : W.codeIn K Jc6 "with_lists" = true)
    (zcx : W.keepIn K (.ref JD) = true)
    (Ydv : W.nsIn K mainGlobals "tell_owner" = some (some (.ref Zab)))
    (Zcx : K.lookup Zab = some ⟨Jf2, zf3, .func (W.fnOf "tell_owner" "tell_owner" (Zb Yaa) (zb Yaa) (za Yaa) .none Jex zey Zey Yey zc7 yey), Zf3⟩)
    (ycx : W.codeIn K zc7 "tell_owner" = true)
    (Ycx : W.keepIn K (.ref Zab) = true)
    (YcN : W.nsIn K mainGlobals "tell_charges" = some (some (.ref JM)))
    (JbM : K.lookup JM = some ⟨zfx, Zfx, .func (W.fnOf "tell_charges" "tell_charges" (Zb jE) (zb jE) (za jE) .none zdK ZdK ydK jdK Jcg YdK), yfx⟩)
    (zbN : W.codeIn K Jcg "tell_charges" = true)
    (ZbN : W.keepIn K (.ref JM) = true)
    (Yec : W.nsIn K mainGlobals "place_row" = some (some (.ref Zan)))
    (Jc0 : K.lookup Zan = some ⟨Jgn, zgo, .func (W.fnOf "place_row" "place_row" (Zb Yam) (zb Yam) (za Yam) .none ZeX yeX YeX JeX Yds jeX), Zgo⟩)
    (zc1 : W.codeIn K Yds "place_row" = true)
    (Zc1 : W.keepIn K (.ref Zan) = true)
    (jec : W.nsIn K mainGlobals "tell_rely" = some (some (.ref yan)))
    (yc1 : K.lookup yan = some ⟨ygo, Ygo, .func (W.fnOf "tell_rely" "tell_rely" (Zb jam) (zb jam) (za jam) .none zeY ZeY yeY jeY jds YeY), jgo⟩)
    (Yc1 : W.codeIn K jds "tell_rely" = true)
    (jc1 : W.keepIn K (.ref yan) = true)
    (Jec : W.nsIn K mainGlobals "tell_sale" = some (some (.ref Yan)))
    (Jc1 : K.lookup Yan = some ⟨Jgo, zgp, .func (W.fnOf "tell_sale" "tell_sale" (Zb Zac) (zb Zac) (za Zac) .none JeY zeZ ZeZ YeZ Jds yeZ), Zgp⟩)
    (zc2 : W.codeIn K Jds "tell_sale" = true)
    (Zc2 : W.keepIn K (.ref Yan) = true)
    (zc9 : W.nsIn K mainGlobals "tell_stands" = some (some (.ref zT)))
    (Zb1 : K.lookup zT = some ⟨yfQ, YfQ, .func (W.fnOf "tell_stands" "tell_stands" (Zb jR) (zb jR) (za jR) .none yd8 Yd8 jd8 zd9 YcK Jd8), jfQ⟩)
    (yb1 : W.codeIn K YcK "tell_stands" = true)
    (Yb1 : W.keepIn K (.ref zT) = true)
    (zed : W.nsIn K mainGlobals "tell_days" = some (some (.ref jan)))
    (yc2 : K.lookup jan = some ⟨ygp, Ygp, .func (W.fnOf "tell_days" "tell_days" (Zb yac) (zb yac) (za yac) .none jeZ JeZ ze0 ye0 zdt Ze0), jgp⟩)
    (Yc2 : W.codeIn K zdt "tell_days" = true)
    (jc2 : W.keepIn K (.ref jan) = true)
    (zfd : W.nsIn K mainGlobals "answers" = some (some (.ref zax)))
    (zeg : K.lookup zax = some ⟨ZgR, ygR, .func (W.fnOf "answers" "answers" (Zb jaT) (zb jaT) (za jaT) .none JfQ zfR ZfR YfR yeF yfR), YgR⟩)
    (Zeg : W.codeIn K yeF "answers" = true)
    (yeg : W.keepIn K (.ref zax) = true)
    (Zc9 : W.nsIn K mainGlobals "call_length" = some (some (.ref YT)))
    (jb1 : K.lookup YT = some ⟨jfR, JfR, .func (W.fnOf "call_length" "call_length" (Zb JR) (zb JR) (za JR) .none Zd9 yd9 Yd9 Jd9 jcK jd9), zfS⟩)
    (Jb1 : W.codeIn K jcK "call_length" = true)
    (zb2 : W.keepIn K (.ref YT) = true)
    (YfT : W.nsIn K mainGlobals "answer" = some (some (.ref Ybm)))
    (Ze2 : K.lookup Ybm = some ⟨zha, Zha, .func (W.fnOf "answer" "answer" (Zb ybl) (zb ybl) (za ybl) .none ygd Ygd jgd zge zfc Jgd), yha⟩)
    (ye2 : W.codeIn K zfc "answer" = true)
    (Ye2 : W.keepIn K (.ref Ybm) = true)
    (JeF : W.nsIn K mainGlobals "entry_of" = some (some (.ref YaC)))
    (jdv : K.lookup YaC = some ⟨jgG, JgG, .func (W.fnOf "entry_of" "entry_of" (Zb yaC) (zb yaC) (za yaC) .none Yfn jfn Jfn Zfo zea zfo), zgH⟩)
    (Jdv : W.codeIn K zea "entry_of" = true)
    (zdw : W.keepIn K (.ref YaC) = true)
    (jbj : W.nsIn K mainGlobals "is_sound_question" = some (some (.ref Yt)))
    (ZaH : K.lookup Yt = some ⟨Zea, yea, .func (W.fnOf "is_sound_question" "is_sound_question" (Zb Ys) (zb Ys) (za Ys) .none ycd Ycd jcd zce za7 Jcd), Yea⟩)
    (yaH : W.codeIn K za7 "is_sound_question" = true)
    (YaH : W.keepIn K (.ref Yt) = true)
    (ZgS : W.nsIn K mainGlobals "told" = some (some (.ref Zc4)))
    (ygr : K.lookup Zc4 = some ⟨zhw, Zhw, .func (W.fnOf "told" "told" (Zb jc3) (zb jc3) (za jc3) .none zg0 Zg0 yg0 jg0 Jgp Yg0), yhw⟩)
    (Ygr : W.codeIn K Jgp "told" = true)
    (jgr : W.keepIn K (.ref Zc4) = true)
    (Jc2 : W.plainGet K Jb Str.empty = true)
    (zc3 : W.hasDictIn K Jb = true)
    (Zc3 : W.plainOver K Jb = true)
    (yc3 : W.findIn K (.ref Jb) "__setattr__" = some (some (.builtin "object.__setattr__")))
    (Ybu : W.makesIn K Jb = true)
    (Zed : W.keepIn K (.ref Jb) = true)
    (yci : W.findIn K (.ref Jb) "__init__" = some (some (.ref zx)))
    (jaD : W.findIn K (.ref Jb) "has_its_giver" = some (some (.ref Zg)))
    (Jbj : W.findIn K (.ref Jb) "is_sound" = some (some (.ref yq)))
    (jaQ : W.findIn K (.ref Jb) "may_be_made" = some (some (.ref Yg)))
    (zbk : W.findIn K (.ref Jb) "is_there" = some (some (.ref zf)))
    (zaW : W.findIn K (.ref Jb) "plot_among" = some (some (.ref ye)))
    (jah : W.findIn K (.ref Jb) "finds_its_entries" = some (some (.ref jd)))
    (ybN : W.findIn K (.ref Jb) "settle" = some (some (.ref zg)))
    (Y5 : W.findIn K (.ref Jb) "knows" = some none)
    (zW : W.findIn K (.ref Jb) "person" = some none)
    (J5 : W.findIn K (.ref Jb) "giver" = some none)
    (Jag : W.findIn K (.ref Jb) "plot" = some none)
    (yar : W.findIn K (.ref Jb) "day" = some none)
    (Yeg : W.plainGet K jc Str.empty = true)
    (jeg : W.hasDictIn K jc = true)
    (Jeg : W.plainOver K jc = true)
    (zeh : W.findIn K (.ref jc) "__setattr__" = some (some (.builtin "object.__setattr__")))
    (jcy : W.makesIn K jc = true)
    (Zfd : W.keepIn K (.ref jc) = true)
    (JaQ : W.findIn K (.ref jc) "has_its_giver" = some (some (.ref Zg)))
    (Ya9 : W.findIn K (.ref jc) "may_be_made" = some (some (.ref Yg)))
    (ja9 : W.findIn K (.ref jc) "take_effect" = some (some (.ref jj)))
    (YbN : W.findIn K (.ref jc) "is_there" = some (some (.ref zf)))
    (Zbk : W.findIn K (.ref jc) "plot_among" = some (some (.ref ye)))
    (Yau : W.findIn K (.ref jc) "finds_its_entries" = some (some (.ref jd)))
    (Yci : W.findIn K (.ref jc) "settle" = some (some (.ref zg)))
    (Y0 : W.findIn K (.ref jc) "amount" = some none)
    (Yar : W.findIn K (.ref jc) "giver" = some none)
    (jar : W.findIn K (.ref jc) "knows" = some none)
    (zah : W.findIn K (.ref jc) "person" = some none)
    (jaC : W.findIn K (.ref jc) "plot" = some none)
    (ZaN : W.findIn K (.ref jc) "day" = some none)
    (Zeh : W.plainGet K Zd Str.empty = true)
    (yeh : W.hasDictIn K Zd = true)
    (Yeh : W.plainOver K Zd = true)
    (jeh : W.findIn K (.ref Zd) "__setattr__" = some (some (.builtin "object.__setattr__")))
    (Jcy : W.makesIn K Zd = true)
    (yfd : W.keepIn K (.ref Zd) = true)
    (yc9 : W.findIn K (.ref Zd) "__init__" = some (some (.ref zx)))
    (zaR : W.findIn K (.ref Zd) "has_its_giver" = some (some (.ref Zg)))
    (jbN : W.findIn K (.ref Zd) "is_sound" = some (some (.ref yq)))
    (Ja9 : W.findIn K (.ref Zd) "may_be_made" = some (some (.ref Yg)))
    (zba : W.findIn K (.ref Zd) "take_effect" = some (some (.ref jj)))
    (JbN : W.findIn K (.ref Zd) "is_there" = some (some (.ref zf)))
    (ybk : W.findIn K (.ref Zd) "plot_among" = some (some (.ref ye)))
    (jau : W.findIn K (.ref Zd) "finds_its_entries" = some (some (.ref jd)))
    (jci : W.findIn K (.ref Zd) "settle" = some (some (.ref zg)))
    (Jar : W.findIn K (.ref Zd) "giver" = some none)
    (zas : W.findIn K (.ref Zd) "knows" = some none)
    (Zah : W.findIn K (.ref Zd) "person" = some none)
    (JaC : W.findIn K (.ref Zd) "plot" = some none)
    (yaN : W.findIn K (.ref Zd) "day" = some none)
    (jcx : W.plainGet K Yb Str.empty = true)
    (Jcx : W.hasDictIn K Yb = true)
    (zcy : W.plainOver K Yb = true)
    (Zcy : W.findIn K (.ref Yb) "__setattr__" = some (some (.builtin "object.__setattr__")))
    (zbc : W.makesIn K Yb = true)
    (Zdw : W.keepIn K (.ref Yb) = true)
    (YbX : W.findIn K (.ref Yb) "__init__" = some (some (.ref Zj)))
    (Zba : W.findIn K (.ref Yb) "is_there" = some (some (.ref zf)))
    (yba : W.findIn K (.ref Yb) "is_sound" = some (some (.ref yj)))
    (ZaR : W.findIn K (.ref Yb) "plot_among" = some (some (.ref ye)))
    (yae : W.findIn K (.ref Yb) "finds_its_entries" = some (some (.ref jd)))
    (ZaL : W.findIn K (.ref Yb) "may_be_made" = some (some (.ref Yj)))
    (zbu : W.findIn K (.ref Yb) "settle" = some (some (.ref zg)))
    (yaL : W.findIn K (.ref Yb) "take_effect" = some (some (.ref jf)))
    (jO : W.findIn K (.ref Yb) "person" = some none)
    (Z6 : W.findIn K (.ref Yb) "plot" = some none)
    (yah : W.findIn K (.ref Yb) "day" = some none)
    (Jeh : W.plainGet K Yd Str.empty = true)
    (zei : W.hasDictIn K Yd = true)
    (Zei : W.plainOver K Yd = true)
    (yei : W.findIn K (.ref Yd) "__setattr__" = some (some (.builtin "object.__setattr__")))
    (zcz : W.makesIn K Yd = true)
    (Yfd : W.keepIn K (.ref Yd) = true)
    (zbO : W.findIn K (.ref Yd) "is_sound" = some (some (.ref yl)))
    (Jci : W.findIn K (.ref Yd) "settle" = some (some (.ref zg)))
    (ZF : W.findIn K (.ref Yd) "noted" = some none)
    (Zas : W.findIn K (.ref Yd) "knows" = some none)
    (YaN : W.findIn K (.ref Yd) "day" = some none)
    (Yei : W.plainGet K Jf Str.empty = true)
    (jei : W.hasDictIn K Jf = true)
    (Jei : W.plainOver K Jf = true)
    (zej : W.findIn K (.ref Jf) "__setattr__" = some (some (.builtin "object.__setattr__")))
    (Zcz : W.makesIn K Jf = true)
    (jfd : W.keepIn K (.ref Jf) = true)
    (zcj : W.findIn K (.ref Jf) "settle" = some (some (.ref zg)))
    (Yba : W.findIn K (.ref Jf) "take_effect" = some (some (.ref jf)))
    (JG : W.findIn K (.ref Jf) "struck" = some none)
    (ZP : W.findIn K (.ref Jf) "striker" = some none)
    (jaN : W.findIn K (.ref Jf) "day" = some none)
    (je2 : W.plainGet K Jg Str.empty = true)
    (Je2 : W.hasDictIn K Jg = true)
    (ze3 : W.plainOver K Jg = true)
    (Ze3 : W.findIn K (.ref Jg) "__setattr__" = some (some (.builtin "object.__setattr__")))
    (Zde : W.makesIn K Jg = true)
    (jfT : W.keepIn K (.ref Jg) = true)
    (jbX : W.findIn K (.ref Jg) "is_sound" = some (some (.ref yl)))
    (jcN : W.findIn K (.ref Jg) "settle" = some (some (.ref zg)))
    (Ybk : W.findIn K (.ref Jg) "take_effect" = some (some (.ref jf)))
    (zao : W.findIn K (.ref Jg) "one" = some none)
    (yab : W.findIn K (.ref Jg) "other" = some none)
    (Za3 : W.findIn K (.ref Jg) "day" = some none)
    (ydw : W.plainGet K Je Str.empty = true)
    (Ydw : W.hasDictIn K Je = true)
    (jdw : W.plainOver K Je = true)
    (Jdw : W.findIn K (.ref Je) "__setattr__" = some (some (.builtin "object.__setattr__")))
    (ybV : W.makesIn K Je = true)
    (zeG : W.keepIn K (.ref Je) = true)
    (Zbu : W.findIn K (.ref Je) "is_sound" = some (some (.ref ym)))
    (jba : W.findIn K (.ref Je) "plot_among" = some (some (.ref ye)))
    (Yal : W.findIn K (.ref Je) "finds_its_entries" = some (some (.ref jd)))
    (ZaW : W.findIn K (.ref Je) "may_be_made" = some (some (.ref Yj)))
    (yaW : W.findIn K (.ref Je) "take_effect" = some (some (.ref jf)))
    (j0 : W.findIn K (.ref Je) "owner" = some none)
    (yas : W.findIn K (.ref Je) "plot" = some none)
    (zaD : W.findIn K (.ref Je) "day" = some none)
    (Zfz : W.plainGet K yg Str.empty = true)
    (yfz : W.hasDictIn K yg = true)
    (Yfz : W.plainOver K yg = true)
    (jfz : W.findIn K (.ref yg) "__setattr__" = some (some (.builtin "object.__setattr__")))
    (Yee : W.makesIn K yg = true)
    (Jgr : W.keepIn K (.ref yg) = true)
    (Zcj : W.findIn K (.ref yg) "is_sound" = some (some (.ref yl)))
    (Yc9 : W.findIn K (.ref yg) "settle" = some (some (.ref zg)))
    (ybu : W.findIn K (.ref yg) "take_effect" = some (some (.ref jf)))
    (zdx : W.findIn K (.ref yg) "enter" = some (some (.ref JL)))
    (jT : W.findIn K (.ref yg) "voided" = some none)
    (Jbr : W.findIn K (.ref yg) "day" = some none)
    (JfT : W.plainGet K Jk Str.empty = true)
    (zfU : W.hasDictIn K Jk = true)
    (ZfU : W.plainOver K Jk = true)
    (yfU : W.findIn K (.ref Jk) "__setattr__" = some (some (.builtin "object.__setattr__")))
    (jde : W.makesIn K Jk = true)
    (YfU : W.keepIn K (.ref Jk) = true)
    (Yw : W.findIn K (.ref Jk) "registered" = some none)
    (JT : W.findIn K (.ref Jk) "owner" = some none)
    (JaN : W.findIn K (.ref Jk) "void" = some none)
    (YH : W.findIn K (.ref Jk) "standing" = some none)
    (ZW : W.findIn K (.ref Jk) "places" = some none)
    (ZaD : W.findIn K (.ref Jk) "given" = some none)
    (zgs : W.plainGet K yD Str.empty = true)
    (Zgs : W.hasDictIn K yD = true)
    (ygs : W.plainOver K yD = true)
    (Ygs : W.findIn K (.ref yD) "__setattr__" = some (some (.builtin "object.__setattr__")))
    (jee : W.makesIn K yD = true)
    (jgs : W.keepIn K (.ref yD) = true)
    (zad : W.findIn K (.ref yD) "persons" = some none)
    (Zao : W.findIn K (.ref yD) "owners" = some none)
    (Zad : W.findIn K (.ref yD) "entries" = some none)
    (jc9 : W.specialIn K (.ref ZaE) "__getattribute__" = some (some (.builtin "type.__getattribute__")))
    (Jc9 : W.readsIn K ZaE (.type "type") = true)
    (zda : W.findCls K (.ref ZaE) (.type "type") "__init__" = some (.val (.ref Jw)))
    (Zda : W.specialIn K (.ref yaX) "__getattribute__" = some (some (.builtin "type.__getattribute__")))
    (yda : W.readsIn K yaX (.type "type") = true)
    (Yda : W.findCls K (.ref yaX) (.type "type") "__init__" = some (.val (.ref zx)))
    (jbk : W.specialIn K (.ref jG) "__getattribute__" = some (some (.builtin "type.__getattribute__")))
    (Jbk : W.readsIn K jG (.type "type") = true)
    (zbl : W.findCls K (.ref jG) (.type "type") "__init__" = some (.val (.ref Zj)))
    (ZbO : W.specialIn K (.ref Z0) "__getattribute__" = some (some (.builtin "type.__getattribute__")))
    (ybO : W.readsIn K Z0 (.type "type") = true)
    (YbO : W.findCls K (.ref Z0) (.type "type") "__init__" = some (.val (.ref Zq)))
    (JcN : W.nsIn K mainGlobals "MOST_AMOUNT" = some (some (.int (1000000) jey)))
    (ycj : W.nsIn K mainGlobals "MOST_PERSONS" = some (some (.int (10) jea)))
    (jda : W.nsIn K mainGlobals "MOST_PLOTS" = some (some (.int (6) Ye0)))
    (yed : W.nsIn K mainGlobals "LAST_DAY" = some (some (.int (1000000) ZfS)))
    (Ycj : W.nsIn K mainGlobals "MOST_ENTRIES" = some (some (.int (40) Jea)))
    (Zdx : W.nsIn K mainGlobals "NOT_SOUND" = some (some (.int (-1) yfo)))
    (ydx : W.nsIn K mainGlobals "NOT_FOUND" = some (some (.int (-2) Yfo)))
    (Ydx : W.nsIn K mainGlobals "TOO_EARLY" = some (some (.int (-4) jfo)))
    (Jgs : W.nsIn K mainGlobals "FULL" = some (some (.int (-5) zho)))
    (zcO : W.nsIn K mainGlobals "NOT_ALLOWED" = some (some (.int (-6) Jey)))
    (Jfd : W.nsIn K mainGlobals "BEGINS" = some (some (.int (0) ZgH)))
    (Yed : W.nsIn K mainGlobals "TRANSFER" = some (some (.int (1) yfS)))
    (zfe : W.nsIn K mainGlobals "CHARGE" = some (some (.int (2) ygH)))
    (Zfe : W.nsIn K mainGlobals "NOTICE" = some (some (.int (3) YgH)))
    (yfe : W.nsIn K mainGlobals "FULFIL" = some (some (.int (4) jgH)))
    (jdx : W.nsIn K mainGlobals "OBJECTION" = some (some (.int (5) Jfo)))
    (Yfe : W.nsIn K mainGlobals "STRIKE" = some (some (.int (6) JgH)))
    (jfU : W.nsIn K mainGlobals "AHEAD" = some (some (.int (7) Jg0)))
    (ZeG : W.nsIn K mainGlobals "CORRECT" = some (some (.int (8) Zge)))
    (zgt : W.nsIn K mainGlobals "VOID" = some (some (.int (9) Zho)))
    (JfU : W.nsIn K mainGlobals "OWNER" = some (some (.int (10) zg1)))
    (yeG : W.nsIn K mainGlobals "CHARGES" = some (some (.int (11) yge)))
    (Zgt : W.nsIn K mainGlobals "RELY" = some (some (.int (12) yho)))
    (ygt : W.nsIn K mainGlobals "SALE" = some (some (.int (13) Yho)))
    (jfe : W.nsIn K mainGlobals "STANDS" = some (some (.int (14) zgI)))
    (Ygt : W.nsIn K mainGlobals "DAYS" = some (some (.int (15) jho)))
    (YeG : W.nsIn K mainGlobals "LENGTHS" = some (some (.ref jw)))
    (jeG : K.lookup jw = some ⟨.type "tuple", jgR, .seq #[.int (3) ZgI, .int (6) ygI, .int (7) YgI, .int (6) jgI, .int (4) JgI, .int (4) zgJ, .int (4) ZgJ, .int (4) ygJ, .int (3) YgJ, .int (3) jgJ, .int (4) zgq, .int (4) Zgq, .int (4) ygq, .int (5) Ygq, .int (3) jgq, .int (3) Jgq] JgR, zgS⟩)
    (ygS : W.nsIn K mainGlobals "any" = some none)
    (Jdx : W.nsIn K mainGlobals "enumerate" = some none)
    (Jda : W.nsIn K mainGlobals "isinstance" = some none)
    (YgS : W.nsIn K mainGlobals "len" = some none)
    (jgt : W.nsIn K mainGlobals "list" = some none)
    (jgS : W.nsIn K mainGlobals "min" = some none)
    (JgS : W.nsIn K mainGlobals "sum" = some none)
    (jed : W.findIn K (.ref Jb) "__class__" = some (some (.builtin "object.__class__")))
    (Jed : W.mroIn K Jb (.type "object") = some true)
    (Jfe : W.findIn K (.ref jc) "__class__" = some (some (.builtin "object.__class__")))
    (zff : W.mroIn K jc (.type "object") = some true)
    (Zff : W.findIn K (.ref Zd) "__class__" = some (some (.builtin "object.__class__")))
    (yff : W.mroIn K Zd (.type "object") = some true)
    (Yff : W.findIn K (.ref Yd) "__class__" = some (some (.builtin "object.__class__")))
    (jff : W.mroIn K Yd (.type "object") = some true)
    (zdy : W.findIn K (.ref Yb) "__class__" = some (some (.builtin "object.__class__")))
    (Zdy : W.mroIn K Yb (.type "object") = some true)
    (Jff : W.findIn K (.ref Jf) "__class__" = some (some (.builtin "object.__class__")))
    (zfg : W.mroIn K Jf (.type "object") = some true)
    (zfV : W.findIn K (.ref Jg) "__class__" = some (some (.builtin "object.__class__")))
    (ZfV : W.mroIn K Jg (.type "object") = some true)
    (JeG : W.findIn K (.ref Je) "__class__" = some (some (.builtin "object.__class__")))
    (zeH : W.mroIn K Je (.type "object") = some true)
    (Jgt : W.findIn K (.ref yg) "__class__" = some (some (.builtin "object.__class__")))
    (zgu : W.mroIn K yg (.type "object") = some true)
    (ycz : W.kitOne K (.type "NoneType") (.ref Zd) = some false)
    (Y6 : W.kitOne K (.ref Jb) (.ref Zd) = some false)
    (Yao : W.kitOne K (.ref jc) (.ref Zd) = some false)
    (jao : W.kitOne K (.ref Zd) (.ref Zd) = some true)
    (Jao : W.kitOne K (.ref Yd) (.ref Zd) = some false)
    (jX : W.kitOne K (.ref Yb) (.ref Zd) = some false)
    (zap : W.kitOne K (.ref Jf) (.ref Zd) = some false)
    (Zax : W.kitOne K (.ref Jg) (.ref Zd) = some false)
    (yaf : W.kitOne K (.ref Je) (.ref Zd) = some false)
    (YaI : W.kitOne K (.ref yg) (.ref Zd) = some false)
    (Ycz : W.kitOne K (.type "NoneType") (.ref jc) = some false)
    (J6 : W.kitOne K (.ref Jb) (.ref jc) = some false)
    (Zap : W.kitOne K (.ref jc) (.ref jc) = some true)
    (yap : W.kitOne K (.ref Zd) (.ref jc) = some false)
    (Yap : W.kitOne K (.ref Yd) (.ref jc) = some false)
    (JX : W.kitOne K (.ref Yb) (.ref jc) = some false)
    (jap : W.kitOne K (.ref Jf) (.ref jc) = some false)
    (yax : W.kitOne K (.ref Jg) (.ref jc) = some false)
    (Yaf : W.kitOne K (.ref Je) (.ref jc) = some false)
    (jaI : W.kitOne K (.ref yg) (.ref jc) = some false)
    (ybc : W.kitOne K (.type "NoneType") (.ref Yb) = some false)
    (jJ : W.kitOne K (.ref Jb) (.ref Yb) = some false)
    (zY : W.kitOne K (.ref jc) (.ref Yb) = some false)
    (jY : W.kitOne K (.ref Zd) (.ref Yb) = some false)
    (zZ : W.kitOne K (.ref Yd) (.ref Yb) = some false)
    (JH : W.kitOne K (.ref Yb) (.ref Yb) = some true)
    (ZZ : W.kitOne K (.ref Jf) (.ref Yb) = some false)
    (Z7 : W.kitOne K (.ref Jg) (.ref Yb) = some false)
    (jP : W.kitOne K (.ref Je) (.ref Yb) = some false)
    (jaf : W.kitOne K (.ref yg) (.ref Yb) = some false)
    (Zbv : W.kitOne K (.type "NoneType") (.ref Jb) = some false)
    (JP : W.kitOne K (.ref Jb) (.ref Jb) = some true)
    (Y7 : W.kitOne K (.ref jc) (.ref Jb) = some false)
    (j7 : W.kitOne K (.ref Zd) (.ref Jb) = some false)
    (J7 : W.kitOne K (.ref Yd) (.ref Jb) = some false)
    (zK : W.kitOne K (.ref Yb) (.ref Jb) = some false)
    (Z8 : W.kitOne K (.ref Jf) (.ref Jb) = some false)
    (Jaf : W.kitOne K (.ref Jg) (.ref Jb) = some false)
    (yZ : W.kitOne K (.ref Je) (.ref Jb) = some false)
    (Jap : W.kitOne K (.ref yg) (.ref Jb) = some false)
    (jcz : W.kitOne K (.type "NoneType") (.ref Yd) = some false)
    (Y8 : W.kitOne K (.ref Jb) (.ref Yd) = some false)
    (zaq : W.kitOne K (.ref jc) (.ref Yd) = some false)
    (Zaq : W.kitOne K (.ref Zd) (.ref Yd) = some false)
    (yaq : W.kitOne K (.ref Yd) (.ref Yd) = some true)
    (YZ : W.kitOne K (.ref Yb) (.ref Yd) = some false)
    (Yaq : W.kitOne K (.ref Jf) (.ref Yd) = some false)
    (Yax : W.kitOne K (.ref Jg) (.ref Yd) = some false)
    (zag : W.kitOne K (.ref Je) (.ref Yd) = some false)
    (JaI : W.kitOne K (.ref yg) (.ref Yd) = some false)
    (Jee : W.kitOne K (.type "NoneType") (.ref yg) = some false)
    (jaq : W.kitOne K (.ref Jb) (.ref yg) = some false)
    (zaJ : W.kitOne K (.ref jc) (.ref yg) = some false)
    (ZaJ : W.kitOne K (.ref Zd) (.ref yg) = some false)
    (yaJ : W.kitOne K (.ref Yd) (.ref yg) = some false)
    (Zag : W.kitOne K (.ref Yb) (.ref yg) = some false)
    (YaJ : W.kitOne K (.ref Jf) (.ref yg) = some false)
    (ZaU : W.kitOne K (.ref Jg) (.ref yg) = some false)
    (jax : W.kitOne K (.ref Je) (.ref yg) = some false)
    (Ybc : W.kitOne K (.ref yg) (.ref yg) = some true)
    (hn0 : W.specialIn K (.builtin "object.__class__") "__get__" = some (some (.builtin "getset_descriptor.__get__")))
    (htk0 : W.takesIn K (.builtin "object.__class__") = some true) :
    ∃ A : Adr, Txt K mg A ∧ A.zax = zax ∧ ∀ (s : Shared) (us : List Value), us.length = (["calls"] : List Str).length → BindsTo s A.ybr ⟨us, []⟩ ((["calls"] : List Str).zip us) :=
  ⟨{ ZaE := ZaE,
     Z0 := Z0,
     jG := jG,
     yaX := yaX,
     Jb := Jb,
     jc := jc,
     Zd := Zd,
     Yb := Yb,
     Yd := Yd,
     Jf := Jf,
     Jg := Jg,
     Je := Je,
     yg := yg,
     Jk := Jk,
     yD := yD,
     Ybl := Ybl,
     zdc := (W.fnOf "all_of" "all_of" (Zb ya1) (zb ya1) (za ya1) .none jgb Jgb zgc ygc je9 Zgc),
     JaT := JaT,
     ycA := (W.fnOf "without" "without" (Zb JaH) (zb JaH) (za JaH) .none YfM jfM JfM ZfN ZeD zfN),
     YL := YL,
     jaR := (W.fnOf "stands_first" "stands_first" (Zb ZK) (zb ZK) (za ZK) .none YdC jdC JdC ZdD ycf zdD),
     Jam := Jam,
     Ybz := (W.fnOf "put_ahead" "put_ahead" (Zb Jal) (zb Jal) (za Jal) .none JeQ zeR ZeR YeR Jdq yeR),
     jL := jL,
     JaR := (W.fnOf "shared_place" "shared_place" (Zb yE) (zb yE) (za yE) .none ydD YdD jdD zdE Ycf JdD),
     jbl := jbl,
     Zdc := (W.fnOf "shares" "shares" (Zb Zbl) (zb Zbl) (za Zbl) .none Ygc jgc Jgc Zgd Je9 zgd),
     J4 := J4,
     jaL := (W.fnOf "entry_at" "entry_at" (Zb ZaC) (zb ZaC) (za ZaC) .none jfm Jfm zfn yfn jdZ Zfn),
     Jw := Jw,
     jaa := (W.fnOf "__init__" "Entry.__init__" (Zb Y9) (zb Y9) (za Y9) .none Yer jer Jer Zes Jc5 zes),
     yl := yl,
     jaW := (W.fnOf "is_sound" "Entry.is_sound" (Zb YB) (zb YB) (za YB) .none zcU ZcU ycU jcU YbE YcU),
     jd := jd,
     yU := (W.fnOf "finds_its_entries" "Entry.finds_its_entries" (Zb Zi) (zb Zi) (za Zi) .none Za4 ya4 Ya4 Ja4 zat ja4),
     Yj := Yj,
     Zay := (W.fnOf "may_be_made" "Entry.may_be_made" (Zb Jq) (zb Jq) (za Jq) .none Yb7 jb7 Jb7 Zb8 za5 zb8),
     zg := zg,
     jbo := (W.fnOf "settle" "Entry.settle" (Zb yK) (zb yK) (za yK) .none ZdE ydE YdE JdE jcf jdE),
     jf := jf,
     yay := (W.fnOf "take_effect" "Entry.take_effect" (Zb zr) (zb zr) (za zr) .none yb8 Yb8 jb8 zb9 Za5 Jb8),
     JL := JL,
     jbz := (W.fnOf "enter" "Entry.enter" (Zb YQ) (zb YQ) (za YQ) .none Jd0 zd1 Zd1 Yd1 jcF yd1),
     Zq := Zq,
     Yae := (W.fnOf "__init__" "PlotEntry.__init__" (Zb jB) (zb jB) (za jB) .none JcU zcV ZcV YcV jbE ycV),
     ym := ym,
     Jau := (W.fnOf "is_sound" "PlotEntry.is_sound" (Zb Yo) (zb Yo) (za Yo) .none zbQ ZbQ ybQ jbQ JaU YbQ),
     ye := ye,
     jae := (W.fnOf "plot_among" "PlotEntry.plot_among" (Zb Yl) (zb Yl) (za Yl) .none ybv Ybv jbv zbw JaJ Jbv),
     Zj := Zj,
     Jah := (W.fnOf "__init__" "PersonEntry.__init__" (Zb Ju) (zb Ju) (za Ju) .none ycn Ycn jcn zco zbi Jcn),
     zf := zf,
     Jae := (W.fnOf "is_there" "PersonEntry.is_there" (Zb jl) (zb jl) (za jl) .none Zbw ybw Ybw Jbw zaK jbw),
     yj := yj,
     zaf := (W.fnOf "is_sound" "PersonEntry.is_sound" (Zb Jl) (zb Jl) (za Jl) .none zbx Zbx ybx jbx ZaK Ybx),
     zx := zx,
     Jbl := (W.fnOf "__init__" "Grant.__init__" (Zb j9) (zb j9) (za j9) .none Yes jes Jes Zet zc6 zet),
     Zg := Zg,
     Zaj := (W.fnOf "has_its_giver" "Grant.has_its_giver" (Zb jn) (zb jn) (za jn) .none JbE zbF ZbF YbF YaO ybF),
     yq := yq,
     JaW := (W.fnOf "is_sound" "Grant.is_sound" (Zb JB) (zb JB) (za JB) .none jcV JcV zcW ycW jbF ZcW),
     Yg := Yg,
     Yay := (W.fnOf "may_be_made" "Grant.may_be_made" (Zb Zr) (zb Zr) (za Zr) .none Zb9 yb9 Yb9 Jb9 ya5 jb9),
     jj := jj,
     jay := (W.fnOf "take_effect" "Grant.take_effect" (Zb yr) (zb yr) (za yr) .none zca Zca yca jca Ya5 Yca),
     Zm := Zm,
     Zaf := (W.fnOf "take_effect" "Transfer.take_effect" (Zb zm) (zb zm) (za zm) .none Jbx zby Zby Yby yaK yby),
     jC := jC,
     zaX := (W.fnOf "enter" "Transfer.enter" (Zb ZC) (zb ZC) (za ZC) .none YcW jcW JcW ZcX JbF zcX),
     ZS := ZS,
     Jbz := (W.fnOf "__init__" "Charge.__init__" (Zb jQ) (zb jQ) (za jQ) .none jd2 Jd2 zd3 yd3 JcF Zd3),
     jy := jy,
     yaM := (W.fnOf "is_sound" "Charge.is_sound" (Zb Jx) (zb Jx) (za Jx) .none zcG ZcG ycG jcG Zbs YcG),
     zM := zM,
     Jbo := (W.fnOf "enter" "Charge.enter" (Zb YK) (zb YK) (za YK) .none zdF ZdF ydF jdF Jcf YdF),
     ZM := ZM,
     zbp := (W.fnOf "enter" "Notice.enter" (Zb jK) (zb jK) (za jK) .none JdF zdG ZdG YdG zcg ydG),
     Jy := Jy,
     YaM := (W.fnOf "enter" "Objection.enter" (Zb zy) (zb zy) (za zy) .none JcG zcH ZcH YcH ybs ycH),
     yS := yS,
     zbA := (W.fnOf "__init__" "Fulfil.__init__" (Zb JQ) (zb JQ) (za JQ) .none Yd3 jd3 Jd3 Zd4 jcH zd4),
     Yh := Yh,
     zQ := (W.fnOf "finds_its_entries" "Fulfil.finds_its_entries" (Zb Zh) (zb Zh) (za Zh) .none zaY ZaY yaY jaY Jaj YaY),
     Js := Js,
     Jay := (W.fnOf "plot_among" "Fulfil.plot_among" (Zb Yr) (zb Yr) (za Yr) .none Jca zcb Zcb Ycb ja5 ycb),
     Yp := Yp,
     zav := (W.fnOf "may_be_made" "Fulfil.may_be_made" (Zb jo) (zb jo) (za jo) .none JbQ zbR ZbR YbR zaV ybR),
     Jp := Jp,
     Zav := (W.fnOf "take_effect" "Fulfil.take_effect" (Zb Jo) (zb Jo) (za Jo) .none jbR JbR zbS ybS ZaV ZbS),
     yM := yM,
     Zbp := (W.fnOf "enter" "Fulfil.enter" (Zb JK) (zb JK) (za JK) .none jdG JdG zdH ydH Zcg ZdH),
     YS := YS,
     ZbA := (W.fnOf "__init__" "Strike.__init__" (Zb zR) (zb zR) (za zR) .none Jd4 zd5 Zd5 Yd5 JcH yd5),
     zz := zz,
     jaM := (W.fnOf "is_sound" "Strike.is_sound" (Zb Zy) (zb Zy) (za Zy) .none zcI ZcI ycI jcI Ybs YcI),
     jh := jh,
     ZQ := (W.fnOf "finds_its_entries" "Strike.finds_its_entries" (Zb yh) (zb yh) (za yh) .none JaY zaZ ZaZ YaZ zak yaZ),
     Zt := Zt,
     zaz := (W.fnOf "plot_among" "Strike.plot_among" (Zb jr) (zb jr) (za jr) .none jcb Jcb zcc ycc Ja5 Zcc),
     zq := zq,
     yav := (W.fnOf "may_be_made" "Strike.may_be_made" (Zb zp) (zb zp) (za zp) .none YbS jbS JbS ZbT yaV zbT),
     YM := YM,
     ybp := (W.fnOf "enter" "Strike.enter" (Zb zL) (zb zL) (za zL) .none YdH jdH JdH ZdI ycg zdI),
     Jaa := Jaa,
     zbY := (W.fnOf "__init__" "Ahead.__init__" (Zb J9) (zb J9) (za J9) .none Yet jet Jet Zeu Zc6 zeu),
     ji := ji,
     jU := (W.fnOf "finds_its_entries" "Ahead.finds_its_entries" (Zb Yi) (zb Yi) (za Yi) .none za6 Za6 ya6 ja6 Zat Ya6),
     Zw := Zw,
     JaD := (W.fnOf "plot_among" "Ahead.plot_among" (Zb Zv) (zb Zv) (za Zv) .none Zco yco Yco Jco Zbi jco),
     yt := yt,
     Zaz := (W.fnOf "may_be_made" "Ahead.may_be_made" (Zb Jr) (zb Jr) (za Jr) .none Ycc jcc Jcc Zcd Ja6 zcd),
     JS := JS,
     ybA := (W.fnOf "enter" "Ahead.enter" (Zb ZR) (zb ZR) (za ZR) .none jd6 Jd6 zd7 yd7 ycJ Zd7),
     jM := jM,
     Ybp := (W.fnOf "__init__" "Correct.__init__" (Zb ZL) (zb ZL) (za ZL) .none ydI YdI jdI zdJ Ycg JdI),
     JC := JC,
     ZaX := (W.fnOf "settle" "Correct.settle" (Zb yC) (zb yC) (za yC) .none ycX YcX jcX zcY zbG JcX),
     YG := YG,
     Zbb := (W.fnOf "enter" "Correct.enter" (Zb JF) (zb JF) (za JF) .none Zdj ydj Ydj Jdj JbV jdj),
     zan := zan,
     zcs := (W.fnOf "__init__" "Void.__init__" (Zb zam) (zb zam) (za zam) .none ZeU yeU YeU JeU Ydr jeU),
     zj := zj,
     Z1 := (W.fnOf "finds_its_entries" "Void.finds_its_entries" (Zb Ji) (zb Ji) (za Ji) .none Zbg ybg Ybg Jbg Yaw jbg),
     Zz := Zz,
     JaM := (W.fnOf "plot_among" "Void.plot_among" (Zb Yy) (zb Yy) (za Yy) .none YcJ jcJ JcJ ZcK jbs zcK),
     yw := yw,
     zaE := (W.fnOf "may_be_made" "Void.may_be_made" (Zb Yv) (zb Yv) (za Yv) .none zcp Zcp ycp jcp ybi Ycp),
     zV := zV,
     zbm := (W.fnOf "__init__" "Sheet.__init__" (Zb zaa) (zb zaa) (za zaa) .none yeu Yeu jeu Zev yc6 Jeu),
     jq := jq,
     zai := (W.fnOf "go_through" "Sheet.go_through" (Zb Jv) (zb Jv) (za Jv) .none Jcp zcq Zcq Ycq Ybi ycq),
     Zn := Zn,
     YJ := (W.fnOf "acquires" "Sheet.acquires" (Zb YC) (zb YC) (za YC) .none ZcY ycY YcY JcY ZbG jcY),
     jk := jk,
     ZV := (W.fnOf "has_objection" "Sheet.has_objection" (Zb Yk) (zb Yk) (za Yk) .none ybG YbG jbG zbH jaO JbG),
     ZD := ZD,
     Zar := (W.fnOf "stand" "Sheet.stand" (Zb yR) (zb yR) (za yR) .none Yd7 jd7 Jd7 Zd8 ycK zd8),
     JN := JN,
     zaU := (W.fnOf "drop" "Sheet.drop" (Zb Zaa) (zb Zaa) (za Zaa) .none yev Yev jev zew Yc6 Jev),
     Yac := Yac,
     YbA := (W.fnOf "__init__" "Book.__init__" (Zb Zam) (zb Zam) (za Zam) .none YeV jeV JeV ZeW Zds zeW),
     yV := yV,
     Zbm := (W.fnOf "begin" "Book.begin" (Zb zU) (zb zU) (za zU) .none Zew yew Yew Jew jc6 jew),
     jac := jac,
     jbA := (W.fnOf "make" "Book.make" (Zb yam) (zb yam) (za yam) .none yeW YeW jeW zeX yds JeW),
     zF := zF,
     zaS := (W.fnOf "refusal" "Book.refusal" (Zb yL) (zb yL) (za yL) .none ZdJ ydJ YdJ JdJ jcg jdJ),
     Yx := Yx,
     yao := (W.fnOf "sheet_of" "Book.sheet_of" (Zb zG) (zb zG) (za zG) .none zdk Zdk ydk jdk zbW Ydk),
     Jz := Jz,
     zaI := (W.fnOf "has_plot" "Book.has_plot" (Zb ZG) (zb ZG) (za ZG) .none Jdk zdl Zdl Ydl ZbW ydl),
     zu := zu,
     Z5 := (W.fnOf "sheet_on" "Book.sheet_on" (Zb yG) (zb yG) (za yG) .none jdl Jdl zdm ydm ybW Zdm),
     Ym := Ym,
     J3 := (W.fnOf "void_as_known" "Book.void_as_known" (Zb yp) (zb yp) (za yp) .none ybT YbT jbT zbU YaV JbT),
     JD := JD,
     zab := (W.fnOf "with_lists" "with_lists" (Zb yaa) (zb yaa) (za yaa) .none zex Zex yex jex Jc6 Yex),
     Zab := Zab,
     ybm := (W.fnOf "tell_owner" "tell_owner" (Zb Yaa) (zb Yaa) (za Yaa) .none Jex zey Zey Yey zc7 yey),
     JM := JM,
     ZaS := (W.fnOf "tell_charges" "tell_charges" (Zb jE) (zb jE) (za jE) .none zdK ZdK ydK jdK Jcg YdK),
     Zan := Zan,
     JbA := (W.fnOf "place_row" "place_row" (Zb Yam) (zb Yam) (za Yam) .none ZeX yeX YeX JeX Yds jeX),
     yan := yan,
     zbB := (W.fnOf "tell_rely" "tell_rely" (Zb jam) (zb jam) (za jam) .none zeY ZeY yeY jeY jds YeY),
     Yan := Yan,
     ZbB := (W.fnOf "tell_sale" "tell_sale" (Zb Zac) (zb Zac) (za Zac) .none JeY zeZ ZeZ YeZ Jds yeZ),
     zT := zT,
     Ya1 := (W.fnOf "tell_stands" "tell_stands" (Zb jR) (zb jR) (za jR) .none yd8 Yd8 jd8 zd9 YcK Jd8),
     jan := jan,
     ybB := (W.fnOf "tell_days" "tell_days" (Zb yac) (zb yac) (za yac) .none jeZ JeZ ze0 ye0 zdt Ze0),
     zax := zax,
     ybr := (W.fnOf "answers" "answers" (Zb jaT) (zb jaT) (za jaT) .none JfQ zfR ZfR YfR yeF yfR),
     YT := YT,
     ja1 := (W.fnOf "call_length" "call_length" (Zb JR) (zb JR) (za JR) .none Zd9 yd9 Yd9 Jd9 jcK jd9),
     Ybm := Ybm,
     ydc := (W.fnOf "answer" "answer" (Zb ybl) (zb ybl) (za ybl) .none ygd Ygd jgd zge zfc Jgd),
     YaC := YaC,
     Zb2 := (W.fnOf "entry_of" "entry_of" (Zb yaC) (zb yaC) (za yaC) .none Yfn jfn Jfn Zfo zea zfo),
     Yt := Yt,
     Jac := (W.fnOf "is_sound_question" "is_sound_question" (Zb Ys) (zb Ys) (za Ys) .none ycd Ycd jcd zce za7 Jcd),
     Zc4 := Zc4,
     yeK := (W.fnOf "told" "told" (Zb jc3) (zb jc3) (za jc3) .none zg0 Zg0 yg0 jg0 Jgp Yg0),
     yc4 := .int (1000000) jey,
     YcA := .int (10) jea,
     jdo := .int (6) Ye0,
     YeA := .int (1000000) ZfS,
     jcA := .int (40) Jea,
     zdR := .int (-1) yfo,
     ZdR := .int (-2) Yfo,
     ydR := .int (-4) jfo,
     ygM := .int (-5) zho,
     Yc4 := .int (-6) Jey,
     ZfE := .int (0) ZgH,
     jeA := .int (1) yfS,
     yfE := .int (2) ygH,
     YfE := .int (3) YgH,
     jfE := .int (4) jgH,
     YdR := .int (5) Jfo,
     JfE := .int (6) JgH,
     zgi := .int (7) Jg0,
     Ye5 := .int (8) Zge,
     YgM := .int (9) Zho,
     Zgi := .int (10) zg1,
     je5 := .int (11) yge,
     jgM := .int (12) yho,
     JgM := .int (13) Yho,
     zfF := .int (14) zgI,
     zgN := .int (15) jho,
     Je5 := .ref jw,
     jw := jw },
   { yee := W.mg_of X G YfS,
     jdV := W.mg_of X G Zdt,
     Jep := W.mg_of X G JcK,
     zgW := W.mg_of X G jfS,
     zeB := W.mg_of X G zeb,
     zb4 := W.mg_of X G Zfc,
     YcC := W.mg_of X G yfc,
     YcR := W.mg_of X G ydt,
     zfG := W.mg_of X G Yfc,
     Ygy := W.mg_of X G jfc,
     ZgW := W.mg_of X G JfS,
     jf7 := W.mg_of X G YeF,
     ygN := W.mg_of X G zgr,
     ygW := W.mg_of X G zfT,
     jhg := W.mg_of X G Zgr,
     jgx := W.mg_of X G ZfT,
     ZfF := zc (st := ya1) je0 Je0 ze1,
     Ygx := (zc (st := ya1) je0 Je0 ze1).binds (ps := ["places", "charge"]) fun _ _ _ _ _ _ => jt fun _ _ => rfl,
     Zf7 := W.mg_of X G Jfc,
     ze6 := zc (st := JaH) Yef jef Jef,
     zf7 := (zc (st := JaH) Yef jef Jef).binds (ps := ["places", "charge"]) fun _ _ _ _ _ _ => jt fun _ _ => rfl,
     JdR := W.mg_of X G zcL,
     JcA := zc (st := ZK) ZbH ybH YbH,
     jdR := (zc (st := ZK) ZbH ybH YbH).binds (ps := ["places", "one", "other"]) fun _ _ _ _ _ _ => yz fun _ _ _ => rfl,
     jfh := W.mg_of X G Zeb,
     zdS := zc (st := Jal) zcZ ZcZ ycZ,
     Yfh := (zc (st := Jal) zcZ ZcZ ycZ).binds (ps := ["places", "one", "other"]) fun _ _ _ _ _ _ => yz fun _ _ _ => rfl,
     ydS := W.mg_of X G ZcL,
     zcB := zc (st := yE) jbH JbH zbI,
     ZdS := (zc (st := yE) jbH JbH zbI).binds (ps := ["one", "part", "other", "rest"]) fun _ _ _ _ _ _ => yef fun _ _ _ _ => rfl,
     zgy := W.mg_of X G yfT,
     yfF := zc (st := Zbl) Ze1 ye1 Ye1,
     Jgx := (zc (st := Zbl) Ze1 ye1 Ye1).binds (ps := ["places", "given", "amount"]) fun _ _ _ _ _ _ => yz fun _ _ _ => rfl,
     JbU := W.mg_of X G jeF,
     Ybr := zc (st := ZaC) Ydt jdt Jdt,
     jbU := (zc (st := ZaC) Ydt jdt Jdt).binds (ps := ["entries", "number"]) fun _ _ _ _ _ _ => jt fun _ _ => rfl,
     YeK := zc (st := Y9) Zcu ycu zO,
     ybb := (zc (st := Y9) Zcu ycu zO).binds (ps := ["self", "day"]) fun _ _ _ _ _ _ => jt fun _ _ => rfl,
     Ydc := zc (st := YB) ybd Ybd J8,
     Ybb := (zc (st := YB) ybd Ybd J8).binds (ps := ["self", "persons", "plots"]) fun _ _ _ _ _ _ => yz fun _ _ _ => rfl,
     Ybf := zc (st := Zi) J1 Z2 Zk,
     Yz := (zc (st := Zi) J1 Z2 Zk).binds (ps := ["self", "entries"]) fun _ _ _ _ _ _ => jt fun _ _ => rfl,
     Jcj := zc (st := Jq) jaE JaE jZ,
     Zbh := (zc (st := Jq) jaE JaE jZ).binds (ps := ["self", "sheet"]) fun _ _ _ _ _ _ => jt fun _ _ => rfl,
     YdS := zc (st := yK) ZbI ybI jA,
     jV := (zc (st := yK) ZbI ybI jA).binds (ps := ["self", "sheet"]) fun _ _ _ _ _ _ => jt fun _ _ => rfl,
     zck := zc (st := zr) zaF ZaF yx,
     YX := (zc (st := zr) zaF ZaF yx).binds (ps := ["self", "number", "sheet"]) fun _ _ _ _ _ _ => yz fun _ _ _ => rfl,
     yen := zc (st := YQ) jbY JbY Zbo,
     Yen := (zc (st := YQ) jbY JbY Zbo).binds (ps := ["self", "number", "sheet"]) fun _ _ _ _ _ _ => yz fun _ _ _ => rfl,
     jdc := zc (st := jB) jbd Jbd jH,
     zbV := (zc (st := jB) jbd Jbd jH).binds (ps := ["self", "day", "plot"]) fun _ _ _ _ _ _ => yz fun _ _ _ => rfl,
     yb2 := zc (st := Yo) Jaz zaA Yad,
     Yb2 := (zc (st := Yo) Jaz zaA Yad).binds (ps := ["self", "persons", "plots"]) fun _ _ _ _ _ _ => yz fun _ _ _ => rfl,
     YbB := zc (st := Yl) Zak yak yo,
     yH := (zc (st := Yl) Zak yak yo).binds (ps := ["self", "entries"]) fun _ _ _ _ _ _ => jt fun _ _ => rfl,
     ZcB := zc (st := Ju) JaO zaP yF,
     jbr := (zc (st := Ju) JaO zaP yF).binds (ps := ["self", "day", "plot", "person"]) fun _ _ _ _ _ _ => yef fun _ _ _ _ => rfl,
     jbB := zc (st := jl) Yak jak Yu,
     JV := (zc (st := jl) Yak jak Yu).binds (ps := ["self", "persons", "plots"]) fun _ _ _ _ _ _ => yz fun _ _ _ => rfl,
     JbB := zc (st := Jl) Jak zal YW,
     zbC := (zc (st := Jl) Jak zal YW).binds (ps := ["self", "persons", "plots"]) fun _ _ _ _ _ _ => yz fun _ _ _ => rfl,
     jeK := zc (st := j9) jcu Jcu yaz,
     Zcs := (zc (st := j9) jcu Jcu yaz).binds (ps := ["self", "day", "plot", "giver", "person", "knows"]) fun _ _ _ _ _ _ => jhv fun _ _ _ _ _ _ => rfl,
     JbO := zc (st := jn) jav Jav YD,
     Yav := (zc (st := jn) jav Jav YD).binds (ps := ["self", "persons"]) fun _ _ _ _ _ _ => jt fun _ _ => rfl,
     Jdc := zc (st := JB) Zbe ybe zar,
     ZbV := (zc (st := JB) Zbe ybe zar).binds (ps := ["self", "persons", "plots"]) fun _ _ _ _ _ _ => yz fun _ _ _ => rfl,
     Zck := zc (st := Zr) yaF YaF yJ,
     yaE := (zc (st := Zr) yaF YaF yJ).binds (ps := ["self", "sheet"]) fun _ _ _ _ _ _ => jt fun _ _ => rfl,
     yck := zc (st := yr) JaF zaG JZ,
     ybh := (zc (st := yr) JaF zaG JZ).binds (ps := ["self", "number", "sheet"]) fun _ _ _ _ _ _ => yz fun _ _ _ => rfl,
     ZbC := zc (st := zm) Zal yal jW,
     ybC := (zc (st := zm) Zal yal jW).binds (ps := ["self", "number", "sheet"]) fun _ _ _ _ _ _ => yz fun _ _ _ => rfl,
     zdd := zc (st := ZC) Ybe jbe jaK,
     Zdd := (zc (st := ZC) Ybe jbe jaK).binds (ps := ["self", "number", "sheet"]) fun _ _ _ _ _ _ => yz fun _ _ _ => rfl,
     jen := zc (st := jQ) zbZ ZbZ ybZ,
     Jen := (zc (st := jQ) zbZ ZbZ ybZ).binds (ps := ["self", "day", "plot", "giver", "person", "amount", "knows"]) fun _ _ _ _ _ _ => Jhv fun _ _ _ _ _ _ _ => rfl,
     ycP := zc (st := Jx) jaZ JaZ ZaA,
     YcP := (zc (st := Jx) jaZ JaZ ZaA).binds (ps := ["self", "persons", "plots"]) fun _ _ _ _ _ _ => yz fun _ _ _ => rfl,
     jdS := zc (st := YK) ybJ YbJ ya7,
     JdS := (zc (st := YK) ybJ YbJ ya7).binds (ps := ["self", "number", "sheet"]) fun _ _ _ _ _ _ => yz fun _ _ _ => rfl,
     zdT := zc (st := jK) jbJ JbJ Ya7,
     ZdT := (zc (st := jK) jbJ JbJ Ya7).binds (ps := ["self", "number", "sheet"]) fun _ _ _ _ _ _ => yz fun _ _ _ => rfl,
     jcP := zc (st := zy) za0 Za0 yaA,
     JcP := (zc (st := zy) za0 Za0 yaA).binds (ps := ["self", "number", "sheet"]) fun _ _ _ _ _ _ => yz fun _ _ _ => rfl,
     zeo := zc (st := JQ) YbZ jbZ JbZ,
     Zeo := (zc (st := JQ) YbZ jbZ JbZ).binds (ps := ["self", "day", "noted", "knows"]) fun _ _ _ _ _ _ => yef fun _ _ _ _ => rfl,
     Ja1 := zc (st := Zh) JW zX YF,
     za2 := (zc (st := Zh) JW zX YF).binds (ps := ["self", "entries"]) fun _ _ _ _ _ _ => jt fun _ _ => rfl,
     Yck := zc (st := Yr) ZaG yaG yai,
     jck := (zc (st := Yr) ZaG yaG yai).binds (ps := ["self", "entries"]) fun _ _ _ _ _ _ => jt fun _ _ => rfl,
     jb2 := zc (st := jo) YaA jaA jad,
     Jb2 := (zc (st := jo) YaA jaA jad).binds (ps := ["self", "sheet"]) fun _ _ _ _ _ _ => jt fun _ _ => rfl,
     zb3 := zc (st := Jo) JaA zaB Jad,
     Zb3 := (zc (st := Jo) JaA zaB Jad).binds (ps := ["self", "number", "sheet"]) fun _ _ _ _ _ _ => yz fun _ _ _ => rfl,
     ydT := zc (st := JK) ybK YbK ya8,
     YdT := (zc (st := JK) ybK YbK ya8).binds (ps := ["self", "number", "sheet"]) fun _ _ _ _ _ _ => yz fun _ _ _ => rfl,
     yeo := zc (st := zR) zb0 Zb0 yb0,
     Yeo := (zc (st := zR) zb0 Zb0 yb0).binds (ps := ["self", "day", "struck", "striker"]) fun _ _ _ _ _ _ => yef fun _ _ _ _ => rfl,
     zcQ := zc (st := Zy) ya0 Ya0 ZaB,
     ZcQ := (zc (st := Zy) ya0 Ya0 ZaB).binds (ps := ["self", "persons", "plots"]) fun _ _ _ _ _ _ => yz fun _ _ _ => rfl,
     Za2 := zc (st := yh) ZX yX jF,
     ya2 := (zc (st := yh) ZX yX jF).binds (ps := ["self", "entries"]) fun _ _ _ _ _ _ => jt fun _ _ => rfl,
     Jck := zc (st := jr) YaG jaG Yai,
     zcl := (zc (st := jr) YaG jaG Yai).binds (ps := ["self", "entries"]) fun _ _ _ _ _ _ => jt fun _ _ => rfl,
     yb3 := zc (st := zp) yaB YaB zae,
     Yb3 := (zc (st := zp) yaB YaB zae).binds (ps := ["self", "sheet"]) fun _ _ _ _ _ _ => jt fun _ _ => rfl,
     jdT := zc (st := zL) zbL ZbL Ja8,
     JdT := (zc (st := zL) zbL ZbL Ja8).binds (ps := ["self", "number", "sheet"]) fun _ _ _ _ _ _ => yz fun _ _ _ => rfl,
     JeK := zc (st := J9) zcv Zcv ycv,
     zeL := (zc (st := J9) zcv Zcv ycv).binds (ps := ["self", "day", "one", "other"]) fun _ _ _ _ _ _ => yef fun _ _ _ _ => rfl,
     jbf := zc (st := Yi) J2 Z3 zJ,
     Jbf := (zc (st := Yi) J2 Z3 zJ).binds (ps := ["self", "entries"]) fun _ _ _ _ _ _ => jt fun _ _ => rfl,
     ycB := zc (st := Zv) jaP JaP zau,
     YcB := (zc (st := Zv) jaP JaP zau).binds (ps := ["self", "entries"]) fun _ _ _ _ _ _ => jt fun _ _ => rfl,
     Zcl := zc (st := Jr) JaG zaH jai,
     ycl := (zc (st := Jr) JaG zaH jai).binds (ps := ["self", "sheet"]) fun _ _ _ _ _ _ => jt fun _ _ => rfl,
     jeo := zc (st := ZR) Yb0 jb0 ybo,
     Jeo := (zc (st := ZR) Yb0 jb0 ybo).binds (ps := ["self", "number", "sheet"]) fun _ _ _ _ _ _ => yz fun _ _ _ => rfl,
     zdU := zc (st := ZL) ybL YbL jbL,
     ZdU := (zc (st := ZL) ybL YbL jbL).binds (ps := ["self", "day", "plot"]) fun _ _ _ _ _ _ => yz fun _ _ _ => rfl,
     ydd := zc (st := yC) Jbe zbf JaK,
     Ydd := (zc (st := yC) Jbe zbf JaK).binds (ps := ["self", "sheet"]) fun _ _ _ _ _ _ => jt fun _ _ => rfl,
     Zdz := zc (st := JF) Jbp zbq zaT,
     ydz := (zc (st := JF) Jbp zbq zaT).binds (ps := ["self", "number", "sheet"]) fun _ _ _ _ _ _ => yz fun _ _ _ => rfl,
     Jfh := zc (st := zam) YcZ jcZ JcZ,
     zfi := (zc (st := zam) YcZ jcZ JcZ).binds (ps := ["self", "day", "voided"]) fun _ _ _ _ _ _ => yz fun _ _ _ => rfl,
     jbm := zc (st := Ji) jab Jab yN,
     Jbm := (zc (st := Ji) jab Jab yN).binds (ps := ["self", "entries"]) fun _ _ _ _ _ _ => jt fun _ _ => rfl,
     ycQ := zc (st := Yy) ja0 Ja0 jaB,
     YcQ := (zc (st := Yy) ja0 Ja0 jaB).binds (ps := ["self", "entries"]) fun _ _ _ _ _ _ => jt fun _ _ => rfl,
     jcB := zc (st := Yv) zaQ ZaQ Zau,
     JcB := (zc (st := Yv) zaQ ZaQ Zau).binds (ps := ["self", "sheet"]) fun _ _ _ _ _ _ => jt fun _ _ => rfl,
     ZeL := zc (st := zaa) Ycv jcv Jcv,
     yeL := (zc (st := zaa) Ycv jcv Jcv).binds (ps := ["self", "owner", "void"]) fun _ _ _ _ _ _ => yz fun _ _ _ => rfl,
     zcC := zc (st := Jv) yaQ YaQ yau,
     ZcC := (zc (st := Jv) yaQ YaQ yau).binds (ps := ["self", "number", "entry"]) fun _ _ _ _ _ _ => yz fun _ _ _ => rfl,
     jdd := zc (st := YC) Zbf ybf zaL,
     ZaI := (zc (st := YC) Zbf ybf zaL).binds (ps := ["self", "knows"]) fun _ _ _ _ _ _ => jt fun _ _ => rfl,
     zbP := zc (st := Yk) zaw Zaw Y4,
     ZbP := (zc (st := Yk) zaw Zaw Y4).binds (ps := ["self"]) fun _ _ _ _ _ _ => JcT fun _ => rfl,
     zep := zc (st := yR) Jb0 zb1 Ybo,
     ZbY := (zc (st := yR) Jb0 zb1 Ybo).binds (ps := ["self", "number", "entry"]) fun _ _ _ _ _ _ => yz fun _ _ _ => rfl,
     YeL := zc (st := Zaa) zcw Zcw ZbM,
     Jdo := (zc (st := Zaa) zcw Zcw ZbM).binds (ps := ["self", "number"]) fun _ _ _ _ _ _ => jt fun _ _ => rfl,
     Zfi := zc (st := Zam) zc0 Zc0 yc0,
     yfi := (zc (st := Zam) zc0 Zc0 yc0).binds (ps := ["self"]) fun _ _ _ _ _ _ => JcT fun _ => rfl,
     jeL := zc (st := zU) ycw Ycw ybM,
     JeL := (zc (st := zU) ycw Ycw ybM).binds (ps := ["self", "persons", "owners"]) fun _ _ _ _ _ _ => yz fun _ _ _ => rfl,
     Yfi := zc (st := yam) Yc0 jc0 yce,
     jfi := (zc (st := yam) Yc0 jc0 yce).binds (ps := ["self", "entry"]) fun _ _ _ _ _ _ => jt fun _ _ => rfl,
     ydU := zc (st := yL) YbM jbM za9,
     YdU := (zc (st := yL) YbM jbM za9).binds (ps := ["self", "entry"]) fun _ _ _ _ _ _ => jt fun _ _ => rfl,
     Ydz := zc (st := zG) Zbq ybq ZaT,
     Jce := (zc (st := zG) Zbq ybq ZaT).binds (ps := ["self", "entry"]) fun _ _ _ _ _ _ => jt fun _ _ => rfl,
     jdz := zc (st := ZG) Ybq jbq yaT,
     Jdz := (zc (st := ZG) Ybq jbq yaT).binds (ps := ["self", "plot"]) fun _ _ _ _ _ _ => jt fun _ _ => rfl,
     zdA := zc (st := yG) Jbq zbr YaT,
     yaS := (zc (st := yG) Jbq zbr YaT).binds (ps := ["self", "plot", "day", "known"]) fun _ _ _ _ _ _ => yef fun _ _ _ _ => rfl,
     jb3 := zc (st := yp) JaB zaC Zae,
     Jb3 := (zc (st := yp) JaB zaC Zae).binds (ps := ["self", "known"]) fun _ _ _ _ _ _ => jt fun _ _ => rfl,
     Jbb := W.mg_of X G ydv,
     zaN := zc (st := yaa) jcw Jcw zcx,
     jbb := (zc (st := yaa) jcw Jcw zcx).binds (ps := ["number", "rows"]) fun _ _ _ _ _ _ => jt fun _ _ => rfl,
     ZeM := W.mg_of X G Ydv,
     zdp := zc (st := Yaa) Zcx ycx Ycx,
     zeM := (zc (st := Yaa) Zcx ycx Ycx).binds (ps := ["sheet"]) fun _ _ _ _ _ _ => JcT fun _ => rfl,
     JdU := W.mg_of X G YcN,
     ycC := zc (st := jE) JbM zbN ZbN,
     jdU := (zc (st := jE) JbM zbN ZbN).binds (ps := ["sheet"]) fun _ _ _ _ _ _ => JcT fun _ => rfl,
     zfj := W.mg_of X G Yec,
     zdV := zc (st := Yam) Jc0 zc1 Zc1,
     Jfi := (zc (st := Yam) Jc0 zc1 Zc1).binds (ps := ["sheet", "charge", "amount"]) fun _ _ _ _ _ _ => yz fun _ _ _ => rfl,
     yfj := W.mg_of X G jec,
     ZdV := zc (st := jam) yc1 Yc1 jc1,
     Zfj := (zc (st := jam) yc1 Yc1 jc1).binds (ps := ["sheet"]) fun _ _ _ _ _ _ => JcT fun _ => rfl,
     jfj := W.mg_of X G Jec,
     ydV := zc (st := Zac) Jc1 zc2 Zc2,
     Yfj := (zc (st := Zac) Jc1 zc2 Zc2).binds (ps := ["sheet", "amount"]) fun _ _ _ _ _ _ => jt fun _ _ => rfl,
     yep := W.mg_of X G zc9,
     jc4 := zc (st := jR) Zb1 yb1 Yb1,
     Zep := (zc (st := jR) Zb1 yb1 Yb1).binds (ps := ["sheet"]) fun _ _ _ _ _ _ => JcT fun _ => rfl,
     zfk := W.mg_of X G zed,
     YdV := zc (st := yac) yc2 Yc2 jc2,
     Jfj := (zc (st := yac) yc2 Yc2 jc2).binds (ps := ["book", "plot", "known"]) fun _ _ _ _ _ _ => yz fun _ _ _ => rfl,
     Yf7 := W.mg_of X G zfd,
     yf7 := zc (st := jaT) zeg Zeg yeg,
     jg4 := (zc (st := jaT) zeg Zeg yeg).binds (ps := ["calls"]) fun _ _ _ _ _ _ => JcT fun _ => rfl,
     jep := W.mg_of X G Zc9,
     Jc4 := zc (st := JR) jb1 Jb1 zb2,
     Yep := (zc (st := JR) jb1 Jb1 zb2).binds (ps := ["calls", "start"]) fun _ _ _ _ _ _ => jt fun _ _ => rfl,
     ygy := W.mg_of X G YfT,
     YfF := zc (st := ybl) Ze2 ye2 Ye2,
     Zgy := (zc (st := ybl) Ze2 ye2 Ye2).binds (ps := ["book", "call"]) fun _ _ _ _ _ _ => jt fun _ _ => rfl,
     JfF := W.mg_of X G JeF,
     JeA := zc (st := yaC) jdv Jdv zdw,
     jfF := (zc (st := yaC) jdv Jdv zdw).binds (ps := ["call"]) fun _ _ _ _ _ _ => JcT fun _ => rfl,
     jcl := W.mg_of X G jbj,
     Ybh := zc (st := Ys) ZaH yaH YaH,
     Ycl := (zc (st := Ys) ZaH yaH YaH).binds (ps := ["book", "call"]) fun _ _ _ _ _ _ => jt fun _ _ => rfl,
     Yhg := W.mg_of X G ZgS,
     ZgN := zc (st := jc3) ygr Ygr jgr,
     yhg := (zc (st := jc3) ygr Ygr jgr).binds (ps := ["book", "call"]) fun _ _ _ _ _ _ => jt fun _ _ => rfl,
     JdV := ⟨Jc2, zc3, Zc3, yc3⟩,
     Ybu := ⟨Ybu, yci, Ycu, Zed⟩,
     YbC := ⟨yaP, YaP, jW⟩,
     Jdd := ⟨YbW, jbW, jaK⟩,
     zbn := ⟨jaD, Z4, YD⟩,
     Jcl := ⟨Jbj, zbe, zar⟩,
     jbC := ⟨jaQ, Zai, yJ⟩,
     zcm := ⟨zbk, yI, Yu⟩,
     ybP := ⟨zaW, jz, yo⟩,
     YaS := ⟨jah, Jt, Zk⟩,
     jcQ := ⟨ybN, zN, jA⟩,
     Y5 := Y5,
     zW := zW,
     J5 := J5,
     Jag := Jag,
     yar := yar,
     zde := ⟨Yeg, jeg, Jeg, zeh⟩,
     jcy := ⟨jcy, yc7, Yc7, Zfd⟩,
     JcQ := ⟨zbJ, ZbJ, ZaA⟩,
     zdW := ⟨YcL, jcL, ya7⟩,
     JbC := ⟨JaQ, Z4, YD⟩,
     Zb4 := ⟨Ya9, Zai, yJ⟩,
     yb4 := ⟨ja9, jaF, JZ⟩,
     zcR := ⟨YbN, yI, Yu⟩,
     Zcm := ⟨Zbk, jz, yo⟩,
     Ya2 := ⟨Yau, Jt, Zk⟩,
     ZdA := ⟨Yci, zN, jA⟩,
     Y0 := Y0,
     Yar := Yar,
     jar := jar,
     zah := zah,
     jaC := jaC,
     ZaN := ZaN,
     Ze6 := ⟨Zeh, yeh, Yeh, jeh⟩,
     Jcy := ⟨Jcy, yc9, Ycu, yfd⟩,
     ZdW := ⟨JcL, zcM, Ya7⟩,
     zbD := ⟨zaR, Z4, YD⟩,
     ZcR := ⟨jbN, zbe, zar⟩,
     Yb4 := ⟨Ja9, Zai, yJ⟩,
     jb4 := ⟨zba, jaF, JZ⟩,
     ycR := ⟨JbN, yI, Yu⟩,
     ycm := ⟨ybk, jz, yo⟩,
     ja2 := ⟨jau, Jt, Zk⟩,
     ydA := ⟨jci, zN, jA⟩,
     Jar := Jar,
     zas := zas,
     Zah := Zah,
     JaC := JaC,
     yaN := yaN,
     Zdp := ⟨jcx, Jcx, zcy, Zcy⟩,
     zbc := ⟨zbc, YbX, Jbs, Zdw⟩,
     jcR := ⟨zbK, ZbK, yaA⟩,
     Jb4 := ⟨Zba, yI, Yu⟩,
     zb5 := ⟨yba, ZaP, YW⟩,
     ZbD := ⟨ZaR, jz, yo⟩,
     JaL := ⟨yae, Jt, Zk⟩,
     jbu := ⟨ZaL, YaE, jZ⟩,
     jcC := ⟨zbu, zN, jA⟩,
     Jbu := ⟨yaL, ZJ, yx⟩,
     jO := jO,
     Z6 := Z6,
     yah := yah,
     zbv := ⟨Jeh, zei, Zei, yei⟩,
     zcz := ⟨zcz, jc7, Jc7, Yfd⟩,
     Ja2 := ⟨yat, Yat, YF⟩,
     Ycm := ⟨jbi, Jbi, yai⟩,
     Zb5 := ⟨ja7, Ja7, jad⟩,
     yb5 := ⟨za8, Za8, Jad⟩,
     ydW := ⟨ZcM, ycM, ya8⟩,
     JcR := ⟨zbO, YaK, J8⟩,
     YdA := ⟨Jci, zN, jA⟩,
     ZF := ZF,
     Zas := Zas,
     YaN := YaN,
     Zbc := ⟨Yei, jei, Jei, zej⟩,
     Zcz := ⟨Zcz, zc8, Zc8, jfd⟩,
     zcS := ⟨jbK, JbK, ZaB⟩,
     za3 := ⟨jat, Jat, jF⟩,
     jcm := ⟨zbj, Zbj, Yai⟩,
     Yb5 := ⟨Ya8, ja8, zae⟩,
     YdW := ⟨YcM, jcM, Ja8⟩,
     jdA := ⟨zcj, zN, jA⟩,
     jb5 := ⟨Yba, ZJ, yx⟩,
     JG := JG,
     ZP := ZP,
     jaN := jaN,
     Zbn := ⟨je2, Je2, ze3, Ze3⟩,
     Zde := ⟨Zde, zdu, Zdu, jfT⟩,
     zbg := ⟨jaw, Jaw, zJ⟩,
     JcC := ⟨zbt, Zbt, zau⟩,
     Jcm := ⟨ybj, Ybj, jai⟩,
     zeq := ⟨yc8, Yc8, ybo⟩,
     yde := ⟨jbX, YaK, J8⟩,
     jdW := ⟨jcN, zN, jA⟩,
     zcn := ⟨Ybk, ZJ, yx⟩,
     zao := zao,
     yab := yab,
     Za3 := Za3,
     zcD := ⟨ydw, Ydw, jdw, Jdw⟩,
     ybV := ⟨ybV, JcM, zcN, zeG⟩,
     Yde := ⟨JbW, zbX, JaK⟩,
     JdA := ⟨zch, Zch, zaT⟩,
     ZcD := ⟨Zbu, Za7, Yad⟩,
     Jb5 := ⟨jba, jz, yo⟩,
     YaX := ⟨Yal, Jt, Zk⟩,
     YbP := ⟨ZaW, YaE, jZ⟩,
     jbP := ⟨yaW, ZJ, yx⟩,
     j0 := j0,
     yas := yas,
     zaD := zaD,
     ZcS := ⟨Zfz, yfz, Yfz, jfz⟩,
     Yee := ⟨Yee, Yeb, jeb, Jgr⟩,
     ybn := ⟨yaD, YaD, yN⟩,
     ycS := ⟨JbL, zbM, jaB⟩,
     ycD := ⟨ybt, Ybt, Zau⟩,
     zdB := ⟨Zcj, YaK, J8⟩,
     Zeq := ⟨Yc9, zN, jA⟩,
     YcD := ⟨ybu, ZJ, yx⟩,
     yeM := ⟨zdx, Zc7, Zbo⟩,
     jT := jT,
     Jbr := Jbr,
     Yn := ⟨JfT, zfU, ZfU, yfU⟩,
     jde := ⟨jde, ydu, Ydu, YfU⟩,
     jcD := ⟨jbt, Jbt, yau⟩,
     yaI := ⟨ZbX, ybX, zaL⟩,
     JbP := ⟨jaV, JaV, Y4⟩,
     ybY := ⟨jc8, Jc8, Ybo⟩,
     ydp := ⟨jdu, Jdu, ZbM⟩,
     Yw := Yw,
     JT := JT,
     JaN := JaN,
     YH := YH,
     ZW := ZW,
     ZaD := ZaD,
     Yab := ⟨zgs, Zgs, ygs, Ygs⟩,
     jee := ⟨jee, Jeb, zec, jgs⟩,
     YeM := ⟨zdv, Zdv, ybM⟩,
     Zfk := ⟨Zec, yec, yce⟩,
     JdW := ⟨ZcN, ycN, za9⟩,
     zcf := ⟨ych, Ych, ZaT⟩,
     ZdB := ⟨jch, Jch, yaT⟩,
     jaS := ⟨zci, Zci, YaT⟩,
     zb6 := ⟨Za9, ya9, Zae⟩,
     zad := zad,
     Zao := Zao,
     Zad := Zad,
     zO := ⟨jc9, Jc9, zda, zO⟩,
     yaz := ⟨Zda, yda, Yda, yaz⟩,
     yF := ⟨jbk, Jbk, zbl, yF⟩,
     jH := ⟨ZbO, ybO, YbO, jH⟩,
     zc5 := W.mg_of X G JcN,
     Zc5 := ⟨_, rfl⟩,
     zdX := W.mg_of X G ycj,
     ZdX := ⟨_, rfl⟩,
     jeM := W.mg_of X G jda,
     JeM := ⟨_, rfl⟩,
     Ydp := W.mg_of X G yed,
     jdp := ⟨_, rfl⟩,
     ydX := W.mg_of X G Ycj,
     YdX := ⟨_, rfl⟩,
     Zb6 := W.mg_of X G Zdx,
     yb6 := ⟨_, rfl⟩,
     yfk := W.mg_of X G ydx,
     Yfk := ⟨_, rfl⟩,
     jfk := W.mg_of X G Ydx,
     Jfk := ⟨_, rfl⟩,
     Jhg := W.mg_of X G Jgs,
     zhh := ⟨_, rfl⟩,
     yeq := W.mg_of X G zcO,
     Yeq := ⟨_, rfl⟩,
     zeN := W.mg_of X G Jfd,
     ZeN := ⟨_, rfl⟩,
     ZfG := W.mg_of X G Yed,
     yfG := ⟨_, rfl⟩,
     jgy := W.mg_of X G zfe,
     Jgy := ⟨_, rfl⟩,
     zgz := W.mg_of X G Zfe,
     Zgz := ⟨_, rfl⟩,
     ygz := W.mg_of X G yfe,
     Ygz := ⟨_, rfl⟩,
     zfl := W.mg_of X G jdx,
     Zfl := ⟨_, rfl⟩,
     jgz := W.mg_of X G Yfe,
     Jgz := ⟨_, rfl⟩,
     YgW := W.mg_of X G jfU,
     jgW := ⟨_, rfl⟩,
     Jf7 := W.mg_of X G ZeG,
     zf8 := ⟨_, rfl⟩,
     Zhh := W.mg_of X G zgt,
     yhh := ⟨_, rfl⟩,
     JgW := W.mg_of X G JfU,
     zgX := ⟨_, rfl⟩,
     Zf8 := W.mg_of X G yeG,
     yf8 := ⟨_, rfl⟩,
     Yhh := W.mg_of X G Zgt,
     jhh := ⟨_, rfl⟩,
     Jhh := W.mg_of X G ygt,
     zhi := ⟨_, rfl⟩,
     zgA := W.mg_of X G jfe,
     ZgA := ⟨_, rfl⟩,
     Zhi := W.mg_of X G Ygt,
     yhi := ⟨_, rfl⟩,
     ye6 := W.mg_of X G YeG,
     Ye6 := rfl,
     yP := fun H => .inr ⟨_, _, _, jeG, rfl, rfl, (by show 16 ≤ sizeLine; decide), (.cons ⟨_, rfl⟩ (.cons ⟨_, rfl⟩ (.cons ⟨_, rfl⟩ (.cons ⟨_, rfl⟩ (.cons ⟨_, rfl⟩ (.cons ⟨_, rfl⟩ (.cons ⟨_, rfl⟩ (.cons ⟨_, rfl⟩ (.cons ⟨_, rfl⟩ (.cons ⟨_, rfl⟩ (.cons ⟨_, rfl⟩ (.cons ⟨_, rfl⟩ (.cons ⟨_, rfl⟩ (.cons ⟨_, rfl⟩ (.cons ⟨_, rfl⟩ (.cons ⟨_, rfl⟩ .nil))))))))))))))))⟩,
     Yhi := W.mg_none_of X G ygS,
     yfl := W.mg_none_of X G Jdx,
     yW := W.mg_none_of X G Jda,
     JcD := W.mg_none_of X G YgS,
     YgN := W.mg_none_of X G jgt,
     jhi := W.mg_none_of X G jgS,
     Jhi := W.mg_none_of X G JgS,
     Yfl := fun e => .ins e ⟨Jc2, zc3, Zc3, yc3⟩ jed hn0 htk0 Jed,
     Yf8 := fun e => .ins e ⟨Yeg, jeg, Jeg, zeh⟩ Jfe hn0 htk0 zff,
     jf8 := fun e => .ins e ⟨Zeh, yeh, Yeh, jeh⟩ Zff hn0 htk0 yff,
     Jf8 := fun e => .ins e ⟨Jeh, zei, Zei, yei⟩ Yff hn0 htk0 jff,
     yeN := fun e => .ins e ⟨jcx, Jcx, zcy, Zcy⟩ zdy hn0 htk0 Zdy,
     zf9 := fun e => .ins e ⟨Yei, jei, Jei, zej⟩ Jff hn0 htk0 zfg,
     ygA := fun e => .ins e ⟨je2, Je2, ze3, Ze3⟩ zfV hn0 htk0 ZfV,
     YfG := fun e => .ins e ⟨ydw, Ydw, jdw, Jdw⟩ JeG hn0 htk0 zeH,
     ZgX := fun e => .ins e ⟨Zfz, yfz, Yfz, jfz⟩ Jgt hn0 htk0 zgu,
     ycz := ycz,
     Y6 := Y6,
     Yao := Yao,
     jao := jao,
     Jao := Jao,
     jX := jX,
     zap := zap,
     Zax := Zax,
     yaf := yaf,
     YaI := YaI,
     Ycz := Ycz,
     J6 := J6,
     Zap := Zap,
     yap := yap,
     Yap := Yap,
     JX := JX,
     jap := jap,
     yax := yax,
     Yaf := Yaf,
     jaI := jaI,
     ybc := ybc,
     jJ := jJ,
     zY := zY,
     jY := jY,
     zZ := zZ,
     JH := JH,
     ZZ := ZZ,
     Z7 := Z7,
     jP := jP,
     jaf := jaf,
     Zbv := Zbv,
     JP := JP,
     Y7 := Y7,
     j7 := j7,
     J7 := J7,
     zK := zK,
     Z8 := Z8,
     Jaf := Jaf,
     yZ := yZ,
     Jap := Jap,
     jcz := jcz,
     Y8 := Y8,
     zaq := zaq,
     Zaq := Zaq,
     yaq := yaq,
     YZ := YZ,
     Yaq := Yaq,
     Yax := Yax,
     zag := zag,
     JaI := JaI,
     Jee := Jee,
     jaq := jaq,
     zaJ := zaJ,
     ZaJ := ZaJ,
     yaJ := yaJ,
     Zag := Zag,
     YaJ := YaJ,
     ZaU := ZaU,
     jax := jax,
     Ybc := Ybc }, rfl, fun s us hu => match us, hu with | [_], _ => .of_eq rfl⟩
end Lr
namespace PySem.W.Fast
def tw3977597855311493871 : Unit := ()
def tw2285066325513771842 : Unit := ()
def tw4632973110377919272 : Unit := ()
def tw5404321677304714834 : Unit := ()
def tw13045658891415225711 : Unit := ()
def tw1352643050675337263 : Unit := ()
def tw14719041337841918684 : Unit := ()
def tw70389721507107418 : Unit := ()
def tw2501620988930450954 : Unit := ()
def tw710926530420000040 : Unit := ()
def tw10599518705608799274 : Unit := ()
def tw5615693175159911130 : Unit := ()
def tw12954085081359476684 : Unit := ()
def tw2491435323864608683 : Unit := ()
def tw3854592761956360329 : Unit := ()
def tw10955664243935795559 : Unit := ()
def tw10639018419278022931 : Unit := ()
def tw9446125453304693159 : Unit := ()
def tw9953571077795960443 : Unit := ()
def tw5316190306035259378 : Unit := ()
def tw1424889056806482832 : Unit := ()
def tw17206186744881610133 : Unit := ()
def tw14181470658528363153 : Unit := ()
def tw13632962851984173390 : Unit := ()
def tw16179304178679525714 : Unit := ()
def tw4411213484238963754 : Unit := ()
def tw13155263802668416164 : Unit := ()
def tw4264534416172855086 : Unit := ()
def tw13634022557730780211 : Unit := ()
def tw6898711289846295074 : Unit := ()
def tw6863783771897338467 : Unit := ()
def tw9475529528677185870 : Unit := ()
def tw16631114090044930046 : Unit := ()
def tw15920658086918423491 : Unit := ()
def tw4469290838568526260 : Unit := ()
def tw15606114683545156268 : Unit := ()
def tw7393313046788145797 : Unit := ()
def tw8969870456962724350 : Unit := ()
def tw13073369703448172853 : Unit := ()
def tw10507462994621598852 : Unit := ()
def tw5359926955047854192 : Unit := ()
def tw5990783273760725528 : Unit := ()
def tw7294536026769821127 : Unit := ()
end PySem.W.Fast
open PySem PySem.W PyProof.Rows
set_option maxHeartbeats 0 in
theorem PySem.Challenge.cw_landregister_s01_answers_holds : PySem.Challenge.rw_landregister_s01_answers.Holds := by
  w_on; k_headS; (case hw => exact ⟨[.list [.int 0, .int 1, .int 1, .int 0]], by decide +kernel, by decide +kernel⟩)
  k_fillS
  refine L2.ZgM (r := PySem.Challenge.rw_landregister_s01_answers) (k := 10) (CX := L2.CX0) (ps := ["calls"]) (sp := Lr.yfM) (by decide +kernel) rfl rfl ⟨rfl, by decide, by decide⟩ (fun w h Y => PySem.W.kIn_of Y) ?F ?S (fun _ _ _ _ z => z)
  case F =>
    intro w mg fa h Y KX G hmg
    obtain ⟨A, T, e1, hb⟩ : ∃ A : Lr.Adr, Lr.Txt _ mg A ∧ A.zax = fa ∧ ∀ (s : Shared) (us : List Value), us.length = (["calls"] : List Str).length → BindsTo s A.ybr ⟨us, []⟩ ((["calls"] : List Str).zip us) := by
      have hfa := hmg
      refine' (fun z => Exists.elim z fun A q => ⟨A, q.1, ?E, q.2.2⟩) (Lr.yhE KX G ?YfS ?Zdt ?JcK ?jfS ?zeb ?Zfc ?yfc ?ydt ?Yfc ?jfc ?JfS ?YeF ?zgr ?zfT ?Zgr ?ZfT ?je0 ?Je0 ?ze1 ?Jfc ?Yef ?jef ?Jef ?zcL ?ZbH ?ybH ?YbH ?Zeb ?zcZ ?ZcZ ?ycZ ?ZcL ?jbH ?JbH ?zbI ?yfT ?Ze1 ?ye1 ?Ye1 ?jeF ?Ydt ?jdt ?Jdt ?je1 ?Je1 ?Zcu ?ycu ?zO ?Ydm ?YaK ?ybd ?Ybd ?J8 ?zbh ?Jt ?J1 ?Z2 ?Zk ?jcq ?YaE ?jaE ?JaE ?jZ ?yeb ?zN ?ZbI ?ybI ?jA ?Jcq ?ZJ ?zaF ?ZaF ?yx ?zez ?Zc7 ?jbY ?JbY ?Zbo ?jdm ?Jdm ?jbd ?Jbd ?jH ?Zce ?Za7 ?Jaz ?zaA ?Yad ?YbI ?jz ?Zak ?yak ?yo ?ycL ?Jbs ?JaO ?zaP ?yF ?jbI ?yI ?Yak ?jak ?Yu ?JbI ?ZaP ?Jak ?zal ?YW ?ze2 ?Ycu ?jcu ?Jcu ?yaz ?ZbU ?Z4 ?jav ?Jav ?YD ?zdn ?zbe ?Zbe ?ybe ?zar ?zcr ?Zai ?yaF ?YaF ?yJ ?Zcr ?jaF ?JaF ?zaG ?JZ ?yaP ?YaP ?Zal ?yal ?jW ?YbW ?jbW ?Ybe ?jbe ?jaK ?yc7 ?Yc7 ?zbZ ?ZbZ ?ybZ ?zbJ ?ZbJ ?jaZ ?JaZ ?ZaA ?YcL ?jcL ?ybJ ?YbJ ?ya7 ?JcL ?zcM ?jbJ ?JbJ ?Ya7 ?zbK ?ZbK ?za0 ?Za0 ?yaA ?jc7 ?Jc7 ?YbZ ?jbZ ?JbZ ?yat ?Yat ?JW ?zX ?YF ?jbi ?Jbi ?ZaG ?yaG ?yai ?ja7 ?Ja7 ?YaA ?jaA ?jad ?za8 ?Za8 ?JaA ?zaB ?Jad ?ZcM ?ycM ?ybK ?YbK ?ya8 ?zc8 ?Zc8 ?zb0 ?Zb0 ?yb0 ?jbK ?JbK ?ya0 ?Ya0 ?ZaB ?jat ?Jat ?ZX ?yX ?jF ?zbj ?Zbj ?YaG ?jaG ?Yai ?Ya8 ?ja8 ?yaB ?YaB ?zae ?YcM ?jcM ?zbL ?ZbL ?Ja8 ?zdu ?Zdu ?zcv ?Zcv ?ycv ?jaw ?Jaw ?J2 ?Z3 ?zJ ?zbt ?Zbt ?jaP ?JaP ?zau ?ybj ?Ybj ?JaG ?zaH ?jai ?yc8 ?Yc8 ?Yb0 ?jb0 ?ybo ?JcM ?zcN ?ybL ?YbL ?jbL ?JbW ?zbX ?Jbe ?zbf ?JaK ?zch ?Zch ?Jbp ?zbq ?zaT ?Yeb ?jeb ?YcZ ?jcZ ?JcZ ?yaD ?YaD ?jab ?Jab ?yN ?JbL ?zbM ?ja0 ?Ja0 ?jaB ?ybt ?Ybt ?zaQ ?ZaQ ?Zau ?ydu ?Ydu ?Ycv ?jcv ?Jcv ?jbt ?Jbt ?yaQ ?YaQ ?yau ?ZbX ?ybX ?Zbf ?ybf ?zaL ?jaV ?JaV ?zaw ?Zaw ?Y4 ?jc8 ?Jc8 ?Jb0 ?zb1 ?Ybo ?jdu ?Jdu ?zcw ?Zcw ?ZbM ?Jeb ?zec ?zc0 ?Zc0 ?yc0 ?zdv ?Zdv ?ycw ?Ycw ?ybM ?Zec ?yec ?Yc0 ?jc0 ?yce ?ZcN ?ycN ?YbM ?jbM ?za9 ?ych ?Ych ?Zbq ?ybq ?ZaT ?jch ?Jch ?Ybq ?jbq ?yaT ?zci ?Zci ?Jbq ?zbr ?YaT ?Za9 ?ya9 ?JaB ?zaC ?Zae ?ydv ?jcw ?Jcw ?zcx ?Ydv ?Zcx ?ycx ?Ycx ?YcN ?JbM ?zbN ?ZbN ?Yec ?Jc0 ?zc1 ?Zc1 ?jec ?yc1 ?Yc1 ?jc1 ?Jec ?Jc1 ?zc2 ?Zc2 ?zc9 ?Zb1 ?yb1 ?Yb1 ?zed ?yc2 ?Yc2 ?jc2 ?zfd ?zeg ?Zeg ?yeg ?Zc9 ?jb1 ?Jb1 ?zb2 ?YfT ?Ze2 ?ye2 ?Ye2 ?JeF ?jdv ?Jdv ?zdw ?jbj ?ZaH ?yaH ?YaH ?ZgS ?ygr ?Ygr ?jgr ?Jc2 ?zc3 ?Zc3 ?yc3 ?Ybu ?Zed ?yci ?jaD ?Jbj ?jaQ ?zbk ?zaW ?jah ?ybN ?Y5 ?zW ?J5 ?Jag ?yar ?Yeg ?jeg ?Jeg ?zeh ?jcy ?Zfd ?JaQ ?Ya9 ?ja9 ?YbN ?Zbk ?Yau ?Yci ?Y0 ?Yar ?jar ?zah ?jaC ?ZaN ?Zeh ?yeh ?Yeh ?jeh ?Jcy ?yfd ?yc9 ?zaR ?jbN ?Ja9 ?zba ?JbN ?ybk ?jau ?jci ?Jar ?zas ?Zah ?JaC ?yaN ?jcx ?Jcx ?zcy ?Zcy ?zbc ?Zdw ?YbX ?Zba ?yba ?ZaR ?yae ?ZaL ?zbu ?yaL ?jO ?Z6 ?yah ?Jeh ?zei ?Zei ?yei ?zcz ?Yfd ?zbO ?Jci ?ZF ?Zas ?YaN ?Yei ?jei ?Jei ?zej ?Zcz ?jfd ?zcj ?Yba ?JG ?ZP ?jaN ?je2 ?Je2 ?ze3 ?Ze3 ?Zde ?jfT ?jbX ?jcN ?Ybk ?zao ?yab ?Za3 ?ydw ?Ydw ?jdw ?Jdw ?ybV ?zeG ?Zbu ?jba ?Yal ?ZaW ?yaW ?j0 ?yas ?zaD ?Zfz ?yfz ?Yfz ?jfz ?Yee ?Jgr ?Zcj ?Yc9 ?ybu ?zdx ?jT ?Jbr ?JfT ?zfU ?ZfU ?yfU ?jde ?YfU ?Yw ?JT ?JaN ?YH ?ZW ?ZaD ?zgs ?Zgs ?ygs ?Ygs ?jee ?jgs ?zad ?Zao ?Zad ?jc9 ?Jc9 ?zda ?Zda ?yda ?Yda ?jbk ?Jbk ?zbl ?ZbO ?ybO ?YbO ?JcN ?ycj ?jda ?yed ?Ycj ?Zdx ?ydx ?Ydx ?Jgs ?zcO ?Jfd ?Yed ?zfe ?Zfe ?yfe ?jdx ?Yfe ?jfU ?ZeG ?zgt ?JfU ?yeG ?Zgt ?ygt ?jfe ?Ygt ?YeG ?jeG ?ygS ?Jdx ?Jda ?YgS ?jgt ?jgS ?JgS ?jed ?Jed ?Jfe ?zff ?Zff ?yff ?Yff ?jff ?zdy ?Zdy ?Jff ?zfg ?zfV ?ZfV ?JeG ?zeH ?Jgt ?zgu ?ycz ?Y6 ?Yao ?jao ?Jao ?jX ?zap ?Zax ?yaf ?YaI ?Ycz ?J6 ?Zap ?yap ?Yap ?JX ?jap ?yax ?Yaf ?jaI ?ybc ?jJ ?zY ?jY ?zZ ?JH ?ZZ ?Z7 ?jP ?jaf ?Zbv ?JP ?Y7 ?j7 ?J7 ?zK ?Z8 ?Jaf ?yZ ?Jap ?jcz ?Y8 ?zaq ?Zaq ?yaq ?YZ ?Yaq ?Yax ?zag ?JaI ?Jee ?jaq ?zaJ ?ZaJ ?yaJ ?Zag ?YaJ ?ZaU ?jax ?Ybc ?hn0 ?htk0)
      (case E => exact Value.ref.inj (Option.some.inj (q.1.Yf7.symm.trans hfa)))
      (case YfS => k_is)
      (case Zdt => k_is)
      (case JcK => k_is)
      (case jfS => k_is)
      (case zeb => k_is)
      (case Zfc => k_is)
      (case yfc => k_is)
      (case ydt => k_is)
      (case Yfc => k_is)
      (case jfc => k_is)
      (case JfS => k_is)
      (case YeF => k_is)
      (case zgr => k_is)
      (case zfT => k_is)
      (case Zgr => k_is)
      (case ZfT => k_is)
      (case je0 => k_is)
      (case Je0 => k_is)
      (case ze1 => k_is)
      (case Jfc => k_is)
      (case Yef => k_is)
      (case jef => k_is)
      (case Jef => k_is)
      (case zcL => k_is)
      (case ZbH => k_is)
      (case ybH => k_is)
      (case YbH => k_is)
      (case Zeb => k_is)
      (case zcZ => k_is)
      (case ZcZ => k_is)
      (case ycZ => k_is)
      (case ZcL => k_is)
      (case jbH => k_is)
      (case JbH => k_is)
      (case zbI => k_is)
      (case yfT => k_is)
      (case Ze1 => k_is)
      (case ye1 => k_is)
      (case Ye1 => k_is)
      (case jeF => k_is)
      (case Ydt => k_is)
      (case jdt => k_is)
      (case Jdt => k_is)
      (case je1 => k_is)
      (case Je1 => k_is)
      (case Zcu => k_is)
      (case ycu => k_is)
      (case zO => k_is)
      (case Ydm => k_is)
      (case YaK => k_is)
      (case ybd => k_is)
      (case Ybd => k_is)
      (case J8 => k_is)
      (case zbh => k_is)
      (case Jt => k_is)
      (case J1 => k_is)
      (case Z2 => k_is)
      (case Zk => k_is)
      (case jcq => k_is)
      (case YaE => k_is)
      (case jaE => k_is)
      (case JaE => k_is)
      (case jZ => k_is)
      (case yeb => k_is)
      (case zN => k_is)
      (case ZbI => k_is)
      (case ybI => k_is)
      (case jA => k_is)
      (case Jcq => k_is)
      (case ZJ => k_is)
      (case zaF => k_is)
      (case ZaF => k_is)
      (case yx => k_is)
      (case zez => k_is)
      (case Zc7 => k_is)
      (case jbY => k_is)
      (case JbY => k_is)
      (case Zbo => k_is)
      (case jdm => k_is)
      (case Jdm => k_is)
      (case jbd => k_is)
      (case Jbd => k_is)
      (case jH => k_is)
      (case Zce => k_is)
      (case Za7 => k_is)
      (case Jaz => k_is)
      (case zaA => k_is)
      (case Yad => k_is)
      (case YbI => k_is)
      (case jz => k_is)
      (case Zak => k_is)
      (case yak => k_is)
      (case yo => k_is)
      (case ycL => k_is)
      (case Jbs => k_is)
      (case JaO => k_is)
      (case zaP => k_is)
      (case yF => k_is)
      (case jbI => k_is)
      (case yI => k_is)
      (case Yak => k_is)
      (case jak => k_is)
      (case Yu => k_is)
      (case JbI => k_is)
      (case ZaP => k_is)
      (case Jak => k_is)
      (case zal => k_is)
      (case YW => k_is)
      (case ze2 => k_is)
      (case Ycu => k_is)
      (case jcu => k_is)
      (case Jcu => k_is)
      (case yaz => k_is)
      (case ZbU => k_is)
      (case Z4 => k_is)
      (case jav => k_is)
      (case Jav => k_is)
      (case YD => k_is)
      (case zdn => k_is)
      (case zbe => k_is)
      (case Zbe => k_is)
      (case ybe => k_is)
      (case zar => k_is)
      (case zcr => k_is)
      (case Zai => k_is)
      (case yaF => k_is)
      (case YaF => k_is)
      (case yJ => k_is)
      (case Zcr => k_is)
      (case jaF => k_is)
      (case JaF => k_is)
      (case zaG => k_is)
      (case JZ => k_is)
      (case yaP => k_is)
      (case YaP => k_is)
      (case Zal => k_is)
      (case yal => k_is)
      (case jW => k_is)
      (case YbW => k_is)
      (case jbW => k_is)
      (case Ybe => k_is)
      (case jbe => k_is)
      (case jaK => k_is)
      (case yc7 => k_is)
      (case Yc7 => k_is)
      (case zbZ => k_is)
      (case ZbZ => k_is)
      (case ybZ => k_is)
      (case zbJ => k_is)
      (case ZbJ => k_is)
      (case jaZ => k_is)
      (case JaZ => k_is)
      (case ZaA => k_is)
      (case YcL => k_is)
      (case jcL => k_is)
      (case ybJ => k_is)
      (case YbJ => k_is)
      (case ya7 => k_is)
      (case JcL => k_is)
      (case zcM => k_is)
      (case jbJ => k_is)
      (case JbJ => k_is)
      (case Ya7 => k_is)
      (case zbK => k_is)
      (case ZbK => k_is)
      (case za0 => k_is)
      (case Za0 => k_is)
      (case yaA => k_is)
      (case jc7 => k_is)
      (case Jc7 => k_is)
      (case YbZ => k_is)
      (case jbZ => k_is)
      (case JbZ => k_is)
      (case yat => k_is)
      (case Yat => k_is)
      (case JW => k_is)
      (case zX => k_is)
      (case YF => k_is)
      (case jbi => k_is)
      (case Jbi => k_is)
      (case ZaG => k_is)
      (case yaG => k_is)
      (case yai => k_is)
      (case ja7 => k_is)
      (case Ja7 => k_is)
      (case YaA => k_is)
      (case jaA => k_is)
      (case jad => k_is)
      (case za8 => k_is)
      (case Za8 => k_is)
      (case JaA => k_is)
      (case zaB => k_is)
      (case Jad => k_is)
      (case ZcM => k_is)
      (case ycM => k_is)
      (case ybK => k_is)
      (case YbK => k_is)
      (case ya8 => k_is)
      (case zc8 => k_is)
      (case Zc8 => k_is)
      (case zb0 => k_is)
      (case Zb0 => k_is)
      (case yb0 => k_is)
      (case jbK => k_is)
      (case JbK => k_is)
      (case ya0 => k_is)
      (case Ya0 => k_is)
      (case ZaB => k_is)
      (case jat => k_is)
      (case Jat => k_is)
      (case ZX => k_is)
      (case yX => k_is)
      (case jF => k_is)
      (case zbj => k_is)
      (case Zbj => k_is)
      (case YaG => k_is)
      (case jaG => k_is)
      (case Yai => k_is)
      (case Ya8 => k_is)
      (case ja8 => k_is)
      (case yaB => k_is)
      (case YaB => k_is)
      (case zae => k_is)
      (case YcM => k_is)
      (case jcM => k_is)
      (case zbL => k_is)
      (case ZbL => k_is)
      (case Ja8 => k_is)
      (case zdu => k_is)
      (case Zdu => k_is)
      (case zcv => k_is)
      (case Zcv => k_is)
      (case ycv => k_is)
      (case jaw => k_is)
      (case Jaw => k_is)
      (case J2 => k_is)
      (case Z3 => k_is)
      (case zJ => k_is)
      (case zbt => k_is)
      (case Zbt => k_is)
      (case jaP => k_is)
      (case JaP => k_is)
      (case zau => k_is)
      (case ybj => k_is)
      (case Ybj => k_is)
      (case JaG => k_is)
      (case zaH => k_is)
      (case jai => k_is)
      (case yc8 => k_is)
      (case Yc8 => k_is)
      (case Yb0 => k_is)
      (case jb0 => k_is)
      (case ybo => k_is)
      (case JcM => k_is)
      (case zcN => k_is)
      (case ybL => k_is)
      (case YbL => k_is)
      (case jbL => k_is)
      (case JbW => k_is)
      (case zbX => k_is)
      (case Jbe => k_is)
      (case zbf => k_is)
      (case JaK => k_is)
      (case zch => k_is)
      (case Zch => k_is)
      (case Jbp => k_is)
      (case zbq => k_is)
      (case zaT => k_is)
      (case Yeb => k_is)
      (case jeb => k_is)
      (case YcZ => k_is)
      (case jcZ => k_is)
      (case JcZ => k_is)
      (case yaD => k_is)
      (case YaD => k_is)
      (case jab => k_is)
      (case Jab => k_is)
      (case yN => k_is)
      (case JbL => k_is)
      (case zbM => k_is)
      (case ja0 => k_is)
      (case Ja0 => k_is)
      (case jaB => k_is)
      (case ybt => k_is)
      (case Ybt => k_is)
      (case zaQ => k_is)
      (case ZaQ => k_is)
      (case Zau => k_is)
      (case ydu => k_is)
      (case Ydu => k_is)
      (case Ycv => k_is)
      (case jcv => k_is)
      (case Jcv => k_is)
      (case jbt => k_is)
      (case Jbt => k_is)
      (case yaQ => k_is)
      (case YaQ => k_is)
      (case yau => k_is)
      (case ZbX => k_is)
      (case ybX => k_is)
      (case Zbf => k_is)
      (case ybf => k_is)
      (case zaL => k_is)
      (case jaV => k_is)
      (case JaV => k_is)
      (case zaw => k_is)
      (case Zaw => k_is)
      (case Y4 => k_is)
      (case jc8 => k_is)
      (case Jc8 => k_is)
      (case Jb0 => k_is)
      (case zb1 => k_is)
      (case Ybo => k_is)
      (case jdu => k_is)
      (case Jdu => k_is)
      (case zcw => k_is)
      (case Zcw => k_is)
      (case ZbM => k_is)
      (case Jeb => k_is)
      (case zec => k_is)
      (case zc0 => k_is)
      (case Zc0 => k_is)
      (case yc0 => k_is)
      (case zdv => k_is)
      (case Zdv => k_is)
      (case ycw => k_is)
      (case Ycw => k_is)
      (case ybM => k_is)
      (case Zec => k_is)
      (case yec => k_is)
      (case Yc0 => k_is)
      (case jc0 => k_is)
      (case yce => k_is)
      (case ZcN => k_is)
      (case ycN => k_is)
      (case YbM => k_is)
      (case jbM => k_is)
      (case za9 => k_is)
      (case ych => k_is)
      (case Ych => k_is)
      (case Zbq => k_is)
      (case ybq => k_is)
      (case ZaT => k_is)
      (case jch => k_is)
      (case Jch => k_is)
      (case Ybq => k_is)
      (case jbq => k_is)
      (case yaT => k_is)
      (case zci => k_is)
      (case Zci => k_is)
      (case Jbq => k_is)
      (case zbr => k_is)
      (case YaT => k_is)
      (case Za9 => k_is)
      (case ya9 => k_is)
      (case JaB => k_is)
      (case zaC => k_is)
      (case Zae => k_is)
      (case ydv => k_is)
      (case jcw => k_is)
      (case Jcw => k_is)
      (case zcx => k_is)
      (case Ydv => k_is)
      (case Zcx => k_is)
      (case ycx => k_is)
      (case Ycx => k_is)
      (case YcN => k_is)
      (case JbM => k_is)
      (case zbN => k_is)
      (case ZbN => k_is)
      (case Yec => k_is)
      (case Jc0 => k_is)
      (case zc1 => k_is)
      (case Zc1 => k_is)
      (case jec => k_is)
      (case yc1 => k_is)
      (case Yc1 => k_is)
      (case jc1 => k_is)
      (case Jec => k_is)
      (case Jc1 => k_is)
      (case zc2 => k_is)
      (case Zc2 => k_is)
      (case zc9 => k_is)
      (case Zb1 => k_is)
      (case yb1 => k_is)
      (case Yb1 => k_is)
      (case zed => k_is)
      (case yc2 => k_is)
      (case Yc2 => k_is)
      (case jc2 => k_is)
      (case zfd => k_is)
      (case zeg => k_is)
      (case Zeg => k_is)
      (case yeg => k_is)
      (case Zc9 => k_is)
      (case jb1 => k_is)
      (case Jb1 => k_is)
      (case zb2 => k_is)
      (case YfT => k_is)
      (case Ze2 => k_is)
      (case ye2 => k_is)
      (case Ye2 => k_is)
      (case JeF => k_is)
      (case jdv => k_is)
      (case Jdv => k_is)
      (case zdw => k_is)
      (case jbj => k_is)
      (case ZaH => k_is)
      (case yaH => k_is)
      (case YaH => k_is)
      (case ZgS => k_is)
      (case ygr => k_is)
      (case Ygr => k_is)
      (case jgr => k_is)
      (case Jc2 => k_is)
      (case zc3 => k_is)
      (case Zc3 => k_is)
      (case yc3 => k_is)
      (case Ybu => k_is)
      (case Zed => k_is)
      (case yci => k_is)
      (case jaD => k_is)
      (case Jbj => k_is)
      (case jaQ => k_is)
      (case zbk => k_is)
      (case zaW => k_is)
      (case jah => k_is)
      (case ybN => k_is)
      (case Y5 => k_is)
      (case zW => k_is)
      (case J5 => k_is)
      (case Jag => k_is)
      (case yar => k_is)
      (case Yeg => k_is)
      (case jeg => k_is)
      (case Jeg => k_is)
      (case zeh => k_is)
      (case jcy => k_is)
      (case Zfd => k_is)
      (case JaQ => k_is)
      (case Ya9 => k_is)
      (case ja9 => k_is)
      (case YbN => k_is)
      (case Zbk => k_is)
      (case Yau => k_is)
      (case Yci => k_is)
      (case Y0 => k_is)
      (case Yar => k_is)
      (case jar => k_is)
      (case zah => k_is)
      (case jaC => k_is)
      (case ZaN => k_is)
      (case Zeh => k_is)
      (case yeh => k_is)
      (case Yeh => k_is)
      (case jeh => k_is)
      (case Jcy => k_is)
      (case yfd => k_is)
      (case yc9 => k_is)
      (case zaR => k_is)
      (case jbN => k_is)
      (case Ja9 => k_is)
      (case zba => k_is)
      (case JbN => k_is)
      (case ybk => k_is)
      (case jau => k_is)
      (case jci => k_is)
      (case Jar => k_is)
      (case zas => k_is)
      (case Zah => k_is)
      (case JaC => k_is)
      (case yaN => k_is)
      (case jcx => k_is)
      (case Jcx => k_is)
      (case zcy => k_is)
      (case Zcy => k_is)
      (case zbc => k_is)
      (case Zdw => k_is)
      (case YbX => k_is)
      (case Zba => k_is)
      (case yba => k_is)
      (case ZaR => k_is)
      (case yae => k_is)
      (case ZaL => k_is)
      (case zbu => k_is)
      (case yaL => k_is)
      (case jO => k_is)
      (case Z6 => k_is)
      (case yah => k_is)
      (case Jeh => k_is)
      (case zei => k_is)
      (case Zei => k_is)
      (case yei => k_is)
      (case zcz => k_is)
      (case Yfd => k_is)
      (case zbO => k_is)
      (case Jci => k_is)
      (case ZF => k_is)
      (case Zas => k_is)
      (case YaN => k_is)
      (case Yei => k_is)
      (case jei => k_is)
      (case Jei => k_is)
      (case zej => k_is)
      (case Zcz => k_is)
      (case jfd => k_is)
      (case zcj => k_is)
      (case Yba => k_is)
      (case JG => k_is)
      (case ZP => k_is)
      (case jaN => k_is)
      (case je2 => k_is)
      (case Je2 => k_is)
      (case ze3 => k_is)
      (case Ze3 => k_is)
      (case Zde => k_is)
      (case jfT => k_is)
      (case jbX => k_is)
      (case jcN => k_is)
      (case Ybk => k_is)
      (case zao => k_is)
      (case yab => k_is)
      (case Za3 => k_is)
      (case ydw => k_is)
      (case Ydw => k_is)
      (case jdw => k_is)
      (case Jdw => k_is)
      (case ybV => k_is)
      (case zeG => k_is)
      (case Zbu => k_is)
      (case jba => k_is)
      (case Yal => k_is)
      (case ZaW => k_is)
      (case yaW => k_is)
      (case j0 => k_is)
      (case yas => k_is)
      (case zaD => k_is)
      (case Zfz => k_is)
      (case yfz => k_is)
      (case Yfz => k_is)
      (case jfz => k_is)
      (case Yee => k_is)
      (case Jgr => k_is)
      (case Zcj => k_is)
      (case Yc9 => k_is)
      (case ybu => k_is)
      (case zdx => k_is)
      (case jT => k_is)
      (case Jbr => k_is)
      (case JfT => k_is)
      (case zfU => k_is)
      (case ZfU => k_is)
      (case yfU => k_is)
      (case jde => k_is)
      (case YfU => k_is)
      (case Yw => k_is)
      (case JT => k_is)
      (case JaN => k_is)
      (case YH => k_is)
      (case ZW => k_is)
      (case ZaD => k_is)
      (case zgs => k_is)
      (case Zgs => k_is)
      (case ygs => k_is)
      (case Ygs => k_is)
      (case jee => k_is)
      (case jgs => k_is)
      (case zad => k_is)
      (case Zao => k_is)
      (case Zad => k_is)
      (case jc9 => k_is)
      (case Jc9 => k_is)
      (case zda => k_is)
      (case Zda => k_is)
      (case yda => k_is)
      (case Yda => k_is)
      (case jbk => k_is)
      (case Jbk => k_is)
      (case zbl => k_is)
      (case ZbO => k_is)
      (case ybO => k_is)
      (case YbO => k_is)
      (case JcN => k_is)
      (case ycj => k_is)
      (case jda => k_is)
      (case yed => k_is)
      (case Ycj => k_is)
      (case Zdx => k_is)
      (case ydx => k_is)
      (case Ydx => k_is)
      (case Jgs => k_is)
      (case zcO => k_is)
      (case Jfd => k_is)
      (case Yed => k_is)
      (case zfe => k_is)
      (case Zfe => k_is)
      (case yfe => k_is)
      (case jdx => k_is)
      (case Yfe => k_is)
      (case jfU => k_is)
      (case ZeG => k_is)
      (case zgt => k_is)
      (case JfU => k_is)
      (case yeG => k_is)
      (case Zgt => k_is)
      (case ygt => k_is)
      (case jfe => k_is)
      (case Ygt => k_is)
      (case YeG => k_is)
      (case jeG => k_is)
      (case ygS => k_is)
      (case Jdx => k_is)
      (case Jda => k_is)
      (case YgS => k_is)
      (case jgt => k_is)
      (case jgS => k_is)
      (case JgS => k_is)
      (case jed => k_is)
      (case Jed => k_is)
      (case Jfe => k_is)
      (case zff => k_is)
      (case Zff => k_is)
      (case yff => k_is)
      (case Yff => k_is)
      (case jff => k_is)
      (case zdy => k_is)
      (case Zdy => k_is)
      (case Jff => k_is)
      (case zfg => k_is)
      (case zfV => k_is)
      (case ZfV => k_is)
      (case JeG => k_is)
      (case zeH => k_is)
      (case Jgt => k_is)
      (case zgu => k_is)
      (case ycz => kit_is)
      (case Y6 => kit_is)
      (case Yao => kit_is)
      (case jao => kit_is)
      (case Jao => kit_is)
      (case jX => kit_is)
      (case zap => kit_is)
      (case Zax => kit_is)
      (case yaf => kit_is)
      (case YaI => kit_is)
      (case Ycz => kit_is)
      (case J6 => kit_is)
      (case Zap => kit_is)
      (case yap => kit_is)
      (case Yap => kit_is)
      (case JX => kit_is)
      (case jap => kit_is)
      (case yax => kit_is)
      (case Yaf => kit_is)
      (case jaI => kit_is)
      (case ybc => kit_is)
      (case jJ => kit_is)
      (case zY => kit_is)
      (case jY => kit_is)
      (case zZ => kit_is)
      (case JH => kit_is)
      (case ZZ => kit_is)
      (case Z7 => kit_is)
      (case jP => kit_is)
      (case jaf => kit_is)
      (case Zbv => kit_is)
      (case JP => kit_is)
      (case Y7 => kit_is)
      (case j7 => kit_is)
      (case J7 => kit_is)
      (case zK => kit_is)
      (case Z8 => kit_is)
      (case Jaf => kit_is)
      (case yZ => kit_is)
      (case Jap => kit_is)
      (case jcz => kit_is)
      (case Y8 => kit_is)
      (case zaq => kit_is)
      (case Zaq => kit_is)
      (case yaq => kit_is)
      (case YZ => kit_is)
      (case Yaq => kit_is)
      (case Yax => kit_is)
      (case zag => kit_is)
      (case JaI => kit_is)
      (case Jee => kit_is)
      (case jaq => kit_is)
      (case zaJ => kit_is)
      (case ZaJ => kit_is)
      (case yaJ => kit_is)
      (case Zag => kit_is)
      (case YaJ => kit_is)
      (case ZaU => kit_is)
      (case jax => kit_is)
      (case Ybc => kit_is)
      (case hn0 => k_is)
      (case htk0 => k_is)
    subst e1
    exact ⟨A.ybr, hb, fun base _ _ => Lr.YgQ T⟩
  case S =>
    intro K H xs a hO hwi hask hx
    cases hx with
    | cons h1 h2 =>
      cases h2
      cases h1 with
      | lst hs ha =>
        have e := L2.YgV a.1 _ ha
        subst e
        have q : ((Codec.inLen 0 4000 a.1 && a.1.all (Codec.inInt 0 4294967295)) && true) = true := hwi
        rw [Bool.and_eq_true, Bool.and_eq_true] at q
        exact ⟨_, a.1, rfl, hs, (Codec.inNat_iff.mp q.1.1).2, fun x hx => Codec.inInt_iff.mp (List.all_eq_true.mp q.1.2 x hx), hask, fun H' p hp => .lst (L2.SqL.of hp) (L2.ygV _)⟩
