import PyProof.Rows.All
import Wide.All
import OpenK.AllK
import Wide.FinOn
import PyProof.EqAt
import PyProof.EqKinds
import PyProof.TupleCall
import KE.BitLaws
import Open.SpecLaws
import KE.OsHead
import KE.OsGo
import PyProof.TupleKey
import PyProof.DictRoadsH
import KE.KRevIter
import PyProof.CollectWalk
import PyProof.ListNew
import PyProof.Rows.Tup
import PyProof.FactsAll.tuple
import KE.KDictSum
import PyProof.Rows.SortShellAny
import PySz47
import PySem.Challenge.RW_ruletexts_s05_same
section
set_option Elab.async false
set_option linter.all false
set_option maxRecDepth 100000
namespace L2
open PySem PySem.Spec PyProof.Rows
abbrev Key := Sum Int Str
def keyIs : Key → Value → Bool
  | .inl k, v => Value.isInt k v
  | .inr x, v => Value.isStrOf x v
def keyH (w : World) : Key → Int
  | .inl k => hashInt k
  | .inr x => hashStr w x
theorem keyIs_shape : ∀ {k : Key} {v : Value}, keyIs k v = true → (∃ i t, k = Sum.inl i ∧ v = Value.int i t) ∨ (∃ x t, k = Sum.inr x ∧ v = Value.str x t)
  | .inl i, v, h => by
    obtain ⟨t, e⟩ := Value.isInt_shape (k := i) (v := v) h
    exact .inl ⟨i, t, rfl, e⟩
  | .inr x, v, h => by
    obtain ⟨t, e⟩ := Value.isStrOf_shape (x := x) (v := v) h
    exact .inr ⟨x, t, rfl, e⟩
theorem keyIs_int (i : Int) (t : Tok) : keyIs (.inl i) (.int i t) = true := by simp [keyIs, Value.isInt]
theorem keyIs_str (x : Str) (t : Tok) : keyIs (.inr x) (.str x t) = true := by simp [keyIs, Value.isStrOf]
theorem key_ll (a b : Int) : decide ((Sum.inl a : Key) = Sum.inl b) = (a == b) := by
  by_cases e : a = b
  · subst e; simp
  · have h : ¬ (Sum.inl a : Key) = Sum.inl b := fun q => e (Sum.inl.inj q)
    rw [decide_eq_false h]
    exact (beq_eq_false_iff_ne.mpr e).symm
theorem key_rr (a b : Str) : decide ((Sum.inr a : Key) = Sum.inr b) = decide (a = b) := by
  by_cases e : a = b
  · subst e; simp
  · have h : ¬ (Sum.inr a : Key) = Sum.inr b := fun q => e (Sum.inr.inj q)
    rw [decide_eq_false h, decide_eq_false e]
theorem key_lr (a : Int) (b : Str) : decide ((Sum.inl a : Key) = Sum.inr b) = false := decide_eq_false (fun q => nomatch q)
theorem key_rl (a : Str) (b : Int) : decide ((Sum.inr a : Key) = Sum.inl b) = false := decide_eq_false (fun q => nomatch q)
def mixKind (prog : Program) (w : World) : PySem.KeyKind prog w Key where
  is := keyIs
  hash := keyH w
  inj := fun v a b ha hb => by
    rcases keyIs_shape ha with ⟨i, t, rfl, rfl⟩ | ⟨x, t, rfl, rfl⟩
    · rcases keyIs_shape hb with ⟨j, u, rfl, e⟩ | ⟨y, u, rfl, e⟩
      · injection e with e1 _; rw [e1]
      · exact nomatch e
    · rcases keyIs_shape hb with ⟨j, u, rfl, e⟩ | ⟨y, u, rfl, e⟩
      · exact nomatch e
      · injection e with e1 _; rw [e1]
  byValue := fun k v h => by
    rcases keyIs_shape h with ⟨i, t, rfl, rfl⟩ | ⟨x, t, rfl, rfl⟩ <;> rfl
  pyHash := fun hv h => by
    rcases keyIs_shape hv with ⟨i, t, rfl, rfl⟩ | ⟨x, t, rfl, rfl⟩
    · exact wpAny_pyHash_int h
    · exact wpAny_pyHash_str h
  eqBool := fun hu hv h => by
    rcases keyIs_shape hu with ⟨i, t, rfl, rfl⟩ | ⟨x, t, rfl, rfl⟩
    · rcases keyIs_shape hv with ⟨j, u, rfl, rfl⟩ | ⟨y, u, rfl, rfl⟩
      · rw [key_ll] at h; exact wpAny_eqBool_int h
      · rw [key_lr] at h; exact SeqAt.EqAt.int_str i t y u _ _ _ _ h
    · rcases keyIs_shape hv with ⟨j, u, rfl, rfl⟩ | ⟨y, u, rfl, rfl⟩
      · rw [key_rl] at h; exact SeqAt.EqAt.str_int x t j u _ _ _ _ h
      · rw [key_rr] at h; exact wpAny_eqBool_str h
  «strs» := fun k x t v h => by
    rcases keyIs_shape h with ⟨i, u, rfl, e⟩ | ⟨y, u, rfl, e⟩
    · exact nomatch e
    · injection e with e1 _
      subst e1
      cases v <;> rfl
theorem mixKind_int (prog : Program) (w : World) (i : Int) (t : Tok) : (mixKind prog w).is (.inl i) (.int i t) = true := keyIs_int i t
theorem mixKind_str (prog : Program) (w : World) (x : Str) (t : Tok) : (mixKind prog w).is (.inr x) (.str x t) = true := keyIs_str x t
end L2
namespace L2
open PySem PySem.Spec PyProof.Rows
inductive V where
  | non | bl (b : Bool) | int (i : Int) | str (x : Str) | byt (b : Array UInt8) | flt (b : UInt64) | ref (a : Addr) | ty (n : String)
  deriving DecidableEq
def RelV : V → Value → Prop
  | .non, u => u = Value.none
  | .bl b, u => u = Value.bool b
  | .int i, u => ∃ t, u = Value.int i t
  | .str x, u => ∃ t, u = Value.str x t
  | .byt b, u => ∃ t, u = Value.bytes b t
  | .flt b, u => ∃ t, u = Value.float b t
  | .ref a, u => u = Value.ref a
  | .ty n, u => u = Value.type n
abbrev Vals : List V → List Value → Prop := Paired RelV
theorem Vals.length {xs : List V} {us : List Value} (r : Vals xs us) : xs.length = us.length := Paired.length r
theorem Vals.get : ∀ {xs : List V} {us : List Value} {i : Nat} {x : V}, Vals xs us → xs[i]? = some x → ∃ u, us[i]? = some u ∧ RelV x u
  | _, _, _, _, .nil, e => by simp at e
  | _, _, 0, _, .cons r _, e => by simp at e; subst e; exact ⟨_, rfl, r⟩
  | _, _, i + 1, x, .cons _ t, e => by
    obtain ⟨u, h1, h2⟩ := Vals.get (i := i) (x := x) t (by simpa using e)
    exact ⟨u, by simpa using h1, h2⟩
theorem Vals.set {x : V} {u : Value} (r : RelV x u) : ∀ {xs : List V} {us : List Value} (i : Nat), Vals xs us → Vals (xs.set i x) (us.set i u)
  | _, _, _, .nil => .nil
  | _, _, 0, .cons _ t => .cons r t
  | _, _, i + 1, .cons q t => .cons q (Vals.set r i t)
theorem Vals.append : ∀ {xs ys : List V} {us ws : List Value}, Vals xs us → Vals ys ws → Vals (xs ++ ys) (us ++ ws)
  | _, _, _, _, .nil, s => s
  | _, _, _, _, .cons r t, s => .cons r (Vals.append t s)
theorem Vals.take : ∀ {xs : List V} {us : List Value} (n : Nat), Vals xs us → Vals (xs.take n) (us.take n)
  | _, _, 0, _ => .nil
  | _, _, _ + 1, .nil => .nil
  | _, _, n + 1, .cons r t => .cons r (Vals.take n t)
theorem Vals.drop : ∀ {xs : List V} {us : List Value} (n : Nat), Vals xs us → Vals (xs.drop n) (us.drop n)
  | _, _, 0, r => r
  | _, _, _ + 1, .nil => .nil
  | _, _, n + 1, .cons _ t => Vals.drop n t
theorem Vals.none_of : ∀ {xs : List V} {us : List Value} {i : Nat}, Vals xs us → xs[i]? = none → us[i]? = none := fun {xs us i} r e => by
  have h1 := r.length
  have h2 : xs.length ≤ i := List.getElem?_eq_none_iff.mp e
  exact List.getElem?_eq_none_iff.mpr (by omega)
def RelO : Option V → Option Value → Prop
  | some v, some u => RelV v u
  | none, none => True
  | _, _ => False
def KV {κ : Type} : List (κ × V) → List (κ × Value) → Prop := Paired fun (p : κ × V) (q : κ × Value) => p.1 = q.1 ∧ RelV p.2 q.2
def kV : Key → V
  | .inl i => .int i
  | .inr x => .str x
inductive HO where
  | lst (xs : List V)
  | tup (xs : List V)
  | dK (kvs : List (Key × V)) | dT (kvs : List (List Key × V))
  | set (S : Int → Bool) (n : Nat)
  | ins (C dx : Addr) (fs : List (Str × V))
  | own (x : Addr)
  | xd (fs : List (Str × V))
  | met (f x : Addr)
  | rng (lo hi : Int)
  | frz (o : Obj) (u : HO)
  | tbl (ps : Array Value)
  | ext (φ : Heap → Prop)
abbrev Hp := Addr → Option HO
def upd (H : Hp) (a : Addr) (o : HO) : Hp := fun b => if b = a then some o else H b
theorem upd_same {H : Hp} {a : Addr} {o : HO} : upd H a o a = some o := by unfold upd; rw [if_pos rfl]
theorem upd_ne {H : Hp} {a b : Addr} {o : HO} (h : b ≠ a) : upd H a o b = H b := by unfold upd; rw [if_neg h]
theorem ne_of {H : Hp} {a b : Addr} {o u : HO} (h : H a = some o) (h' : H b = some u) (d : o ≠ u) : a ≠ b := by
  intro e; subst e; rw [h] at h'; exact d (Option.some.inj h')
theorem ne_of_none {H : Hp} {a b : Addr} {o : HO} (h : H a = some o) (h' : H b = none) : a ≠ b := by
  intro e; subst e; rw [h] at h'; cases h'
section
variable (P : Program) (w : World)
def ObjOk (H : Hp) (h : Heap) (a : Addr) : HO → Prop
  | .lst xs => xs.length ≤ sizeLine ∧ ∃ (its : List Value) (n : Nat), Vals xs its ∧ h.get? a = some { cls := .type "list", data := .seq its.toArray n }
  | .tup xs => xs.length ≤ sizeLine ∧ ∃ its : List Value, Vals xs its ∧ IsTup h a its.toArray
  | .dK kvs => kvs.length ≤ sizeLine ∧ (a == sysModules) = false ∧ ∃ vs, KV kvs vs ∧ h.DictOf (mixKind P w) a vs
  | .dT kvs => kvs.length ≤ sizeLine ∧ (a == sysModules) = false ∧ ∃ xs : List (List Key × Addr × Value),
      Paired (fun (p : List Key × V) (q : List Key × Addr × Value) => p.1 = q.1 ∧ H q.2.1 = some (.tup (p.1.map kV)) ∧ RelV p.2 q.2.2) kvs xs ∧
      ∃ o es ep, h.get? a = some o ∧ o.ExactDict ∧ o.data = .dict es ep ∧ es.toList = xs.map (entryOfKey (tupleKind (mixKind P w))) ∧ (xs.map (·.1)).Nodup
  | .set S n => h.SetOf (intKind P w) a S n
  | .ins C dx fs => H dx = some (.own a) ∧ fs.length ≤ 1000 ∧ dx ≠ a ∧ h.get? a = some (PySem.W.instObj C dx) ∧
      ∃ mA, h.Ns1 dx mA ∧ (∀ f, RelO (fs.lookup f) (mA f)) ∧ PySem.Within mA (fs.map (·.1))
  | .own _ => ∃ o, h.get? a = some o
  | .xd fs => ∃ mA, h.Ns1 a mA ∧ ∀ f, RelO (fs.lookup f) (mA f)
  | .rng lo hi => ∃ t u v, h.get? a = some { cls := .type "range", data := .fields #[.int lo t, .int hi u, .int 1 v] }
  | .frz o u => h.get? a = some o ∧ ObjOk H h a u
  | .tbl ps => h.get? a = some { cls := .none, data := .fields ps }
  | .met f x => h.get? a = some (PySem.W.methodObj (.ref f) (.ref x))
  | .ext φ => φ h ∧ (∃ o, h.get? a = some o) ∧ ∀ h1 h2 : Heap, φ h1 → (∀ o, h1.get? a = some o → h2.get? a = some o) → φ h2
def HOk (H : Hp) (h : Heap) : Prop := ∀ a o, H a = some o → ObjOk P w H h a o
end
section
variable {P : Program} {w : World} {H H' : Hp} {h h' : Heap} {a : Addr} {o : HO}
theorem ObjOk.lt (x : ObjOk P w H h a o) : a < h.objs.size := by
  cases o with
  | lst xs => obtain ⟨_, _, _, _, e⟩ := x; exact Heap.lt_size e
  | tup xs => obtain ⟨_, _, _, p⟩ := x; exact p.lt
  | dK kvs => obtain ⟨_, _, _, _, o, _, _, e, _⟩ := x; exact Heap.lt_size e
  | dT kvs => obtain ⟨_, _, _, _, o, _, _, e, _⟩ := x; exact Heap.lt_size e
  | set S n => obtain ⟨o, _, _, _, e, _⟩ := x; exact Heap.lt_size e
  | ins C dx fs => obtain ⟨_, _, _, e, _⟩ := x; exact Heap.lt_size e
  | own y => obtain ⟨_, e⟩ := x; exact Heap.lt_size e
  | xd fs => obtain ⟨_, ⟨_, _, _, e, _⟩, _⟩ := x; exact Heap.lt_size e
  | rng lo hi => obtain ⟨_, _, _, e⟩ := x; exact Heap.lt_size e
  | frz ob u => obtain ⟨e, _⟩ := x; exact Heap.lt_size e
  | tbl ps => exact Heap.lt_size (show h.get? a = some _ from x)
  | met f y => exact Heap.lt_size (show h.get? a = some _ from x)
  | ext φ => obtain ⟨_, ⟨_, e⟩, _⟩ := x; exact Heap.lt_size e
theorem Paired.mapP {α β : Type} {F G : α → β → Prop} : ∀ {l₁ : List α} {l₂ : List β}, Paired F l₁ l₂ → (∀ a b, F a b → G a b) → Paired G l₁ l₂
  | _, _, .nil, _ => .nil
  | _, _, .cons r t, f => .cons (f _ _ r) (Paired.mapP t f)
theorem ObjOk.stay (x : ObjOk P w H h a o) (k : ∀ b u, (b = a ∨ H b = some (.own a)) → h.get? b = some u → h'.get? b = some u)
    (ho : ∀ b, H b = some (.own a) → H' b = some (.own a)) (ht : ∀ b xs, H b = some (.tup xs) → H' b = some (.tup xs)) : ObjOk P w H' h' a o := by
  induction o with
  | lst xs => obtain ⟨z, its, n, r, e⟩ := x; exact ⟨z, its, n, r, k _ _ (.inl rfl) e⟩
  | tup xs => obtain ⟨z, its, r, ob, e, c⟩ := x; exact ⟨z, its, r, ob, k _ _ (.inl rfl) e, c⟩
  | dK kvs => obtain ⟨z, y, vs, r, ob, es, ep, e, c⟩ := x; exact ⟨z, y, vs, r, ob, es, ep, k _ _ (.inl rfl) e, c⟩
  | dT kvs =>
    obtain ⟨z, y, xs, r, ob, es, ep, e, c⟩ := x
    exact ⟨z, y, xs, Paired.mapP r fun p q z => ⟨z.1, ht _ _ z.2.1, z.2.2⟩, ob, es, ep, k _ _ (.inl rfl) e, c⟩
  | set S n => obtain ⟨ob, es, ep, t, e, c⟩ := x; exact ⟨ob, es, ep, t, k _ _ (.inl rfl) e, c⟩
  | ins C dx fs =>
    obtain ⟨d, z, ne, e, mA, ⟨od, es, ep, e2, c⟩, r⟩ := x
    exact ⟨ho _ d, z, ne, k _ _ (.inl rfl) e, mA, ⟨od, es, ep, k _ _ (.inr d) e2, c⟩, r⟩
  | own y => obtain ⟨ob, e⟩ := x; exact ⟨ob, k _ _ (.inl rfl) e⟩
  | xd fs => obtain ⟨mA, ⟨od, es, ep, e, c⟩, r⟩ := x; exact ⟨mA, ⟨od, es, ep, k _ _ (.inl rfl) e, c⟩, r⟩
  | rng lo hi => obtain ⟨t, u, v, e⟩ := x; exact ⟨t, u, v, k _ _ (.inl rfl) e⟩
  | frz ob u ih => obtain ⟨e, q⟩ := x; exact ⟨k _ _ (.inl rfl) e, ih q⟩
  | tbl ps =>
    have e : h.get? a = some { cls := .none, data := .fields ps } := x
    show h'.get? a = some { cls := .none, data := .fields ps }
    exact k a _ (.inl rfl) e
  | met f y =>
    have e : h.get? a = some (PySem.W.methodObj (.ref f) (.ref y)) := x
    show h'.get? a = some (PySem.W.methodObj (.ref f) (.ref y))
    exact k a _ (.inl rfl) e
  | ext φ => obtain ⟨p, ⟨o, e⟩, st⟩ := x; exact ⟨st _ _ p fun o q => k _ _ (.inl rfl) q, ⟨o, k _ _ (.inl rfl) e⟩, st⟩
theorem HOk.lt (x : HOk P w H h) (e : H a = some o) : a < h.objs.size := (x a o e).lt
theorem HOk.fresh (x : HOk P w H h) (e : h.objs.size ≤ a) : H a = none := by
  cases q : H a with
  | none => rfl
  | some u => exact absurd (Nat.lt_of_lt_of_le (x.lt q) e) (Nat.lt_irrefl _)
theorem HOk.kept (x : HOk P w H h) (k : ∀ b u, h.get? b = some u → h'.get? b = some u) : HOk P w H h' := fun a o e =>
  (x a o e).stay (fun b u _ q => k b u q) (fun _ q => q) fun _ _ q => q
theorem HOk.laid (x : HOk P w H h) (k : ∀ b u, h.get? b = some u → h'.get? b = some u) (hp : h.objs.size ≤ a) (new : ObjOk P w (upd H a o) h' a o) : HOk P w (upd H a o) h' := fun b u e => by
  have hn := x.fresh hp
  by_cases hb : b = a
  · subst hb; rw [upd_same] at e; cases e; exact new
  · rw [upd_ne hb] at e
    exact (x b u e).stay (fun c v _ q => k c v q) (fun c q => by rw [upd_ne (ne_of_none q hn)]; exact q) fun c xs q => by rw [upd_ne (ne_of_none q hn)]; exact q
end
def Rd (H : Hp) (a : Addr) (u : HO) : Prop := H a = some u ∨ ∃ o, H a = some (.frz o u)
theorem Rd.of {H : Hp} {a : Addr} {u : HO} (h : H a = some u) : Rd H a u := .inl h
theorem Rd.ok {P : Program} {w : World} {H : Hp} {h : Heap} {a : Addr} {u : HO} (r : Rd H a u) (x : HOk P w H h) : ObjOk P w H h a u := by
  rcases r with r | ⟨o, r⟩
  · exact x a u r
  · obtain ⟨_, q⟩ := x a _ r
    exact q
def Mut : Option HO → Prop
  | some (.lst _) => True
  | some (.dK _) => True
  | some (.dT _) => True
  | some (.set _ _) => True
  | some (.ins _ _ _) => True
  | some (.ext _) => True
  | _ => False
section
variable {P : Program} {w : World} {H : Hp} {h h' : Heap} {x e : Addr} {o' : HO}
theorem HOk.write (ok : HOk P w H h) (mu : Mut (H x)) (he : e = x ∨ H e = some (.own x)) (k : ∀ b u, b ≠ e → h.get? b = some u → h'.get? b = some u) (heo : ∃ u, h'.get? e = some u)
    (new : ObjOk P w (upd H x o') h' x o') : HOk P w (upd H x o') h' := fun b u q => by
  have nown : ∀ c y, H c = some (.own y) → c ≠ x := fun c y r z => by subst z; rw [r] at mu; exact mu
  have ntup : ∀ c xs, H c = some (.tup xs) → c ≠ x := fun c xs r z => by subst z; rw [r] at mu; exact mu
  by_cases hb : b = x
  · subst hb; rw [upd_same] at q; cases q; exact new
  · rw [upd_ne hb] at q
    by_cases hbe : b = e
    · have q' : H b = some (.own x) := by
        rcases he with z | z
        · exact absurd (hbe.trans z) hb
        · rw [hbe]; exact z
      rw [q] at q'; cases q'
      obtain ⟨v, hv⟩ := heo
      exact ⟨v, by rw [hbe]; exact hv⟩
    · refine (ok b u q).stay (fun c v hc r => k c v ?_ r) (fun c r => by rw [upd_ne (nown c b r)]; exact r) fun c xs r => by rw [upd_ne (ntup c xs r)]; exact r
      rcases hc with rfl | hc
      · exact hbe
      · rintro rfl
        rcases he with z | z
        · exact nown c b hc z
        · rw [hc] at z; cases z; exact hb rfl
end
structure Un (fs ex : List Addr) (H H' : Hp) (h h' : Heap) : Prop where
  keep : ∀ b o, h.get? b = some o → H b = none → b ∉ fs → b ∉ ex → h'.get? b = some o
  slot : ∀ b o, h.get? b = some o → H b = none → b ∈ fs → b ∉ ex → ∃ sl, h'.get? b = some { o with slots := sl }
  free : ∀ b o, h.get? b = some o → H b = none → b ∉ ex → H' b = none
  there : ∀ b o, h.get? b = some o → b ∉ ex → ∃ o', h'.get? b = some o'
  tups : ∀ b xs, H b = some (.tup xs) → H' b = some (.tup xs)
  frzs : ∀ b o u, H b = some (.frz o u) → H' b = some (.frz o u)
  tbls : ∀ b ps, H b = some (.tbl ps) → ∃ more, H' b = some (.tbl (ps ++ more))
section
variable {fs fs' ex ex' : List Addr} {H H1 H2 : Hp} {h h1 h2 h' : Heap} {a x e : Addr} {o : HO}
theorem Un.any (u : Un fs ex H H1 h h1) {b : Addr} {ob : Obj} (q : h.get? b = some ob) (n : H b = none) (hx : b ∉ ex) : ∃ sl, h1.get? b = some { ob with slots := sl } := by
  by_cases hb : b ∈ fs
  · exact u.slot b ob q n hb hx
  · exact ⟨ob.slots, u.keep b ob q n hb hx⟩
theorem Un.trans (a : Un fs ex H H1 h h1) (b : Un fs ex H1 H2 h1 h2) : Un fs ex H H2 h h2 where
  keep := fun c ob q n hc hx => b.keep c ob (a.keep c ob q n hc hx) (a.free c ob q n hx) hc hx
  slot := fun c ob q n hc hx => by
    obtain ⟨sl, e1⟩ := a.slot c ob q n hc hx
    obtain ⟨sl', e2⟩ := b.slot c _ e1 (a.free c ob q n hx) hc hx
    exact ⟨sl', e2⟩
  free := fun c ob q n hx => by
    obtain ⟨o', e1⟩ := a.there c ob q hx
    exact b.free c o' e1 (a.free c ob q n hx) hx
  there := fun c ob q hx => by
    obtain ⟨o', e1⟩ := a.there c ob q hx
    exact b.there c o' e1 hx
  tups := fun c xs q => b.tups c xs (a.tups c xs q)
  frzs := fun c ob xs q => b.frzs c ob xs (a.frzs c ob xs q)
  tbls := fun c ps q => by
    obtain ⟨m1, e1⟩ := a.tbls c ps q
    obtain ⟨m2, e2⟩ := b.tbls c _ e1
    exact ⟨m1 ++ m2, by rw [e2, Array.append_assoc]⟩
theorem Un.kept (k : ∀ b u, h.get? b = some u → h'.get? b = some u) : Un fs ex H H h h' :=
  ⟨fun b ob q _ _ _ => k b ob q, fun b ob q _ _ _ => ⟨ob.slots, k b ob q⟩, fun _ _ _ n _ => n, fun b ob q _ => ⟨ob, k b ob q⟩, fun _ _ q => q, fun _ _ _ q => q, fun _ ps q => ⟨#[], by rw [q]; simp⟩⟩
theorem Un.refl : Un fs ex H H h h := Un.kept fun _ _ q => q
theorem Un.laid (k : ∀ b u, h.get? b = some u → h'.get? b = some u) (hp : h.objs.size ≤ a) (hn : H a = none) : Un fs ex H (upd H a o) h h' where
  keep := fun b u q _ _ _ => k b u q
  slot := fun b u q _ _ _ => ⟨u.slots, k b u q⟩
  free := fun b u q n _ => by rw [upd_ne (Nat.ne_of_lt (Nat.lt_of_lt_of_le (Heap.lt_size q) hp))]; exact n
  there := fun b u q _ => ⟨u, k b u q⟩
  tups := fun b xs q => by rw [upd_ne (ne_of_none q hn)]; exact q
  frzs := fun b u xs q => by rw [upd_ne (ne_of_none q hn)]; exact q
  tbls := fun b ps q => ⟨#[], by rw [upd_ne (ne_of_none q hn), q]; simp⟩
theorem Un.write (mu : Mut (H x)) (he : e = x ∨ H e = some (.own x)) (k : ∀ b u, b ≠ e → h.get? b = some u → h'.get? b = some u) (heo : ∃ u, h'.get? e = some u) : Un fs ex H (upd H x o) h h' := by
  have hx : ∀ b, H b = none → b ≠ x := fun b n z => by subst z; rw [n] at mu; exact mu
  have hb : ∀ b, H b = none → b ≠ e := fun b n z => by
    subst z
    rcases he with r | r
    · exact hx b n r
    · rw [n] at r; cases r
  have hm : ∀ b u, H b = some u → ¬ Mut (some u) → b ≠ x := fun b u q nm z => by subst z; rw [q] at mu; exact nm mu
  refine ⟨fun b u q n _ _ => k b u (hb b n) q, fun b u q n _ _ => ⟨u.slots, k b u (hb b n) q⟩, fun b u q n _ => by rw [upd_ne (hx b n)]; exact n, fun b u q _ => ?_,
    fun b xs q => by rw [upd_ne (hm b _ q fun z => z)]; exact q, fun b u xs q => by rw [upd_ne (hm b _ q fun z => z)]; exact q, fun b ps q => ⟨#[], by rw [upd_ne (hm b _ q fun z => z), q]; simp⟩⟩
  by_cases hbe : b = e
  · subst hbe; exact heo
  · exact ⟨u, k b u hbe q⟩
theorem Un.mono (u : Un fs ex H H1 h h1) (hs : ∀ b ∈ fs, b ∈ fs') (hx : ∀ b ∈ ex, b ∈ ex') : Un fs' ex' H H1 h h1 :=
  ⟨fun b ob q n hb he => u.keep b ob q n (fun z => hb (hs b z)) fun z => he (hx b z), fun _ _ q n _ he => u.any q n fun z => he (hx _ z), fun b ob q n he => u.free b ob q n fun z => he (hx b z), fun b ob q he => u.there b ob q fun z => he (hx b z), u.tups, u.frzs, u.tbls⟩
end
def trk (h : Heap) (H : Hp) : List Addr := (List.range h.objs.size).filter fun a => (H a).isSome
def hidT (h : Heap) (H : Hp) : Heap := PySem.W.hideAll h (trk h H)
theorem hidT_size (h : Heap) (H : Hp) : (hidT h H).objs.size = h.objs.size := PySem.W.hideAll_size _ _
theorem hidT_get {h : Heap} {H : Hp} {b : Addr} {o : Obj} (e : h.get? b = some o) (n : H b = none) : (hidT h H).get? b = some o :=
  PySem.W.hideAll_get _ e fun hm => by
    have q : (H b).isSome = true := (List.mem_filter.mp hm).2
    rw [n] at q; simp at q
theorem of_hidT {h : Heap} {H : Hp} {b : Addr} {o : Obj} (e : (hidT h H).get? b = some o) : h.get? b = some o ∧ H b = none := by
  have e' : h.get? b = some o := PySem.W.of_hideAll (trk h H) e
  refine ⟨e', ?_⟩
  cases q : H b with
  | none => rfl
  | some x =>
    have hm : b ∈ trk h H := List.mem_filter.mpr ⟨List.mem_range.mpr (Heap.lt_size e'), by simp [q]⟩
    have z : (hidT h H).get? b = none := PySem.W.hideAll_none (trk h H) hm
    rw [z] at e; cases e
def allNews (g h : Heap) (L : Addr) : List (Addr × Obj) := (List.range h.objs.size).filterMap fun a => if a = L ∨ (g.get? a).isSome = true then none else (h.get? a).map fun o => (a, o)
def rest (g h : Heap) (L d : Addr) : List (Addr × Obj) := (allNews g h L).filter fun p => decide (p.1 ≠ d)
end L2
namespace L2
open PySem PySem.Spec PyProof.Rows
structure Mod (K : PySem.W.Frag) (mg : Str → Option Value) (base : Heap) : Prop where
  kin : K.In base
  glob : base.Ns mainGlobals mg
  blt : ∃ mb, base.Ns builtinsNs mb ∧ ∀ x : Str, x ≠ "__name__" → mb x = bootBuiltins x
  nolimit : base.NoLimit
structure Cx where
  prog : Program
  w : World
  K : PySem.W.Frag
  mg : Str → Option Value
  base : Heap
  A : Around
  N : List Str
  s_0 : Shared
  H_0 : Hp
  env : Env
  outer : List Env
  stack : List Env
  ex : List Addr
  fn : Str → Bool
  calm : Bool
  pn : List (Addr × Obj)
  xe : Value → Shared → Prop
def frs (l : List Env) : List Addr := l.filterMap (·.frame)
abbrev Cx.fs (X : Cx) : List Addr := frs X.outer
def Vis (sc : Scope) (x : Str) : Prop := sc.names.lookup x = some .local ∨ sc.names.lookup x = some .cell ∨ sc.names.lookup x = some .free
def Loc (sc : Scope) (x : Str) : Prop := sc.names.lookup x = some .local ∨ sc.names.lookup x = some .cell
def Look (env : Env) (h : Heap) (m : Str → Option Value) (x : Str) (u : Value) : Prop :=
  (env.kindOf x = some .local ∧ m x = some u) ∨ ((env.kindOf x = some .cell ∨ env.kindOf x = some .free) ∧ ∃ c, env.cells.lookup x = some c ∧ h.IsCell c (some u))
structure Cx.Ok (X : Cx) : Prop where
  mod : Mod X.K X.mg X.base
  kind : X.env.scope.kind = .function
  glob : X.env.globals = mainGlobals
  blt : X.env.builtins = builtinsNs
  above : X.s_0.heap.objs.size ≤ X.env.locals
  inj : ∀ x y c, X.env.cells.lookup x = some c → X.env.cells.lookup y = some c → x = y
  has : ∀ x, (X.env.kindOf x = some .cell ∨ X.env.kindOf x = some .free) → ∃ c, X.env.cells.lookup x = some c
  cab : ∀ x c, X.fn x = true → X.env.cells.lookup x = some c → X.s_0.heap.objs.size ≤ c
  hd : X.calm = true → X.A.handled = none
  frames : X.A.frames = some X.stack
  stk : X.stack = X.outer ∨ (X.stack = X.env :: X.outer ∧ X.env.frame = some X.env.locals)
  exf : ∀ b ∈ X.ex, b ≠ X.env.locals ∧ ∀ x c, X.env.cells.lookup x = some c → c ≠ b
  bs : ∀ b o, X.base.get? b = some o → X.s_0.heap.get? b = some o ∧ X.H_0 b = none
  bsz : X.base.objs.size ≤ X.s_0.heap.objs.size
  noex : ∀ b o, X.base.get? b = some o → b ∉ X.ex
  exfs : ∀ b ∈ X.ex, b ∉ X.fs
  funs : X.s_0.heap.FunFrames X.base X.outer
  frf : ∀ b ∈ X.fs, X.H_0 b = none
structure Inv (X : Cx) (pins : List (Addr × Obj)) (σ : List (Option V)) (H : Hp) (s : Shared) : Prop where
  ok : X.Ok
  os : s.os = X.s_0.os
  bare : AllBare s.gens
  base : Un X.fs X.ex X.H_0 H X.s_0.heap s.heap
  loc : ∃ m, s.heap.Ns X.env.locals m ∧ ∀ (i : Nat) (x : Str) (v : V), X.N[i]? = some x → σ[i]? = some (some v) → Vis X.env.scope x → ∃ u, RelV v u ∧ Look X.env s.heap m x u
  cell : ∀ x c, X.env.cells.lookup x = some c → ∃ v, s.heap.IsCell c v
  free : H X.env.locals = none
  freeC : ∀ x c, X.env.cells.lookup x = some c → H c = none
  pin : ∀ p ∈ X.pn ++ pins, s.heap.get? p.1 = some p.2 ∧ H p.1 = none ∧ p.1 ≠ X.env.locals ∧ p.1 ∉ X.fs ∧ ∀ v, p.2.data ≠ .cell v
  hok : HOk X.prog X.w H s.heap
  len : σ.length = X.N.length
section
variable {X : Cx} {pins : List (Addr × Obj)} {σ : List (Option V)} {H H' : Hp} {s : Shared} {h' : Heap}
theorem Cx.Ok.nofr (ok : X.Ok) {b : Addr} {o : Obj} (e : X.base.get? b = some o) : b ∉ X.fs := fun hb => by
  have := (ok.funs.mem hb).1
  rw [e] at this; cases this
theorem Inv.bs (I : Inv X pins σ H s) : ∀ b o, X.base.get? b = some o → s.heap.get? b = some o ∧ H b = none := fun b o e =>
  ⟨I.base.keep b o (I.ok.bs b o e).1 (I.ok.bs b o e).2 (I.ok.nofr e) (I.ok.noex b o e), I.base.free b o (I.ok.bs b o e).1 (I.ok.bs b o e).2 (I.ok.noex b o e)⟩
theorem Inv.bk (I : Inv X pins σ H s) : ∀ b o, X.base.get? b = some o → s.heap.get? b = some o := fun b o e => (I.bs b o e).1
theorem Inv.mod (I : Inv X pins σ H s) : Mod X.K X.mg X.base := I.ok.mod
theorem Inv.kIn (I : Inv X pins σ H s) : X.K.In s.heap := I.ok.mod.kin.keeps I.bk
theorem Inv.nolimit (I : Inv X pins σ H s) : s.heap.NoLimit := I.ok.mod.nolimit.keeps I.bk
theorem Inv.fr (I : Inv X pins σ H s) : ∃ m, Fr X.base X.env.locals s.heap m :=
  let ⟨m, hn, _⟩ := I.loc
  ⟨m, hn, I.bk, Nat.le_trans I.ok.bsz I.ok.above⟩
theorem Inv.lt (I : Inv X pins σ H s) : X.env.locals < s.heap.objs.size := let ⟨_, hn, _⟩ := I.loc; hn.lt
theorem Inv.sz (I : Inv X pins σ H s) : X.s_0.heap.objs.size ≤ s.heap.objs.size := Nat.le_trans I.ok.above (Nat.le_of_lt I.lt)
theorem Inv.nofs (I : Inv X pins σ H s) {a : Addr} (h : s.heap.objs.size ≤ a) : a ∉ X.fs := fun hb => by
  obtain ⟨_, o, ho, _⟩ := I.ok.funs.mem hb
  exact absurd (Nat.lt_of_lt_of_le (Heap.lt_size ho) (Nat.le_trans I.sz h)) (Nat.lt_irrefl _)
theorem Inv.cne (I : Inv X pins σ H s) : ∀ x c, X.env.cells.lookup x = some c → c ≠ X.env.locals := fun x c e z => by
  obtain ⟨v, o, ho, hd⟩ := I.cell x c e
  obtain ⟨m, ⟨o', es, ep, ho', hd', _⟩, _⟩ := I.loc
  rw [z, ho'] at ho; cases ho; rw [hd'] at hd; cases hd
theorem Inv.funs (I : Inv X pins σ H s) : s.heap.FunFrames X.base X.outer := by
  have all : ∀ (l : List Env), (∀ b ∈ frs l, b ∈ X.fs) → X.s_0.heap.FunFrames X.base l → s.heap.FunFrames X.base l := by
    intro l
    induction l with
    | nil => intro _ _; trivial
    | cons env r ih =>
      intro hs hl
      obtain ⟨hk, ⟨L, o, hf, hn, ho, hd⟩, hr⟩ := hl
      have hL : L ∈ X.fs := hs L (by unfold frs; rw [List.filterMap_cons, hf]; exact List.mem_cons_self)
      obtain ⟨sl, e⟩ := I.base.slot L o ho (I.ok.frf L hL) hL fun z => I.ok.exfs L z hL
      exact ⟨hk, ⟨L, _, hf, hn, e, hd⟩, ih (fun b hb => hs b (by unfold frs; rw [List.filterMap_cons, hf]; exact List.mem_cons_of_mem _ hb)) hr⟩
  exact all X.outer (fun _ hb => hb) I.ok.funs
theorem Inv.stack (I : Inv X pins σ H s) : s.heap.FunFrames X.base X.stack := by
  rcases I.ok.stk with e | ⟨e, hf⟩
  · rw [e]; exact I.funs
  · rw [e]
    obtain ⟨m, hn, _⟩ := I.loc
    refine .cons (by rw [I.ok.kind]; decide) hf hn ?_ I.funs
    exact Heap.get?_none_of_le (Nat.le_trans I.ok.bsz I.ok.above)
theorem Inv.stkSub (I : Inv X pins σ H s) : ∀ b ∈ frs X.stack, b ∈ X.env.locals :: X.fs := fun b hb => by
  rcases I.ok.stk with e | ⟨e, hf⟩
  · rw [e] at hb; exact List.mem_cons_of_mem _ hb
  · rw [e] at hb
    unfold frs at hb
    rw [List.filterMap_cons, hf] at hb
    exact hb
theorem Inv.stkFree (I : Inv X pins σ H s) : ∀ b ∈ frs X.stack, H b = none := fun b hb => by
  rcases List.mem_cons.mp (I.stkSub b hb) with e | hb
  · rw [e]; exact I.free
  · obtain ⟨_, o, ho, _⟩ := I.ok.funs.mem hb
    exact I.base.free b o ho (I.ok.frf b hb) fun z => I.ok.exfs b z hb
theorem Inv.step {g' : Array GenState} {t' : Nat} {d' : Drawn} {ch : List Addr} (I : Inv X pins σ H s)
    (hch : ∀ b ∈ ch, (b ∈ X.ex ∨ X.s_0.heap.objs.size ≤ b) ∧ b ≠ X.env.locals ∧ (∀ x c, X.env.cells.lookup x = some c → c ≠ b) ∧ ∀ p ∈ X.pn ++ pins, p.1 ≠ b)
    (keep : ∀ b o, b ≠ X.env.locals → b ∉ X.fs → b ∉ ch → s.heap.get? b = some o → H b = none → h'.get? b = some o)
    (slot : ∀ b o, b ≠ X.env.locals → b ∈ X.fs → b ∉ ch → s.heap.get? b = some o → H b = none → ∃ sl, h'.get? b = some { o with slots := sl }) (free : ∀ b o, b ∉ ch → s.heap.get? b = some o → H b = none → H' b = none)
    (there : ∀ b o, b ∉ ch → s.heap.get? b = some o → ∃ o', h'.get? b = some o')
    (tups : ∀ b xs, H b = some (.tup xs) → H' b = some (.tup xs)) (frzs : ∀ b o u, H b = some (.frz o u) → H' b = some (.frz o u)) (tbls : ∀ b ps, H b = some (.tbl ps) → ∃ more, H' b = some (.tbl (ps ++ more)))
    (ns : ∀ m, s.heap.Ns X.env.locals m → h'.Ns X.env.locals m) (hok : HOk X.prog X.w H' h') (hg : AllBare g') :
    Inv X pins σ H' { s with heap := h', gens := g', drawn := d', toks := t' } := by
  have neL : ∀ b o, X.s_0.heap.get? b = some o → b ≠ X.env.locals := fun b o e => Nat.ne_of_lt (Nat.lt_of_lt_of_le (Heap.lt_size e) I.ok.above)
  have neC : ∀ b o, X.s_0.heap.get? b = some o → b ∉ X.ex → b ∉ ch := fun b o e hx hb => by
    rcases (hch b hb).1 with z | z
    · exact hx z
    · exact absurd (Nat.lt_of_lt_of_le (Heap.lt_size e) z) (Nat.lt_irrefl _)
  have cellK : ∀ x c, X.env.cells.lookup x = some c → ∀ v, s.heap.IsCell c v → h'.IsCell c v := fun x c e v ⟨o, ho, hd⟩ => by
    have nch : c ∉ ch := fun z => (hch c z).2.2.1 x c e rfl
    by_cases hc : c ∈ X.fs
    · obtain ⟨sl, q⟩ := slot c o (I.cne x c e) hc nch ho (I.freeC x c e)
      exact ⟨_, q, hd⟩
    · exact ⟨o, keep c o (I.cne x c e) hc nch ho (I.freeC x c e), hd⟩
  refine ⟨I.ok, I.os, hg, ⟨fun b o e n hb hx => ?_, fun b o e n hb hx => ?_, fun b o e n hx => ?_, fun b o e hx => ?_, fun b xs e => tups b xs (I.base.tups b xs e), fun b o xs e => frzs b o xs (I.base.frzs b o xs e), fun b ps e => ?_⟩, ?_, fun x c e => ?_, ?_, fun x c e => ?_, fun p hp => ?_, hok, I.len⟩
  · exact keep b o (neL b o e) hb (neC b o e hx) (I.base.keep b o e n hb hx) (I.base.free b o e n hx)
  · obtain ⟨sl, e1⟩ := I.base.slot b o e n hb hx
    obtain ⟨sl', e2⟩ := slot b _ (neL b o e) hb (neC b o e hx) e1 (I.base.free b o e n hx)
    exact ⟨sl', e2⟩
  · obtain ⟨o', e1⟩ := I.base.there b o e hx
    exact free b o' (neC b o e hx) e1 (I.base.free b o e n hx)
  · obtain ⟨o', e1⟩ := I.base.there b o e hx
    exact there b o' (neC b o e hx) e1
  · obtain ⟨m1, e1⟩ := I.base.tbls b ps e
    obtain ⟨m2, e2⟩ := tbls b _ e1
    exact ⟨m1 ++ m2, by rw [e2, Array.append_assoc]⟩
  · obtain ⟨m, hn, hl⟩ := I.loc
    refine ⟨m, ns m hn, fun i x v e1 e2 e3 => ?_⟩
    obtain ⟨u, r, l⟩ := hl i x v e1 e2 e3
    refine ⟨u, r, ?_⟩
    rcases l with l | ⟨k, c, e, z⟩
    · exact .inl l
    · exact .inr ⟨k, c, e, cellK x c e _ z⟩
  · obtain ⟨v, z⟩ := I.cell x c e
    exact ⟨v, cellK x c e v z⟩
  · obtain ⟨m, ⟨o, _, _, ho, _⟩, _⟩ := I.loc
    exact free _ o (fun z => (hch _ z).2.1 rfl) ho I.free
  · obtain ⟨v, o, ho, hd⟩ := I.cell x c e
    exact free c o (fun z => (hch c z).2.2.1 x c e rfl) ho (I.freeC x c e)
  · obtain ⟨e, n, ne, nf, d⟩ := I.pin p hp
    have nch : p.1 ∉ ch := fun z => (hch p.1 z).2.2.2 p hp rfl
    exact ⟨keep p.1 p.2 ne nf nch e n, free p.1 p.2 nch e n, ne, nf, d⟩
theorem Inv.un {t' : Nat} (I : Inv X pins σ H s) (u : Un X.fs [] H H' s.heap h') (hok : HOk X.prog X.w H' h') : Inv X pins σ H' { s with heap := h', toks := t' } := by
  obtain ⟨m, ⟨o, es, ep, ho, r⟩, _⟩ := id I.loc
  obtain ⟨sl, hL⟩ := u.any ho I.free (by simp)
  exact I.step (g' := s.gens) (d' := s.drawn) (ch := []) (fun _ z => nomatch z) (fun b o _ hb _ e n => u.keep b o e n hb (by simp)) (fun b o _ hb _ e n => u.slot b o e n hb (by simp)) (fun b o _ e n => u.free b o e n (by simp)) (fun b o _ e => u.there b o e (by simp)) u.tups u.frzs u.tbls (fun m' hm => by
    obtain ⟨o', es', ep', ho', r'⟩ := hm
    rw [ho] at ho'; cases ho'
    exact ⟨_, es', ep', hL, r'⟩) hok I.bare
theorem Inv.call {g' : Array GenState} {t' : Nat} {d' : Drawn} {ch : List Addr} (I : Inv X pins σ H s) (u : Un (frs X.stack) ch H H' s.heap h') (hok : HOk X.prog X.w H' h') (hg : AllBare g')
    (hch : ∀ b ∈ ch, (b ∈ X.ex ∨ X.s_0.heap.objs.size ≤ b) ∧ b ≠ X.env.locals ∧ (∀ x c, X.env.cells.lookup x = some c → c ≠ b) ∧ ∀ p ∈ X.pn ++ pins, p.1 ≠ b) :
    Inv X pins σ H' { s with heap := h', gens := g', drawn := d', toks := t' } := by
  obtain ⟨m, ⟨o, es, ep, ho, r⟩, _⟩ := id I.loc
  obtain ⟨sl, hL⟩ := u.any ho I.free fun z => (hch _ z).2.1 rfl
  exact I.step (ch := ch) hch (fun b o hL hb hc e n => u.keep b o e n (fun z => (List.mem_cons.mp (I.stkSub b z)).elim hL hb) hc) (fun b o _ _ hc e n => u.any e n hc) (fun b o hc e n => u.free b o e n hc) (fun b o hc e => u.there b o e hc) u.tups u.frzs u.tbls (fun m' hm => by
    obtain ⟨o', es', ep', ho', r'⟩ := hm
    rw [ho] at ho'; cases ho'
    exact ⟨_, es', ep', hL, r'⟩) hok hg
theorem Inv.turned {t' : Nat} {it : Addr} (I : Inv X pins σ H s) (k : ∀ b o, b ≠ it → s.heap.get? b = some o → h'.get? b = some o) (hn : H it = none) (hL : it ≠ X.env.locals)
    (h1 : it ∈ X.ex ∨ X.s_0.heap.objs.size ≤ it) (h2 : ∀ x c, X.env.cells.lookup x = some c → c ≠ it) (h3 : ∀ p ∈ X.pn ++ pins, p.1 ≠ it) : Inv X pins σ H { s with heap := h', toks := t' } := by
  have nit : ∀ b u, H b = some u → b ≠ it := fun b u e z => by rw [z, hn] at e; cases e
  refine I.step (g' := s.gens) (d' := s.drawn) (ch := [it]) (fun b hb => ?_) (fun b o _ _ hc e _ => k b o (fun z => hc (by simp [z])) e) (fun b o _ _ hc e _ => ⟨o.slots, k b o (fun z => hc (by simp [z])) e⟩) (fun _ _ _ _ n => n)
    (fun b o hc e => ⟨o, k b o (fun z => hc (by simp [z])) e⟩) (fun _ _ e => e) (fun _ _ _ e => e) (fun b ps e => ⟨#[], by rw [e]; simp⟩) (fun m hm => ?_) (fun b u e => ?_) I.bare
  · have e : b = it := by simpa using hb
    subst e
    exact ⟨h1, hL, h2, h3⟩
  · obtain ⟨o, es, ep, ho, r⟩ := hm
    exact ⟨o, es, ep, k _ o (Ne.symm hL) ho, r⟩
  · refine (I.hok b u e).stay (fun c v hc q => k c v ?_ q) (fun _ q => q) fun _ _ q => q
    rcases hc with z | z
    · rw [z]; exact nit b u e
    · exact nit c _ z
theorem Inv.tok (I : Inv X pins σ H s) (t : Nat) : Inv X pins σ H { s with toks := t } := I.un (h' := s.heap) (t' := t) Un.refl I.hok
theorem Inv.kept {t' : Nat} (I : Inv X pins σ H s) (k : ∀ b u, s.heap.get? b = some u → h'.get? b = some u) : Inv X pins σ H { s with heap := h', toks := t' } := I.un (Un.kept k) (I.hok.kept k)
theorem Inv.laid {a : Addr} {o : HO} {t' : Nat} (I : Inv X pins σ H s) (k : ∀ b u, s.heap.get? b = some u → h'.get? b = some u) (hp : s.heap.objs.size ≤ a) (new : ObjOk X.prog X.w (upd H a o) h' a o) :
    Inv X pins σ (upd H a o) { s with heap := h', toks := t' } := I.un (Un.laid k hp (I.hok.fresh hp)) (I.hok.laid k hp new)
theorem Inv.write {x e : Addr} {o : HO} {t' : Nat} (I : Inv X pins σ H s) (mu : Mut (H x)) (he : e = x ∨ H e = some (.own x)) (k : ∀ b u, b ≠ e → s.heap.get? b = some u → h'.get? b = some u) (heo : ∃ u, h'.get? e = some u)
    (new : ObjOk X.prog X.w (upd H x o) h' x o) : Inv X pins σ (upd H x o) { s with heap := h', toks := t' } := I.un (Un.write mu he k heo) (I.hok.write mu he k heo new)
theorem Inv.weak {σ' : List (Option V)} (I : Inv X pins σ H s) (hl : σ'.length = σ.length) (w : ∀ (i : Nat) v, σ'[i]? = some (some v) → σ[i]? = some (some v)) : Inv X pins σ' H s :=
  ⟨I.ok, I.os, I.bare, I.base, let ⟨m, hn, hl'⟩ := I.loc; ⟨m, hn, fun i x v e1 e2 e3 => hl' i x v e1 (w i v e2) e3⟩, I.cell, I.free, I.freeC, I.pin, I.hok, hl.trans I.len⟩
theorem Inv.pins_of {pins' : List (Addr × Obj)} (I : Inv X pins σ H s) (h : ∀ p ∈ pins', s.heap.get? p.1 = some p.2 ∧ H p.1 = none ∧ p.1 ≠ X.env.locals ∧ p.1 ∉ X.fs ∧ ∀ v, p.2.data ≠ .cell v) : Inv X pins' σ H s :=
  ⟨I.ok, I.os, I.bare, I.base, I.loc, I.cell, I.free, I.freeC, fun p hp => (List.mem_append.mp hp).elim (fun z => I.pin p (List.mem_append_left _ z)) (h p), I.hok, I.len⟩
theorem nodup_ix {N : List Str} (hN : N.Nodup) {i j : Nat} {x : Str} (a : N[i]? = some x) (b : N[j]? = some x) : i = j := by
  obtain ⟨h1, e1⟩ := List.getElem?_eq_some_iff.mp a
  obtain ⟨h2, e2⟩ := List.getElem?_eq_some_iff.mp b
  exact (List.getElem_inj hN).mp (e1.trans e2.symm)
theorem store_ok2 {M : Model} {A : Around} {E : Value → Shared → Prop} {i : Nat} {x : Str} {v : V} {u : Value} {Q : Unit → Shared → Prop} (I : Inv X pins σ H s) (hN : X.N.Nodup) (hi : X.N[i]? = some x) (hx : Loc X.env.scope x) (r : RelV v u)
    (h : ∀ s', Inv X pins (σ.set i (some v)) H s' → (∃ a, Heap.SameBut a s.heap s'.heap ∧ (a = X.env.locals ∨ X.env.cells.lookup x = some a)) → Q () s') (hf : X.fn x = true ∨ X.env.scope.names.lookup x = some .local := by first | exact .inl rfl | exact .inr rfl | assumption) : wpAny M A (storeName X.env x u) Q E s := by
  obtain ⟨m, hn, hl⟩ := id I.loc
  have hcls : (X.env.scope.kind == .class || (X.env.scope.kind == .module && X.env.locals != X.env.globals)) = false := by rw [I.ok.kind]; rfl
  have hiσ : i < σ.length := by rw [I.len]; exact (List.getElem?_eq_some_iff.mp hi).1
  have cne := I.cne
  have tracked : ∀ {a : Addr} {h' : Heap}, (∃ o, s.heap.get? a = some o ∧ H a = none) → Heap.SameBut a s.heap h' → HOk X.prog X.w H h' := fun {a h'} ha hs b ob e => by
    obtain ⟨_, _, hfree⟩ := ha
    refine (I.hok b ob e).stay (fun c w' hc q => (hs.2 c ?_).trans q) (fun _ q => q) fun _ _ q => q
    rintro rfl
    rcases hc with rfl | hc
    · rw [hfree] at e; cases e
    · rw [hfree] at hc; cases hc
  rcases hx with hk | hk
  · refine wpAny_storeName_local hk hn (fun h' hn' hs => ?_) hcls
    obtain ⟨oL, _, _, hoL, _⟩ := id hn
    refine h _ ⟨I.ok, I.os, I.bare, ⟨fun b o e n hb hx => ?_, fun b o e n hb hx => ?_, I.base.free, fun b o e hx => ?_, I.base.tups, I.base.frzs, I.base.tbls⟩, ⟨_, hn', fun j y v' e1 e2 e3 => ?_⟩, fun y c e => ?_, I.free, I.freeC, fun p hp => ?_, tracked ⟨oL, hoL, I.free⟩ hs, by simpa using I.len⟩ ⟨_, hs, .inl rfl⟩
    · exact (hs.2 b (Nat.ne_of_lt (Nat.lt_of_lt_of_le (Heap.lt_size e) I.ok.above))).trans (I.base.keep b o e n hb hx)
    · obtain ⟨sl, e1⟩ := I.base.slot b o e n hb hx
      exact ⟨sl, (hs.2 b (Nat.ne_of_lt (Nat.lt_of_lt_of_le (Heap.lt_size e) I.ok.above))).trans e1⟩
    · obtain ⟨o', e1⟩ := I.base.there b o e hx
      exact ⟨o', (hs.2 b (Nat.ne_of_lt (Nat.lt_of_lt_of_le (Heap.lt_size e) I.ok.above))).trans e1⟩
    · by_cases hj : j = i
      · subst hj
        rw [hi] at e1; cases e1
        rw [List.getElem?_set_self hiσ] at e2
        cases e2
        exact ⟨u, r, .inl ⟨hk, by simp⟩⟩
      · rw [List.getElem?_set_ne (Ne.symm hj)] at e2
        obtain ⟨u', r', q⟩ := hl j y v' e1 e2 e3
        refine ⟨u', r', ?_⟩
        rcases q with ⟨k, e⟩ | ⟨k, c, e, z⟩
        · refine .inl ⟨k, ?_⟩
          have : y ≠ x := fun e => hj (nodup_ix hN e1 (e ▸ hi))
          simp [this, e]
        · exact .inr ⟨k, c, e, z.sameBut hs (cne y c e)⟩
    · obtain ⟨w', z⟩ := I.cell y c e
      exact ⟨w', z.sameBut hs (cne y c e)⟩
    · obtain ⟨e, n, ne, nf, d⟩ := I.pin p hp
      exact ⟨(hs.2 p.1 ne).trans e, n, ne, nf, d⟩
  · have hfn : X.fn x = true := by
      rcases hf with z | z
      · exact z
      · rw [z] at hk; cases hk
    obtain ⟨c, hc⟩ := I.ok.has x (.inl hk)
    obtain ⟨w', z⟩ := I.cell x c hc
    refine wpAny_storeName_cell I.ok.kind hk hc z (fun h' hc' hs => ?_)
    obtain ⟨oc, hoc, hocd⟩ := id z
    refine h { s with heap := h' } ⟨I.ok, I.os, I.bare, ⟨fun b o e n hb hx => ?_, fun b o e n hb hx => ?_, I.base.free, fun b o e hx => ?_, I.base.tups, I.base.frzs, I.base.tbls⟩, ⟨m, hn.sameBut hs (Ne.symm (cne x c hc)), fun j y v' e1 e2 e3 => ?_⟩, fun y c' e => ?_, I.free, I.freeC, fun p hp => ?_, tracked ⟨oc, hoc, I.freeC x c hc⟩ hs, by simpa using I.len⟩ ⟨c, hs, .inr hc⟩
    · exact (hs.2 b (Nat.ne_of_lt (Nat.lt_of_lt_of_le (Heap.lt_size e) (I.ok.cab x c hfn hc)))).trans (I.base.keep b o e n hb hx)
    · obtain ⟨sl, e1⟩ := I.base.slot b o e n hb hx
      exact ⟨sl, (hs.2 b (Nat.ne_of_lt (Nat.lt_of_lt_of_le (Heap.lt_size e) (I.ok.cab x c hfn hc)))).trans e1⟩
    · obtain ⟨o', e1⟩ := I.base.there b o e hx
      exact ⟨o', (hs.2 b (Nat.ne_of_lt (Nat.lt_of_lt_of_le (Heap.lt_size e) (I.ok.cab x c hfn hc)))).trans e1⟩
    · by_cases hj : j = i
      · subst hj
        rw [hi] at e1; cases e1
        rw [List.getElem?_set_self hiσ] at e2
        cases e2
        exact ⟨u, r, .inr ⟨.inl hk, c, hc, hc'⟩⟩
      · rw [List.getElem?_set_ne (Ne.symm hj)] at e2
        obtain ⟨u', r', q⟩ := hl j y v' e1 e2 e3
        refine ⟨u', r', ?_⟩
        rcases q with q | ⟨k, c', e, z'⟩
        · exact .inl q
        · refine .inr ⟨k, c', e, z'.sameBut hs ?_⟩
          rintro rfl
          exact hj (nodup_ix hN e1 (I.ok.inj _ _ _ e hc ▸ hi))
    · by_cases hcc : c' = c
      · subst hcc; exact ⟨_, hc'⟩
      · obtain ⟨w2, z2⟩ := I.cell y c' e
        exact ⟨w2, z2.sameBut hs hcc⟩
    · obtain ⟨e, n, ne, nf, d⟩ := I.pin p hp
      refine ⟨(hs.2 p.1 ?_).trans e, n, ne, nf, d⟩
      intro q
      rw [q, hoc] at e
      have q' : oc = p.2 := Option.some.inj e
      exact d w' (by rw [← q']; exact hocd)
theorem store_ok {M : Model} {A : Around} {E : Value → Shared → Prop} {i : Nat} {x : Str} {v : V} {u : Value} {Q : Unit → Shared → Prop} (I : Inv X pins σ H s) (hN : X.N.Nodup) (hi : X.N[i]? = some x) (hx : Loc X.env.scope x) (r : RelV v u)
    (h : ∀ s', Inv X pins (σ.set i (some v)) H s' → Q () s') (hf : X.fn x = true ∨ X.env.scope.names.lookup x = some .local := by first | exact .inl rfl | exact .inr rfl | assumption) : wpAny M A (storeName X.env x u) Q E s :=
  store_ok2 I hN hi hx r (fun s' I' _ => h s' I') hf
theorem Inv.call' {s' : Shared} {ch : List Addr} (I : Inv X pins σ H s) (ho : s'.os = s.os) (u : Un (frs X.stack) ch H H' s.heap s'.heap) (hok : HOk X.prog X.w H' s'.heap) (hg : AllBare s'.gens)
    (hch : ∀ b ∈ ch, (b ∈ X.ex ∨ X.s_0.heap.objs.size ≤ b) ∧ b ≠ X.env.locals ∧ (∀ x c, X.env.cells.lookup x = some c → c ≠ b) ∧ ∀ p ∈ X.pn ++ pins, p.1 ≠ b) : Inv X pins σ H' s' := by
  obtain ⟨h', g', d', t', o'⟩ := s'
  have e : o' = s.os := ho
  subst e
  exact I.call (g' := g') (t' := t') (d' := d') u hok hg hch
end
abbrev XK := Value → Option Addr → Hp → Prop
abbrev St := List (Option V)
abbrev VK := V → Hp → Prop
abbrev TE := St → Hp → VK → Prop
abbrev TT := St → Hp → (Bool → Hp → Prop) → Prop
abbrev TA := St → Hp → (List V → Hp → Prop) → Prop
structure Ends where
  nx : St → Hp → Prop
  rt : VK
  bk : St → Hp → Prop := fun _ _ => False
  ct : St → Hp → Prop := fun _ _ => False
abbrev TS := Ends → St → Hp → Prop
def EP (X : Cx) (pins : List (Addr × Obj)) (σ : St) (Q : VK) (u : Value) (s' : Shared) : Prop := ∃ v H', Inv X pins σ H' s' ∧ RelV v u ∧ Q v H'
def TP (X : Cx) (pins : List (Addr × Obj)) (σ : St) (Q : Bool → Hp → Prop) (b : Bool) (s' : Shared) : Prop := ∃ H', Inv X pins σ H' s' ∧ Q b H'
def AP (X : Cx) (pins : List (Addr × Obj)) (σ : St) (Q : List V → Hp → Prop) (us : List Value) (s' : Shared) : Prop := ∃ vs H', Inv X pins σ H' s' ∧ Vals vs us ∧ Q vs H'
def SP (X : Cx) (pins : List (Addr × Obj)) (D : Ends) (f : Flow) (s' : Shared) : Prop :=
  match f with
  | .next => ∃ σ' H', Inv X pins σ' H' s' ∧ D.nx σ' H'
  | .brk => ∃ σ' H', Inv X pins σ' H' s' ∧ D.bk σ' H'
  | .cont => ∃ σ' H', Inv X pins σ' H' s' ∧ D.ct σ' H'
  | .ret u => ∃ v σ' H', Inv X pins σ' H' s' ∧ RelV v u ∧ D.rt v H'
def PE (X : Cx) (e : Expr) (t : TE) : Prop :=
  ∀ (pins : List (Addr × Obj)) (s : Shared) (σ : St) (H : Hp) (Q : VK), Inv X pins σ H s → t σ H Q → wpAny (model X.prog X.w) X.A (eval e X.env) (EP X pins σ Q) X.xe s
def PT (X : Cx) (e : Expr) (t : TT) : Prop :=
  ∀ (pins : List (Addr × Obj)) (s : Shared) (σ : St) (H : Hp) (Q : Bool → Hp → Prop), Inv X pins σ H s → t σ H Q → wpAny (model X.prog X.w) X.A (isTrue e X.env (eval e X.env)) (TP X pins σ Q) X.xe s
def PW (X : Cx) (e : Expr) (t : TT) : Prop :=
  ∀ (whole : Sem Value) (pins : List (Addr × Obj)) (s : Shared) (σ : St) (H : Hp) (Q : Bool → Hp → Prop), Inv X pins σ H s → t σ H Q → wpAny (model X.prog X.w) X.A (isTrue e X.env whole) (TP X pins σ Q) X.xe s
theorem PW.pt {X : Cx} {e : Expr} {t : TT} (h : PW X e t) : PT X e t := h _
def PA (X : Cx) (es : List Expr) (t : TA) : Prop :=
  ∀ (pos : Pos) (pins : List (Addr × Obj)) (s : Shared) (σ : St) (H : Hp) (Q : List V → Hp → Prop), Inv X pins σ H s → t σ H Q → wpAny (model X.prog X.w) X.A (spliced (backTo pos (starEach es X.env))) (AP X pins σ Q) X.xe s
def PS (X : Cx) (st : Stmt) (t : TS) : Prop :=
  ∀ (pins : List (Addr × Obj)) (s : Shared) (σ : St) (H : Hp) (D : Ends), Inv X pins σ H s → t D σ H → wpAny (model X.prog X.w) X.A (exec st X.env) (SP X pins D) X.xe s
def PSs (X : Cx) (st : List Stmt) (t : TS) : Prop :=
  ∀ (pins : List (Addr × Obj)) (s : Shared) (σ : St) (H : Hp) (D : Ends), Inv X pins σ H s → t D σ H → wpAny (model X.prog X.w) X.A (execs st X.env) (SP X pins D) X.xe s
theorem thn {α : Type} {t : Sem α} {Q Q' : α → Shared → Prop} {M : Model} {A : Around} {E : Value → Shared → Prop} {s : Shared} (h : wpAny M A t Q E s) (hQ : ∀ a s, Q a s → Q' a s) : wpAny M A t Q' E s := wpAny_mono h hQ fun _ _ x => x
end L2
namespace L2
open PySem PySem.Spec PyProof.Rows
section
variable {X : Cx}
def tVar (i : Nat) : TE := fun σ H Q => ∃ v, σ[i]? = some (some v) ∧ Q v H
def tC (v : V) : TE := fun _ H Q => Q v H
theorem pe_var {i : Nat} {x : Str} {pos : Pos} (hN : X.N[i]? = some x) (hv : Vis X.env.scope x) (hd : (x == ("__debug__" : Str)) = false := by decide) (hcd : (x == ("__classdict__" : Str)) = false := by decide) : PE X (.Name x pos) (tVar i) := by
  intro pins s σ H Q I h
  obtain ⟨v, e, h⟩ := h
  obtain ⟨m, hn, hl⟩ := I.loc
  obtain ⟨u, r, l⟩ := hl i x v hN e hv
  have fin : EP X pins σ Q u s := ⟨v, H, I, r, h⟩
  rcases l with ⟨hk, hm⟩ | ⟨hk, c, hc, hcell⟩
  · exact wpAny_Name (wpAny_loadName_local I.ok.kind hk hn hm fin) hd
  · rcases hk with hk | hk
    · exact wpAny_Name (wpAny_loadName_cell I.ok.kind hk hc hcell fin) hd
    · exact wpAny_Name (wpAny_loadName_free I.ok.kind hk hc hcell fin hcd) hd
theorem pe_int {i j pos} : PE X (.Constant (.int i) j pos) (tC (.int i)) := fun _ _ _ H _ I h => wpAny_Constant_int ⟨.int i, H, I.tok _, ⟨_, rfl⟩, h⟩
theorem pe_bl {b j pos} : PE X (.Constant (.bool b) j pos) (tC (.bl b)) := fun _ _ _ H _ I h => Constant_bool ⟨.bl b, H, I, rfl, h⟩
def Gl (X : Cx) (x : Str) : Prop := X.env.kindOf x = some .globalImplicit
theorem ld_glob {E : Value → Shared → Prop} {pins : List (Addr × Obj)} {s : Shared} {σ : St} {H : Hp} {x : Str} {u : Value} {pos : Pos} {Q : Value → Shared → Prop} (I : Inv X pins σ H s) (hg : Gl X x) (hm : X.mg x = some u) (h : Q u s)
    (hd : (x == ("__debug__" : Str)) = false := by decide) : wpAny (model X.prog X.w) X.A (eval (.Name x pos) X.env) Q E s :=
  Calls.Name_function_global I.ok.kind hg (Calls.loadGlobal_global (by rw [I.ok.glob]; exact I.mod.glob.keeps I.bk) hm h) hd
theorem ld_blt {E : Value → Shared → Prop} {pins : List (Addr × Obj)} {s : Shared} {σ : St} {H : Hp} {x : Str} {u : Value} {pos : Pos} {Q : Value → Shared → Prop} (I : Inv X pins σ H s) (hg : Gl X x) (hm : X.mg x = none) (hv : bootBuiltins x = some u) (h : Q u s)
    (hn : x ≠ "__name__" := by decide) (hd : (x == ("__debug__" : Str)) = false := by decide) : wpAny (model X.prog X.w) X.A (eval (.Name x pos) X.env) Q E s := by
  obtain ⟨mb, h1, h2⟩ := I.mod.blt
  exact Calls.Name_function_global I.ok.kind hg (Calls.loadGlobal_builtin (by rw [I.ok.glob]; exact I.mod.glob.keeps I.bk) hm (by rw [I.ok.blt]; exact h1.keeps I.bk) ((h2 x hn).trans hv) h) hd
theorem pe_glob {x : Str} {v : V} {u : Value} {pos : Pos} (hg : Gl X x) (hm : X.mg x = some u) (r : RelV v u) (hd : (x == ("__debug__" : Str)) = false := by decide) : PE X (.Name x pos) (tC v) :=
  fun _ _ _ H _ I h => ld_glob I hg hm ⟨v, H, I, r, h⟩ hd
variable {a b : Expr} {ta tb : TE} {pos : Pos}
def PC (X : Cx) (op : CmpOp) (a b : Expr) (t : TE) : Prop :=
  ∀ (pins : List (Addr × Obj)) (s : Shared) (σ : St) (H : Hp) (Q : VK), Inv X pins σ H s → t σ H Q →
    wpAny (model X.prog X.w) X.A (eval a X.env) (fun v s₁ => wpAny (model X.prog X.w) X.A (eval b X.env) (fun u s₂ => wpAny (model X.prog X.w) X.A (compareOp op v u) (EP X pins σ Q) X.xe s₂) X.xe s₁) X.xe s
theorem nobehind (b : Expr) {op : CmpOp} (h : op ≠ .In) (h2 : op ≠ .NotIn) : behindInMarks op b = false := by
  have e1 : (op == CmpOp.In) = false := by cases op <;> first | rfl | exact absurd rfl h
  have e2 : (op == CmpOp.NotIn) = false := by cases op <;> first | rfl | exact absurd rfl h2
  cases b <;> simp [behindInMarks, e1, e2]
def tB (t : TE) : TT := fun σ H Q => t σ H fun x H1 => ∃ c, x = .bl c ∧ Q c H1
theorem pt_cmp {op : CmpOp} {t : TE} (h : PC X op a b t) (h1 : behindInMarks op b = false := by first | exact nobehind _ (by decide) (by decide) | rfl) : PT X (.Compare a [op] [b] pos) (tB t) := by
  intro pins s σ H Q I hw
  refine wpAny_isTrue_Compare1 (thn (h pins s σ H _ I hw) fun v s1 h1 => thn h1 fun u s2 h2 => thn h2 fun c s3 ⟨x, H1, I1, r1, q1⟩ => ?_) h1
  obtain ⟨d, rfl, q⟩ := q1
  cases r1
  exact wpAny_truthy_bool ⟨H1, I1, q⟩
theorem pt_val {e : Expr} {t : TE} (h : PE X e t) (he : ∀ whole, isTrue e X.env whole = (do let v ← whole; standAt e.pos; holding [v] (truthy v)) := by intro _; rfl) : PT X e (tB t) := by
  intro pins s σ H Q I hw
  refine isTrue_plain (thn (h pins s σ H _ I hw) fun v s1 ⟨x, H1, I1, r1, q1⟩ => ?_) (he _)
  obtain ⟨d, rfl, q⟩ := q1
  cases r1
  exact wpAny_truthy_bool ⟨H1, I1, q⟩
variable {tA tB' : TT} {rest : List Expr}
def tAnd (t u : TT) : TT := fun σ H Q => t σ H fun c H1 => if c = true then u σ H1 Q else Q false H1
def tOr (t u : TT) : TT := fun σ H Q => t σ H fun c H1 => if c = true then Q true H1 else u σ H1 Q
def tNot (t : TT) : TT := fun σ H Q => t σ H fun c H1 => Q (!c) H1
theorem pw_and1 (ha : PT X a tA) : PW X (.BoolOp .And [a] pos) tA := by
  intro wh pins s σ H Q I h
  refine isTrue_and (thn (ha pins s σ H Q I h) fun c s1 e => ?_)
  cases c with
  | true => exact isTrue_and_nil e
  | false => exact e
theorem pw_or1 (ha : PT X a tA) : PW X (.BoolOp .Or [a] pos) tA := by
  intro wh pins s σ H Q I h
  refine isTrue_or (thn (ha pins s σ H Q I h) fun c s1 e => ?_)
  cases c with
  | false => exact isTrue_or_nil e
  | true => exact e
theorem pw_and (ha : PT X a tA) (hb : PW X (.BoolOp .And (b :: rest) pos) tB') : PW X (.BoolOp .And (a :: b :: rest) pos) (tAnd tA tB') := by
  intro wh pins s σ H Q I h
  refine isTrue_and (thn (ha pins s σ H _ I h) fun c s1 ⟨H1, I1, q1⟩ => ?_)
  cases c with
  | true => exact hb wh pins s1 σ H1 Q I1 q1
  | false => exact ⟨H1, I1, q1⟩
theorem pw_or (ha : PT X a tA) (hb : PW X (.BoolOp .Or (b :: rest) pos) tB') : PW X (.BoolOp .Or (a :: b :: rest) pos) (tOr tA tB') := by
  intro wh pins s σ H Q I h
  refine isTrue_or (thn (ha pins s σ H _ I h) fun c s1 ⟨H1, I1, q1⟩ => ?_)
  cases c with
  | true => exact ⟨H1, I1, q1⟩
  | false => exact hb wh pins s1 σ H1 Q I1 q1
theorem pt_not (ha : PT X a tA) : PT X (.UnaryOp .Not a pos) (tNot tA) := by
  intro pins s σ H Q I h
  exact isTrue_not (ha pins s σ H (fun c H1 => Q (!c) H1) I h)
def tIf (t : TT) (ta tb : TE) : TE := fun σ H Q => t σ H fun c H1 => if c = true then ta σ H1 Q else tb σ H1 Q
theorem pe_ifExp {c : Expr} (hc : PT X c tA) (ha : PE X a ta) (hb : PE X b tb) : PE X (.IfExp c a b pos) (tIf tA ta tb) := by
  intro pins s σ H Q I h
  refine wpAny_IfExp (thn (hc pins s σ H _ I h) fun d s1 ⟨H1, I1, q1⟩ => ?_)
  cases d with
  | true => exact ha pins s1 σ H1 Q I1 q1
  | false => exact hb pins s1 σ H1 Q I1 q1
end
end L2
namespace L2
open PySem PySem.Spec PyProof.Rows
def SqL (K : PySem.W.Frag) (H : Hp) (a : Addr) (xs : List V) : Prop :=
  Rd H a (.lst xs) ∨
    ∃ (o : Obj) (its : Array Value) (n : Nat), K.lookup a = some o ∧ o.cls = .type "list" ∧ o.dict = none ∧ o.data = .seq its n ∧ its.size ≤ sizeLine ∧ Vals xs its.toList
def SqT (K : PySem.W.Frag) (H : Hp) (a : Addr) (xs : List V) : Prop :=
  Rd H a (.tup xs) ∨
    ∃ (o : Obj) (its : Array Value) (n : Nat), K.lookup a = some o ∧ o.cls = .type "tuple" ∧ o.data = .seq its n ∧ its.size ≤ sizeLine ∧ Vals xs its.toList
def absV : Value → Option V
  | .none => some .non
  | .bool b => some (.bl b)
  | .int i _ => some (.int i)
  | .str x _ => some (.str x)
  | .bytes b _ => some (.byt b)
  | .float b _ => some (.flt b)
  | .ref a => some (.ref a)
  | .type n => some (.ty n)
  | _ => none
theorem RelV.abs {x : V} {u : Value} (r : RelV x u) : absV u = some x := by
  cases x with
  | non => cases r; rfl
  | bl _ => cases r; rfl
  | int _ => obtain ⟨t, rfl⟩ := r; rfl
  | str _ => obtain ⟨t, rfl⟩ := r; rfl
  | byt _ => obtain ⟨t, rfl⟩ := r; rfl
  | flt _ => obtain ⟨t, rfl⟩ := r; rfl
  | ref _ => cases r; rfl
  | ty _ => cases r; rfl
theorem RelV.inj {x y : V} {u : Value} (r : RelV x u) (q : RelV y u) : x = y := Option.some.inj (r.abs.symm.trans q.abs)
theorem Vals.inj : ∀ {xs ys : List V} {us : List Value}, Vals xs us → Vals ys us → xs = ys
  | _, _, _, .nil, .nil => rfl
  | _, _, _, .cons r t, .cons r' t' => by rw [r.inj r', Vals.inj t t']
section
variable {X : Cx} {pins : List (Addr × Obj)} {σ : St} {H : Hp} {s : Shared} {a : Addr} {xs ys : List V}
theorem SqL.of {K : PySem.W.Frag} (h : H a = some (.lst xs)) : SqL K H a xs := .inl (.inl h)
theorem SqT.of {K : PySem.W.Frag} (h : H a = some (.tup xs)) : SqT K H a xs := .inl (.inl h)
theorem Inv.list (I : Inv X pins σ H s) (h : SqL X.K H a xs) : ∃ its : List Value, Vals xs its ∧ PlainL s.heap a its.toArray ∧ xs.length ≤ sizeLine := by
  rcases h with h | ⟨o, its, n, hk, hc, hd, hs, hz, r⟩
  · obtain ⟨z, its, n, r, e⟩ := h.ok I.hok
    exact ⟨its, r, ⟨_, n, e, rfl, rfl, rfl⟩, z⟩
  · refine ⟨its.toList, r, ⟨o, n, I.kIn a o hk, hc, hd, by simpa using hs⟩, ?_⟩
    have e := r.length
    simp only [Array.length_toList] at e
    omega
theorem Inv.tuple (I : Inv X pins σ H s) (h : SqT X.K H a xs) : ∃ its : List Value, Vals xs its ∧ IsTup s.heap a its.toArray ∧ xs.length ≤ sizeLine := by
  rcases h with h | ⟨o, its, n, hk, hc, hs, hz, r⟩
  · obtain ⟨z, its, r, p⟩ := h.ok I.hok
    exact ⟨its, r, p, z⟩
  · refine ⟨its.toList, r, ⟨o, I.kIn a o hk, hc, n, by simpa using hs⟩, ?_⟩
    have e := r.length
    simp only [Array.length_toList] at e
    omega
theorem Inv.list_inj (I : Inv X pins σ H s) (h : SqL X.K H a xs) (h' : SqL X.K H a ys) : xs = ys := by
  obtain ⟨its, r, ⟨o, n, e, _, _, d⟩, _⟩ := I.list h
  obtain ⟨its', r', ⟨o', n', e', _, _, d'⟩, _⟩ := I.list h'
  rw [e] at e'; cases e'
  rw [d] at d'
  injection d' with d1 _
  have : its = its' := by simpa using congrArg Array.toList d1
  subst this
  exact r.inj r'
end
abbrev Cx.wish (X : Cx) (E : Value → Shared → Prop) : Cx := { X with xe := E }
abbrev Cx.nox (X : Cx) : Cx := X.wish fun _ _ => False
theorem Cx.Ok.wish {X : Cx} (ok : X.Ok) (E : Value → Shared → Prop) : (X.wish E).Ok :=
  ⟨ok.mod, ok.kind, ok.glob, ok.blt, ok.above, ok.inj, ok.has, ok.cab, ok.hd, ok.frames, ok.stk, ok.exf, ok.bs, ok.bsz, ok.noex, ok.exfs, ok.funs, ok.frf⟩
theorem Cx.Ok.unwish {X : Cx} {E : Value → Shared → Prop} (ok : (X.wish E).Ok) : X.Ok :=
  ⟨ok.mod, ok.kind, ok.glob, ok.blt, ok.above, ok.inj, ok.has, ok.cab, ok.hd, ok.frames, ok.stk, ok.exf, ok.bs, ok.bsz, ok.noex, ok.exfs, ok.funs, ok.frf⟩
section
variable {X : Cx} {pins : List (Addr × Obj)} {σ : St} {H : Hp} {s : Shared} {E : Value → Shared → Prop}
theorem Inv.wish (I : Inv X pins σ H s) (E : Value → Shared → Prop) : Inv (X.wish E) pins σ H s := ⟨I.ok.wish E, I.os, I.bare, I.base, I.loc, I.cell, I.free, I.freeC, I.pin, I.hok, I.len⟩
theorem Inv.unwish (I : Inv (X.wish E) pins σ H s) : Inv X pins σ H s := ⟨I.ok.unwish, I.os, I.bare, I.base, I.loc, I.cell, I.free, I.freeC, I.pin, I.hok, I.len⟩
theorem SP.unwish {D : Ends} {f : Flow} {s' : Shared} (h : SP (X.wish E) pins D f s') : SP X pins D f s' := by
  cases f with
  | next => obtain ⟨σ', H', I, q⟩ := h; exact ⟨σ', H', I.unwish, q⟩
  | brk => obtain ⟨σ', H', I, q⟩ := h; exact ⟨σ', H', I.unwish, q⟩
  | cont => obtain ⟨σ', H', I, q⟩ := h; exact ⟨σ', H', I.unwish, q⟩
  | ret u => obtain ⟨v, σ', H', I, r, q⟩ := h; exact ⟨v, σ', H', I.unwish, r, q⟩
theorem PE.nox {e : Expr} {t : TE} (h : PE X.nox e t) : PE X e t := fun pins s σ H Q I hw =>
  wpAny_mono (h pins s σ H Q (I.wish _) hw) (fun _ _ ⟨v, H', I', r, q⟩ => ⟨v, H', I'.unwish, r, q⟩) fun _ _ z => False.elim z
theorem PT.nox {e : Expr} {t : TT} (h : PT X.nox e t) : PT X e t := fun pins s σ H Q I hw =>
  wpAny_mono (h pins s σ H Q (I.wish _) hw) (fun _ _ ⟨H', I', q⟩ => ⟨H', I'.unwish, q⟩) fun _ _ z => False.elim z
theorem PSs.nox {st : List Stmt} {t : TS} (h : PSs X.nox st t) : PSs X st t := fun pins s σ H D I hw =>
  wpAny_mono (h pins s σ H D (I.wish _) hw) (fun _ _ q => q.unwish) fun _ _ z => False.elim z
end
section
variable {X : Cx} {st : Stmt} {rest : List Stmt} {t u : TS} {e : Expr} {te : TE} {pos : Pos}
def tNext : TS := fun D σ H => D.nx σ H
def tSeq (t u : TS) : TS := fun D σ H => t { D with nx := u D } σ H
theorem pss_nil : PSs X [] tNext := fun _ _ σ H _ I h => wpAny_execs_nil ⟨σ, H, I, h⟩
theorem pss_cons (h1 : PS X st t) (h2 : PSs X rest u) : PSs X (st :: rest) (tSeq t u) := by
  intro pins s σ H D I h
  refine wpAny_execs_cons (thn (h1 pins s σ H { D with nx := u D } I h) fun f s1 q => ?_)
  cases f with
  | next =>
    obtain ⟨σ', H', I', q⟩ := q
    exact h2 pins s1 σ' H' D I' q
  | ret v => exact q
  | brk => exact q
  | cont => exact q
theorem pss_one (h1 : PS X st t) : PSs X [st] t := by
  intro pins s σ H D I h
  refine wpAny_execs_cons (thn (h1 pins s σ H D I h) fun f s1 q => ?_)
  cases f with
  | next => exact wpAny_execs_nil q
  | ret v => exact q
  | brk => exact q
  | cont => exact q
def tBreak : TS := fun D σ H => D.bk σ H
def tCont : TS := fun D σ H => D.ct σ H
theorem Inv.quiet {pins : List (Addr × Obj)} {σ : St} {H : Hp} {s : Shared} (I : Inv X pins σ H s) : interactive X.env = false := by simp [interactive, I.ok.kind]
def tDrop (te : TE) : TS := fun D σ H => te σ H fun _ H1 => D.nx σ H1
theorem ps_expr (he : PE X e te) (hs : swapsWith e none pos.line X.env = pure false := by rfl) : PS X (.Expr e pos) (tDrop te) := by
  intro pins s σ H D I h
  exact wpAny_Expr_any (thn (he pins s σ H _ I h) fun v s1 ⟨x, H1, I1, r1, q1⟩ => ⟨σ, H1, I1, q1⟩) I.quiet hs
def tRet (te : TE) : TS := fun D σ H => te σ H D.rt
theorem ps_ret (he : PE X e te) : PS X (.Return (some e) pos) (tRet te) := by
  intro pins s σ H D I h
  exact wpAny_Return_some (thn (he pins s σ H _ I h) fun v s1 ⟨x, H1, I1, r1, q1⟩ => ⟨x, σ, H1, I1, r1, q1⟩)
def tIfS (c : TT) (t u : TS) : TS := fun D σ H => c σ H fun b H1 => if b = true then t D σ H1 else u D σ H1
theorem ps_if {c : Expr} {a b : List Stmt} {tc : TT} (hc : PT X c tc) (ha : PSs X a t) (hb : PSs X b u) : PS X (.If c a b pos) (tIfS tc t u) := by
  intro pins s σ H D I h
  refine wpAny_If (thn (hc pins s σ H _ I h) fun d s1 ⟨H1, I1, q1⟩ => ?_)
  cases d with
  | true => exact ha pins s1 σ H1 D I1 q1
  | false => exact hb pins s1 σ H1 D I1 q1
end
abbrev TG := V → St → Hp → (St → Hp → Prop) → Prop
abbrev TGs := List V → St → Hp → (St → Hp → Prop) → Prop
def PG (X : Cx) (target : Expr) (t : TG) : Prop :=
  ∀ (pins : List (Addr × Obj)) (s : Shared) (σ : St) (H : Hp) (v : V) (u : Value) (Q : St → Hp → Prop), Inv X pins σ H s → RelV v u → t v σ H Q →
    wpAny (model X.prog X.w) X.A (assign target X.env u) (fun _ s' => ∃ σ' H', Inv X pins σ' H' s' ∧ Q σ' H') X.xe s
def PGs (X : Cx) (ts : List Expr) (t : TGs) : Prop :=
  ∀ (pins : List (Addr × Obj)) (s : Shared) (σ : St) (H : Hp) (vs : List V) (us : List Value) (Q : St → Hp → Prop), Inv X pins σ H s → Vals vs us → t vs σ H Q →
    wpAny (model X.prog X.w) X.A (assignInOrder ((assignEach ts X.env).map (·.2)) us) (fun _ s' => ∃ σ' H', Inv X pins σ' H' s' ∧ Q σ' H') X.xe s
abbrev TSet := V → V → V → Hp → (Hp → Prop) → Prop
def PSet (X : Cx) (t : TSet) : Prop :=
  ∀ (pins : List (Addr × Obj)) (s : Shared) (σ : St) (H : Hp) (o i v : V) (ov iv u : Value) (Q : Hp → Prop), Inv X pins σ H s → RelV o ov → RelV i iv → RelV v u → t o i v H Q →
    wpAny (model X.prog X.w) X.A (setItem ov iv u) (fun _ s' => ∃ H', Inv X pins σ H' s' ∧ Q H') X.xe s
abbrev TIp := V → V → Hp → VK → Prop
def PIp (X : Cx) (op : Operator) (t : TIp) : Prop :=
  ∀ (pins : List (Addr × Obj)) (s : Shared) (σ : St) (H : Hp) (x y : V) (v u : Value) (Q : VK), Inv X pins σ H s → RelV x v → RelV y u → t x y H Q →
    wpAny (model X.prog X.w) X.A (inplaceOp op v u) (EP X pins σ Q) X.xe s
section
variable {X : Cx} {pos : Pos}
def gName (i : Nat) : TG := fun v σ H Q => Q (σ.set i (some v)) H
theorem pg_name {i : Nat} {x : Str} (hN : X.N.Nodup) (hi : X.N[i]? = some x) (hx : Loc X.env.scope x) (hf : X.fn x = true ∨ X.env.scope.names.lookup x = some .local := by first | exact .inl rfl | exact .inr rfl | assumption) : PG X (.Name x pos) (gName i) := by
  intro pins s σ H v u Q I r h
  exact wpAny_assign_Name (store_ok I hN hi hx r (fun s' I' => ⟨_, H, I', h⟩) hf)
def gNil : TGs := fun vs σ H Q => vs = [] ∧ Q σ H
def gCons (t : TG) (u : TGs) : TGs := fun vs σ H Q => ∃ v r, vs = v :: r ∧ t v σ H fun σ' H' => u r σ' H' Q
theorem pgs_nil : PGs X [] gNil := by
  intro pins s σ H vs us Q I r h
  obtain ⟨e, h⟩ := h
  subst e
  cases r
  exact assignInOrder_nil ⟨σ, H, I, h⟩
theorem pgs_cons {e : Expr} {es : List Expr} {t : TG} {u : TGs} (h1 : PG X e t) (h2 : PGs X es u)
    (hs : (assignEach (e :: es) X.env).map (·.2) = assign e X.env :: (assignEach es X.env).map (·.2) := by rfl) : PGs X (e :: es) (gCons t u) := by
  intro pins s σ H vs us Q I r h
  obtain ⟨v, vr, e1, h⟩ := h
  subst e1
  cases r with
  | cons r rr =>
    rw [hs]
    refine assignInOrder_cons (thn (h1 pins s σ H _ _ _ I r h) fun _ s1 ⟨σ1, H1, I1, q1⟩ => ?_)
    exact h2 pins s1 σ1 H1 _ _ Q I1 rr q1
def gTup (K : PySem.W.Frag) (n : Nat) (t : TGs) : TG := fun v σ H Q => ∃ a xs, v = .ref a ∧ SqT K H a xs ∧ xs.length = n ∧ t xs σ H Q
theorem pg_tup {es : List Expr} {k : Nat} {t : TGs} {n : Nat} (hc : X.calm = true) (h : PGs X es t)
    (hn : (assignEach es X.env).length = n := by rfl) (hst : (assignEach es X.env).findIdx? (·.1) = none := by rfl) : PG X (.Tuple es k pos) (gTup X.K n t) := by
  intro pins s σ H v u Q I r hw
  obtain ⟨a, xs, e1, hq, hl, hw⟩ := hw
  subst e1
  cases r
  obtain ⟨its, rv, ht, hz⟩ := I.tuple hq
  refine assign_Tuple_tuple (I.ok.hd hc) ht (by simp [hn, ← hl, rv.length]) hst fun h' hx => ?_
  have I1 : Inv X pins σ H { s with heap := h' } := I.kept (t' := s.toks) fun b o e => hx b o (Nat.ne_of_lt (Heap.lt_size e)) e
  exact h pins _ σ H xs _ Q I1 (by simpa using rv) hw
def gSub (to ti : TE) (t : TSet) : TG := fun v σ H Q => to σ H fun o H1 => ti σ H1 fun i H2 => t o i v H2 fun H3 => Q σ H3
theorem pg_sub {o i : Expr} {to ti : TE} {t : TSet} (ho : PE X o to) (hi : PE X i ti) (hs : PSet X t)
    (ha : ∀ v, assign (.Subscript o i pos) X.env v = (do
      let ov ← holding [v] (eval o X.env)
      let iv ← holding [v, ov] (eval i X.env)
      standAt pos
      holding [v, ov, iv] (setItem ov iv v)
      release [v, ov, iv] []) := by intro _; rfl) : PG X (.Subscript o i pos) (gSub to ti t) := by
  intro pins s σ H v u Q I r h
  rw [ha]
  refine wpAny_bind (wpAny_holding (thn (ho pins s σ H _ I h) fun ov s1 ⟨x, H1, I1, r1, q1⟩ => ?_))
  refine wpAny_bind (wpAny_holding (thn (hi pins s1 σ H1 _ I1 q1) fun iv s2 ⟨y, H2, I2, r2, q2⟩ => ?_))
  refine wpAny_bind (wpAny_standAt (wpAny_bind (wpAny_holding (thn (hs pins s2 σ H2 x y v ov iv u _ I2 r1 r2 r q2) fun _ s3 ⟨H3, I3, q3⟩ => ?_))))
  exact wpAny_release ⟨σ, H3, I3, q3⟩
def tAsg (te : TE) (g : TG) : TS := fun D σ H => te σ H fun x H1 => g x σ H1 D.nx
theorem ps_asg {tg e : Expr} {te : TE} {g : TG} (he : PE X e te) (hg : PG X tg g) (hs : swapsWithSole [tg] e pos.line X.env = pure false := by rfl) (hw : swappedStores [tg] e X.env = pure none := by rfl)
    (h1 : (assignEach [tg] X.env).map (·.2) = [assign tg X.env] := by rfl) : PS X (.Assign [tg] e pos) (tAsg te g) := by
  intro pins s σ H D I h
  refine wpAny_Assign_stores (thn (he pins s σ H _ I h) fun v s1 ⟨x, H1, I1, r1, q1⟩ => ?_) hs hw
  rw [h1]
  exact thn (hg pins s1 σ H1 x v _ I1 r1 q1) fun _ s2 q => q
theorem ps_set {i : Nat} {x : Str} {e : Expr} {te : TE} {pos' : Pos} (hN : X.N.Nodup) (hi : X.N[i]? = some x) (hx : Loc X.env.scope x) (he : PE X e te) (hs : swapsWith e (some (.Name x pos')) pos.line X.env = pure false := by rfl) (hf : X.fn x = true ∨ X.env.scope.names.lookup x = some .local := by first | exact .inl rfl | exact .inr rfl | assumption) :
    PS X (.Assign [.Name x pos'] e pos) (tAsg te (gName i)) := by
  intro pins s σ H D I h
  refine wpAny_Assign_Name (thn (he pins s σ H _ I h) fun v s1 ⟨y, H1, I1, r1, q1⟩ => ?_) hs
  exact store_ok I1 hN hi hx r1 (fun s2 I2 => ⟨_, H1, I2, q1⟩) hf
def tAug (i : Nat) (te : TE) (ti : TIp) : TS := fun D σ H => ∃ x, σ[i]? = some (some x) ∧ te σ H fun y H1 => ti x y H1 fun z H2 => D.nx (σ.set i (some z)) H2
theorem ps_aug {i : Nat} {x : Str} {e : Expr} {te : TE} {op : Operator} {ti : TIp} {pos' : Pos} (hN : X.N.Nodup) (hi : X.N[i]? = some x) (hx : Loc X.env.scope x) (he : PE X e te) (ho : PIp X op ti) (hf : X.fn x = true ∨ X.env.scope.names.lookup x = some .local := by first | exact .inl rfl | exact .inr rfl | assumption) :
    PS X (.AugAssign (.Name x pos') op e pos) (tAug i te ti) := by
  intro pins s σ H D I h
  obtain ⟨v, e1, h⟩ := h
  obtain ⟨m, hn, hl⟩ := I.loc
  have vis : Vis X.env.scope x := by rcases hx with k | k; exact .inl k; exact .inr (.inl k)
  obtain ⟨u, r, l⟩ := hl i x v hi e1 vis
  refine wpAny_AugAssign_Name ?_
  have go : wpAny (model X.prog X.w) X.A (eval e X.env) (fun w s₂ => wpAny (model X.prog X.w) X.A (inplaceOp op u w) (fun r s₃ => wpAny (model X.prog X.w) X.A (storeName X.env x r) (fun _ => SP X pins D .next) X.xe s₃) X.xe s₂) X.xe s := by
    refine thn (he pins s σ H _ I h) fun w s1 ⟨y, H1, I1, r1, q1⟩ => ?_
    refine thn (ho pins s1 σ H1 v y u w _ I1 r r1 q1) fun z s2 ⟨zv, H2, I2, r2, q2⟩ => ?_
    exact store_ok I2 hN hi hx r2 (fun s3 I3 => ⟨_, H2, I3, q2⟩) hf
  rcases l with ⟨hk, hm⟩ | ⟨hk, c, hc, hcell⟩
  · exact wpAny_loadName_local I.ok.kind hk hn hm go
  · rcases hk with hk | hk
    · exact wpAny_loadName_cell I.ok.kind hk hc hcell go
    · rcases hx with k | k
      · have : X.env.scope.names.lookup x = some .free := hk
        rw [k] at this; cases this
      · have : X.env.scope.names.lookup x = some .free := hk
        rw [k] at this; cases this
def ipI (f : Int → Int → Int) : TIp := fun x y H Q => ∃ i j, x = .int i ∧ y = .int j ∧ Q (.int (f i j)) H
theorem ip_add : PIp X .Add (ipI fun i j => i + j) := by
  intro pins s σ H x y v u Q I r1 r2 h
  obtain ⟨i, j, e1, e2, q⟩ := h
  subst e1; subst e2
  obtain ⟨t, rfl⟩ := r1
  obtain ⟨t', rfl⟩ := r2
  exact iadd_int ⟨.int _, H, I.tok _, ⟨_, rfl⟩, q⟩
end
section
variable {X : Cx} {pos : Pos}
def tWhile (c : TT) (tb : TS) : TS := fun D σ H => ∃ W : Nat → St → Hp → Prop, (∃ m, W m σ H) ∧ ∀ m σ H, W m σ H →
  c σ H fun b H1 => if b = true then ∃ N : St → Hp → Prop, (∀ σ' H', N σ' H' → ∃ m', m' < m ∧ W m' σ' H') ∧ tb { D with nx := N, ct := N, bk := D.nx } σ H1 else D.nx σ H1
theorem ps_while {c : Expr} {body : List Stmt} {tc : TT} {tb : TS} (hp : PassesOwn (model X.prog X.w) X.A X.env X.xe) (hc : PT X c tc) (hb : PSs X body tb) : PS X (.While c body [] pos) (tWhile tc tb) := by
  intro pins s σ H D I h
  obtain ⟨W, ⟨m0, w0⟩, turn⟩ := h
  refine wpAny_While (codeAny_whileLoop (fun n s' => ∃ σ' H', Inv X pins σ' H' s' ∧ W n σ' H') ?_ m0 ⟨σ, H, I, w0⟩)
  rintro n s1 ⟨σ1, H1, I1, w1⟩
  refine wpAny_passesOwn hp (thn (hc pins s1 σ1 H1 _ I1 (turn n σ1 H1 w1)) fun b s2 ⟨H2, I2, q2⟩ => ?_)
  cases b with
  | true =>
    obtain ⟨N, hN, q2⟩ := q2
    rw [if_pos rfl]
    refine wpAny_passesOwn hp (thn (hb pins s2 σ1 H2 _ I2 q2) fun f s3 q3 => ?_)
    cases f with
    | next =>
      obtain ⟨σ3, H3, I3, n3⟩ := q3
      obtain ⟨m', hm, w3⟩ := hN σ3 H3 n3
      exact ⟨m', hm, σ3, H3, I3, w3⟩
    | cont =>
      obtain ⟨σ3, H3, I3, n3⟩ := q3
      obtain ⟨m', hm, w3⟩ := hN σ3 H3 n3
      exact ⟨m', hm, σ3, H3, I3, w3⟩
    | brk => exact q3
    | ret v => exact q3
  | false =>
    rw [if_neg Bool.false_ne_true]
    exact wpAny_execs_nil ⟨σ1, H2, I2, q2⟩
end
structure It where
  go : Nat → Hp → Prop
  yld : Nat → Hp → V → Hp → Prop
  stop : Nat → Hp → Prop
def FpOk (X : Cx) (pins : List (Addr × Obj)) (H : Hp) (b : Addr) : Prop :=
  H b = none ∧ b ≠ X.env.locals ∧ b ∉ X.fs ∧ (b ∈ X.ex ∨ X.s_0.heap.objs.size ≤ b) ∧ (∀ x c, X.env.cells.lookup x = some c → c ≠ b) ∧ ∀ p ∈ X.pn ++ pins, p.1 ≠ b
theorem Inv.fpOk {X : Cx} {pins : List (Addr × Obj)} {σ : St} {H H' : Hp} {s : Shared} {b : Addr} (I : Inv X pins σ H s) (hb : s.heap.objs.size ≤ b) (hn : H' b = none) : FpOk X pins H' b := by
  refine ⟨hn, Nat.ne_of_gt (Nat.lt_of_lt_of_le I.lt hb), I.nofs hb, .inr (Nat.le_trans I.sz hb), fun x c e z => ?_, fun p hp z => ?_⟩
  · obtain ⟨v, q⟩ := I.cell x c e
    exact absurd (Nat.lt_of_lt_of_le q.lt (by rw [z]; exact hb)) (Nat.lt_irrefl _)
  · exact absurd (Nat.lt_of_lt_of_le (Heap.lt_size (I.pin p hp).1) (by rw [z]; exact hb)) (Nat.lt_irrefl _)
structure Turn (P : Program) (w : World) (K : PySem.W.Frag) (tg : Expr) (J : It) (fp : List Addr) (it : Addr) (tn : Nat → Heap → Prop) : Prop where
  mem : it ∈ fp
  obj : ∀ i h, tn i h → ∀ b ∈ fp, ∃ o, h.get? b = some o ∧ ∀ v, o.data ≠ .cell v
  keep : ∀ i h h', tn i h → (∀ b ∈ fp, ∀ o, h.get? b = some o → h'.get? b = some o) → tn i h'
  item : ∀ (X : Cx), X.prog = P → X.w = w → X.K = K → X.calm = true → ∀ (i : Nat) (pins : List (Addr × Obj)) (s : Shared) (σ : St) (H : Hp) (E : Value → Shared → Prop), Inv X pins σ H s → (∀ b ∈ fp, FpOk X pins H b) → tn i s.heap → J.go i H →
    wpAny (model P w) X.A (pyNext (.ref it)) (fun r s1 => ∃ u, r = some u ∧
      wpAny (model P w) X.A (letOwnedTupleGo tg (.ref it) u) (fun _ s2 => ∃ x H', Inv X pins σ H' s2 ∧ RelV x u ∧ J.yld i H x H' ∧ tn (i + 1) s2.heap ∧ ∀ b ∈ fp, H' b = none) E s1) E s
  done : ∀ (X : Cx), X.prog = P → X.w = w → X.K = K → X.calm = true → ∀ (i : Nat) (pins : List (Addr × Obj)) (s : Shared) (σ : St) (H : Hp) (E : Value → Shared → Prop), Inv X pins σ H s → (∀ b ∈ fp, FpOk X pins H b) → tn i s.heap → J.stop i H →
    wpAny (model P w) X.A (pyNext (.ref it)) (fun r s1 => r = none ∧ Inv X pins σ H s1) E s
  self : ∀ (A : Around) (i : Nat) (s : Shared) (Q : Value → Shared → Prop) (E : Value → Shared → Prop), tn i s.heap → Q (.ref it) s → wpAny (model P w) A (pyIter (.ref it)) Q E s
abbrev TI := St → Hp → (It → Hp → Prop) → Prop
def PIE (X : Cx) (pins : List (Addr × Obj)) (σ : St) (tg : Expr) (R : It → Hp → Prop) (itv : Value) (s2 : Shared) : Prop :=
  ∃ (it : Addr) (fp : List Addr) (tn : Nat → Heap → Prop) (J : It) (H' : Hp), itv = .ref it ∧ Inv X pins σ H' s2 ∧ Turn X.prog X.w X.K tg J fp it tn ∧ tn 0 s2.heap ∧ (∀ b ∈ fp, FpOk X pins H' b) ∧ R J H'
def PI (X : Cx) (tg iter : Expr) (wi : TI) : Prop :=
  ∀ (pins : List (Addr × Obj)) (s : Shared) (σ : St) (H : Hp) (R : It → Hp → Prop), Inv X pins σ H s → wi σ H R →
    wpAny (model X.prog X.w) X.A (eval iter X.env) (fun v s1 => wpAny (model X.prog X.w) X.A (pyIter v) (PIE X pins σ tg R) X.xe s1) X.xe s
theorem go_of {M : Model} {A : Around} {E : Value → Shared → Prop} {s : Shared} {tg : Expr} {it : Addr} {u : Value} {o : Obj} {n : String} {vs : Array Value} {Q : Unit → Shared → Prop} (ho : s.heap.get? it = some o) (hc : o.cls = .type n) (hd : o.data = .fields vs)
    (hn : ["enumerate", "zip", "dict_itemiterator", "dict_reverseitemiterator", "odict_iterator", "itertools.zip_longest", "itertools.pairwise"].contains n = false) (hQ : Q () s) : wpAny M A (letOwnedTupleGo tg (.ref it) u) Q E s := by
  unfold letOwnedTupleGo
  cases tg <;> first
    | exact wpAny_pure hQ
    | (cases u <;> first
        | exact wpAny_pure hQ
        | (refine wpAny_bind (wpAny_load ho ?_)
           rw [hc, hd]
           show wpAny M A (if (["enumerate", "zip", "dict_itemiterator", "dict_reverseitemiterator", "odict_iterator", "itertools.zip_longest", "itertools.pairwise"].contains n && vs[0]? == some (rawInt _)) = true then _ else _) Q E s
           rw [if_neg (by intro h; rw [hn, Bool.false_and] at h; cases h)]
           exact wpAny_pure hQ))
def Itl (K : PySem.W.Frag) (a : Addr) : It :=
  ⟨fun i H => ∃ xs x, SqL K H a xs ∧ xs[i]? = some x, fun i H x H' => H' = H ∧ ∀ xs, SqL K H a xs → xs[i]? = some x, fun i H => ∃ xs, SqL K H a xs ∧ xs.length ≤ i⟩
def Itr (lo : Int) (n : Nat) : It := ⟨fun i _ => i < n, fun i H x H' => H' = H ∧ x = .int (lo + i), fun i _ => n ≤ i⟩
theorem turn_list {P : Program} {w : World} {K : PySem.W.Frag} {tg : Expr} (a it : Addr) : Turn P w K tg (Itl K a) [it] it (fun i h => h.IsListIter it a i) where
  mem := by simp
  obj := fun i h st b hb => by
    have e : b = it := by simpa using hb
    subst e
    obtain ⟨o, e, c, d⟩ := st
    exact ⟨o, e, fun v z => by rw [d] at z; cases z⟩
  keep := fun i h h' st k => st.at fun o e => k it (by simp) o e
  item := by
    intro X hP hw hK hc i pins s σ H E I hf st hg
    subst hP hw hK
    obtain ⟨xs, x, hq, hx⟩ := hg
    obtain ⟨its, rv, p, hz⟩ := I.list hq
    obtain ⟨u, hu, ru⟩ := rv.get hx
    obtain ⟨f0, f1, f2, f3, f4, f5⟩ := hf it (by simp)
    refine wpAny_pyNext_list_item st p.isList (x := u) (by simpa using hu) fun h' st' sb => ?_
    have I1 : Inv X pins σ H { s with heap := h' } := I.turned (t' := s.toks) (fun b o hb e => (sb.2 b hb).trans e) f0 f1 f3 f4 f5
    obtain ⟨o, e, c, d⟩ := id st'
    exact ⟨u, rfl, go_of (s := { s with heap := h' }) e c d (by decide) ⟨x, H, I1, ru, ⟨rfl, fun ys hy => by rw [I.list_inj hy hq]; exact hx⟩, st', fun b hb => (hf b hb).1⟩⟩
  done := by
    intro X hP hw hK hc i pins s σ H E I hf st hg
    subst hP hw hK
    obtain ⟨xs, hq, hx⟩ := hg
    obtain ⟨its, rv, p, hz⟩ := I.list hq
    obtain ⟨f0, f1, f2, f3, f4, f5⟩ := hf it (by simp)
    have hl := rv.length
    exact wpAny_pyNext_list_end (I.ok.hd hc) st p.isList (by simp; omega) fun h' eb => ⟨rfl, I.turned (t' := s.toks) (fun b o hb e => eb b o hb e) f0 f1 f3 f4 f5⟩
  self := fun _ _ _ _ _ st h => wpAny_pyIter_listiter st h
theorem turn_range {P : Program} {w : World} {K : PySem.W.Frag} {tg : Expr} (it : Addr) (lo : Int) (n : Nat) : Turn P w K tg (Itr lo n) [it] it (fun i h => IsRangeIter h it (lo + (i : Nat) * 1) ((n : Int) - (i : Nat)) 1) where
  mem := by simp
  obj := fun i h st b hb => by
    have e : b = it := by simpa using hb
    subst e
    exact ⟨_, st, fun v z => by
      have z' : Data.fields _ = Data.cell v := z
      cases z'⟩
  keep := fun i h h' st k => k it (by simp) _ st
  item := by
    intro X hP hw hK hc i pins s σ H E I hf st hg
    subst hP hw hK
    obtain ⟨f0, f1, f2, f3, f4, f5⟩ := hf it (by simp)
    have W := Walks.range (prog := X.prog) (w := X.w) (I.ok.hd hc) it lo 1 n
    refine W.item i s _ _ hg st fun v h' tk hv st' kk => ?_
    obtain ⟨t, rfl⟩ := hv
    have I1 : Inv X pins σ H { s with heap := h', toks := tk } := I.turned (fun b o hb e => kk b o (by simpa using hb) e) f0 f1 f3 f4 f5
    refine ⟨_, rfl, go_of (s := { s with heap := h', toks := tk }) (n := "range_iterator") st' rfl rfl (by decide) ⟨.int (lo + i), H, I1, ⟨t, ?_⟩, ⟨rfl, rfl⟩, st', fun b hb => (hf b hb).1⟩⟩
    rw [Int.mul_one]
  done := by
    intro X hP hw hK hc i pins s σ H E I hf st hg
    subst hP hw hK
    obtain ⟨f0, f1, f2, f3, f4, f5⟩ := hf it (by simp)
    exact wpAny_pyNext_range_end (I.ok.hd hc) st (by have : n ≤ i := hg; omega) fun h' eb => ⟨rfl, I.turned (t' := s.toks) (fun b o hb e => eb b o hb e) f0 f1 f3 f4 f5⟩
  self := fun _ _ _ _ _ st h => wpAny_pyIter_rangeiter st h
end L2
namespace L2
open PySem PySem.Spec PyProof.Rows
section
variable {X : Cx} {tg : Expr}
def iList (K : PySem.W.Frag) (tl : TE) : TI := fun σ H R => tl σ H fun x H1 => ∃ a, x = .ref a ∧ (∃ xs, SqL K H1 a xs) ∧ R (Itl K a) H1
theorem pi_list {l : Expr} {tl : TE} (hl : PE X l tl) : PI X tg l (iList X.K tl) := by
  intro pins s σ H R I h
  refine thn (hl pins s σ H _ I h) fun v s1 ⟨x, H1, I1, r1, q1⟩ => ?_
  obtain ⟨a, e, ⟨xs, hq⟩, q⟩ := q1
  subst e
  cases r1
  obtain ⟨its, rv, p, hz⟩ := I1.list hq
  refine wpAny_pyIter_list p.isList ?_
  refine ⟨s1.heap.objs.size, [s1.heap.objs.size], _, _, H1, rfl, I1.kept (t' := s1.toks) fun b o e => Heap.get?_push_of_some _ e, turn_list a _, ⟨_, Heap.get?_push_size _ rfl, rfl, rfl⟩, fun b hb => ?_, q⟩
  have e : b = s1.heap.objs.size := by simpa using hb
  subst e
  exact I1.fpOk (Nat.le_refl _) (I1.hok.fresh (Nat.le_refl _))
theorem range_it {pins : List (Addr × Obj)} {σ : St} {H : Hp} {s : Shared} {R : It → Hp → Prop} {E : Value → Shared → Prop} {lo hi : Int} {t u v : Tok} {tk : Nat} (I : Inv X pins σ H s) (h1 : -(2 ^ 62) ≤ lo) (h2 : lo < 2 ^ 62) (h3 : -(2 ^ 62) ≤ hi) (h4 : hi < 2 ^ 62)
    (q : R (Itr lo (hi - lo).toNat) H) : wpAny (model X.prog X.w) X.A (pyIter (.ref s.heap.objs.size)) (PIE X pins σ tg R) E { s with heap := s.heap.push { cls := .type "range", data := .fields #[.int lo t, .int hi u, .int 1 v] }, toks := tk } := by
  refine wpAny_pyIter_range (IsRange.new ..) (small_one h1 h2 h3 h4) ?_
  have I1 : Inv X pins σ H { s with heap := s.heap.push { cls := .type "range", data := .fields #[.int lo t, .int hi u, .int 1 v] }, toks := tk } := I.kept fun b o e => Heap.get?_push_of_some _ e
  refine ⟨(s.heap.push { cls := .type "range", data := .fields #[.int lo t, .int hi u, .int 1 v] }).objs.size, [(s.heap.push { cls := .type "range", data := .fields #[.int lo t, .int hi u, .int 1 v] }).objs.size], _, _, H, rfl,
    I1.kept (t' := tk) fun b o e => Heap.get?_push_of_some _ e, turn_range _ lo (hi - lo).toNat, ?_, fun b hb => ?_, q⟩
  · have e1 : lo + ((0 : Nat) : Int) * 1 = lo := by simp
    have e2 : (((hi - lo).toNat : Nat) : Int) - ((0 : Nat) : Int) = Builtin.Range.rangeSize lo hi 1 := by rw [rangeSize_one]; split <;> omega
    show IsRangeIter _ _ (lo + ((0 : Nat) : Int) * 1) ((((hi - lo).toNat : Nat) : Int) - ((0 : Nat) : Int)) 1
    rw [e1, e2]
    exact Heap.get?_push_size _ rfl
  · have e : b = (s.heap.push { cls := .type "range", data := .fields #[.int lo t, .int hi u, .int 1 v] }).objs.size := by simpa using hb
    subst e
    exact I1.fpOk (Nat.le_refl _) (I1.hok.fresh (Nat.le_refl _))
def iRng1 (ta : TA) : TI := fun σ H R => ta σ H fun vs H1 => ∃ j : Int, vs = [.int j] ∧ -(2 ^ 62) ≤ j ∧ j < 2 ^ 62 ∧ R (Itr 0 j.toNat) H1
def iRng2 (ta : TA) : TI := fun σ H R => ta σ H fun vs H1 => ∃ i j : Int, vs = [.int i, .int j] ∧ (-(2 ^ 62) ≤ i ∧ i < 2 ^ 62 ∧ -(2 ^ 62) ≤ j ∧ j < 2 ^ 62) ∧ R (Itr i (j - i).toNat) H1
theorem pi_range1 {a : Expr} {ta : TA} {p pos : Pos} (hg : Gl X "range") (hm : X.mg "range" = none) (ha : PA X [a] ta) (hs : starEach [a] X.env = [(false, eval a X.env)] := by rfl) : PI X tg (.Call (.Name "range" p) [a] [] pos) (iRng1 ta) := by
  intro pins s σ H R I h
  refine Call_ (ld_blt I hg hm boot_range (PyProof.Rows.callWith_type1 (thn (ha pos pins s σ H _ I h) fun us s1 ⟨vs, H1, I1, r1, q1⟩ => ?_) hs rfl))
  obtain ⟨j, e, q1, q2, q⟩ := q1
  subst e
  cases r1 with
  | cons r rr =>
    cases rr
    obtain ⟨t, rfl⟩ := r
    exact call_range_1 (range_it I1 (by omega) (by omega) q1 q2 (by simpa using q))
def tFor (wi : TI) (g : TG) (tb : TS) : TS := fun D σ H => wi σ H fun J H1 => ∃ W : Nat → Nat → St → Hp → Prop, (∃ m, W 0 m σ H1) ∧ ∀ i m σ H, W i m σ H →
  (J.stop i H ∧ D.nx σ H) ∨ (J.go i H ∧ ∃ N : St → Hp → Prop, (∀ σ' H', N σ' H' → ∃ m', m' < m ∧ W (i + 1) m' σ' H') ∧ ∀ x H', J.yld i H x H' → g x σ H' fun σ2 H2 => tb { D with nx := N, ct := N, bk := D.nx } σ2 H2)
def pinsAt (fp : List Addr) (h : Heap) : List (Addr × Obj) := fp.filterMap fun b => (h.get? b).map fun o => (b, o)
theorem mem_pinsAt {fp : List Addr} {h : Heap} {b : Addr} {o : Obj} (hb : b ∈ fp) (e : h.get? b = some o) : (b, o) ∈ pinsAt fp h := List.mem_filterMap.mpr ⟨b, hb, by rw [e]; rfl⟩
theorem of_pinsAt {fp : List Addr} {h : Heap} {p : Addr × Obj} (hp : p ∈ pinsAt fp h) : p.1 ∈ fp ∧ h.get? p.1 = some p.2 := by
  obtain ⟨b, hb, e⟩ := List.mem_filterMap.mp hp
  cases q : h.get? b with
  | none => rw [q] at e; cases e
  | some o =>
    rw [q] at e
    have e' : (b, o) = p := Option.some.inj e
    subst e'
    exact ⟨hb, q⟩
theorem Inv.pinned {pins : List (Addr × Obj)} {σ : St} {H : Hp} {s : Shared} {fp : List Addr} (I : Inv X pins σ H s) (hf : ∀ b ∈ fp, FpOk X pins H b) (ho : ∀ b ∈ fp, ∃ o, s.heap.get? b = some o ∧ ∀ v, o.data ≠ .cell v) : Inv X (pins ++ pinsAt fp s.heap) σ H s :=
  I.pins_of fun p hp => (List.mem_append.mp hp).elim (fun z => I.pin p (List.mem_append_right _ z)) fun z => by
    obtain ⟨hb, e⟩ := of_pinsAt z
    obtain ⟨f0, f1, f2, _⟩ := hf p.1 hb
    obtain ⟨o, e', d⟩ := ho p.1 hb
    rw [e] at e'; cases e'
    exact ⟨e, f0, f1, f2, d⟩
theorem Inv.unpinned {pins pl : List (Addr × Obj)} {σ : St} {H : Hp} {s : Shared} (I : Inv X (pins ++ pl) σ H s) : Inv X pins σ H s := I.pins_of fun p hp => I.pin p (List.mem_append_right _ (List.mem_append_left _ hp))
theorem ps_for {iter : Expr} {body : List Stmt} {wi : TI} {g : TG} {tb : TS} {pos : Pos} (hp : PassesOwn (model X.prog X.w) X.A X.env X.xe) (hc : X.calm = true) (hi : PI X tg iter wi) (hg : PG X tg g) (hb : PSs X body tb)
    (hs : ∀ x, foldedSetIterable iter X.env x = pure x := by intro _; rfl) : PS X (.For tg iter body [] pos) (tFor wi g tb) := by
  intro pins s σ H D I h
  refine wpAny_For (thn (hi pins s σ H _ I h) fun v s1 h1 => thn h1 fun itv s2 h2 => ?_) hs
  obtain ⟨it, fp, tn, J, H2, e, I2, T, st2, f2, W, ⟨m0, w0⟩, turn⟩ := h2
  subst e
  have stat : ∀ {H' : Hp}, (∀ b ∈ fp, H' b = none) → ∀ b ∈ fp, FpOk X pins H' b := fun hn b hb => ⟨hn b hb, (f2 b hb).2⟩
  refine codeAny_forLoop_any (fun n s' => ∃ i σ' H', Inv X pins σ' H' s' ∧ tn i s'.heap ∧ (∀ b ∈ fp, H' b = none) ∧ W i n σ' H') ?_ m0 ⟨0, σ, H2, I2, st2, fun b hb => (f2 b hb).1, w0⟩
  rintro n s3 ⟨i, σ3, H3, I3, st3, fr3, w3⟩
  rcases turn i n σ3 H3 w3 with ⟨stop, qn⟩ | ⟨go, N, hN, step⟩
  · refine wpAny_passesOwn hp (thn (T.done X rfl rfl rfl hc i pins s3 σ3 H3 X.xe I3 (stat fr3) st3 stop) fun r s4 ⟨hr, I4⟩ => ?_)
    subst hr
    exact wpAny_execs_nil ⟨σ3, H3, I4, qn⟩
  · refine wpAny_passesOwn hp (thn (T.item X rfl rfl rfl hc i pins s3 σ3 H3 X.xe I3 (stat fr3) st3 go) fun r s4 ⟨u, hr, h4⟩ => ?_)
    subst hr
    refine wpAny_passesOwn hp (thn h4 fun _ s5 ⟨x, H5, I5, r5, y5, st5, fr5⟩ => ?_)
    have I5' := I5.pinned (stat fr5) (T.obj _ _ st5)
    refine wpAny_passesOwn hp (thn (hg _ s5 σ3 H5 x u _ I5' r5 (step x H5 y5)) fun _ s6 ⟨σ6, H6, I6, q6⟩ => ?_)
    refine wpAny_passesOwn hp (thn (hb _ s6 σ6 H6 _ I6 q6) fun f s7 q7 => ?_)
    have again : ∀ {σ7 : St} {H7 : Hp}, Inv X (pins ++ pinsAt fp s5.heap) σ7 H7 s7 → N σ7 H7 → ∃ m, m < n ∧ ∃ i σ' H', Inv X pins σ' H' s7 ∧ tn i s7.heap ∧ (∀ b ∈ fp, H' b = none) ∧ W i m σ' H' := fun {σ7 H7} I7 n7 => by
      obtain ⟨m', hm, w7⟩ := hN σ7 H7 n7
      refine ⟨m', hm, i + 1, σ7, H7, I7.unpinned, T.keep _ _ _ st5 fun b hb o e => (I7.pin (b, o) (List.mem_append_right _ (List.mem_append_right _ (mem_pinsAt hb e)))).1, fun b hb => ?_, w7⟩
      obtain ⟨o, e, d⟩ := T.obj _ _ st5 b hb
      exact (I7.pin (b, o) (List.mem_append_right _ (List.mem_append_right _ (mem_pinsAt hb e)))).2.1
    cases f with
    | next => obtain ⟨σ7, H7, I7, n7⟩ := q7; exact again I7 n7
    | cont => obtain ⟨σ7, H7, I7, n7⟩ := q7; exact again I7 n7
    | brk => obtain ⟨σ7, H7, I7, q7⟩ := q7; exact ⟨σ7, H7, I7.unpinned, q7⟩
    | ret v => obtain ⟨x7, σ7, H7, I7, r7, q7⟩ := q7; exact ⟨x7, σ7, H7, I7.unpinned, r7, q7⟩
end
theorem for_list {K : PySem.W.Frag} {a : Addr} {xs : List V} {g : TG} {tb : TS} {D : Ends} {σ : St} {H : Hp} (Pv : Nat → St → Hp → Prop) (h0 : Pv 0 σ H) (hl : ∀ i σ H, i ≤ xs.length → Pv i σ H → SqL K H a xs)
    (hs : ∀ i x σ H, xs[i]? = some x → Pv i σ H → g x σ H fun σ2 H2 => tb { D with nx := Pv (i + 1), ct := Pv (i + 1), bk := D.nx } σ2 H2) (hd : ∀ σ H, Pv xs.length σ H → D.nx σ H) :
    ∃ W : Nat → Nat → St → Hp → Prop, (∃ m, W 0 m σ H) ∧ ∀ i m σ H, W i m σ H →
      ((Itl K a).stop i H ∧ D.nx σ H) ∨ ((Itl K a).go i H ∧ ∃ N : St → Hp → Prop, (∀ σ' H', N σ' H' → ∃ m', m' < m ∧ W (i + 1) m' σ' H') ∧ ∀ x H', (Itl K a).yld i H x H' → g x σ H' fun σ2 H2 => tb { D with nx := N, ct := N, bk := D.nx } σ2 H2) := by
  refine ⟨fun i m σ H => m = xs.length - i ∧ i ≤ xs.length ∧ Pv i σ H, ⟨xs.length, by simp, Nat.zero_le _, h0⟩, ?_⟩
  rintro i m σ H ⟨rfl, hi, p⟩
  have q := hl i σ H hi p
  by_cases hlt : i < xs.length
  · refine .inr ⟨⟨xs, xs[i], q, by simp [hlt]⟩, Pv (i + 1), fun σ' H' p' => ⟨xs.length - (i + 1), by omega, rfl, hlt, p'⟩, fun x H' y => ?_⟩
    obtain ⟨e, y⟩ := y
    subst e
    exact hs i x σ _ (y xs q) p
  · have e : i = xs.length := by omega
    subst e
    exact .inl ⟨⟨xs, q, Nat.le_refl _⟩, hd σ H p⟩
theorem for_range {lo : Int} {n : Nat} {g : TG} {tb : TS} {D : Ends} {σ : St} {H : Hp} (Pv : Nat → St → Hp → Prop) (h0 : Pv 0 σ H)
    (hs : ∀ i σ H, i < n → Pv i σ H → g (.int (lo + i)) σ H fun σ2 H2 => tb { D with nx := Pv (i + 1), ct := Pv (i + 1), bk := D.nx } σ2 H2) (hd : ∀ σ H, Pv n σ H → D.nx σ H) :
    ∃ W : Nat → Nat → St → Hp → Prop, (∃ m, W 0 m σ H) ∧ ∀ i m σ H, W i m σ H →
      ((Itr lo n).stop i H ∧ D.nx σ H) ∨ ((Itr lo n).go i H ∧ ∃ N : St → Hp → Prop, (∀ σ' H', N σ' H' → ∃ m', m' < m ∧ W (i + 1) m' σ' H') ∧ ∀ x H', (Itr lo n).yld i H x H' → g x σ H' fun σ2 H2 => tb { D with nx := N, ct := N, bk := D.nx } σ2 H2) := by
  refine ⟨fun i m σ H => m = n - i ∧ i ≤ n ∧ Pv i σ H, ⟨n, by simp, Nat.zero_le _, h0⟩, ?_⟩
  rintro i m σ H ⟨rfl, hi, p⟩
  by_cases hlt : i < n
  · refine .inr ⟨hlt, Pv (i + 1), fun σ' H' p' => ⟨n - (i + 1), by omega, rfl, hlt, p'⟩, fun x H' y => ?_⟩
    obtain ⟨e, y⟩ := y
    subst e y
    exact hs i σ _ hlt p
  · have e : i = n := by omega
    subst e
    exact .inl ⟨Nat.le_refl _, hd σ H p⟩
end L2
namespace L2
open PySem PySem.Spec PyProof.Rows
abbrev R2 := V → V → Hp → VK → Prop
def OpR (X : Cx) (f : Value → Value → Sem Value) (r : R2) : Prop :=
  ∀ (pins : List (Addr × Obj)) (s : Shared) (σ : St) (H : Hp) (x y : V) (v u : Value) (Q : VK), Inv X pins σ H s → RelV x v → RelV y u → r x y H Q →
    wpAny (model X.prog X.w) X.A (f v u) (EP X pins σ Q) X.xe s
def UnR (X : Cx) (f : Value → Sem Value) (r : V → Hp → VK → Prop) : Prop :=
  ∀ (pins : List (Addr × Obj)) (s : Shared) (σ : St) (H : Hp) (x : V) (v : Value) (Q : VK), Inv X pins σ H s → RelV x v → r x H Q →
    wpAny (model X.prog X.w) X.A (f v) (EP X pins σ Q) X.xe s
def CallR (X : Cx) (f : Value) (r : List V → Hp → VK → Prop) : Prop :=
  ∀ (pins : List (Addr × Obj)) (s : Shared) (σ : St) (H : Hp) (xs : List V) (us : List Value) (Q : VK), Inv X pins σ H s → Vals xs us → r xs H Q →
    wpAny (model X.prog X.w) X.A (call f us) (EP X pins σ Q) X.xe s
def TruR (X : Cx) (r : V → Hp → (Bool → Hp → Prop) → Prop) : Prop :=
  ∀ (pins : List (Addr × Obj)) (s : Shared) (σ : St) (H : Hp) (x : V) (v : Value) (Q : Bool → Hp → Prop), Inv X pins σ H s → RelV x v → r x H Q →
    wpAny (model X.prog X.w) X.A (truthy v) (TP X pins σ Q) X.xe s
def tOp (r : R2) (ta tb : TE) : TE := fun σ H Q => ta σ H fun x H1 => tb σ H1 fun y H2 => r x y H2 Q
def tUn (r : V → Hp → VK → Prop) (ta : TE) : TE := fun σ H Q => ta σ H fun x H1 => r x H1 Q
def rI (C : Int → Int → Prop) (g : Int → Int → V) : R2 := fun x y H Q => ∃ i j, x = .int i ∧ y = .int j ∧ C i j ∧ Q (g i j) H
def rI0 (g : Int → Int → V) : R2 := fun x y H Q => ∃ i j, x = .int i ∧ y = .int j ∧ Q (g i j) H
def rU (g : Int → V) : V → Hp → VK → Prop := fun x H Q => ∃ i, x = .int i ∧ Q (g i) H
section
variable {X : Cx} {a b c : Expr} {ta tb tc : TE} {pos : Pos}
theorem binT (ha : PE X a ta) (hb : PE X b tb) {pins : List (Addr × Obj)} {s : Shared} {σ : St} {H : Hp} {R : V → V → Hp → Prop} (I : Inv X pins σ H s)
    (h : ta σ H fun x H1 => tb σ H1 fun y H2 => R x y H2) {Q : Value → Shared → Prop} {f : Value → Value → Sem Value}
    (hf : ∀ v u s2 x y H2, Inv X pins σ H2 s2 → RelV x v → RelV y u → R x y H2 → wpAny (model X.prog X.w) X.A (f v u) Q X.xe s2) :
    wpAny (model X.prog X.w) X.A (eval a X.env) (fun v s₁ => wpAny (model X.prog X.w) X.A (eval b X.env) (fun u s₂ => wpAny (model X.prog X.w) X.A (f v u) Q X.xe s₂) X.xe s₁) X.xe s := by
  refine thn (ha pins s σ H _ I h) fun v s1 ⟨x, H1, I1, r1, q1⟩ => ?_
  refine thn (hb pins s1 σ H1 _ I1 q1) fun u s2 ⟨y, H2, I2, r2, q2⟩ => ?_
  exact hf v u s2 x y H2 I2 r1 r2 q2
theorem pe_op {op : Operator} {r : R2} (ho : OpR X (binaryOp op) r) (ha : PE X a ta) (hb : PE X b tb) : PE X (.BinOp a op b pos) (tOp r ta tb) := by
  intro pins s σ H Q I h
  exact wpAny_BinOp (binT ha hb I h fun v u s2 x y H2 I2 rx ry q => ho pins s2 σ H2 x y v u Q I2 rx ry q)
theorem pe_un {op : UnaryOp} {r : V → Hp → VK → Prop} (ho : UnR X (unaryOp op) r) (ha : PE X a ta) : PE X (.UnaryOp op a pos) (tUn r ta) := by
  intro pins s σ H Q I h
  exact UnaryOp_ (thn (ha pins s σ H _ I h) fun v s1 ⟨x, H1, I1, r1, q1⟩ => ho pins s1 σ H1 x v Q I1 r1 q1)
theorem opI {f : Value → Value → Sem Value} {C : Int → Int → Prop} {g : Int → Int → Int}
    (rule : ∀ (i j : Int) (t u : Tok) (s : Shared) (Q : Value → Shared → Prop) (E : Value → Shared → Prop), C i j → Q (.int (g i j) s.toks) { s with toks := s.toks + 1 } → wpAny (model X.prog X.w) X.A (f (.int i t) (.int j u)) Q E s) :
    OpR X f (rI C fun i j => .int (g i j)) := by
  intro pins s σ H x y v u Q I rx ry h
  obtain ⟨i, j, rfl, rfl, hc, q⟩ := h
  obtain ⟨t, rfl⟩ := rx
  obtain ⟨t', rfl⟩ := ry
  exact rule i j t t' s _ _ hc ⟨.int (g i j), H, I.tok _, ⟨_, rfl⟩, q⟩
theorem opI0 {f : Value → Value → Sem Value} {g : Int → Int → Int}
    (rule : ∀ (i j : Int) (t u : Tok) (s : Shared) (Q : Value → Shared → Prop) (E : Value → Shared → Prop), Q (.int (g i j) s.toks) { s with toks := s.toks + 1 } → wpAny (model X.prog X.w) X.A (f (.int i t) (.int j u)) Q E s) :
    OpR X f (rI0 fun i j => .int (g i j)) := by
  intro pins s σ H x y v u Q I rx ry h
  obtain ⟨i, j, rfl, rfl, q⟩ := h
  obtain ⟨t, rfl⟩ := rx
  obtain ⟨t', rfl⟩ := ry
  exact rule i j t t' s _ _ ⟨.int (g i j), H, I.tok _, ⟨_, rfl⟩, q⟩
theorem opB0 {f : Value → Value → Sem Value} {g : Int → Int → Bool}
    (rule : ∀ (i j : Int) (t u : Tok) (s : Shared) (Q : Value → Shared → Prop) (E : Value → Shared → Prop), Q (.bool (g i j)) s → wpAny (model X.prog X.w) X.A (f (.int i t) (.int j u)) Q E s) :
    OpR X f (rI0 fun i j => .bl (g i j)) := by
  intro pins s σ H x y v u Q I rx ry h
  obtain ⟨i, j, rfl, rfl, q⟩ := h
  obtain ⟨t, rfl⟩ := rx
  obtain ⟨t', rfl⟩ := ry
  exact rule i j t t' s _ _ ⟨.bl (g i j), H, I, rfl, q⟩
def CMul (i j : Int) : Prop := (-(2 ^ 64) < i ∧ i < 2 ^ 64) ∨ (-(2 ^ 64) < j ∧ j < 2 ^ 64)
theorem CMul.ok {i j : Int} (h : CMul i j) : IntMulOk i j := by
  rcases h with ⟨h1, h2⟩ | ⟨h1, h2⟩
  · exact .of_left (intBits_le_64 h1 h2)
  · exact .of_right (intBits_le_64 h1 h2)
theorem op_add : OpR X (binaryOp .Add) (rI0 fun i j => .int (i + j)) := opI0 fun _ _ _ _ _ _ _ q => add_int q
theorem op_sub : OpR X (binaryOp .Sub) (rI0 fun i j => .int (i - j)) := opI0 fun _ _ _ _ _ _ _ q => sub_int q
theorem op_mul : OpR X (binaryOp .Mult) (rI CMul fun i j => .int (i * j)) := opI fun _ _ _ _ _ _ _ hc q => mul_int q hc.ok
theorem op_mod : OpR X (binaryOp .Mod) (rI (fun _ j => 0 < j) fun i j => .int (i % j)) := opI fun i j _ _ _ _ _ hc q => by
  have h1 : (0 : Int) < j := hc
  exact mod_int' (by omega) (by rw [Int.fmod_eq_emod_of_nonneg i (by omega)]; exact q)
theorem unI {f : Value → Sem Value} {g : Int → Int}
    (rule : ∀ (i : Int) (t : Tok) (s : Shared) (Q : Value → Shared → Prop) (E : Value → Shared → Prop), Q (.int (g i) s.toks) { s with toks := s.toks + 1 } → wpAny (model X.prog X.w) X.A (f (.int i t)) Q E s) :
    UnR X f (rU fun i => .int (g i)) := by
  intro pins s σ H x v Q I rx h
  obtain ⟨i, rfl, q⟩ := h
  obtain ⟨t, rfl⟩ := rx
  exact rule i t s _ _ ⟨.int (g i), H, I.tok _, ⟨_, rfl⟩, q⟩
theorem un_neg : UnR X (unaryOp .USub) (rU fun i => .int (-i)) := unI fun _ _ _ _ _ q => neg_int q
end
def scal : V → V → Bool
  | .non, .non => true | .non, .int _ => true | .int _, .non => true | .non, .bl _ => true | .bl _, .non => true | .non, .str _ => true | .str _, .non => true
  | .int _, .int _ => true | .bl _, .bl _ => true | .str _, .str _ => true | .byt _, .byt _ => true
  | .int _, .str _ => true | .str _, .int _ => true | .bl _, .str _ => true | .str _, .bl _ => true
  | _, _ => false
def rEq : R2 := fun x y H Q => scal x y = true ∧ Q (.bl (decide (x = y))) H
def rNe : R2 := fun x y H Q => scal x y = true ∧ Q (.bl (!decide (x = y))) H
theorem dec_int {i j : Int} : decide (V.int i = V.int j) = (i == j) := by
  rw [Bool.eq_iff_iff]
  simp
theorem dec_bl {i j : Bool} : decide (V.bl i = V.bl j) = (i == j) := by
  rw [Bool.eq_iff_iff]
  simp
theorem dec_str {i j : Str} : decide (V.str i = V.str j) = (i == j) := by
  rw [Bool.eq_iff_iff]
  simp
theorem dec_byt {i j : Array UInt8} : decide (V.byt i = V.byt j) = (i.toList == j.toList) := by
  rw [Bool.eq_iff_iff]
  cases i
  cases j
  simp
section
variable {X : Cx} {a b c : Expr} {ta tb tc : TE} {pos : Pos}
theorem fin_bl {pins : List (Addr × Obj)} {σ : St} {H : Hp} {s : Shared} {Q : VK} {k k' : Bool} (I : Inv X pins σ H s) (q : Q (.bl k) H) (e : k = k') : EP X pins σ Q (.bool k') s := by
  subst e
  exact ⟨.bl k, H, I, rfl, q⟩
theorem op_eq : OpR X (compareOp .Eq) rEq := by
  intro pins s σ H x y v u Q I rx ry h
  obtain ⟨hs, q⟩ := h
  cases x with
  | non =>
    cases rx
    cases y with
    | non => cases ry; exact PySem.EqNone.eq_none_none (fin_bl I q (by simp))
    | bl j => cases ry; exact PySem.EqNone.eq_none_bool (fin_bl I q (by simp))
    | int j => obtain ⟨t', rfl⟩ := ry; exact PySem.EqNone.eq_none_int (fin_bl I q (by simp))
    | str j => obtain ⟨t', rfl⟩ := ry; exact PySem.EqNone.eq_none_str (fin_bl I q (by simp))
    | _ => exact absurd (show false = true from hs) Bool.false_ne_true
  | bl i =>
    cases rx
    cases y with
    | non => cases ry; exact PySem.EqNone.eq_bool_none (fin_bl I q (by simp))
    | bl j => cases ry; exact eq_bool (fin_bl I q dec_bl)
    | str j => obtain ⟨t', rfl⟩ := ry; exact PySem.EqMixed.eq_bool_str (fin_bl I q (by simp))
    | _ => exact absurd (show false = true from hs) Bool.false_ne_true
  | int i =>
    obtain ⟨t, rfl⟩ := rx
    cases y with
    | non => cases ry; exact PySem.EqNone.eq_int_none (fin_bl I q (by simp))
    | int j => obtain ⟨t', rfl⟩ := ry; exact eq_int (fin_bl I q dec_int)
    | str j => obtain ⟨t', rfl⟩ := ry; exact PySem.EqMixed.eq_int_str (fin_bl I q (by simp))
    | _ => exact absurd (show false = true from hs) Bool.false_ne_true
  | str i =>
    obtain ⟨t, rfl⟩ := rx
    cases y with
    | non => cases ry; exact PySem.EqNone.eq_str_none (fin_bl I q (by simp))
    | bl j => cases ry; exact PySem.EqMixed.eq_str_bool (fin_bl I q (by simp))
    | int j => obtain ⟨t', rfl⟩ := ry; exact PySem.EqMixed.eq_str_int (fin_bl I q (by simp))
    | str j => obtain ⟨t', rfl⟩ := ry; exact eq_str (fin_bl I q dec_str)
    | _ => exact absurd (show false = true from hs) Bool.false_ne_true
  | byt i =>
    obtain ⟨t, rfl⟩ := rx
    cases y with
    | byt j => obtain ⟨t', rfl⟩ := ry; exact PySem.W.eq_bytes (fin_bl I q dec_byt)
    | _ => exact absurd (show false = true from hs) Bool.false_ne_true
  | _ => cases y <;> exact absurd (show false = true from hs) Bool.false_ne_true
theorem op_lt : OpR X (compareOp .Lt) (rI0 fun i j => .bl (decide (i < j))) := opB0 fun _ _ _ _ _ _ _ q => lt_int q
theorem op_gt : OpR X (compareOp .Gt) (rI0 fun i j => .bl (decide (j < i))) := opB0 fun _ _ _ _ _ _ _ q => gt_int q
theorem op_ge : OpR X (compareOp .GtE) (rI0 fun i j => .bl (decide (j ≤ i))) := opB0 fun _ _ _ _ _ _ _ q => ge_int q
theorem nomark (b : Expr) {op : CmpOp} (h : op ≠ .In := by decide) (h2 : op ≠ .NotIn := by decide) : behindInMarks op b = false := by
  have e1 : (op == CmpOp.In) = false := by cases op <;> first | rfl | exact absurd rfl h
  have e2 : (op == CmpOp.NotIn) = false := by cases op <;> first | rfl | exact absurd rfl h2
  cases b <;> simp [behindInMarks, e1, e2]
theorem pe_cmpR {op : CmpOp} {r : R2} (ho : OpR X (compareOp op) r) (ha : PE X a ta) (hb : PE X b tb) (hm : behindInMarks op b = false) : PE X (.Compare a [op] [b] pos) (tOp r ta tb) := by
  intro pins s σ H Q I h
  exact wpAny_Compare1 (binT ha hb I h fun v u s2 x y H2 I2 rx ry q => ho pins s2 σ H2 x y v u Q I2 rx ry q) hm
def tTest (t : TE) : TT := fun σ H Q => t σ H fun x H' => ∃ k, x = .bl k ∧ Q k H'
theorem pt_cmpR {op : CmpOp} {r : R2} (ho : OpR X (compareOp op) r) (ha : PE X a ta) (hb : PE X b tb) (hm : behindInMarks op b = false) : PT X (.Compare a [op] [b] pos) (tTest (tOp r ta tb)) := by
  intro pins s σ H Q I h
  refine wpAny_isTrue_Compare1 (thn (ha pins s σ H _ I h) fun v s1 ⟨x, H1, I1, r1, q1⟩ => thn (hb pins s1 σ H1 _ I1 q1) fun u s2 ⟨y, H2, I2, r2, q2⟩ =>
    thn (ho pins s2 σ H2 x y v u _ I2 r1 r2 q2) fun c s3 ⟨z, H3, I3, r3, k, e, q3⟩ => ?_) hm
  subst e
  cases r3
  exact wpAny_truthy_bool ⟨H3, I3, q3⟩
def TruV (K : PySem.W.Frag) (x : V) (H : Hp) (k : Bool) : Prop :=
  match x with
  | .non => k = false
  | .bl b => k = b
  | .int i => k = (i != 0)
  | .str y => y.length ≤ sizeLine ∧ k = ((y.length : Int) != 0)
  | .byt y => y.size ≤ sizeLine ∧ k = ((y.size : Int) != 0)
  | .ref p => (∃ xs, SqL K H p xs ∧ k = !xs.isEmpty) ∨ (∃ xs, SqT K H p xs ∧ k = !xs.isEmpty) ∨ ∃ kvs, H p = some (.dK kvs) ∧ k = !kvs.isEmpty
  | _ => False
theorem isEmpty_kv {κ : Type} {kvs : List (κ × V)} {vs : List (κ × Value)} (r : KV kvs vs) : (!vs.isEmpty) = !kvs.isEmpty := by
  cases r <;> rfl
theorem isEmpty_of {xs : List V} {its : List Value} (r : Vals xs its) : (!its.toArray.isEmpty) = !xs.isEmpty := by
  cases r <;> simp
theorem line63 : (sizeLine : Nat) < 2 ^ 63 := by rw [sizeLine_eq]; decide
theorem tru_ok : TruR X (fun x H Q => ∃ k, TruV X.K x H k ∧ Q k H) := by
  intro pins s σ H x v Q I rx h
  obtain ⟨k, e, q⟩ := h
  have hl := line63
  have hs : sizeLine = 16777216 := sizeLine_eq
  cases x with
  | non =>
    cases rx
    have e' : k = false := e
    subst e'
    exact truthy_none ⟨H, I, q⟩
  | bl b =>
    cases rx
    have e' : k = b := e
    subst e'
    exact wpAny_truthy_bool ⟨H, I, q⟩
  | int i =>
    obtain ⟨t, rfl⟩ := rx
    have e' : k = (i != 0) := e
    subst e'
    exact PySem.P.truthy_int ⟨H, I, q⟩
  | str y =>
    obtain ⟨t, rfl⟩ := rx
    obtain ⟨hy, e'⟩ : y.length ≤ sizeLine ∧ k = ((y.length : Int) != 0) := e
    subst e'
    exact PySem.P.truthy_str (by omega) ⟨H, I.tok _, q⟩
  | byt y =>
    obtain ⟨t, rfl⟩ := rx
    obtain ⟨hy, e'⟩ : y.size ≤ sizeLine ∧ k = ((y.size : Int) != 0) := e
    subst e'
    exact PySem.W.truthy_bytes (by omega) ⟨H, I.tok _, q⟩
  | ref p =>
    cases rx
    have e' : (∃ xs, SqL X.K H p xs ∧ k = !xs.isEmpty) ∨ (∃ xs, SqT X.K H p xs ∧ k = !xs.isEmpty) ∨ ∃ kvs, H p = some (.dK kvs) ∧ k = !kvs.isEmpty := e
    rcases e' with ⟨xs, hx, e'⟩ | ⟨xs, hx, e'⟩ | ⟨kvs, hx, e'⟩
    · subst e'
      obtain ⟨its, r, pl, hz⟩ := I.list hx
      have hlen := r.length
      exact wpAny_truthy_list pl.isList (by simp only [List.size_toArray]; omega) ⟨H, I.tok _, by rw [isEmpty_of r]; exact q⟩
    · subst e'
      obtain ⟨its, r, pl, hz⟩ := I.tuple hx
      have hlen := r.length
      exact truthy_tuple pl (by simp only [List.size_toArray]; omega) ⟨H, I.tok _, by rw [isEmpty_of r]; exact q⟩
    · subst e'
      obtain ⟨hz, hS, vs, r, m⟩ : kvs.length ≤ sizeLine ∧ (p == sysModules) = false ∧ ∃ vs, KV kvs vs ∧ s.heap.DictOf (mixKind X.prog X.w) p vs := I.hok p _ hx
      have hlen : kvs.length = vs.length := Paired.length r
      exact wpAny_truthy_dict hS m (by omega) ⟨H, I.tok _, by rw [isEmpty_kv r]; exact q⟩
  | _ => exact (show False from e).elim
theorem pt_truth (ha : PE X a ta) (he : ∀ whole, isTrue a X.env whole = (do let v ← whole; standAt a.pos; holding [v] (truthy v))) :
    PT X a (fun σ H Q => ta σ H fun x H' => ∃ k, TruV X.K x H' k ∧ Q k H') := by
  intro pins s σ H Q I h
  exact isTrue_plain (thn (ha pins s σ H _ I h) fun v s1 ⟨x, H1, I1, r1, q1⟩ => tru_ok pins s1 σ H1 x v Q I1 r1 q1) (he _)
theorem vals1 {x : V} {us : List Value} (r : Vals [x] us) : ∃ u, us = [u] ∧ RelV x u := by
  cases r with
  | cons r1 r2 => cases r2; exact ⟨_, rfl, r1⟩
theorem vals2 {x y : V} {us : List Value} (r : Vals [x, y] us) : ∃ u w', us = [u, w'] ∧ RelV x u ∧ RelV y w' := by
  cases r with
  | cons r1 r2 =>
    cases r2 with
    | cons r3 r4 => cases r4; exact ⟨_, _, rfl, r1, r3⟩
theorem call_max2 (hc : X.calm = true) : CallR X (.builtin "max") (fun xs H Q => ∃ i j, xs = [.int i, .int j] ∧ Q (.int (if j > i then j else i)) H) := by
  intro pins s σ H xs us Q I r h
  obtain ⟨i, j, rfl, q⟩ := h
  obtain ⟨u, w', rfl, ⟨t, rfl⟩, ⟨t', rfl⟩⟩ := vals2 r
  refine max_two_ints (I.ok.hd hc) fun h' tk k => ⟨_, H, I.kept k, ?_, q⟩
  by_cases hj : j > i
  · rw [if_pos hj, if_pos hj]; exact ⟨_, rfl⟩
  · rw [if_neg hj, if_neg hj]; exact ⟨_, rfl⟩
theorem call_min2 (hc : X.calm = true) : CallR X (.builtin "min") (fun xs H Q => ∃ i j, xs = [.int i, .int j] ∧ Q (.int (if j < i then j else i)) H) := by
  intro pins s σ H xs us Q I r h
  obtain ⟨i, j, rfl, q⟩ := h
  obtain ⟨u, w', rfl, ⟨t, rfl⟩, ⟨t', rfl⟩⟩ := vals2 r
  refine min_two_ints (I.ok.hd hc) fun h' tk k => ⟨_, H, I.kept k, ?_, q⟩
  by_cases hj : j < i
  · rw [if_pos hj, if_pos hj]; exact ⟨_, rfl⟩
  · rw [if_neg hj, if_neg hj]; exact ⟨_, rfl⟩
end
end L2
namespace L2
open PySem PySem.Spec PyProof.Rows
structure ObjM (h : Heap) (x dx C : Addr) (mA : Str → Option Value) : Prop where
  obj : h.get? x = some (PySem.W.instObj C dx)
  ns : h.Ns1 dx mA
  ne : dx ≠ x
theorem lookIn_ns {h : Heap} {dx : Addr} {mA : Str → Option Value} (n : h.Ns1 dx mA) : ∃ od, h.get? dx = some od ∧ ∀ name, PySem.W.lookIn name od = some (mA name) := by
  obtain ⟨o, es, ep, ho, hd, hk, _, hm⟩ := n
  refine ⟨o, ho, fun name => ?_⟩
  have e := hm name
  unfold nsFind findBy at e
  rw [← Array.find?_toList] at e
  unfold PySem.W.lookIn
  rw [hd]
  dsimp only
  split
  · rename_i y q
    rw [q] at e
    exact congrArg some e
  · rename_i q
    rw [q] at e
    have a : es.toList.any (·.refKey) = false := by
      rw [List.any_eq_false]
      intro y hy
      obtain ⟨z, t, hkey⟩ := hk y (Array.mem_toList_iff.mp hy)
      simp [DictEntry.refKey, hkey]
    have a' : ¬ es.toList.any (·.refKey) = true := by rw [a]; exact Bool.false_ne_true
    rw [if_neg a']
    exact congrArg some e
theorem ObjM.look {h : Heap} {x dx C : Addr} {mA : Str → Option Value} (I : ObjM h x dx C mA) : ∃ od, PySem.W.InstAt h x (PySem.W.instObj C dx) C (some od) ∧ ∀ name, PySem.W.lookIn name od = some (mA name) :=
  let ⟨od, ho, hl⟩ := lookIn_ns I.ns
  ⟨od, ⟨I.obj, rfl, rfl, ho⟩, hl⟩
section
variable {prog : Program} {w : World} {A : Around} {E : Value → Shared → Prop} {s : Shared} {K : PySem.W.Frag} {x dx C f : Addr} {mA : Str → Option Value} {name : Str} {v : Value}
theorem get_map {expr : Bool} {Q : Value → Shared → Prop} (X : K.In s.heap) (I : ObjM s.heap x dx C mA) (hg : PySem.W.plainGet K C name = true) (hh : PySem.W.hasDictIn K C = true)
    (ha : PySem.W.findIn K (.ref C) name = some none) (hv : mA name = some v) (hv' : PySem.W.handedIn v = true) (h : Q v { s with toks := s.toks + 1 }) :
    wpAny (model prog w) A (getAttr (.ref x) name expr) Q E s := by
  obtain ⟨od, J, hl⟩ := I.look
  exact PySem.W.get_value X J (PySem.W.plainGet_of hg).1 (PySem.W.findObj_own hh ha rfl (by rw [hl, hv])) hv' h
theorem get_meth {pl : Sem Bool} {Q : Value × List Value → Shared → Prop} (X : K.In s.heap) (I : ObjM s.heap x dx C mA) (hg : PySem.W.plainGet K C name = true)
    (hf : PySem.W.findIn K (.ref C) name = some (some (.ref f))) (ht : PySem.W.isFn K (.ref f) = true) (hv : mA name = none) (h : Q (.ref f, [.ref x]) s) :
    wpAny (model prog w) A (getMethod (.ref x) name pl) Q E s := by
  obtain ⟨od, J, hl⟩ := I.look
  exact PySem.W.method_fn X J (PySem.W.plainGet_of hg).1 (PySem.W.plainGet_of hg).2 hf (beq_iff_eq.mp ht) (by show (PySem.W.lookIn name od).map (·.isSome) = some false; rw [hl, hv]; rfl) h
theorem set_map {ns : List Str} {Q : Unit → Shared → Prop} (X : K.In s.heap) (I : ObjM s.heap x dx C mA)
    (hs : PySem.W.findIn K (.ref C) "__setattr__" = some (some (.builtin "object.__setattr__"))) (hp : PySem.W.plainOver K C = true) (ht : PySem.W.takerIn K C name = some none) (hh : PySem.W.hasDictIn K C = true)
    (hw : PySem.Within mA ns) (hsz : ns.length ≤ sizeLine)
    (h : ∀ h', ObjM h' x dx C (fun y => if y = name then some v else mA y) → Heap.SameBut dx s.heap h' → Q () { s with heap := h', toks := s.toks + 2 }) :
    wpAny (model prog w) A (setAttr (.ref x) name v) Q E s := by
  obtain ⟨od, J, hl⟩ := I.look
  refine PySem.W.set_plain X J hs (PySem.W.osa_open (s := { s with toks := s.toks + 1 }) (r := none) X J hp ht fun b => ?_)
  obtain ⟨cd, hc, hd'⟩ := PySem.W.any_some hh
  have hx : s.heap.get? x = some ⟨.ref C, some dx, .plain, #[]⟩ := I.obj
  refine wpAny_bind (wpAny_pure (wpAny_bind (wpAny_bind (wpAny_loadPart hx (wpAny_bind (PySem.W.Looks.here (s := { s with toks := s.toks + 1 }) (PySem.W.looks_clsIn X hc) ?_))))))
  rw [hd']
  refine wpAny_pure (a := some dx) (wpAny_bind (wpAny_pure (wpAny_bind ?_)))
  refine wpAny_nsSet1 (s := { s with toks := s.toks + 1 }) I.ns fun h' hn2 hs2 => ?_
  obtain ⟨oD, esD, epD, hoD, hdD, hcD⟩ := hn2.count (PySem.Within.cons name v hw)
  refine wpAny_bind (wpAny_lookBehind hoD (by rw [hdD]; exact pastItsLine_dict (Nat.le_trans hcD (by rw [List.length_cons]; omega))) ?_)
  exact wpAny_pure (h _ ⟨(hs2.2 _ (Ne.symm I.ne)).trans I.obj, hn2, I.ne⟩ hs2)
theorem make_map {R : Result → Shared → Prop} {vs : List Value} {kw : List (Str × Value)} (X : K.In s.heap) (hm : PySem.W.makesIn K C = true)
    (hi : PySem.W.findIn K (.ref C) "__init__" = some (some (.ref f))) (hf : PySem.W.typeIn K (.ref f) = some (.type "function"))
    (h : codeAny (model prog w) (A.under (.builtin "type.__call__" ⟨.ref C :: vs, kw⟩)) (.call (.ref f) ⟨.ref (s.heap.objs.size + 1) :: vs, kw⟩) (PySem.W.InitBack (s.heap.objs.size + 1) R)
      { s with heap := (s.heap.push PySem.W.emptyDict).push (PySem.W.instObj C s.heap.objs.size) }) :
    codeAny (model prog w) A (.call (.ref C) ⟨vs, kw⟩) R s := by
  obtain ⟨hh, g, d, t, os⟩ := s
  exact PySem.W.make_core (PySem.W.makes_of X hm) (PySem.W.looks_findIn X hi) (fun self => PySem.W.bind_fn X self hf) (.inl rfl) h
end
def putF (f : Str) (v : V) : List (Str × V) → List (Str × V)
  | [] => [(f, v)]
  | (g, x) :: r => if g = f then (g, v) :: r else (g, x) :: putF f v r
theorem lookup_putF (f g : Str) (v : V) : ∀ fs : List (Str × V), (putF f v fs).lookup g = if g = f then some v else fs.lookup g
  | [] => by
    show List.lookup g [(f, v)] = _
    by_cases h : g = f
    · have hb : (g == f) = true := beq_iff_eq.mpr h
      simp only [List.lookup, hb, if_pos h]
    · have hb : (g == f) = false := beq_eq_false_iff_ne.mpr h
      simp only [List.lookup, hb, if_neg h]
  | (k, x) :: r => by
    have ih := lookup_putF f g v r
    rw [show putF f v ((k, x) :: r) = (if k = f then (k, v) :: r else (k, x) :: putF f v r) from rfl]
    by_cases hk : k = f
    · rw [if_pos hk]
      by_cases h : g = k
      · have hb : (g == k) = true := beq_iff_eq.mpr h
        simp only [List.lookup, hb, if_pos (h.trans hk)]
      · have hb : (g == k) = false := beq_eq_false_iff_ne.mpr h
        simp only [List.lookup, hb, if_neg (fun e : g = f => h (e.trans hk.symm))]
    · rw [if_neg hk]
      by_cases h : g = k
      · have hb : (g == k) = true := beq_iff_eq.mpr h
        simp only [List.lookup, hb, if_neg (fun e : g = f => hk (h.symm.trans e))]
      · have hb : (g == k) = false := beq_eq_false_iff_ne.mpr h
        simp only [List.lookup, hb]
        exact ih
theorem keys_putF (f : Str) (v : V) : ∀ fs : List (Str × V), f ∈ (putF f v fs).map (·.1) ∧ ∀ g, g ∈ fs.map (·.1) → g ∈ (putF f v fs).map (·.1)
  | [] => ⟨by simp [putF], fun g h => by simp at h⟩
  | (k, x) :: r => by
    obtain ⟨i1, i2⟩ := keys_putF f v r
    rw [show putF f v ((k, x) :: r) = (if k = f then (k, v) :: r else (k, x) :: putF f v r) from rfl]
    by_cases hk : k = f
    · rw [if_pos hk]
      subst hk
      exact ⟨by simp, fun g h => by simpa using h⟩
    · rw [if_neg hk]
      refine ⟨?_, fun g h => ?_⟩
      · rw [List.map_cons]
        exact List.mem_cons_of_mem _ i1
      · rw [List.map_cons] at h ⊢
        rcases List.mem_cons.mp h with e | e
        · exact List.mem_cons.mpr (.inl e)
        · exact List.mem_cons_of_mem _ (i2 g e)
theorem length_putF (f : Str) (v : V) : ∀ fs : List (Str × V), (putF f v fs).length ≤ fs.length + 1
  | [] => by simp [putF]
  | (k, x) :: r => by
    have ih := length_putF f v r
    rw [show putF f v ((k, x) :: r) = (if k = f then (k, v) :: r else (k, x) :: putF f v r) from rfl]
    by_cases hk : k = f
    · rw [if_pos hk, List.length_cons, List.length_cons]; omega
    · rw [if_neg hk, List.length_cons, List.length_cons]; omega
theorem RelO.some_of {v : V} {o : Option Value} (r : RelO (some v) o) : ∃ u, o = some u ∧ RelV v u := by
  cases o with
  | none => exact (show False from r).elim
  | some u => exact ⟨u, rfl, r⟩
theorem RelO.none_of {o : Option Value} (r : RelO none o) : o = none := by
  cases o with
  | none => rfl
  | some u => exact (show False from r).elim
theorem handed_of {v : V} {u : Value} (r : RelV v u) : PySem.W.handedIn u = true := by
  cases v with
  | non => cases (show u = Value.none from r); rfl
  | bl b => cases (show u = Value.bool b from r); rfl
  | int i => obtain ⟨t, e⟩ := (show ∃ t, u = Value.int i t from r); cases e; rfl
  | str x => obtain ⟨t, e⟩ := (show ∃ t, u = Value.str x t from r); cases e; rfl
  | byt b => obtain ⟨t, e⟩ := (show ∃ t, u = Value.bytes b t from r); cases e; rfl
  | flt b => obtain ⟨t, e⟩ := (show ∃ t, u = Value.float b t from r); cases e; rfl
  | ref a => cases (show u = Value.ref a from r); rfl
  | ty n => cases (show u = Value.type n from r); rfl
section
variable {P : Program} {w : World} {H H' : Hp} {h h' : Heap} {a C dx : Addr} {fs fs' : List (Str × V)}
theorem ins_get (hok : HOk P w H h) (e : H a = some (.ins C dx fs)) : ∃ mA, ObjM h a dx C mA ∧ (∀ f, RelO (fs.lookup f) (mA f)) ∧ PySem.Within mA (fs.map (·.1)) ∧ fs.length ≤ 1000 ∧ H dx = some (.own a) := by
  obtain ⟨d, z, ne, ob, mA, n, r, q⟩ := (show ObjOk P w H h a (.ins C dx fs) from hok a _ e)
  exact ⟨mA, ⟨ob, n, ne⟩, r, q, z, d⟩
end
structure Cls (K : PySem.W.Frag) (C : Addr) : Prop where
  pg : PySem.W.plainGet K C Str.empty = true
  hd : PySem.W.hasDictIn K C = true
  po : PySem.W.plainOver K C = true
  sa : PySem.W.findIn K (.ref C) "__setattr__" = some (some (.builtin "object.__setattr__"))
theorem Cls.get {K : PySem.W.Frag} {C : Addr} (c : Cls K C) (f : Str) : PySem.W.plainGet K C f = true := c.pg
def NoAttr (K : PySem.W.Frag) (C : Addr) (f : Str) : Prop := PySem.W.findIn K (.ref C) f = some none
theorem NoAttr.taker {K : PySem.W.Frag} {C : Addr} {f : Str} (n : NoAttr K C f) : PySem.W.takerIn K C f = some none := by
  unfold PySem.W.takerIn
  rw [show PySem.W.findIn K (.ref C) f = some none from n]
  rfl
structure Meth (K : PySem.W.Frag) (C : Addr) (m : Str) (f : Addr) : Prop where
  at_ : PySem.W.findIn K (.ref C) m = some (some (.ref f))
  fn : PySem.W.isFn K (.ref f) = true
  kp : PySem.W.keepIn K (.ref f) = true
section
variable {X : Cx} {pins : List (Addr × Obj)} {σ : St} {H : Hp} {s : Shared} {a C dx : Addr} {fs : List (Str × V)} {f : Str} {v : V} {A : Around} {E : Value → Shared → Prop}
theorem getattr_ok {b : Bool} {Q : Value → Shared → Prop} (I : Inv X pins σ H s) (e : H a = some (.ins C dx fs)) (c : Cls X.K C) (n : NoAttr X.K C f) (l : fs.lookup f = some v)
    (h : ∀ u s', Inv X pins σ H s' → RelV v u → Q u s') : wpAny (model X.prog X.w) A (getAttr (.ref a) f b) Q E s := by
  obtain ⟨mA, O, r, _, _, _⟩ := ins_get I.hok e
  obtain ⟨u, hu, ru⟩ := RelO.some_of (v := v) (o := mA f) (by rw [← l]; exact r f)
  exact get_map I.kIn O (c.get f) c.hd n hu (handed_of ru) (h u _ (I.tok _) ru)
theorem getmeth_ok {m : Str} {g : Addr} {pl : Sem Bool} {Q : Value × List Value → Shared → Prop} (I : Inv X pins σ H s) (e : H a = some (.ins C dx fs)) (c : Cls X.K C) (k : Meth X.K C m g) (l : fs.lookup m = none)
    (h : Q (.ref g, [.ref a]) s) : wpAny (model X.prog X.w) A (getMethod (.ref a) m pl) Q E s := by
  obtain ⟨mA, O, r, _, _, _⟩ := ins_get I.hok e
  have hn : mA m = none := RelO.none_of (by rw [← l]; exact r m)
  exact get_meth I.kIn O (c.get m) k.at_ k.fn hn h
theorem setattr_ok {y : V} {u : Value} {Q : Unit → Shared → Prop} (I : Inv X pins σ H s) (e : H a = some (.ins C dx fs)) (c : Cls X.K C) (n : NoAttr X.K C f) (hl : fs.length < 1000) (ry : RelV y u)
    (h : ∀ s', Inv X pins σ (upd H a (.ins C dx (putF f y fs))) s' → Q () s') : wpAny (model X.prog X.w) A (setAttr (.ref a) f u) Q E s := by
  obtain ⟨mA, O, r, wi, _, ho⟩ := ins_get I.hok e
  have hz : (fs.map (·.1)).length ≤ sizeLine := by rw [List.length_map, sizeLine_eq]; omega
  refine set_map I.kIn O c.sa c.po n.taker c.hd wi hz fun h' O' sb => h _ ?_
  have hd : ∃ o, h'.get? dx = some o := let ⟨o, _, _, e', _⟩ := O'.ns; ⟨o, e'⟩
  refine I.write (x := a) (e := dx) (by rw [e]; exact True.intro) (.inr ho) (fun b q hb z => (sb.2 b hb).trans z) hd ?_
  refine ⟨by rw [upd_ne O.ne]; exact ho, ?_, O.ne, O'.obj, _, O'.ns, fun g => ?_, fun g hg => ?_⟩
  · have := length_putF f y fs; omega
  · show RelO ((putF f y fs).lookup g) (if g = f then some u else mA g)
    rw [lookup_putF]
    by_cases q : g = f
    · rw [if_pos q, if_pos q]; exact ry
    · rw [if_neg q, if_neg q]; exact r g
  · by_cases q : g = f
    · rw [q]; exact (keys_putF f y fs).1
    · refine (keys_putF f y fs).2 g (wi g fun z => hg ?_)
      show (if g = f then some u else mA g) = none
      rw [if_neg q]; exact z
theorem Inv.made (I : Inv X pins σ H s) : Inv X pins σ (upd (upd H s.heap.objs.size (.own (s.heap.objs.size + 1))) (s.heap.objs.size + 1) (.ins C s.heap.objs.size []))
    { s with heap := (s.heap.push PySem.W.emptyDict).push (PySem.W.instObj C s.heap.objs.size) } := by
  have e1 : (s.heap.push PySem.W.emptyDict).get? s.heap.objs.size = some PySem.W.emptyDict := Heap.get?_push_size s.heap rfl
  have e2 : ((s.heap.push PySem.W.emptyDict).push (PySem.W.instObj C s.heap.objs.size)).get? (s.heap.objs.size + 1) = some (PySem.W.instObj C s.heap.objs.size) := by
    have := Heap.get?_push_size (s.heap.push PySem.W.emptyDict) (o := PySem.W.instObj C s.heap.objs.size) rfl
    rwa [Heap.size_push] at this
  have e3 : (s.heap.push PySem.W.emptyDict).Ns s.heap.objs.size (fun _ => none) := ⟨PySem.W.emptyDict, #[], _, e1, rfl, (fun e he => absurd he (by simp)), fun _ => rfl⟩
  have I1 := I.laid (a := s.heap.objs.size) (o := .own (s.heap.objs.size + 1)) (h' := s.heap.push PySem.W.emptyDict) (t' := s.toks) (fun b u q => Heap.get?_push_of_some _ q) (Nat.le_refl _) ⟨_, e1⟩
  refine I1.laid (a := s.heap.objs.size + 1) (o := .ins C s.heap.objs.size []) (t' := s.toks) (fun b u q => Heap.get?_push_of_some _ q) (Nat.le_of_eq (Heap.size_push _ _)) ?_
  have ne : s.heap.objs.size ≠ s.heap.objs.size + 1 := Nat.ne_of_lt (Nat.lt_succ_self _)
  refine ⟨by rw [upd_ne ne, upd_same], Nat.zero_le _, ne, e2, fun _ => none, (Heap.Ns1.of_empty e3).at fun o q => Heap.get?_push_of_some _ q, fun _ => True.intro, fun y hy => absurd rfl hy⟩
theorem attr_of {prog : Program} {w : World} {env : Env} {e : Expr} {f : Str} {pos : Pos} {s : Shared} {Q : Value → Shared → Prop} (hb : attributeBase e f env (eval e env) = eval e env)
    (h : wpAny (model prog w) A (eval e env) (fun o s₁ => wpAny (model prog w) A (getAttr o f true) Q E s₁) E s) : wpAny (model prog w) A (eval (.Attribute e f pos) env) Q E s :=
  Attribute_any_ h (by rw [arm_eval_Attribute, hb])
end
def tFld (K : PySem.W.Frag) (ta : TE) (f : Str) : TE := fun σ H Q => ta σ H fun x H1 => ∃ a C dx fs v, x = .ref a ∧ H1 a = some (.ins C dx fs) ∧ Cls K C ∧ NoAttr K C f ∧ fs.lookup f = some v ∧ Q v H1
def sFld (K : PySem.W.Frag) (ta tv : TE) (f : Str) : TS := fun D σ H => tv σ H fun y H1 => ta σ H1 fun x H2 => ∃ a C dx fs, x = .ref a ∧ H2 a = some (.ins C dx fs) ∧ Cls K C ∧ NoAttr K C f ∧ fs.length < 1000 ∧
  D.nx σ (upd H2 a (.ins C dx (putF f y fs)))
section
variable {X : Cx} {o e value : Expr} {f : Str} {pos pos' tpos : Pos} {ta tv : TE}
theorem pe_fld (he : PE X e ta) (hb : attributeBase e f X.env (eval e X.env) = eval e X.env) : PE X (.Attribute e f pos) (tFld X.K ta f) := by
  intro pins s σ H Q I h
  refine attr_of hb (thn (he pins s σ H _ I h) fun u s1 ⟨x, H1, I1, rx, a, C, dx, fs, v, ex, ea, c, n, l, q⟩ => ?_)
  subst ex
  obtain rfl : u = Value.ref a := rx
  exact getattr_ok I1 ea c n l fun u' s2 I2 ru => ⟨v, H1, I2, ru, q⟩
theorem ps_fld (ha : PE X o ta) (hv : PE X value tv) (hs : swapsWith value (some (.Attribute o f pos')) pos.line X.env = pure false) : PS X (.Assign [.Attribute o f pos'] value pos) (sFld X.K ta tv f) := by
  intro pins s σ H D I h
  refine plainObj_wpAny_Assign_Attribute (thn (hv pins s σ H _ I h) fun u s1 ⟨y, H1, I1, ry, q⟩ => thn (ha pins s1 σ H1 _ I1 q) fun ov s2 ⟨x, H2, I2, rx, a, C, dx, fs, ex, ea, c, n, l, q2⟩ => ?_) hs
  subst ex
  obtain rfl : ov = Value.ref a := rx
  exact setattr_ok I2 ea c n l ry fun s3 I3 => ⟨σ, _, I3, q2⟩
end
section
variable {X : Cx} {pins : List (Addr × Obj)} {σ : St} {H : Hp} {s : Shared} {A : Around} {E : Value → Shared → Prop} {Q : Value → Shared → Prop} {c : Value} {b : Bool}
end
end L2
namespace L2
open PySem PySem.Spec PyProof.Rows
structure Room (k : Nat) (A : Around) : Prop where
  hd : A.handled = none
  dp : A.depth + 3 * k + 5 < recursionLimit
  un : A.units + 16 * k + 200 < cLine
theorem Room.mono {j k : Nat} {A : Around} (r : Room k A) (h : j ≤ k) : Room j A := ⟨r.hd, by have := r.dp; omega, by have := r.un; omega⟩
theorem Room.deeper {k : Nat} {A : Around} (r : Room (k + 1) A) (env : Env) : Room k (A.deeper env) :=
  ⟨r.hd, by have := r.dp; show A.depth + 1 + 3 * k + 5 < _; omega, by have := r.un; show A.units + 3 + 16 * k + 200 < _; omega⟩
theorem Room.in1 {k : Nat} {A : Around} (r : Room (k + 1) A) : Room k A.in1 :=
  ⟨r.hd, by have := r.dp; show A.depth + 3 * k + 5 < _; omega, by have := r.un; show A.units + 1 + 16 * k + 200 < _; omega⟩
theorem make_depth {A : Around} {C : Addr} {us : List Value} {kw : List (Str × Value)} : (A.under (.builtin "type.__call__" ⟨.ref C :: us, kw⟩)).depth = A.depth + 1 := by
  first | rfl | simp [Around.under, Code.weight, Code.isCreation, Code.isGuard, Code.isCaller, Code.frames, Code.isFrame, guardIds]
theorem make_units {A : Around} {C : Addr} {us : List Value} {kw : List (Str × Value)} : (A.under (.builtin "type.__call__" ⟨.ref C :: us, kw⟩)).units = A.units + 1 := by
  first | rfl | simp [Around.under, Code.cUnits, Code.frames, Code.isFrame]
theorem Room.make {k : Nat} {A : Around} (r : Room (k + 1) A) (C : Addr) (us : List Value) (kw : List (Str × Value)) : Room k (A.under (.builtin "type.__call__" ⟨.ref C :: us, kw⟩)) :=
  ⟨r.hd, by have := r.dp; rw [make_depth]; omega, by have := r.un; rw [make_units]; omega⟩
theorem Room.depth {k : Nat} {A : Around} (r : Room k A) : A.depth < recursionLimit := by have := r.dp; omega
theorem Room.units {k : Nat} {A : Around} (r : Room k A) : A.units + 64 < cLine := by have := r.un; omega
def tNil : TA := fun _ H Q => Q [] H
def tCons (ta : TE) (tr : TA) : TA := fun σ H Q => ta σ H fun x H1 => tr σ H1 fun xs H2 => Q (x :: xs) H2
section
variable {X : Cx} {e : Expr} {es : List Expr} {te : TE} {t : TA} {pos : Pos}
theorem pa_nil : PA X [] tNil := fun _ _ _ _ H Q I h => Calls.spliced_nil ⟨[], H, I, .nil, h⟩
theorem pa_cons (ha : PE X e te) (hr : PA X es t) (hs : starEach (e :: es) X.env = (false, eval e X.env) :: starEach es X.env := by rfl) : PA X (e :: es) (tCons te t) := by
  intro pos pins s σ H Q I h
  rw [hs]
  show wpAny _ _ (spliced ((false, eval e X.env) :: backTo pos (starEach es X.env))) _ _ s
  refine Calls.spliced_cons (thn (ha pins s σ H _ I h) fun u s1 ⟨x, H1, I1, r1, q1⟩ => ?_)
  exact thn (hr pos pins s1 σ H1 _ I1 q1) fun us s2 ⟨xs, H2, I2, r2, q2⟩ => ⟨x :: xs, H2, I2, .cons r1 r2, q2⟩
def tTup (t : TA) : TE := fun σ H Q => t σ H fun xs H1 => xs.length ≤ sizeLine ∧ ∀ p, H1 p = none → Q (.ref p) (upd H1 p (.tup xs))
def tLst (t : TA) : TE := fun σ H Q => t σ H fun xs H1 => xs.length ≤ sizeLine ∧ ∀ p, H1 p = none → Q (.ref p) (upd H1 p (.lst xs))
theorem pe_tup {x1} (h : PA X es t) : PE X (.Tuple es x1 pos) (tTup t) := by
  intro pins s σ H Q I hq
  refine wpAny_Tuple_spliced (thn (h pos pins s σ H _ I hq) fun us s1 ⟨xs, H1, I1, r, z, q⟩ => ⟨by rw [← r.length]; exact z, ?_⟩)
  have hf : H1 s1.heap.objs.size = none := I1.hok.fresh (Nat.le_refl _)
  refine ⟨.ref s1.heap.objs.size, upd H1 s1.heap.objs.size (.tup xs), I1.laid (t' := s1.toks) (fun b u e => Heap.get?_push_of_some _ e) (Nat.le_refl _) ?_, rfl, q _ hf⟩
  exact ⟨z, us, r, ⟨_, Heap.get?_push_size _ rfl, rfl, _, rfl⟩⟩
theorem pe_lst (h : PA X es t) : PE X (.List es pos) (tLst t) := by
  intro pins s σ H Q I hq
  refine wpAny_List_spliced (thn (h pos pins s σ H _ I hq) fun us s1 ⟨xs, H1, I1, r, z, q⟩ => ⟨by rw [← r.length]; exact z, ?_⟩)
  have hf : H1 s1.heap.objs.size = none := I1.hok.fresh (Nat.le_refl _)
  refine ⟨.ref s1.heap.objs.size, upd H1 s1.heap.objs.size (.lst xs), I1.laid (t' := s1.toks) (fun b u e => Heap.get?_push_of_some _ e) (Nat.le_refl _) ?_, rfl, q _ hf⟩
  exact ⟨z, us, 0, r, Heap.get?_push_size _ rfl⟩
end
abbrev Sp := List V → Hp → VK → XK → Prop
abbrev CXT := List Env → Hp → Shared → XK → Value → Shared → Prop
structure Env0 (P : Program) (w : World) (K : PySem.W.Frag) (mg : Str → Option Value) (base : Heap) (A : Around) (outer : List Env) (s : Shared) (H : Hp) : Prop where
  frames : A.frames = some outer
  mod : Mod K mg base
  bs : ∀ b o, base.get? b = some o → s.heap.get? b = some o ∧ H b = none
  bsz : base.objs.size ≤ s.heap.objs.size
  funs : s.heap.FunFrames base outer
  frf : ∀ b ∈ frs outer, H b = none
  hok : HOk P w H s.heap
  bare : AllBare s.gens
def CE (outer : List Env) (P : Program) (w : World) (H : Hp) (s : Shared) (Q : VK) (u : Value) (s' : Shared) : Prop :=
  ∃ v H', s'.os = s.os ∧ AllBare s'.gens ∧ Un (frs outer) [] H H' s.heap s'.heap ∧ HOk P w H' s'.heap ∧ RelV v u ∧ Q v H'
def CR (CX : CXT) (outer : List Env) (P : Program) (w : World) (H : Hp) (s : Shared) (Q : VK) (E : XK) (r : Result) (s' : Shared) : Prop :=
  match r with
  | .ok (.ret u) => CE outer P w H s Q u s'
  | .ok _ => False
  | .error e => CX outer H s E e s'
structure FnOk (P : Program) (w : World) (K : PySem.W.Frag) (mg : Str → Option Value) (base : Heap) (CX : CXT) (k : Nat) (f : Addr) (fd : FuncData) (ps : List Str) (sp : Sp) : Prop where
  len : ∀ vs H Q E, sp vs H Q E → vs.length = ps.length
  run : ∀ (A : Around) (outer : List Env) (s : Shared) (H : Hp) (args : Args) (us : List Value) (vs : List V) (Q : VK) (E : XK), Room k A → Env0 P w K mg base A outer s H → BindsTo s fd args (ps.zip us) → Vals vs us → sp vs H Q E →
    codeAny (model P w) A (.call (.ref f) args) (CR CX outer P w H s Q E) s
theorem FnOk.mono {P : Program} {w : World} {K : PySem.W.Frag} {mg : Str → Option Value} {base : Heap} {CX : CXT} {j k : Nat} {f : Addr} {fd : FuncData} {ps : List Str} {sp : Sp} (F : FnOk P w K mg base CX j f fd ps sp) (h : j ≤ k) :
    FnOk P w K mg base CX k f fd ps sp := ⟨F.len, fun A outer s H args us vs Q E hr => F.run A outer s H args us vs Q E (hr.mono h)⟩
theorem FnOk.imp {P : Program} {w : World} {K : PySem.W.Frag} {mg : Str → Option Value} {base : Heap} {CX : CXT} {k : Nat} {f : Addr} {fd : FuncData} {ps : List Str} {sp sp' : Sp} (F : FnOk P w K mg base CX k f fd ps sp)
    (h : ∀ vs H Q E, sp' vs H Q E → sp vs H Q E) : FnOk P w K mg base CX k f fd ps sp' :=
  ⟨fun vs H Q E q => F.len vs H Q E (h _ _ _ _ q), fun A outer s H args us vs Q E hr he hb hv hs => F.run A outer s H args us vs Q E hr he hb hv (h _ _ _ _ hs)⟩
theorem Env0.make {P : Program} {w : World} {K : PySem.W.Frag} {mg : Str → Option Value} {base : Heap} {A : Around} {outer : List Env} {s : Shared} {H : Hp} (e : Env0 P w K mg base A outer s H) (C : Addr) (us : List Value) (kw : List (Str × Value)) :
    Env0 P w K mg base (A.under (.builtin "type.__call__" ⟨.ref C :: us, kw⟩)) outer s H := ⟨by first | exact e.frames | (simpa [Around.under, Code.envs, Code.isFrame, pushEnvs] using e.frames), e.mod, e.bs, e.bsz, e.funs, e.frf, e.hok, e.bare⟩
theorem Env0.in1 {P : Program} {w : World} {K : PySem.W.Frag} {mg : Str → Option Value} {base : Heap} {A : Around} {outer : List Env} {s : Shared} {H : Hp} (e : Env0 P w K mg base A outer s H) :
    Env0 P w K mg base A.in1 outer s H := ⟨e.frames, e.mod, e.bs, e.bsz, e.funs, e.frf, e.hok, e.bare⟩
section
variable {X : Cx} {pins : List (Addr × Obj)} {σ : St} {H : Hp} {s s' : Shared}
theorem Inv.env0 (I : Inv X pins σ H s) : Env0 X.prog X.w X.K X.mg X.base X.A X.stack s H :=
  ⟨I.ok.frames, I.ok.mod, I.bs, Nat.le_trans I.ok.bsz I.sz, I.stack, I.stkFree, I.hok, I.bare⟩
theorem Inv.after {Q : VK} {u : Value} (I : Inv X pins σ H s) (h : CE X.stack X.prog X.w H s Q u s') : EP X pins σ Q u s' := by
  obtain ⟨v, H', os, bare, un, hok, r, q⟩ := h
  obtain ⟨hh, g, d, t, os'⟩ := s'
  obtain rfl : os' = s.os := os
  exact ⟨v, H', I.call (h' := hh) (g' := g) (d' := d) (t' := t) (ch := []) un hok bare (fun b z => absurd z (by simp)), r, q⟩
end
def tCall (sp : Sp) (dvs : List V) (E : XK) (t : TA) : TE := fun σ H Q => t σ H fun vs H1 => sp (vs ++ dvs) H1 Q E
def tMeth (C : Addr) (m : Str) (sp : Sp) (dvs : List V) (E : XK) (ta : TE) (t : TA) : TE := fun σ H Q => ta σ H fun x H1 => ∃ a dx fs, x = .ref a ∧ H1 a = some (.ins C dx fs) ∧ fs.lookup m = none ∧
  t σ H1 fun vs H2 => sp (x :: (vs ++ dvs)) H2 Q E
def tMake (C : Addr) (sp : Sp) (dvs : List V) (E : XK) (t : TA) : TE := fun σ H Q => t σ H fun vs H1 => ∀ x dx, H1 x = none → H1 dx = none → dx ≠ x →
  sp (.ref x :: (vs ++ dvs)) (upd (upd H1 dx (.own x)) x (.ins C dx [])) (fun v H2 => v = .non ∧ Q (.ref x) H2) E
def Binds (K : PySem.W.Frag) (fd : FuncData) (ps : List Str) (ds : List Value) : Prop :=
  ∀ (s : Shared) (us : List Value), K.In s.heap → (us ++ ds).length = ps.length → BindsTo s fd ⟨us, []⟩ (ps.zip (us ++ ds))
theorem Binds.all {K : PySem.W.Frag} {fd : FuncData} {ps : List Str} (h : ∀ us : List Value, us.length = ps.length → bindArgs fd ⟨us, []⟩ = pure (ps.zip us)) : Binds K fd ps [] := fun s us _ hl => by
  rw [List.append_nil] at hl ⊢
  exact .of_eq (h us hl)
def Passes (CX : CXT) (X : Cx) (E : XK) : Prop := ∀ (pins : List (Addr × Obj)) (σ : St) (H : Hp) (s : Shared) (e : Value) (s' : Shared), Inv X pins σ H s → CX X.stack H s E e s' → X.xe e s'
section
variable {X : Cx} {CX : CXT} {k : Nat} {f C : Addr} {fd : FuncData} {ps : List Str} {sp : Sp} {dvs : List V} {ds : List Value} {E : XK} {x m : Str} {p pos apos : Pos} {e o : Expr} {es : List Expr} {ta : TE} {t : TA}
theorem run_fn {pins : List (Addr × Obj)} {σ : St} {H : Hp} {s : Shared} {Q : VK} {us : List Value} {vs : List V} (F : FnOk X.prog X.w X.K X.mg X.base CX k f fd ps sp) (hr : Room k X.A) (hb : Binds X.K fd ps ds) (hd : Vals dvs ds) (hx : Passes CX X E)
    (I : Inv X pins σ H s) (r : Vals vs us) (h : sp (vs ++ dvs) H Q E) : wpAny (model X.prog X.w) X.A (call (.ref f) us) (EP X pins σ Q) X.xe s := by
  have r2 : Vals (vs ++ dvs) (us ++ ds) := r.append hd
  have hl : (us ++ ds).length = ps.length := by rw [← r2.length]; exact F.len _ _ _ _ h
  refine wpAny_call (codeAny_mono (F.run X.A X.stack s H ⟨us, []⟩ (us ++ ds) (vs ++ dvs) Q E hr I.env0 (hb s us I.kIn hl) r2 h) fun r s' hq => ?_)
  cases r with
  | error e => exact hx pins σ H s e s' I hq
  | ok fl =>
    cases fl with
    | ret u => exact I.after hq
    | next => exact False.elim hq
    | brk => exact False.elim hq
    | cont => exact False.elim hq
theorem pe_call (F : FnOk X.prog X.w X.K X.mg X.base CX k f fd ps sp) (hr : Room k X.A) (hg : Gl X x) (hm : X.mg x = some (.ref f)) (hk : PySem.W.keepIn X.K (.ref f) = true) (hb : Binds X.K fd ps ds) (hd : Vals dvs ds) (hx : Passes CX X E)
    (ha : PA X (e :: es) t) (hdb : (x == ("__debug__" : Str)) = false := by decide) (he : starEach (e :: es) X.env = (false, eval e X.env) :: starEach es X.env := by rfl) (hpl : (backTo pos (starEach es X.env)).any (·.1) = false := by rfl) :
    PE X (.Call (.Name x p) (e :: es) [] pos) (tCall sp dvs E t) := by
  intro pins s σ H Q I h
  refine wpAny_Call_Name_kw (ld_glob I hg hm ?_ hdb)
  refine PySem.W.callWith_K (h₀ := X.base) I.ok.mod.kin hk (thn (ha pos pins s σ H _ I h) fun us s1 ⟨vs, H1, I1, r, q⟩ => ⟨I1.kIn, ?_⟩) he hpl
  exact run_fn F hr hb hd hx I1 r q
theorem pe_meth {pl : Sem Bool} (he : PE X o ta) (c : Cls X.K C) (hm : Meth X.K C m f) (F : FnOk X.prog X.w X.K X.mg X.base CX k f fd ps sp) (hr : Room k X.A) (hb : Binds X.K fd ps ds) (hd : Vals dvs ds) (hx : Passes CX X E) (ha : PA X (e :: es) t)
    (hst : starEach (e :: es) X.env = (false, eval e X.env) :: starEach es X.env := by rfl) (hpl : (backTo pos (starEach es X.env)).any (·.1) = false := by rfl)
    (ht : eval (.Call (.Attribute o m apos) (e :: es) [] pos) X.env = (do
      let ov ← eval o X.env
      standAt apos.atName
      let (f, first) ← holding [ov] (getMethod ov m pl)
      callWith pos f first (backTo pos (starEach (e :: es) X.env)) (backToKw pos (keywordEach [] X.env))) := by rfl) :
    PE X (.Call (.Attribute o m apos) (e :: es) [] pos) (tMeth C m sp dvs E ta t) := by
  intro pins s σ H Q I h
  refine PySem.W.methodCall_KW (pl := pl) (thn (he pins s σ H _ I h) fun u s1 ⟨x, H1, I1, rx, a, dx, fs, ex, ea, l, q⟩ => ?_) ht
  subst ex
  obtain rfl : u = Value.ref a := rx
  refine getmeth_ok I1 ea c hm l ?_
  refine PySem.W.callWith_K (first := [.ref a]) (h₀ := X.base) I.ok.mod.kin hm.kp (thn (ha pos pins s1 σ H1 _ I1 q) fun us s2 ⟨vs, H2, I2, r, q2⟩ => ⟨I2.kIn, ?_⟩) hst hpl
  exact run_fn (us := .ref a :: us) (vs := .ref a :: vs) F hr hb hd hx I2 (.cons rfl r) q2
structure Mk (K : PySem.W.Frag) (C f : Addr) : Prop where
  makes : PySem.W.makesIn K C = true
  init : PySem.W.findIn K (.ref C) "__init__" = some (some (.ref f))
  fn : PySem.W.isFn K (.ref f) = true
  kp : PySem.W.keepIn K (.ref C) = true
theorem run_make {pins : List (Addr × Obj)} {σ : St} {H : Hp} {s : Shared} {Q : VK} {us : List Value} {vs : List V} (M : Mk X.K C f) (F : FnOk X.prog X.w X.K X.mg X.base CX k f fd ps sp) (hr : Room (k + 1) X.A) (hb : Binds X.K fd ps ds) (hd : Vals dvs ds)
    (hx : Passes CX X E) (I : Inv X pins σ H s) (r : Vals vs us)
    (h : ∀ x dx, H x = none → H dx = none → dx ≠ x → sp (.ref x :: (vs ++ dvs)) (upd (upd H dx (.own x)) x (.ins C dx [])) (fun v H2 => v = .non ∧ Q (.ref x) H2) E) :
    wpAny (model X.prog X.w) X.A (call (.ref C) us) (EP X pins σ Q) X.xe s := by
  have hq := h (s.heap.objs.size + 1) s.heap.objs.size (I.hok.fresh (Nat.le_succ _)) (I.hok.fresh (Nat.le_refl _)) (Nat.ne_of_lt (Nat.lt_succ_self _))
  have I2 := Inv.made (C := C) I
  have r2 : Vals (V.ref (s.heap.objs.size + 1) :: (vs ++ dvs)) (Value.ref (s.heap.objs.size + 1) :: (us ++ ds)) := .cons rfl (r.append hd)
  have hl : (Value.ref (s.heap.objs.size + 1) :: us ++ ds).length = ps.length := by
    have e := r2.length
    rw [F.len _ _ _ _ hq] at e
    exact e.symm
  refine wpAny_call (make_map (f := f) I.kIn M.makes M.init (beq_iff_eq.mp M.fn) (codeAny_mono (F.run _ X.stack _ _ ⟨Value.ref (s.heap.objs.size + 1) :: us, []⟩ (Value.ref (s.heap.objs.size + 1) :: (us ++ ds)) _ _ E (hr.make C us [])
    (I2.env0.make C us []) (hb _ (Value.ref (s.heap.objs.size + 1) :: us) I2.kIn hl) r2 hq) fun r s' hq' => ?_))
  cases r with
  | error e => exact hx pins σ _ _ e s' I2 hq'
  | ok fl =>
    cases fl with
    | ret u =>
      obtain ⟨v, H', I3, rv, ev, q3⟩ := I2.after hq'
      subst ev
      exact ⟨rv, ⟨V.ref (s.heap.objs.size + 1), H', I3, rfl, q3⟩⟩
    | next => exact False.elim hq'
    | brk => exact False.elim hq'
    | cont => exact False.elim hq'
theorem pe_make (M : Mk X.K C f) (F : FnOk X.prog X.w X.K X.mg X.base CX k f fd ps sp) (hr : Room (k + 1) X.A) (hg : Gl X x) (hm : X.mg x = some (.ref C)) (hb : Binds X.K fd ps ds) (hd : Vals dvs ds) (hx : Passes CX X E)
    (ha : PA X (e :: es) t) (hdb : (x == ("__debug__" : Str)) = false := by decide) (he : starEach (e :: es) X.env = (false, eval e X.env) :: starEach es X.env := by rfl) (hpl : (backTo pos (starEach es X.env)).any (·.1) = false := by rfl) :
    PE X (.Call (.Name x p) (e :: es) [] pos) (tMake C sp dvs E t) := by
  intro pins s σ H Q I h
  refine wpAny_Call_Name_kw (ld_glob I hg hm ?_ hdb)
  refine PySem.W.callWith_K (h₀ := X.base) I.ok.mod.kin M.kp (thn (ha pos pins s σ H _ I h) fun us s1 ⟨vs, H1, I1, r, q⟩ => ⟨I1.kIn, ?_⟩) he hpl
  exact run_make M F hr hb hd hx I1 r q
theorem pe_make0 (M : Mk X.K C f) (F : FnOk X.prog X.w X.K X.mg X.base CX k f fd ps sp) (hr : Room (k + 1) X.A) (hg : Gl X x) (hm : X.mg x = some (.ref C)) (hb : Binds X.K fd ps ds) (hd : Vals dvs ds) (hx : Passes CX X E)
    (hdb : (x == ("__debug__" : Str)) = false := by decide) : PE X (.Call (.Name x p) [] [] pos) (tMake C sp dvs E tNil) := by
  intro pins s σ H Q I h
  refine wpAny_Call_Name_kw (ld_glob I hg hm ?_ hdb)
  exact PySem.W.callWith_K0 I.kIn M.kp (run_make (us := []) M F hr hb hd hx I .nil h)
end
section
variable {X : Cx} {CX : CXT} {k : Nat} {f C : Addr} {fd : FuncData} {ps ks : List Str} {sp : Sp} {E : XK} {x m : Str} {p pos apos kpos : Pos} {e o : Expr} {es : List Expr} {kws : List Keyword} {te ta : TE} {t tk : TA} {nm : Option Str}
variable {g : List Value → List Value → List Value} {gV : List V → List V → List V}
end
structure FnScope (N P : List Str) (sc : Scope) : Prop where
  kind : sc.kind = .function
  co : sc.isCoroutine = false
  gen : sc.isGenerator = false
  nd : N.Nodup
  pre : N.take P.length = P
  par : ∀ x ∈ P, sc.names.lookup x = some .local ∨ sc.names.lookup x = some .cell
  nofree : ∀ y ∈ sc.names, y.2 ≠ .free
theorem bindL_out {kindOf : Str → Option NameKind} {x : Str} : ∀ {binds : List (Str × Value)} {m : Str → Option Value}, (∀ v, (x, v) ∉ binds) → bindL kindOf binds m x = m x
  | [], _, _ => rfl
  | (n, v) :: r, m, h => by
    unfold bindL
    rw [bindL_out fun w hw => h w (List.mem_cons_of_mem _ hw)]
    split
    · have : x ≠ n := by rintro rfl; exact h v List.mem_cons_self
      simp [this]
    · rfl
theorem bindC_out {kindOf : Str → Option NameKind} {x : Str} : ∀ {binds : List (Str × Value)} {m : Str → Option Value}, (∀ v, (x, v) ∉ binds) → bindC kindOf binds m x = m x
  | [], _, _ => rfl
  | (n, v) :: r, m, h => by
    unfold bindC
    rw [bindC_out fun w hw => h w (List.mem_cons_of_mem _ hw)]
    split
    · rfl
    · have : x ≠ n := by rintro rfl; exact h v List.mem_cons_self
      simp [this]
theorem bindL_get {kindOf : Str → Option NameKind} {x : Str} {v : Value} : ∀ {P : List Str} {vs : List Value} {i : Nat} {m : Str → Option Value}, P.Nodup → P[i]? = some x → vs[i]? = some v → kindOf x = some .local →
    bindL kindOf (P.zip vs) m x = some v
  | [], _, _, _, _, h, _, _ => by simp at h
  | _ :: _, [], _, _, _, _, h, _ => by simp at h
  | p :: P, w :: vs, 0, m, nd, h1, h2, hk => by
    simp at h1 h2; subst h1; subst h2
    show bindL kindOf ((p, w) :: P.zip vs) m p = _
    unfold bindL
    rw [bindL_out fun v hv => (List.nodup_cons.mp nd).1 (List.of_mem_zip hv).1, if_pos hk]
    simp
  | p :: P, w :: vs, i + 1, m, nd, h1, h2, hk => by
    show bindL kindOf ((p, w) :: P.zip vs) m x = _
    unfold bindL
    exact bindL_get (i := i) (List.nodup_cons.mp nd).2 (by simpa using h1) (by simpa using h2) hk
theorem bindC_get {kindOf : Str → Option NameKind} {x : Str} {v : Value} : ∀ {P : List Str} {vs : List Value} {i : Nat} {m : Str → Option Value}, P.Nodup → P[i]? = some x → vs[i]? = some v → kindOf x ≠ some .local →
    bindC kindOf (P.zip vs) m x = some v
  | [], _, _, _, _, h, _, _ => by simp at h
  | _ :: _, [], _, _, _, _, h, _ => by simp at h
  | p :: P, w :: vs, 0, m, nd, h1, h2, hk => by
    simp at h1 h2; subst h1; subst h2
    show bindC kindOf ((p, w) :: P.zip vs) m p = _
    unfold bindC
    rw [bindC_out fun v hv => (List.nodup_cons.mp nd).1 (List.of_mem_zip hv).1, if_neg hk]
    simp
  | p :: P, w :: vs, i + 1, m, nd, h1, h2, hk => by
    show bindC kindOf ((p, w) :: P.zip vs) m x = _
    unfold bindC
    exact bindC_get (i := i) (List.nodup_cons.mp nd).2 (by simpa using h1) (by simpa using h2) hk
def start (N : List Str) (vs : List V) : St := vs.map some ++ List.replicate (N.length - vs.length) none
def cxOf (CX : CXT) (P : Program) (w : World) (K : PySem.W.Frag) (mg : Str → Option Value) (base : Heap) (N : List Str) (qual : Str) (scope : Scope) (f : Addr) (cd : Value) (A : Around) (outer : List Env) (s : Shared) (H : Hp) (E : XK) : Cx where
  prog := P
  w := w
  K := K
  mg := mg
  base := base
  A := A.deeper (envOfC qual scope s.heap.objs.size f cd)
  N := N
  s_0 := s
  H_0 := H
  env := envOfC qual scope s.heap.objs.size f cd
  outer := outer
  stack := envOfC qual scope s.heap.objs.size f cd :: outer
  ex := []
  calm := true
  fn := fun _ => true
  pn := []
  xe := fun e s' => wpAny (model P w) (A.deeper (envOfC qual scope s.heap.objs.size f cd)) (leaving (envOfC qual scope s.heap.objs.size f cd) e) (fun _ s'' => CX outer H s E e s'') (fun e' s'' => CX outer H s E e' s'') s'
theorem cell_has {sc : Scope} {n : Nat} {x : Str} (h : sc.names.lookup x = some .cell) : ∃ c, (cellsFrom n sc.names []).lookup x = some c := by
  have q := PySem.W.cellsFrom_some sc.names n [] (.inl h)
  exact Option.isSome_iff_exists.mp q
theorem inv_start {CX : CXT} {P : Program} {w : World} {K : PySem.W.Frag} {mg : Str → Option Value} {base : Heap} {N ps : List Str} {qual : Str} {scope : Scope} {f : Addr} {cd : Value} {A : Around} {outer : List Env} {s s1 : Shared} {H : Hp} {E : XK} {us : List Value} {vs : List V}
    (S : FnScope N ps scope) (hd : A.handled = none) (e0 : Env0 P w K mg base A outer s H) (hl : vs.length = ps.length) (r : Vals vs us)
    (x : InCallC s s.heap.objs.size (bindL (envOfC qual scope s.heap.objs.size f cd).kindOf (ps.zip us) fun _ => none) (cellsFrom (s.heap.objs.size + 1) scope.names []) (bindC (envOfC qual scope s.heap.objs.size f cd).kindOf (ps.zip us) fun _ => none) s1) :
    Inv (cxOf CX P w K mg base N qual scope f cd A outer s H E) [] (start N vs) H s1 := by
  have hpl : ps.length ≤ N.length := by have := congrArg List.length S.pre; rw [List.length_take] at this; omega
  obtain ⟨h1, tk, rfl, hk⟩ := x.done
  have noA : ∀ b : Addr, b ∉ (cxOf CX P w K mg base N qual scope f cd A outer s H E).ex := fun b z => absurd (show b ∈ ([] : List Addr) from z) (by simp)
  refine ⟨⟨e0.mod, S.kind, rfl, rfl, Nat.le_refl _, fun y z c h1 h2 => ?_, fun y hy => ?_, fun y c _ h => ?_, fun _ => hd, Around.frames_deeper e0.frames, .inr ⟨rfl, rfl⟩, fun b z => absurd z (noA b), e0.bs, e0.bsz, fun b _ _ => noA b, fun b z => absurd z (noA b), e0.funs, e0.frf⟩,
    rfl, e0.bare, Un.kept hk, ⟨_, x.toInCall.ns, fun i y v h1 h2 h3 => ?_⟩, fun y c h => ⟨_, x.cell y c h⟩, e0.hok.fresh (Nat.le_refl _), fun y c h => ?_, fun p hp => absurd (show p ∈ ([] : List (Addr × Obj)) from hp) (by simp), e0.hok.kept hk, ?_⟩
  · exact name_of_addr x.apart (PySem.mem_of_lookup h1) (PySem.mem_of_lookup h2)
  · have hy : scope.names.lookup y = some .cell ∨ scope.names.lookup y = some .free := hy
    rcases hy with hy | hy
    · exact cell_has hy
    · exact absurd rfl (S.nofree _ (PySem.mem_of_lookup hy))
  · exact Nat.le_of_lt (x.above y c (PySem.mem_of_lookup h))
  · have hi : i < vs.length := by
      unfold start at h2
      by_cases hi : i < vs.length
      · exact hi
      · rw [List.getElem?_append_right (by simpa using hi)] at h2
        rw [List.getElem?_replicate] at h2
        split at h2 <;> cases h2
    have ha : vs[i]? = some v := by
      unfold start at h2
      rw [List.getElem?_append_left (by simpa using hi), List.getElem?_map] at h2
      cases e : vs[i]? with
      | none => rw [e] at h2; cases h2
      | some a => rw [e] at h2; cases h2; rfl
    obtain ⟨u, hu, rv⟩ := r.get ha
    have hp : ps[i]? = some y := by
      rw [← S.pre, List.getElem?_take_of_lt (by omega)]; exact h1
    have ndP : ps.Nodup := by rw [← S.pre]; exact S.nd.sublist (List.take_sublist _ _)
    refine ⟨u, rv, ?_⟩
    rcases S.par y (List.mem_of_getElem? hp) with k | k
    · exact .inl ⟨k, bindL_get ndP hp hu k⟩
    · obtain ⟨c, e⟩ := cell_has (n := s.heap.objs.size + 1) k
      refine .inr ⟨.inl k, c, e, ?_⟩
      have q := x.cell y c e
      rw [bindC_get ndP hp hu (by show scope.names.lookup y ≠ _; rw [k]; decide)] at q
      exact q
  · exact e0.hok.fresh (Nat.le_of_lt (x.above y c (PySem.mem_of_lookup h)))
  · unfold start
    show _ = N.length
    rw [List.length_append, List.length_map, List.length_replicate]
    omega
theorem fn_of {CX : CXT} {P : Program} {w : World} {K : PySem.W.Frag} {mg : Str → Option Value} {base : Heap} {k : Nat} {f : Addr} {name qual : Str} {params : Arguments} {body : List Stmt} {scope : Scope} {dV kV doc pm cdv ct oc : Value} {an od : Option Addr}
    {osl : Array (Option Value)} {N ps : List Str} {sp : Sp} (lk : K.lookup f = some ⟨oc, od, .func (PySem.W.fnOf name qual params body scope dV kV doc pm an cdv ct), osl⟩) (hcd : PySem.W.codeIn K cdv qual = true) (S : FnScope N ps scope)
    (len : ∀ vs H Q E, sp vs H Q E → vs.length = ps.length)
    (hbody : ∀ (A : Around) (outer : List Env) (s : Shared) (H : Hp) (vs : List V) (Q : VK) (E : XK), Room k (A.deeper (envOfC qual scope s.heap.objs.size f cdv)) → sp vs H Q E →
      ∃ t, PSs (cxOf CX P w K mg base N qual scope f cdv A outer s H E) body t ∧ t { nx := fun _ H' => Q .non H', rt := Q } (start N vs) H) :
    FnOk P w K mg base CX (k + 1) f (PySem.W.fnOf name qual params body scope dV kV doc pm an cdv ct) ps sp := by
  refine ⟨len, fun A outer s H args us vs Q E hr e0 hb r hsp => ?_⟩
  have hl := len _ _ _ _ hsp
  have KX : K.In s.heap := e0.mod.kin.keeps fun b o e => (e0.bs b o e).1
  have lim : s.heap.NoLimit := e0.mod.nolimit.keeps fun b o e => (e0.bs b o e).1
  have hkind : ∀ y ∈ ps.zip us, scope.names.lookup y.1 = some .local ∨ (scope.names.lookup y.1 = some .cell ∧ ((cellsFrom (s.heap.objs.size + 1) scope.names []).lookup y.1).isSome = true) := fun ⟨n, v⟩ hy => by
    rcases S.par n (List.of_mem_zip hy).1 with q | q
    · exact .inl q
    · exact .inr ⟨q, PySem.W.cellsFrom_some _ _ _ (.inl q)⟩
  refine codeAny_call_function hr.depth (KX _ _ lk) rfl S.co S.gen rfl (PySem.W.codeRec_of KX hcd) (hb _ _ _ _ ?_)
  refine wpAny_newFunctionEnv_cells S.kind hkind fun env he s1 x => ?_
  subst he
  refine ⟨lim.keeps x.toInCall.keep, codeAny_func ?_⟩
  obtain ⟨t, ht, hq⟩ := hbody A outer s H vs Q E (hr.deeper _) hsp
  have I : Inv (cxOf CX P w K mg base N qual scope f cdv A outer s H E) [] (start N vs) H s1 := inv_start S hr.hd e0 hl r x
  refine wpAny_mono (ht [] s1 (start N vs) H _ I hq) (fun fl s' hs => ?_) fun e s' hs => hs
  have fin : ∀ {σ' : St} {H' : Hp} {v : V} {u : Value}, Inv (cxOf CX P w K mg base N qual scope f cdv A outer s H E) [] σ' H' s' → RelV v u → Q v H' → CE outer P w H s Q u s' :=
    fun {σ' H' v u} J rv q => ⟨v, H', J.os, J.bare, J.base, J.hok, rv, q⟩
  cases fl with
  | ret u =>
    obtain ⟨v, σ', H', J, rv, q⟩ := hs
    exact fin J rv q
  | next =>
    obtain ⟨σ', H', J, q⟩ := hs
    exact fin (v := V.non) (u := Value.none) J rfl q
  | brk =>
    obtain ⟨_, _, _, q⟩ := hs
    exact False.elim q
  | cont =>
    obtain ⟨_, _, _, q⟩ := hs
    exact False.elim q
end L2
namespace L2
open PySem PySem.Spec PyProof.Rows
section
variable {X : Cx} {x : Str} {p pos : Pos} {e : Expr} {es : List Expr} {t : TA} {id T : String} {r : List V → Hp → VK → Prop}
def tCB (r : List V → Hp → VK → Prop) (t : TA) : TE := fun σ H Q => t σ H fun vs H1 => r vs H1 Q
theorem pe_callB (hc : CallR X (.builtin id) r) (hg : Gl X x) (hm : X.mg x = none) (hv : bootBuiltins x = some (.builtin id)) (ha : PA X (e :: es) t) (hn : x ≠ "__name__" := by decide) (hdb : (x == ("__debug__" : Str)) = false := by decide)
    (he : starEach (e :: es) X.env = (false, eval e X.env) :: starEach es X.env := by rfl) (hpl : (backTo pos (starEach es X.env)).any (·.1) = false := by rfl) : PE X (.Call (.Name x p) (e :: es) [] pos) (tCB r t) := by
  intro pins s σ H Q I h
  refine wpAny_Call_Name_kw (ld_blt I hg hm hv ?_ hn hdb)
  exact PyProof.Rows.callWith_builtin1 (thn (ha pos pins s σ H _ I h) fun us s1 ⟨vs, H1, I1, r1, q1⟩ => hc pins s1 σ H1 vs us Q I1 r1 q1) he hpl
theorem pe_callTy (hc : CallR X (.type T) r) (hg : Gl X x) (hm : X.mg x = none) (hv : bootBuiltins x = some (.type T)) (ha : PA X (e :: es) t) (hn : x ≠ "__name__" := by decide) (hdb : (x == ("__debug__" : Str)) = false := by decide)
    (he : starEach (e :: es) X.env = (false, eval e X.env) :: starEach es X.env := by rfl) (hpl : (backTo pos (starEach es X.env)).any (·.1) = false := by rfl) : PE X (.Call (.Name x p) (e :: es) [] pos) (tCB r t) := by
  intro pins s σ H Q I h
  refine wpAny_Call_Name_kw (ld_blt I hg hm hv ?_ hn hdb)
  exact PyProof.Rows.callWith_type1 (thn (ha pos pins s σ H _ I h) fun us s1 ⟨vs, H1, I1, r1, q1⟩ => hc pins s1 σ H1 vs us Q I1 r1 q1) he hpl
end
end L2
namespace HT
open PySem PyProof.Rows
section
open PySem.SeqAt
open PySem.AutoSeq1 (wpAny_loadPart')
open PySem.MeetsSeq PySem.MeetsSeq2 PySem.MeetsSeq3
end
section
variable {prog : Program} {w : World} {A : Around} {E : Value → Shared → Prop} {s : Shared}
end
end HT
namespace L2
open PySem PySem.Spec PyProof.Rows
abbrev TO := St → Hp → (Option Int → Hp → Prop) → Prop
section
variable {X : Cx} {e : Expr} {te : TE} {lo hi : Option Expr} {tl th : TO} {pos p2 : Pos}
end
end L2
namespace L2
open PySem PySem.Spec PyProof.Rows
def ixN (n : Nat) (i : Int) : Option Nat := if 0 ≤ i then (if i < n then some i.toNat else none) else if -(n : Int) ≤ i then some (i + n).toNat else none
def atI {α : Type} (xs : List α) (i : Int) : Option α := (ixN xs.length i).bind fun j => xs[j]?
theorem ixN_seq {n : Nat} {i : Int} {j : Nat} (h : ixN n i = some j) : seqIndex? i n = some j ∧ j < n ∧ -(n : Int) ≤ i ∧ i < n := by
  unfold ixN at h
  by_cases h0 : 0 ≤ i
  · rw [if_pos h0] at h
    by_cases h1 : i < n
    · rw [if_pos h1] at h
      have e : i.toNat = j := Option.some.inj h
      exact ⟨by rw [seqIndex_of h0 h1, e], by omega, by omega, h1⟩
    · rw [if_neg h1] at h; cases h
  · rw [if_neg h0] at h
    by_cases h1 : -(n : Int) ≤ i
    · rw [if_pos h1] at h
      have e : (i + n).toNat = j := Option.some.inj h
      exact ⟨by rw [seqIndex_neg (by omega) h1, e], by omega, h1, by omega⟩
    · rw [if_neg h1] at h; cases h
theorem atI_get {α : Type} {xs : List α} {i : Int} {v : α} (h : atI xs i = some v) : ∃ j, seqIndex? i xs.length = some j ∧ xs[j]? = some v ∧ j < xs.length ∧ -(xs.length : Int) ≤ i ∧ i < xs.length := by
  unfold atI at h
  cases e : ixN xs.length i with
  | none => rw [e] at h; cases h
  | some j =>
    rw [e] at h
    obtain ⟨h1, h2, h3, h4⟩ := ixN_seq e
    exact ⟨j, h1, h, h2, h3, h4⟩
theorem atI_nat {α : Type} {xs : List α} {j : Nat} {v : α} (h : xs[j]? = some v) : atI xs (j : Int) = some v := by
  have hj : j < xs.length := (List.getElem?_eq_some_iff.mp h).1
  have e : ixN xs.length (j : Int) = some j := by
    unfold ixN
    rw [if_pos (by omega), if_pos (by omega)]; simp
  unfold atI; rw [e]; exact h
theorem atI_last {α : Type} (xs : List α) (v : α) : atI (xs ++ [v]) (-1) = some v := by
  have hl : (xs ++ [v]).length = xs.length + 1 := by simp
  have e : ixN (xs ++ [v]).length (-1) = some xs.length := by
    unfold ixN
    rw [hl, if_neg (by decide), if_pos (by omega)]
    congr 1
    omega
  unfold atI
  rw [e]
  show (xs ++ [v])[xs.length]? = some v
  simp
def PlainIx (b : Expr) : Prop := ∀ o i, subscripted b false o i = operate [o, i] (getItem o i)
def IxR (X : Cx) (r : R2) : Prop :=
  ∀ (value slice : Expr) (pins : List (Addr × Obj)) (s : Shared) (σ : St) (H : Hp) (x y : V) (v u : Value) (Q : VK), Inv X pins σ H s → RelV x v → RelV y u → r x y H Q →
    subscripted slice false v u = operate [v, u] (getItem v u) → wpAny (model X.prog X.w) X.A (subscriptTail value slice v u) (EP X pins σ Q) X.xe s
def MtR (X : Cx) (id : String) (r : V → List V → Hp → VK → Prop) : Prop :=
  ∀ (pins : List (Addr × Obj)) (s : Shared) (σ : St) (H : Hp) (x : V) (xs : List V) (v : Value) (us : List Value) (Q : VK), Inv X pins σ H s → RelV x v → Vals xs us → r x xs H Q →
    wpAny (model X.prog X.w) X.A (call (.builtin id) (v :: us)) (EP X pins σ Q) X.xe s
section
variable {X : Cx} {a b : Expr} {ta tb : TE} {pos : Pos}
theorem pe_ix {r : R2} (hr : IxR X r) (ha : PE X a ta) (hb : PE X b tb) (hs : PlainIx b) : PE X (.Subscript a b pos) (tOp r ta tb) := by
  intro pins s σ H Q I h
  exact Subscript_ (binT ha hb I h fun v u s2 x y H2 I2 rx ry q => hr a b pins s2 σ H2 x y v u Q I2 rx ry q (hs _ _))
def rIxL (K : PySem.W.Frag) : R2 := fun x y H Q => ∃ p xs i v, x = .ref p ∧ y = .int i ∧ SqL K H p xs ∧ atI xs i = some v ∧ Q v H
def rIxT (K : PySem.W.Frag) : R2 := fun x y H Q => ∃ p xs i v, x = .ref p ∧ y = .int i ∧ SqT K H p xs ∧ atI xs i = some v ∧ Q v H
theorem ix_list : IxR X (rIxL X.K) := by
  intro value slice pins s σ H x y v u Q I rx ry h hs
  obtain ⟨p, xs, i, z, rfl, rfl, hq, he, q⟩ := h
  cases rx
  obtain ⟨t, rfl⟩ := ry
  obtain ⟨its, r, pl, hz⟩ := I.list hq
  obtain ⟨j, h1, h2, h3, h4, h5⟩ := atI_get he
  obtain ⟨w, ew, rw'⟩ := r.get h2
  have hl := r.length
  have hn := line63
  have fin : EP X pins σ Q w s := ⟨z, H, I, rw', q⟩
  by_cases h0 : 0 ≤ i
  · have hj : i.toNat = j := by
      rw [seqIndex_of h0 h5] at h1
      exact Option.some.inj h1
    exact item_listR pl.isList h0 (by omega) (by rw [hj]; simpa using ew) fin hs
  · have hj : (i + (its.toArray.size : Int)).toNat = j := by
      rw [seqIndex_neg (by omega) h4] at h1
      rw [List.size_toArray, ← hl]
      exact Option.some.inj h1
    exact subscriptTail_builtinR (x := w) pl.isList.typeIs slot_list_getitem.lookup
      (wpAny_getItem_list_neg (Q := fun r s' => r = w ∧ EP X pins σ Q r s') pl.isList (by omega) (by rw [List.size_toArray] <;> omega) (by omega) (by rw [hj]; simpa using ew) ⟨rfl, fin⟩) hs
theorem ix_tup : IxR X (rIxT X.K) := by
  intro value slice pins s σ H x y v u Q I rx ry h hs
  obtain ⟨p, xs, i, z, rfl, rfl, hq, he, q⟩ := h
  cases rx
  obtain ⟨t, rfl⟩ := ry
  obtain ⟨its, r, pl, hz⟩ := I.tuple hq
  obtain ⟨j, h1, h2, h3, h4, h5⟩ := atI_get he
  obtain ⟨w, ew, rw'⟩ := r.get h2
  have hl := r.length
  have hn := line63
  have fin : EP X pins σ Q w s := ⟨z, H, I, rw', q⟩
  exact subscriptTail_builtinR (x := w) pl.typeIs slot_tuple_getitem.lookup
    (getItem_tuple (j := j) (Q := fun r s' => r = w ∧ EP X pins σ Q r s') pl (by omega) (by omega) (by rw [List.size_toArray, ← hl]; exact h1) (by simpa using ew) ⟨rfl, fin⟩) hs
theorem mapSeq_set (its : List Value) (n j : Nat) (u : Value) : Obj.mapSeq (·.setIfInBounds j u) { cls := .type "list", data := .seq its.toArray n } = { cls := .type "list", data := .seq (its.set j u).toArray n } := by
  simp [Obj.mapSeq]
theorem Inv.lst {pins : List (Addr × Obj)} {σ : St} {H : Hp} {s : Shared} {p : Addr} {xs : List V} (I : Inv X pins σ H s) (h : H p = some (.lst xs)) :
    ∃ (its : List Value) (n : Nat), Vals xs its ∧ s.heap.get? p = some { cls := .type "list", data := .seq its.toArray n } ∧ xs.length ≤ sizeLine := by
  obtain ⟨z, its, n, r, e⟩ := I.hok p _ h
  exact ⟨its, n, r, e, z⟩
theorem Inv.lstUpd {pins : List (Addr × Obj)} {σ : St} {H : Hp} {s : Shared} {p : Addr} {xs ys : List V} {its its' : List Value} {n n' : Nat} {f : Obj → Obj} (I : Inv X pins σ H s) (h : H p = some (.lst xs))
    (ho : s.heap.get? p = some { cls := .type "list", data := .seq its.toArray n }) (hf : f { cls := .type "list", data := .seq its.toArray n } = { cls := .type "list", data := .seq its'.toArray n' }) (r : Vals ys its') (hz : ys.length ≤ sizeLine) (t : Nat) :
    Inv X pins σ (upd H p (.lst ys)) { s with heap := s.heap.update p f, toks := t } := by
  have e : (s.heap.update p f).get? p = some { cls := .type "list", data := .seq its'.toArray n' } := by
    rw [Heap.get?_update_self f ho (by rw [hf] <;> rfl), hf]
  refine I.write (x := p) (e := p) (by rw [h]; trivial) (.inl rfl) (fun b u hb q => (Heap.get?_update_other _ _ (Ne.symm hb)).trans q) ⟨_, e⟩ ?_
  exact ⟨hz, its', n', r, e⟩
def rSetL : V → V → V → Hp → (Hp → Prop) → Prop := fun o i v H Q => ∃ p xs k j, o = .ref p ∧ i = .int k ∧ H p = some (.lst xs) ∧ ixN xs.length k = some j ∧ Q (upd H p (.lst (xs.set j v)))
theorem set_list : PSet X rSetL := by
  intro pins s σ H o i v ov iv u Q I ro ri rv h
  obtain ⟨p, xs, k, j, rfl, rfl, hp, hj, q⟩ := h
  cases ro
  obtain ⟨t, rfl⟩ := ri
  obtain ⟨its, n, r, ho, hz⟩ := I.lst hp
  obtain ⟨h1, h2, h3, h4⟩ := ixN_seq hj
  have hl := r.length
  have hn := line63
  have I' : Inv X pins σ (upd H p (.lst (xs.set j v))) { s with heap := s.heap.update p (Obj.mapSeq (·.setIfInBounds j u)) } :=
    I.lstUpd hp ho (mapSeq_set its n j u) (r.set rv j) (by rw [List.length_set]; exact hz) s.toks
  by_cases h0 : 0 ≤ k
  · have hk : k.toNat = j := by
      rw [seqIndex_of h0 h4] at h1
      exact Option.some.inj h1
    exact PySem.W.ki_setAt ho h0 (by omega) (by rw [List.size_toArray, ← hl]; exact h4) (by rw [hk]; exact ⟨_, I', q⟩)
  · have hk : (k + (its.toArray.size : Int)).toNat = j := by
      rw [seqIndex_neg (by omega) h3] at h1
      rw [List.size_toArray, ← hl]
      exact Option.some.inj h1
    exact PySem.W.ki_setBack ho (by omega) (by rw [List.size_toArray, ← hl]; exact h3) (by omega) (by rw [hk]; exact ⟨_, I', q⟩)
theorem call_len_seq : CallR X (.builtin "len") (fun xs H Q => ∃ p ys, xs = [.ref p] ∧ (SqL X.K H p ys ∨ SqT X.K H p ys) ∧ Q (.int ys.length) H) := by
  intro pins s σ H xs us Q I r h
  obtain ⟨p, ys, rfl, hq, q⟩ := h
  obtain ⟨u, rfl, rx⟩ := vals1 r
  cases rx
  have hn := line63
  rcases hq with hq | hq
  · obtain ⟨its, r', pl, hz⟩ := I.list hq
    have hlen := r'.length
    exact Calls.call_len_list pl.isList (by simp only [List.size_toArray] <;> omega) ⟨.int ys.length, H, I.tok _, ⟨s.toks + 1, by rw [List.size_toArray, hlen]⟩, q⟩
  · obtain ⟨its, r', pl, hz⟩ := I.tuple hq
    have hlen := r'.length
    exact len_tuple pl (by simp only [List.size_toArray] <;> omega) ⟨.int ys.length, H, I.tok _, ⟨s.toks + 1, by rw [List.size_toArray, hlen]⟩, q⟩
theorem call_tuple_of : CallR X (.type "tuple") (fun xs H Q => ∃ p ys, xs = [.ref p] ∧ ((SqL X.K H p ys ∧ ∀ l, H l = none → Q (.ref l) (upd H l (.tup ys))) ∨ (SqT X.K H p ys ∧ Q (.ref p) H))) := by
  intro pins s σ H xs us Q I r h
  obtain ⟨p, ys, rfl, h⟩ := h
  obtain ⟨u, rfl, rx⟩ := vals1 r
  cases rx
  rcases h with ⟨hq, q⟩ | ⟨hq, q⟩
  · obtain ⟨its, r', pl, hz⟩ := I.list hq
    have hlen := r'.length
    refine call_tuple_list pl.isList (fun h' kp => ?_) (by simp only [List.size_toArray] <;> omega)
    have I1 : Inv X pins σ H { s with heap := h' } := I.kept (t' := s.toks) kp
    have I2 : Inv X pins σ (upd H h'.objs.size (.tup ys)) { s with heap := h'.push { cls := .type "tuple", data := .seq its.toArray } } :=
      I1.laid (t' := s.toks) (fun b o e => Heap.get?_push_of_some _ e) (Nat.le_refl _) (show ObjOk X.prog X.w _ _ _ (.tup ys) from ⟨hz, its, r', IsTup.new _ _⟩)
    exact ⟨.ref h'.objs.size, _, I2, rfl, q _ (I1.hok.fresh (Nat.le_refl _))⟩
  · obtain ⟨its, r', pl, hz⟩ := I.tuple hq
    exact call_tuple_same pl ⟨.ref p, H, I, rfl, q⟩
def tyV (K : PySem.W.Frag) (T : String) (x : V) (H : Hp) : Prop := match x with
  | .str _ => T = "str"
  | .int _ => T = "int"
  | .ref p => (T = "list" ∧ ∃ xs, SqL K H p xs) ∨ (T = "tuple" ∧ ∃ o, K.lookup p = some o ∧ o.cls = .type "tuple" ∧ o.dict = none) ∨
      (T = "dict" ∧ ((∃ kvs, H p = some (.dK kvs)) ∨ ∃ kvs, H p = some (.dT kvs))) ∨ (T = "set" ∧ ∃ S n, H p = some (.set S n))
  | _ => False
theorem tyV_is {pins : List (Addr × Obj)} {σ : St} {H : Hp} {s : Shared} {T : String} {x : V} {v : Value} (I : Inv X pins σ H s) (r : RelV x v) (ty : tyV X.K T x H) :
    s.TypeIs v T ∧ ∀ a, v = .ref a → ∃ ob, s.heap.get? a = some ob ∧ ob.dict = none := by
  cases x with
  | str z =>
    obtain ⟨t, rfl⟩ := r
    cases (show T = "str" from ty)
    exact ⟨typeIs_str s z t, fun _ e => nomatch e⟩
  | int i =>
    obtain ⟨t, rfl⟩ := r
    cases (show T = "int" from ty)
    exact ⟨typeIs_int s i t, fun _ e => nomatch e⟩
  | ref p =>
    cases r
    rcases ty with ⟨rfl, xs, hq⟩ | ⟨rfl, o, hk, hc, hd⟩ | ⟨rfl, hk⟩ | ⟨rfl, S, n, hk⟩
    · obtain ⟨its, _, pl, _⟩ := I.list hq
      refine ⟨pl.isList.typeIs, fun a e => ?_⟩
      cases e
      obtain ⟨o, n, e, c, hd, _⟩ := pl
      exact ⟨o, e, hd⟩
    · refine ⟨⟨o, I.kIn p o hk, hc⟩, fun a e => ?_⟩
      cases e
      exact ⟨o, I.kIn _ o hk, hd⟩
    · have z : ∃ o, s.heap.get? p = some o ∧ o.ExactDict := by
        rcases hk with ⟨kvs, hk⟩ | ⟨kvs, hk⟩
        · obtain ⟨_, _, _, _, o, _, _, e, ex, _⟩ := I.hok p _ hk
          exact ⟨o, e, ex⟩
        · obtain ⟨_, _, _, _, o, _, _, e, ex, _⟩ := I.hok p _ hk
          exact ⟨o, e, ex⟩
      obtain ⟨o, e, ex⟩ := z
      refine ⟨⟨o, e, ex.1⟩, fun a e2 => ?_⟩
      cases e2
      exact ⟨o, e, ex.2.1⟩
    · obtain ⟨o, _, _, _, e, ex, _⟩ := I.hok p _ hk
      refine ⟨⟨o, e, ex.1⟩, fun a e2 => ?_⟩
      cases e2
      exact ⟨o, e, ex.2.1⟩
  | _ => exact False.elim ty
def tBM0 (K : PySem.W.Frag) (T : String) (r : V → List V → Hp → VK → Prop) (to : TE) : TE := fun σ H Q => to σ H fun x H1 => tyV K T x H1 ∧ r x [] H1 Q
def tBM (K : PySem.W.Frag) (T : String) (r : V → List V → Hp → VK → Prop) (to : TE) (t : TA) : TE := fun σ H Q => to σ H fun x H1 => tyV K T x H1 ∧ t σ H1 fun xs H2 => r x xs H2 Q
variable {o e : Expr} {es : List Expr} {to : TE} {t : TA} {name : Str} {apos cpos : Pos} {T id : String} {r : V → List V → Hp → VK → Prop}
theorem pe_bm0 (pa : PlainAttrs T) (slot : Slot T name id) (hty : typeOf (.builtin id) = pure (.type "method_descriptor")) (hm : MtR X id r) (ho : PE X o to)
    (hbase : attributeBase o name X.env (eval o X.env) = eval o X.env := by rfl) (hline : (apos.endLine == cpos.line) = true := by rfl) : PE X (.Call (.Attribute o name apos) [] [] cpos) (tBM0 X.K T r to) := by
  intro pins s σ H Q I h
  refine wpAny_Call_method0_late hbase hline (thn (ho pins s σ H _ I h) fun v s1 ⟨x, H1, I1, r1, ty, q1⟩ => ?_)
  obtain ⟨h1, h2⟩ := tyV_is I1 r1 ty
  exact ⟨T, id, pa, slot, hty, h1, h2, Calls.callWith_builtin rfl (PySem.evalArgs_none (hm pins s1 σ H1 x [] v [] Q I1 r1 .nil q1))⟩
theorem pe_bm (pa : PlainAttrs T) (slot : Slot T name id) (hty : typeOf (.builtin id) = pure (.type "method_descriptor")) (hm : MtR X id r) (ho : PE X o to) (ha : PA X (e :: es) t)
    (hbase : attributeBase o name X.env (eval o X.env) = eval o X.env := by rfl)
    (hfew : ((backTo cpos (starEach (e :: es) X.env)).all (fun x => !x.1) && (backToKw cpos (keywordEach [] X.env)).all (fun x => x.1.isSome)
      && decide ((e :: es).length + ([] : List Keyword).length + (if ([] : List Keyword).isEmpty then 0 else 1) < 30)) = true := by rfl)
    (hline : (apos.endLine == cpos.line) = true := by rfl) (hs : starEach (e :: es) X.env = (false, eval e X.env) :: starEach es X.env := by rfl) (hplain : (backTo cpos (starEach es X.env)).any (·.1) = false := by rfl) :
    PE X (.Call (.Attribute o name apos) (e :: es) [] cpos) (tBM X.K T r to t) := by
  intro pins s σ H Q I h
  refine wpAny_Call_method_late hbase hfew hline rfl (thn (ho pins s σ H _ I h) fun v s1 ⟨x, H1, I1, r1, ty, q1⟩ => ?_)
  obtain ⟨h1, h2⟩ := tyV_is I1 r1 ty
  refine ⟨T, id, pa, slot, hty, h1, h2, ?_⟩
  have hA := ha cpos pins s1 σ H1 _ I1 q1
  rw [hs] at hA ⊢
  refine Calls.callWith_builtin (by show (false || (backTo cpos (starEach es X.env)).any (·.1)) = false; rw [hplain] <;> rfl) (Calls.evalArgs_plain ?_)
  exact thn hA fun us s2 ⟨vs, H2, I2, r2, q2⟩ => hm pins s2 σ H2 x vs v us Q I2 r1 r2 q2
end
end L2
namespace L2
open PySem PySem.Spec PyProof.Rows
def MtM (X : Cx) (id : String) (r : V → List V → Hp → VK → Prop) : Prop :=
  ∀ (pins : List (Addr × Obj)) (s : Shared) (σ : St) (H : Hp) (x : V) (xs : List V) (v : Value) (us : List Value) (Q : VK), Inv X pins σ H s → RelV x v → Vals xs us → r x xs H Q →
    wpAny (model X.prog X.w) X.A (call (.builtin id) (v :: us)) (EP X pins σ Q) X.xe s
theorem Vals.one : ∀ {x : V} {us : List Value}, Vals [x] us → ∃ u, us = [u] ∧ RelV x u
  | _, _, .cons r .nil => ⟨_, rfl, r⟩
theorem Vals.two : ∀ {x y : V} {us : List Value}, Vals [x, y] us → ∃ u v, us = [u, v] ∧ RelV x u ∧ RelV y v
  | _, _, _, .cons r (.cons q .nil) => ⟨_, _, rfl, r, q⟩
theorem Vals.zero : ∀ {us : List Value}, Vals [] us → us = []
  | _, .nil => rfl
theorem Vals.dropLast {xs : List V} {us : List Value} (h : Vals xs us) : Vals xs.dropLast us.dropLast := by
  induction h with
  | nil => exact .nil
  | cons r t ih =>
    cases t with
    | nil => exact .nil
    | cons q t' => exact .cons r ih
theorem Vals.eraseIdx : ∀ {xs : List V} {us : List Value} (i : Nat), Vals xs us → Vals (xs.eraseIdx i) (us.eraseIdx i)
  | _, _, _, .nil => .nil
  | _, _, 0, .cons _ t => t
  | _, _, i + 1, .cons r t => .cons r (Vals.eraseIdx i t)
theorem Vals.reverse {xs : List V} {us : List Value} (h : Vals xs us) : Vals xs.reverse us.reverse := by
  induction h with
  | nil => exact .nil
  | cons r t ih => rw [List.reverse_cons, List.reverse_cons]; exact Vals.append ih (.cons r .nil)
theorem Vals.rep {xs : List V} {us : List Value} (h : Vals xs us) : ∀ k : Nat, Vals (List.replicate k xs).flatten (List.replicate k us).flatten
  | 0 => .nil
  | k + 1 => by
    rw [List.replicate_succ, List.replicate_succ, List.flatten_cons, List.flatten_cons]
    exact Vals.append h (Vals.rep h k)
theorem erase_last {α : Type} (l : List α) : l.eraseIdx (l.length - 1) = l.dropLast := by
  induction l with
  | nil => rfl
  | cons a r ih =>
    cases r with
    | nil => rfl
    | cons b r =>
      have e : (a :: b :: r).length - 1 = ((b :: r).length - 1) + 1 := by
        have h1 : (a :: b :: r).length = r.length + 2 := rfl
        have h2 : (b :: r).length = r.length + 1 := rfl
        omega
      rw [e, List.eraseIdx_cons_succ, ih]
      all_goals rfl
theorem len_erase {α : Type} : ∀ (l : List α) (i : Nat), (l.eraseIdx i).length ≤ l.length
  | [], _ => Nat.le_refl _
  | _ :: _, 0 => Nat.le_succ _
  | _ :: r, i + 1 => Nat.succ_le_succ (len_erase r i)
theorem foldl_rep (its : List Value) : ∀ (k : Nat) (acc : List Value),
    List.foldl (fun x1 x2 => x1 ++ x2) acc.toArray (List.replicate k its.toArray) = (acc ++ (List.replicate k its).flatten).toArray
  | 0, acc => by simp
  | k + 1, acc => by
    have e : acc.toArray ++ its.toArray = (acc ++ its).toArray := by simp
    have e2 : (acc ++ its) ++ (List.replicate k its).flatten = acc ++ (List.replicate (k + 1) its).flatten := by
      rw [List.replicate_succ, List.flatten_cons, List.append_assoc]
    rw [← e2, ← foldl_rep its k (acc ++ its), ← e, List.replicate_succ, List.foldl_cons]
section
variable {X : Cx} {pins : List (Addr × Obj)} {σ : St} {H : Hp} {s : Shared} {l b : Addr} {xs ys zs : List V}
theorem Inv.lset {its its' : List Value} {n : Nat} {f : Array Value → Array Value} {t' : Nat} (I : Inv X pins σ H s) (hH : H l = some (.lst xs))
    (e : s.heap.get? l = some { cls := .type "list", data := .seq its.toArray n }) (hf : f its.toArray = its'.toArray) (hv : Vals ys its') (hz : ys.length ≤ sizeLine) :
    Inv X pins σ (upd H l (.lst ys)) { s with heap := s.heap.update l (Obj.mapSeq f), toks := t' } := by
  have q := PySem.IsL.update e f
  rw [hf] at q
  refine I.write (x := l) (e := l) (by rw [hH]; exact trivial) (.inl rfl) (fun b' u hb hu => (Heap.get?_update_other s.heap (Obj.mapSeq f) (Ne.symm hb)).trans hu) ⟨_, q⟩ ?_
  exact ⟨hz, its', _, hv, q⟩
theorem Inv.lnew {its : List Value} {t' : Nat} (I : Inv X pins σ H s) (hv : Vals ys its) (hz : ys.length ≤ sizeLine) :
    Inv X pins σ (upd H s.heap.objs.size (.lst ys)) { s with heap := s.heap.push { cls := .type "list", data := .seq its.toArray }, toks := t' } :=
  I.laid (fun _ _ q => Heap.get?_push_of_some _ q) (Nat.le_refl _) ⟨hz, its, 0, hv, Heap.get?_push_size _ rfl⟩
theorem Inv.fresh (I : Inv X pins σ H s) : H s.heap.objs.size = none := I.hok.fresh (Nat.le_refl _)
theorem Inv.lstM (I : Inv X pins σ H s) (hH : H l = some (.lst xs)) : xs.length ≤ sizeLine ∧ ∃ (its : List Value) (n : Nat), Vals xs its ∧ xs.length = its.length ∧ s.heap.get? l = some { cls := .type "list", data := .seq its.toArray n } := by
  obtain ⟨z, its, n, r, e⟩ := I.hok l _ hH
  exact ⟨z, its, n, r, r.length, e⟩
theorem notLongL {n : Nat} (h : n ≤ sizeLine) : Builtin.List.listTooLong n = false := by
  unfold Builtin.List.listTooLong
  exact decide_eq_false (by omega)
end
section
variable {X : Cx}
def rAppend : V → List V → Hp → VK → Prop := fun x vs H Q => ∃ l xs y, x = .ref l ∧ vs = [y] ∧ H l = some (.lst xs) ∧ xs.length < sizeLine ∧ Q .non (upd H l (.lst (xs ++ [y])))
theorem mt_append : MtM X "list.append" rAppend := by
  intro pins s σ H x vs v us Q I rx rv h
  obtain ⟨l, xs, y, rfl, rfl, hH, hz, q⟩ := h
  cases rx
  obtain ⟨u, rfl, ru⟩ := rv.one
  obtain ⟨z, its, n, r, hl, e⟩ := I.lstM hH
  refine call_meets F.slot_list_append ⟨_, e, rfl⟩ F.entry_list_append (F.args_list_append_2 _ _) (PySem.list_append l its.toArray n u (by rw [List.size_toArray]; omega)) ⟨e, ?_⟩
  refine ⟨.non, _, I.lset (its' := its ++ [u]) hH e (by simp) (r.append (.cons ru .nil)) ?_, rfl, q⟩
  rw [List.length_append, List.length_singleton]
  omega
def rExtend : V → List V → Hp → VK → Prop := fun x vs H Q => ∃ l b xs zs, x = .ref l ∧ vs = [.ref b] ∧ H l = some (.lst xs) ∧ H b = some (.lst zs) ∧ xs.length + zs.length ≤ sizeLine ∧ Q .non (upd H l (.lst (xs ++ zs)))
theorem mt_extend : MtM X "list.extend" rExtend := by
  intro pins s σ H x vs v us Q I rx rv h
  obtain ⟨l, b, xs, zs, rfl, rfl, hH, hB, hz, q⟩ := h
  cases rx
  obtain ⟨u, rfl, ru⟩ := rv.one
  cases ru
  obtain ⟨z, its, n, r, hl, e⟩ := I.lstM hH
  obtain ⟨z2, its2, n2, r2, hl2, e2⟩ := I.lstM hB
  have hsz : its.toArray.size + its2.toArray.size ≤ sizeLine := by rw [List.size_toArray, List.size_toArray]; omega
  have hlong : ¬ (!its.toArray.isEmpty && Builtin.List.listTooLong (its.toArray.size + its2.toArray.size)) = true := by
    rw [notLongL hsz, Bool.and_false]
    exact Bool.false_ne_true
  refine call_meets F.slot_list_extend ⟨_, e, rfl⟩ F.entry_list_extend (F.args_list_extend_2 _ _)
    (AutoSeq1.list_extend_list_list_0 l its.toArray n b its2.toArray n2 hlong (by rw [List.size_toArray]; omega) (by omega)) ⟨e, e2, ?_⟩
  refine ⟨.non, _, I.lset (its' := its ++ its2) hH e (by simp) (r.append r2) ?_, rfl, q⟩
  rw [List.length_append]
  omega
def rPop : V → List V → Hp → VK → Prop := fun x vs H Q => ∃ l xs y, x = .ref l ∧ vs = [] ∧ H l = some (.lst xs) ∧ xs[xs.length - 1]? = some y ∧ Q y (upd H l (.lst xs.dropLast))
theorem mt_pop : MtM X "list.pop" rPop := by
  intro pins s σ H x vs v us Q I rx rv h
  obtain ⟨l, xs, y, rfl, rfl, hH, hy, q⟩ := h
  cases rx
  have hus := rv.zero
  subst hus
  obtain ⟨z, its, n, r, hl, e⟩ := I.lstM hH
  obtain ⟨u, hu, ru⟩ := r.get hy
  have hy' : its.toArray[its.toArray.size - 1]? = some u := by
    show its.toArray[its.length - 1]? = some u
    rw [← Array.getElem?_toList, ← hl]
    exact hu
  refine call_meets F.slot_list_pop ⟨_, e, rfl⟩ F.entry_list_pop (F.args_list_pop_1 _) (MeetsSeq.list_pop_last l its.toArray n u hy' (by rw [List.size_toArray]; omega)) ⟨e, ?_⟩
  refine ⟨y, _, I.lset (its' := its.dropLast) hH e ?_ r.dropLast ?_, ru, q⟩
  · show its.toArray.eraseIdxIfInBounds (its.toArray.size - 1) = its.dropLast.toArray
    rw [List.size_toArray, List.eraseIdxIfInBounds_toArray, erase_last]
  · rw [List.length_dropLast]
    omega
def rPopAt : V → List V → Hp → VK → Prop := fun x vs H Q => ∃ l xs i k y, x = .ref l ∧ vs = [.int i] ∧ H l = some (.lst xs) ∧ -(2 ^ 63) ≤ i ∧ i < 2 ^ 63 ∧ seqIndex? i xs.length = some k ∧ xs[k]? = some y ∧ Q y (upd H l (.lst (xs.eraseIdx k)))
theorem mt_popAt : MtM X "list.pop" rPopAt := by
  intro pins s σ H x vs v us Q I rx rv h
  obtain ⟨l, xs, i, k, y, rfl, rfl, hH, h1, h2, hk, hy, q⟩ := h
  cases rx
  obtain ⟨u, rfl, ru⟩ := rv.one
  obtain ⟨t, rfl⟩ := ru
  obtain ⟨z, its, n, r, hl, e⟩ := I.lstM hH
  obtain ⟨w, hw, rw'⟩ := r.get hy
  refine call_meets F.slot_list_pop ⟨_, e, rfl⟩ F.entry_list_pop (F.args_list_pop_2 _ _)
    (MeetsSeq.list_pop_at l its.toArray n i t k w (fitsIndex_both h1 h2) (by rw [List.size_toArray, ← hl]; exact hk) (by rw [← Array.getElem?_toList]; exact hw) (by rw [List.size_toArray]; omega)) ⟨e, ?_⟩
  refine ⟨y, _, I.lset (its' := its.eraseIdx k) hH e ?_ (r.eraseIdx k) ?_, rw', q⟩
  · show its.toArray.eraseIdxIfInBounds k = (its.eraseIdx k).toArray
    rw [List.eraseIdxIfInBounds_toArray]
  · have := len_erase xs k
    omega
def rCat : R2 := fun x y H Q => ∃ l b xs zs, x = .ref l ∧ y = .ref b ∧ H l = some (.lst xs) ∧ H b = some (.lst zs) ∧ xs.length + zs.length ≤ sizeLine ∧ ∀ p, H p = none → Q (.ref p) (upd H p (.lst (xs ++ zs)))
theorem op_cat : OpR X (binaryOp .Add) rCat := by
  intro pins s σ H x y v u Q I rx ry h
  obtain ⟨l, b, xs, zs, rfl, rfl, hH, hB, hz, q⟩ := h
  cases rx
  cases ry
  obtain ⟨z, its, n, r, hl, e⟩ := I.lstM hH
  obtain ⟨z2, its2, n2, r2, hl2, e2⟩ := I.lstM hB
  refine PySem.P.add_list e e2 ?_ (by rw [List.size_toArray, List.size_toArray]; omega)
  have ea : its.toArray ++ its2.toArray = (its ++ its2).toArray := by simp
  rw [ea]
  exact ⟨.ref _, _, I.lnew (t' := s.toks) (r.append r2) (by rw [List.length_append]; omega), rfl, q _ I.fresh⟩
def rRep : R2 := fun x y H Q => ∃ l k xs, x = .ref l ∧ y = .int k ∧ H l = some (.lst xs) ∧ -(2 ^ 63) ≤ k ∧ k < 2 ^ 63 ∧ xs.length * k.toNat ≤ sizeLine ∧
  ∀ p, H p = none → Q (.ref p) (upd H p (.lst (List.replicate k.toNat xs).flatten))
theorem len_rep {α : Type} (xs : List α) (k : Nat) : (List.replicate k xs).flatten.length = k * xs.length := by
  induction k with
  | zero => simp
  | succ k ih => rw [List.replicate_succ, List.flatten_cons, List.length_append, ih, Nat.succ_mul, Nat.add_comm]
theorem op_rep : OpR X (binaryOp .Mult) rRep := by
  intro pins s σ H x y v u Q I rx ry h
  obtain ⟨l, k, xs, rfl, rfl, hH, h1, h2, hz, q⟩ := h
  cases rx
  obtain ⟨t, rfl⟩ := ry
  obtain ⟨z, its, n, r, hl, e⟩ := I.lstM hH
  have hlen : its.toArray.size * k.toNat ≤ sizeLine := by rw [List.size_toArray, ← hl]; exact hz
  have hcap : ¬ its.toArray.size * k.toNat > (2 ^ 63 - 1) / 8 := by
    have : (sizeLine : Nat) ≤ (2 ^ 63 - 1) / 8 := by decide
    omega
  have hfit : ¬ (!Builtin.List.listFitsIndex k) = true := by
    rw [fitsIndex_both h1 h2]
    exact Bool.false_ne_true
  have hlong : ¬ Builtin.List.listTooLong (its.toArray.size * k.toNat) = true := by
    rw [notLongL hlen]
    exact Bool.false_ne_true
  have hnew : List.foldl (fun x1 x2 => x1 ++ x2) #[] (List.replicate (if its.toArray.isEmpty = true then 0 else k.toNat) its.toArray) = (List.replicate k.toNat its).flatten.toArray := by
    have f0 : ∀ m : Nat, List.foldl (fun x1 x2 => x1 ++ x2) #[] (List.replicate m its.toArray) = (List.replicate m its).flatten.toArray := fun m => by
      have := foldl_rep its m []
      rw [List.nil_append] at this
      exact this
    rw [f0]
    cases its with
    | nil => simp
    | cons a r' => rw [if_neg (by simp)]
  refine wpAny_binaryOp_repeat_ref (T := "list") (U := "int") (by decide) ⟨_, e, rfl⟩ (fun s' => typeIs_int s' k t) noFill_list_mul F.fills_int_mul F.slot_int_rmul repeat_list F.slot_int_index.lookup
    (call_meets F.slot_int_rmul (typeIs_int s k t) F.entry_int_rmul (F.args_int_rmul_2 _ _) (int___rmul___int_list k t l its.toArray n)
      ⟨e, rfl, ⟨_, e, rfl⟩, call_meets F.slot_list_mul ⟨_, e, rfl⟩ F.entry_list_mul (F.args_list_mul_2 _ _) (AutoListH.list___mul___list_int_3 l its.toArray n k t hfit hcap hlong) ⟨e, ?_⟩⟩)
  rw [hnew]
  exact ⟨.ref _, _, I.lnew (t' := s.toks) (r.rep k.toNat) (by rw [len_rep, Nat.mul_comm]; exact hz), rfl, q _ I.fresh⟩
end
section
variable {prog : Program} {w : World} {A : Around} {E : Value → Shared → Prop} {s : Shared}
end
section
variable {X : Cx}
end
end L2
namespace L2
open PySem PySem.Spec PyProof.Rows
theorem Vals.ints : ∀ {ns : List Int} {us : List Value}, Vals (ns.map V.int) us → IntsAre us ns
  | [], us, h => by
    rw [List.map_nil] at h
    cases h
    exact IntsAre.nil
  | n :: ns, us, h => by
    rw [List.map_cons] at h
    cases h with
    | cons r t =>
      obtain ⟨k, rfl⟩ := r
      exact IntsAre.cons n k (Vals.ints t)
theorem vals_of_ints : ∀ {us : List Value} {ns : List Int}, IntsAre us ns → Vals (ns.map V.int) us
  | _, _, .nil => by rw [List.map_nil]; exact Paired.nil
  | _, _, .cons n t h => by rw [List.map_cons]; exact Paired.cons (show RelV (V.int n) (Value.int n t) from ⟨t, rfl⟩) (vals_of_ints h)
theorem Vals.strs : ∀ {xs : List Str} {us : List Value}, Vals (xs.map V.str) us → StrsAre us xs
  | [], us, h => by
    rw [List.map_nil] at h
    cases h
    exact StrsAre.nil
  | x :: xs, us, h => by
    rw [List.map_cons] at h
    cases h with
    | cons r t =>
      obtain ⟨k, rfl⟩ := r
      exact StrsAre.cons x k (Vals.strs t)
theorem Vals.ref1 {a : Addr} {us : List Value} (r : Vals [V.ref a] us) : us = [Value.ref a] := by
  cases r with
  | cons r t =>
    cases t
    cases r
    rfl
section
variable {prog : Program} {w : World} {A : Around} {E : Value → Shared → Prop} {s : Shared} {l : Addr} {its : List Value} {ns : List Int} {Q : Value → Shared → Prop}
theorem sum_raw (hh : A.handled = none) (hl : s.heap.IsList l its.toArray) (hi : IntsAre its ns)
    (h : ∀ h' tk t', (∀ b o, s.heap.get? b = some o → h'.get? b = some o) → Q (.int ns.sum t') { s with heap := h', toks := tk }) : wpAny (model prog w) A (call (.builtin "sum") [.ref l]) Q E s := by
  obtain ⟨xs, e⟩ := hi.allInts.items
  have hn : numsOf (intItems xs).toList = ns := by rw [← e]; exact hi.numsOf
  rw [nums_intItems] at hn
  rw [e] at hl
  refine PySem.sum_intListG hh hl fun h' tk t' hk => ?_
  have := h h' tk t' hk
  rw [preSum_eq, List.take_of_length_le (by simp), hn]; exact this
end
section
variable {X : Cx}
def rSum (K : PySem.W.Frag) : List V → Hp → VK → Prop := fun vs H Q => ∃ (a : Addr) (ns : List Int), vs = [V.ref a] ∧ SqL K H a (ns.map V.int) ∧ Q (.int ns.sum) H
theorem cr_sum (hc : X.calm = true) : CallR X (.builtin "sum") (rSum X.K) := by
  intro pins s σ H vs us Q I r h
  obtain ⟨a, ns, rfl, hs, q⟩ := h
  obtain ⟨its, rv, hl, _⟩ := I.list hs
  rw [Vals.ref1 r]
  exact sum_raw (I.ok.hd hc) hl.isList rv.ints fun h' tk t' hk => ⟨.int _, H, I.kept hk, ⟨_, rfl⟩, q⟩
end
section
variable {X : Cx}
end
section
variable {X : Cx}
end
section
variable {X : Cx}
end
mutual
inductive Dp (K : PySem.W.Frag) (H : Hp) : V → PyData → Prop
  | non : Dp K H .non .none
  | bl (b : Bool) : Dp K H (.bl b) (.bool b)
  | int (i : Int) : Dp K H (.int i) (.int i)
  | str (x : Str) : Dp K H (.str x) (.str x)
  | lst {a : Addr} {xs : List V} {ds : List PyData} : SqL K H a xs → DpAll K H xs ds → Dp K H (.ref a) (.list ds)
  | tup {a : Addr} {xs : List V} {ds : List PyData} : SqT K H a xs → DpAll K H xs ds → Dp K H (.ref a) (.tuple ds)
inductive DpAll (K : PySem.W.Frag) (H : Hp) : List V → List PyData → Prop
  | nil : DpAll K H [] []
  | cons {v : V} {vs : List V} {d : PyData} {ds : List PyData} : Dp K H v d → DpAll K H vs ds → DpAll K H (v :: vs) (d :: ds)
end
section
variable {X : Cx} {pins : List (Addr × Obj)} {σ : St} {H : Hp} {s : Shared}
mutual
theorem Dp.reads (I : Inv X pins σ H s) : ∀ (d : PyData) (v : V) (u : Value), Dp X.K H v d → RelV v u → ∃ as, Reads s.heap u d as
  | .none, _, _, h, r => by
    cases h
    cases r
    exact ⟨_, Reads.none⟩
  | .bool b, _, _, h, r => by
    cases h
    cases r
    exact ⟨_, Reads.bool b⟩
  | .int i, _, _, h, r => by
    cases h
    obtain ⟨t, rfl⟩ := r
    exact ⟨_, Reads.int i t⟩
  | .str x, _, _, h, r => by
    cases h
    obtain ⟨t, rfl⟩ := r
    exact ⟨_, Reads.str x t⟩
  | .list ds, _, _, h, r => by
    cases h with
    | lst hs ha =>
      cases r
      obtain ⟨its, rv, ⟨o, n, ho, hc, _, hd⟩, _⟩ := I.list hs
      obtain ⟨as, hr⟩ := Dp.readsAll I ds _ its ha rv
      exact ⟨_, Reads.list ho hc hd hr⟩
  | .tuple ds, _, _, h, r => by
    cases h with
    | tup hs ha =>
      cases r
      obtain ⟨its, rv, ⟨o, ho, hc, n, hd⟩, _⟩ := I.tuple hs
      obtain ⟨as, hr⟩ := Dp.readsAll I ds _ its ha rv
      exact ⟨_, Reads.tuple ho hc hd hr⟩
  | .dict _, _, _, h, _ => by cases h
theorem Dp.readsAll (I : Inv X pins σ H s) : ∀ (ds : List PyData) (vs : List V) (us : List Value), DpAll X.K H vs ds → Vals vs us → ∃ as, ReadsAll s.heap us ds as
  | [], _, _, h, r => by
    cases h
    cases r
    exact ⟨_, ReadsAll.nil⟩
  | d :: ds, _, _, h, r => by
    cases h with
    | cons h1 h2 =>
      cases r with
      | cons r1 r2 =>
        obtain ⟨as, q1⟩ := Dp.reads I d _ _ h1 r1
        obtain ⟨bs, q2⟩ := Dp.readsAll I ds _ _ h2 r2
        exact ⟨_, ReadsAll.cons q1 q2⟩
end
end
section
variable {X : Cx}
end
end L2
namespace L2
open PySem PySem.Spec PyProof.Rows
abbrev CellAt (h : Heap) (c : Addr) (v : Option Value) : Prop := h.IsCell c v
def relS (scope sc : Scope) : Scope :=
  { scope with names := scope.names.map fun (n, k) => if (k == .free && sc.kind == .function && sc.names.lookup n == some .cell) then (n, .cell) else (n, k) }
def cloFrom (cells : List (Str × Addr)) : List (Str × NameKind) → List (Str × Addr) → List (Str × Addr)
  | [], acc => acc
  | (n, k) :: r, acc => if k == .free then cloFrom cells r ((n, (cells.lookup n).getD 0) :: acc) else cloFrom cells r acc
theorem closure_loop (env : Env) (f : Str × NameKind → List (Str × Addr) → Sem (ForInStep (List (Str × Addr))))
    (hf : ∀ n k c, f (n, k) c = if k == .free then (do let a ← cellOf env n; pure (.yield ((n, a) :: c))) else pure (.yield c)) :
    ∀ (names : List (Str × NameKind)) (acc : List (Str × Addr)), (∀ y ∈ names, y.2 = .free → ∃ c, env.cells.lookup y.1 = some c) → forIn names acc f = pure (cloFrom env.cells names acc)
  | [], acc, _ => by rw [List.forIn_nil]; rfl
  | (n, k) :: r, acc, h => by
    rw [List.forIn_cons, hf]
    have ih := fun acc => closure_loop env f hf r acc fun y hy => h y (List.mem_cons_of_mem _ hy)
    unfold cloFrom
    by_cases hk : (k == NameKind.free) = true
    · rw [if_pos hk, if_pos hk]
      obtain ⟨c, hc⟩ := h (n, k) List.mem_cons_self (by simpa using hk)
      have e : cellOf env n = pure c := by unfold cellOf; rw [hc]
      rw [e]
      have e2 : (env.cells.lookup n).getD 0 = c := by rw [hc]; rfl
      rw [e2]
      exact ih _
    · rw [if_neg hk, if_neg hk]
      exact ih _
theorem closure_ok {scope : Scope} {env : Env} (h : ∀ y ∈ scope.names, y.2 = .free → ∃ c, env.cells.lookup y.1 = some c) : closureFor scope env = pure (cloFrom env.cells scope.names []) := by
  simp only [closureFor]
  rw [closure_loop env _ (fun n k c => rfl) scope.names [] h]
  rfl
theorem mem_lookup {α : Type} : ∀ {l : List (Str × α)} {n : Str} {c : α}, (n, c) ∈ l → ∃ c', l.lookup n = some c'
  | (k, v) :: r, n, c, h => by
    rw [List.lookup_cons]
    cases hb : n == k with
    | true => exact ⟨_, rfl⟩
    | false =>
      rcases List.mem_cons.mp h with e | h
      · cases e; simp at hb
      · exact mem_lookup h
theorem cloFrom_mem {cells : List (Str × Addr)} : ∀ {names : List (Str × NameKind)} {acc : List (Str × Addr)} {n : Str} {c : Addr}, (n, c) ∈ cloFrom cells names acc → (n, c) ∈ acc ∨ ((n, .free) ∈ names ∧ c = (cells.lookup n).getD 0)
  | [], _, _, _, h => .inl h
  | (m, k) :: r, acc, n, c, h => by
    unfold cloFrom at h
    split at h
    · rename_i hk
      have hk : k = .free := by simpa using hk
      rcases cloFrom_mem h with h | ⟨h1, h2⟩
      · rcases List.mem_cons.mp h with e | h
        · cases e; exact .inr ⟨hk ▸ List.mem_cons_self, rfl⟩
        · exact .inl h
      · exact .inr ⟨List.mem_cons_of_mem _ h1, h2⟩
    · rcases cloFrom_mem h with h | ⟨h1, h2⟩
      · exact .inl h
      · exact .inr ⟨List.mem_cons_of_mem _ h1, h2⟩
theorem cloFrom_acc {cells : List (Str × Addr)} : ∀ {names : List (Str × NameKind)} {acc : List (Str × Addr)} {p : Str × Addr}, p ∈ acc → p ∈ cloFrom cells names acc
  | [], _, _, h => h
  | (m, k) :: r, acc, p, h => by
    unfold cloFrom
    split
    · exact cloFrom_acc (List.mem_cons_of_mem _ h)
    · exact cloFrom_acc h
theorem cloFrom_has {cells : List (Str × Addr)} : ∀ {names : List (Str × NameKind)} {acc : List (Str × Addr)} {n : Str}, (n, .free) ∈ names → (n, (cells.lookup n).getD 0) ∈ cloFrom cells names acc
  | (m, k) :: r, acc, n, h => by
    unfold cloFrom
    rcases List.mem_cons.mp h with e | h
    · cases e
      exact cloFrom_acc List.mem_cons_self
    · split
      · exact cloFrom_has h
      · exact cloFrom_has h
theorem cells_mem : ∀ {names : List (Str × NameKind)} {h : Heap} {acc : List (Str × Addr)} {x : Str} {c : Addr}, (x, c) ∈ cellsFrom h.objs.size names acc →
    (x, c) ∈ acc ∨ ((x, .cell) ∈ names ∧ h.objs.size ≤ c ∧ CellAt (pushCells h names) c none)
  | [], _, _, _, _, h => .inl h
  | (n, k) :: r, h, acc, x, c, hm => by
    unfold cellsFrom at hm
    unfold pushCells
    split at hm
    · rename_i hk
      rw [if_pos hk]
      have hk : k = .cell := by simpa using hk
      rw [← Heap.size_push h { cls := .type "cell", data := .cell none }] at hm
      rcases cells_mem hm with hm | ⟨h1, h2, h3⟩
      · rcases List.mem_cons.mp hm with e | hm
        · cases e
          exact .inr ⟨hk ▸ List.mem_cons_self, Nat.le_refl _, _, pushCells_keeps r _ _ _ (Heap.get?_push_size _ rfl), rfl⟩
        · exact .inl hm
      · rw [Heap.size_push] at h2
        exact .inr ⟨List.mem_cons_of_mem _ h1, Nat.le_of_succ_le h2, h3⟩
    · rename_i hk
      rw [if_neg hk]
      rcases cells_mem hm with hm | ⟨h1, h2, h3⟩
      · exact .inl hm
      · exact .inr ⟨List.mem_cons_of_mem _ h1, h2, h3⟩
theorem cells_acc : ∀ {names : List (Str × NameKind)} {n : Nat} {acc : List (Str × Addr)} {p : Str × Addr}, p ∈ acc → p ∈ cellsFrom n names acc
  | [], _, _, _, h => h
  | (m, k) :: r, n, acc, p, h => by
    unfold cellsFrom
    split
    · exact cells_acc (List.mem_cons_of_mem _ h)
    · exact cells_acc h
theorem cells_has : ∀ {names : List (Str × NameKind)} {n : Nat} {acc : List (Str × Addr)} {x : Str}, (x, .cell) ∈ names → ∃ c, (x, c) ∈ cellsFrom n names acc
  | (m, k) :: r, n, acc, x, h => by
    unfold cellsFrom
    rcases List.mem_cons.mp h with e | h
    · cases e
      exact ⟨n, cells_acc List.mem_cons_self⟩
    · split
      · exact cells_has h
      · exact cells_has h
theorem cells_inj : ∀ {names : List (Str × NameKind)} {h : Heap} {acc : List (Str × Addr)} {x y : Str} {c : Addr}, (∀ p ∈ acc, p.2 < h.objs.size) → (∀ x y c, (x, c) ∈ acc → (y, c) ∈ acc → x = y) →
    (x, c) ∈ cellsFrom h.objs.size names acc → (y, c) ∈ cellsFrom h.objs.size names acc → x = y
  | [], _, _, _, _, _, _, hi, h1, h2 => hi _ _ _ h1 h2
  | (n, k) :: r, h, acc, x, y, c, hl, hi, h1, h2 => by
    unfold cellsFrom at h1 h2
    split at h1
    · rename_i hk
      rw [if_pos hk] at h2
      rw [← Heap.size_push h { cls := .type "cell", data := .cell none }] at h1 h2
      refine cells_inj (h := h.push _) (fun p hp => ?_) (fun x y c a b => ?_) h1 h2
      · rw [Heap.size_push]
        rcases List.mem_cons.mp hp with rfl | hp
        · exact Nat.lt_succ_self _
        · exact Nat.lt_succ_of_lt (hl p hp)
      · rcases List.mem_cons.mp a with e | a <;> rcases List.mem_cons.mp b with e' | b
        · cases e; cases e'; rfl
        · cases e; exact absurd (hl _ b) (Nat.lt_irrefl _)
        · cases e'; exact absurd (hl _ a) (Nat.lt_irrefl _)
        · exact hi _ _ _ a b
    · rename_i hk
      rw [if_neg hk] at h2
      exact cells_inj hl hi h1 h2
theorem newEnv_comp {M : Model} {A : Around} {E : Value → Shared → Prop} {s : Shared} {scope : Scope} {globals : Addr} {closure : List (Str × Addr)} {qual : Str} {func : Option Addr} {code : Value} {around : Env} {builtins : Addr} {Q : Env → Shared → Prop}
    (h : Q (newEnv scope s.heap.objs.size globals (cellsFrom (s.heap.objs.size + 1) scope.names closure) qual func code (some around) builtins)
      { s with heap := pushCells (s.heap.push { cls := .type "dict", data := .dict #[] }) scope.names }) :
    wpAny M A (newFunctionEnv scope globals closure [] qual func code (some around) builtins) Q E s := by
  simp only [newFunctionEnv, Option.isSome_some, if_true]
  refine wpAny_bind (wpAny_alloc ?_)
  refine wpAny_bind (wpAny_layCells _ (fun n k c => rfl) scope.names closure _ _ ?_)
  rw [show ({ s with heap := s.heap.push { cls := .type "dict", data := .dict #[] } } : Shared).heap.objs.size = s.heap.objs.size + 1 from Heap.size_push ..]
  rw [List.forIn_nil]
  exact wpAny_bind (wpAny_pure (wpAny_pure h))
theorem lookup_relS {sc : Scope} : ∀ {names : List (Str × NameKind)} {x : Str} {k : NameKind},
    (names.map fun (n, k) => if (k == NameKind.free && sc.kind == .function && sc.names.lookup n == some .cell) then (n, NameKind.cell) else (n, k)).lookup x = some k →
    ∃ k', names.lookup x = some k' ∧ (k = k' ∨ (k' = .free ∧ k = .cell))
  | [], _, _, h => by simp at h
  | (n, k₀) :: r, x, k, h => by
    have ih := @lookup_relS sc r x k
    have h' : List.lookup x ((if (k₀ == NameKind.free && sc.kind == .function && sc.names.lookup n == some .cell) = true then (n, NameKind.cell) else (n, k₀)) :: (r.map _)) = some k := h
    cases hx : x == n with
    | true =>
      simp only [List.lookup_cons, hx]
      by_cases hc : (k₀ == NameKind.free && sc.kind == .function && sc.names.lookup n == some .cell) = true
      · rw [if_pos hc] at h'
        simp only [List.lookup_cons, hx] at h'
        cases h'
        simp only [Bool.and_eq_true, beq_iff_eq] at hc
        exact ⟨k₀, rfl, .inr ⟨hc.1.1, rfl⟩⟩
      · rw [if_neg hc] at h'
        simp only [List.lookup_cons, hx] at h'
        cases h'
        exact ⟨_, rfl, .inl rfl⟩
    | false =>
      simp only [List.lookup_cons, hx]
      by_cases hc : (k₀ == NameKind.free && sc.kind == .function && sc.names.lookup n == some .cell) = true
      · rw [if_pos hc] at h'
        simp only [List.lookup_cons, hx] at h'
        exact ih h'
      · rw [if_neg hc] at h'
        simp only [List.lookup_cons, hx] at h'
        exact ih h'
structure BlkOk (N : List Str) (sc scope : Scope) (own : List (Str × Nat)) : Prop where
  kind : scope.kind = .function
  uniq : ∀ y ∈ scope.names, scope.names.lookup y.1 = some y.2
  ix : ∀ p ∈ own, N[p.2]? = some p.1
  free : ∀ y ∈ scope.names, y.2 = .free → sc.names.lookup y.1 = some .cell ∨ sc.names.lookup y.1 = some .free
  own : ∀ y ∈ scope.names, y.2 = .local ∨ y.2 = .cell → y.1 ∈ own.map (·.1) ∨ y.1 ∉ N
def wipe (σ : St) : List Nat → St
  | [] => σ
  | v :: vs => (wipe σ vs).set v none
theorem wipe_length (σ : St) : ∀ vs : List Nat, (wipe σ vs).length = σ.length
  | [] => rfl
  | v :: vs => by unfold wipe; rw [List.length_set, wipe_length σ vs]
theorem wipe_some {σ : St} {i : Nat} {x : V} : ∀ {vs : List Nat}, (wipe σ vs)[i]? = some (some x) → σ[i]? = some (some x) ∧ i ∉ vs
  | [], h => ⟨h, by simp⟩
  | v :: vs, h => by
    unfold wipe at h
    by_cases hi : v = i
    · subst hi
      by_cases hv : v < (wipe σ vs).length
      · rw [List.getElem?_set_self hv] at h; cases h
      · rw [List.getElem?_eq_none (by simpa using hv)] at h; cases h
    · rw [List.getElem?_set_ne hi] at h
      obtain ⟨h1, h2⟩ := wipe_some h
      exact ⟨h1, by simp only [List.mem_cons, not_or]; exact ⟨fun e => hi e.symm, h2⟩⟩
abbrev Cx.blk (X : Cx) (s : Shared) (H : Hp) (scope : Scope) (cenv : Env) (fp : List Addr) : Cx := { X with s_0 := s, H_0 := H, env := cenv, outer := X.stack, ex := fp, fn := fun x => scope.names.lookup x == some .cell, pn := [], xe := fun _ _ => False }
section
variable {X : Cx} {pins : List (Addr × Obj)} {σ : St} {H : Hp} {s : Shared}
theorem block_start {scope : Scope} {own : List (Str × Nat)} {fp : List Addr} (I : Inv X pins σ H s) (ok : BlkOk X.N X.env.scope scope own) (hN : X.N.Nodup) (hfp : ∀ b ∈ fp, FpOk X pins H b ∧ b < s.heap.objs.size) :
    Inv (X.blk s H scope (compEnvC scope (cellsFrom (s.heap.objs.size + 1) scope.names (cloFrom X.env.cells scope.names [])) s.heap.objs.size X.env) fp) [] (wipe σ (own.map (·.2))) H { s with heap := pushCells (s.heap.push { cls := .type "dict", data := .dict #[] }) scope.names } := by
  have hfree : ∀ y ∈ scope.names, y.2 = .free → ∃ c, X.env.cells.lookup y.1 = some c := fun y hy e => by
    rcases ok.free y hy e with k | k
    · exact I.ok.has _ (.inl k)
    · exact I.ok.has _ (.inr k)
  generalize hcenv : compEnvC scope (cellsFrom (s.heap.objs.size + 1) scope.names (cloFrom X.env.cells scope.names [])) s.heap.objs.size X.env = cenv
  have kp : ∀ b o, s.heap.get? b = some o → (pushCells (s.heap.push { cls := .type "dict", data := .dict #[] }) scope.names).get? b = some o := fun b o e => pushCells_keeps _ _ _ _ (Heap.get?_push_of_some _ e)
  have hL : cenv.locals = s.heap.objs.size := by rw [← hcenv]; rfl
  have hcl : cenv.cells = cellsFrom (s.heap.objs.size + 1) scope.names (cloFrom X.env.cells scope.names []) := by rw [← hcenv]; rfl
  have hsc : cenv.scope = relS scope X.env.scope := by rw [← hcenv]; rfl
  rw [← Heap.size_push s.heap { cls := .type "dict", data := .dict #[] }] at hcl
  have cm : ∀ {y c}, (y, c) ∈ cloFrom X.env.cells scope.names [] → X.env.cells.lookup y = some c ∧ c < s.heap.objs.size := fun {y c} hm => by
    rcases cloFrom_mem hm with hm | ⟨h1, rfl⟩
    · cases hm
    · obtain ⟨c, hc⟩ := hfree _ h1 rfl
      rw [hc]
      obtain ⟨w, z⟩ := I.cell _ _ hc
      exact ⟨rfl, z.lt⟩
  have mem : ∀ {y c}, cenv.cells.lookup y = some c → (X.env.cells.lookup y = some c ∧ c < s.heap.objs.size) ∨ (s.heap.objs.size + 1 ≤ c ∧ CellAt (pushCells (s.heap.push { cls := .type "dict", data := .dict #[] }) scope.names) c none) := fun {y c} e => by
    rw [hcl] at e
    rcases cells_mem (PySem.mem_of_lookup e) with hm | ⟨_, h2, h3⟩
    · exact .inl (cm hm)
    · rw [Heap.size_push] at h2; exact .inr ⟨h2, h3⟩
  have look : ∀ {y}, scope.names.lookup y = some .free → ∃ c, cenv.cells.lookup y = some c ∧ X.env.cells.lookup y = some c := fun {y} hl => by
    have hy : (y, NameKind.free) ∈ scope.names := PySem.mem_of_lookup hl
    obtain ⟨c', e'⟩ := mem_lookup (cells_acc (names := scope.names) (n := (s.heap.push { cls := .type "dict", data := .dict #[] }).objs.size) (cloFrom_has (cells := X.env.cells) (acc := []) hy))
    rw [← hcl] at e'
    refine ⟨c', e', ?_⟩
    rw [hcl] at e'
    rcases cells_mem (PySem.mem_of_lookup e') with hm | ⟨h1, _, _⟩
    · exact (cm hm).1
    · have := ok.uniq _ h1
      rw [hl] at this; cases this
  have okB : (X.blk s H scope cenv fp).Ok := by
    refine ⟨I.ok.mod, by show cenv.scope.kind = _; rw [hsc]; exact ok.kind, by show cenv.globals = _; rw [← hcenv]; exact I.ok.glob, by show cenv.builtins = _; rw [← hcenv]; exact I.ok.blt, by show s.heap.objs.size ≤ cenv.locals; rw [hL]; exact Nat.le_refl _,
      fun y z c e1 e2 => ?_, fun y hy => ?_, fun y c z e => ?_, I.ok.hd, I.ok.frames, .inl rfl, fun b hb => ⟨?_, fun y c e z => ?_⟩, I.bs, Nat.le_trans I.ok.bsz I.sz, fun b o e hb => ?_, fun b hb z => ?_, I.stack, I.stkFree⟩
    · have e1 : cenv.cells.lookup y = some c := e1
      have e2 : cenv.cells.lookup z = some c := e2
      rw [hcl] at e1 e2
      refine cells_inj (fun p hp => ?_) (fun y z c a b => I.ok.inj y z c (cm a).1 (cm b).1) (PySem.mem_of_lookup e1) (PySem.mem_of_lookup e2)
      rw [Heap.size_push]
      exact Nat.lt_succ_of_lt (cm (y := p.1) (c := p.2) hp).2
    · show ∃ c, cenv.cells.lookup y = some c
      have key : ∀ k, cenv.kindOf y = some k → (k = .cell ∨ k = .free) → ∃ c, cenv.cells.lookup y = some c := fun k hk hk' => by
        unfold Env.kindOf at hk
        rw [hsc] at hk
        obtain ⟨k', e, r⟩ := lookup_relS hk
        have : k' = .cell ∨ k' = .free := by
          rcases r with rfl | ⟨rfl, _⟩
          · exact hk'
          · exact .inr rfl
        rcases this with rfl | rfl
        · obtain ⟨c, hm⟩ := cells_has (n := (s.heap.push { cls := .type "dict", data := .dict #[] }).objs.size) (acc := cloFrom X.env.cells scope.names []) (PySem.mem_of_lookup e)
          obtain ⟨c', e'⟩ := mem_lookup hm
          exact ⟨c', by rw [hcl]; exact e'⟩
        · obtain ⟨c, h1, _⟩ := look e
          exact ⟨c, h1⟩
      rcases hy with hy | hy
      · exact key _ hy (.inl rfl)
      · exact key _ hy (.inr rfl)
    · have z : (scope.names.lookup y == some NameKind.cell) = true := z
      have z : scope.names.lookup y = some .cell := by simpa using z
      have e : cenv.cells.lookup y = some c := e
      rw [hcl] at e
      rcases cells_mem (PySem.mem_of_lookup e) with hm | ⟨_, h2, _⟩
      · rcases cloFrom_mem hm with hm | ⟨h1, _⟩
        · cases hm
        · have q := ok.uniq _ h1
          rw [z] at q; cases q
      · rw [Heap.size_push] at h2
        exact Nat.le_of_succ_le h2
    · show b ≠ cenv.locals
      rw [hL]; exact Nat.ne_of_lt (hfp b hb).2
    · have e : cenv.cells.lookup y = some c := e
      rcases mem e with ⟨h1, _⟩ | ⟨h1, _⟩
      · exact (hfp b hb).1.2.2.2.2.1 y c h1 z
      · have h2 : s.heap.objs.size + 1 ≤ b := by rw [← z]; exact h1
        exact absurd (Nat.lt_of_lt_of_le (hfp b hb).2 (Nat.le_of_succ_le h2)) (Nat.lt_irrefl _)
    · rcases (hfp b hb).1.2.2.2.1 with z | z
      · exact I.ok.noex b o e z
      · exact absurd (Nat.lt_of_lt_of_le (Heap.lt_size e) (Nat.le_trans I.ok.bsz z)) (Nat.lt_irrefl _)
    · rcases List.mem_cons.mp (I.stkSub b z) with z | z
      · exact (hfp b hb).1.2.1 z
      · exact (hfp b hb).1.2.2.1 z
  refine ⟨okB, rfl, I.bare, Un.kept kp, ⟨fun _ => none, ?_, fun i y av e1 e2 e3 => ?_⟩, fun y c e => ?_, ?_, fun y c e => ?_, fun p hp => ?_, I.hok.kept kp, by rw [wipe_length]; exact I.len⟩
  · show Heap.Ns _ cenv.locals _
    rw [hL]
    exact Heap.Ns.keeps (Heap.Ns.new ..) fun b o e => pushCells_keeps _ _ _ _ e
  · obtain ⟨e2, hne⟩ := wipe_some e2
    have hfr : scope.names.lookup y = some .free ∧ (cenv.kindOf y = some .cell ∨ cenv.kindOf y = some .free) := by
      have key : ∀ k, cenv.scope.names.lookup y = some k → k = .local ∨ k = .cell ∨ k = .free → scope.names.lookup y = some .free ∧ (cenv.kindOf y = some .cell ∨ cenv.kindOf y = some .free) := fun k hk hk' => by
        have hk0 := hk
        rw [hsc] at hk
        obtain ⟨k', e, r⟩ := lookup_relS hk
        have no : ¬ (k' = .local ∨ k' = .cell) := fun hh => by
          rcases ok.own _ (PySem.mem_of_lookup e) hh with e' | e'
          · obtain ⟨p, hp, hpy⟩ := List.mem_map.mp e'
            have e3 := ok.ix p hp
            have : p.1 = y := hpy
            rw [this] at e3
            exact hne (List.mem_map.mpr ⟨p, hp, nodup_ix hN e3 e1⟩)
          · exact e' (List.mem_of_getElem? e1)
        rcases r with rfl | ⟨rfl, rfl⟩
        · rcases hk' with rfl | rfl | rfl
          · exact absurd (.inl rfl) no
          · exact absurd (.inr rfl) no
          · exact ⟨e, .inr hk0⟩
        · exact ⟨e, .inl hk0⟩
      have e3 : Vis cenv.scope y := e3
      rcases e3 with e3 | e3 | e3
      · exact key _ e3 (.inl rfl)
      · exact key _ e3 (.inr (.inl rfl))
      · exact key _ e3 (.inr (.inr rfl))
    obtain ⟨m, hn, hl⟩ := I.loc
    have hvis : Vis X.env.scope y := (ok.free _ (PySem.mem_of_lookup hfr.1) rfl).elim (fun k => .inr (.inl k)) (fun k => .inr (.inr k))
    obtain ⟨w, r, q⟩ := hl i y av e1 e2 hvis
    refine ⟨w, r, .inr ⟨hfr.2, ?_⟩⟩
    obtain ⟨c, h1, h2⟩ := look hfr.1
    rcases q with ⟨k, _⟩ | ⟨_, c', e', z⟩
    · have k : X.env.scope.names.lookup y = some .local := k
      rcases ok.free _ (PySem.mem_of_lookup hfr.1) rfl with k' | k' <;> rw [show X.env.scope.names.lookup y = _ from k'] at k <;> cases k
    · rw [h2] at e'; cases e'
      exact ⟨c, h1, z.keeps kp⟩
  · have e : cenv.cells.lookup y = some c := e
    rcases mem e with ⟨h1, _⟩ | ⟨_, z⟩
    · obtain ⟨w, z⟩ := I.cell y c h1
      exact ⟨w, z.keeps kp⟩
    · exact ⟨_, z⟩
  · show H cenv.locals = none
    rw [hL]; exact I.hok.fresh (Nat.le_refl _)
  · have e : cenv.cells.lookup y = some c := e
    rcases mem e with ⟨h1, _⟩ | ⟨h1, _⟩
    · exact I.freeC y c h1
    · exact I.hok.fresh (Nat.le_of_succ_le h1)
  · exact absurd (show p ∈ ([] : List (Addr × Obj)) ++ [] from hp) (by simp)
theorem app_ok {E : Value → Shared → Prop} {D : Addr} {xs : List V} {y : V} {v : Value} {Q : Value → Shared → Prop} (I : Inv X pins σ H s) (hD : H D = some (.lst xs)) (hz : xs.length < sizeLine) (r : RelV y v)
    (h : ∀ s', Inv X pins σ (upd H D (.lst (xs ++ [y]))) s' → Q .none s') : wpAny (model X.prog X.w) X.A (call (.builtin "list.append") [.ref D, v]) Q E s := by
  obtain ⟨hz', its, n, ri, e⟩ := I.hok D _ hD
  have hl := ri.length
  refine append_at (hsz := by rw [List.size_toArray]; omega) e fun h' sb ho' => ?_
  refine h { s with heap := h' } (I.write (t' := s.toks) (by rw [hD]; trivial) (.inl rfl) (fun b u hb q => (sb.2 b hb).trans q) ⟨_, ho'⟩ ⟨by rw [List.length_append]; exact hz, its ++ [v], n + 1, ri.append (.cons r .nil), ?_⟩)
  rw [ho']
  simp
def PTs (X : Cx) (ifs : List Expr) (t : TT) : Prop :=
  ∀ (pins : List (Addr × Obj)) (s : Shared) (σ : St) (H : Hp) (Q : Bool → Hp → Prop), Inv X pins σ H s → t σ H Q →
    wpAny (model X.prog X.w) X.A (forIn ifs true fun c r => if r = true then do let ok ← isTrue c X.env (eval c X.env); pure (ForInStep.yield ok) else pure (ForInStep.yield r)) (TP X pins σ Q) X.xe s
def tYes : TT := fun _ H Q => Q true H
theorem pts_nil : PTs X [] tYes := fun _ _ _ H _ I h => wpAny_tests_nil ⟨H, I, h⟩
end
theorem thnF {α : Type} {t : Sem α} {Q Q' : α → Shared → Prop} {M : Model} {A : Around} {E : Value → Shared → Prop} {s : Shared} (h : wpAny M A t Q (fun _ _ => False) s) (hQ : ∀ a s, Q a s → Q' a s) : wpAny M A t Q' E s := wpAny_mono h hQ fun _ _ z => False.elim z
theorem compLoop_any {prog : Program} {w : World} {A : Around} {R : Result → Shared → Prop} {s : Shared} {elt target iter : Expr} {ifs : List Expr} {scope : Scope} {pos : Pos} {it acc : Value} {env : Env} (I : Nat → Shared → Prop)
    (turn : ∀ n s, I n s → wpAny (model prog w) A (pyNext it) (fun r s₁ => match r with
      | none => R (.ok .next) s₁
      | some v => wpAny (model prog w) A (letOwnedTupleGo target it v) (fun _ s₁' => wpAny (model prog w) A (assign target env v) (fun _ s₂ =>
          wpAny (model prog w) A (forIn ifs true fun c r => if r = true then do let ok ← isTrue c env (eval c env); pure (ForInStep.yield ok) else pure (ForInStep.yield r)) (fun ok s₃ =>
            if ok = true then wpAny (model prog w) A (eval elt env) (fun x s₄ =>
              wpAny (model prog w) A (call (.builtin "list.append") [acc, x]) (fun _ s₅ => ∃ m, m < n ∧ I m s₅) (notedBy (model prog w) A env fun e s' => R (.error e) s') s₄) (notedBy (model prog w) A env fun e s' => R (.error e) s') s₃
            else ∃ m, m < n ∧ I m s₃) (notedBy (model prog w) A env fun e s' => R (.error e) s') s₂) (notedBy (model prog w) A env fun e s' => R (.error e) s') s₁') (notedBy (model prog w) A env fun e s' => R (.error e) s') s₁) (notedBy (model prog w) A env fun e s' => R (.error e) s') s)
    (n : Nat) (h : I n s) :
    codeAny (model prog w) A (.compLoop (.ListComp elt [⟨target, iter, ifs, 0⟩] scope pos) 0 it acc env) R s := by
  refine codeAny_loop rfl I (fun n s hI => ?_) n h
  show wpAny _ A ((compTurn (.ListComp elt [⟨target, iter, ifs, 0⟩] scope pos) 0 it acc env).onRaise (fun x => do noteFrame x env; theTreesLotGoes x)) _ _ s
  refine wpAny_noted ?_
  rw [compTurn_list]
  refine wpAny_bind (wpAny_standAt (wpAny_bind (wpAny_mono (turn n s hI) (fun r s₁ h₁ => ?_) fun _ _ h' => h')))
  cases r with
  | none => exact wpAny_pure h₁
  | some v =>
    refine wpAny_bind (wpAny_mono h₁ (fun _ s₁' h₁' => ?_) fun _ _ h' => h')
    refine wpAny_bind (wpAny_mono h₁' (fun _ s₂ h₂ => wpAny_bind (wpAny_mono h₂ (fun ok s₃ h₃ => ?_) fun _ _ h' => h')) fun _ _ h' => h')
    cases ok with
    | false => exact wpAny_pure ⟨rfl, h₃⟩
    | true =>
      exact wpAny_bind (wpAny_bind (wpAny_mono h₃ (fun x s₄ h₄ => wpAny_bind (wpAny_mono h₄ (fun _ s₅ h₅ => wpAny_pure (wpAny_pure ⟨rfl, h₅⟩)) fun _ _ h' => h')) fun _ _ h' => h'))
section
variable {X : Cx}
def tLc (wi : TI) (g : TG) (tt : TT) (te : TE) (vs : List Nat) : TE := fun σ H Q => wi σ H fun J H1 => ∀ D, H1 D = none → ∃ W : Nat → Nat → Hp → Prop, (∃ m, W 0 m (upd H1 D (.lst []))) ∧ ∀ i m H, W i m H →
  (J.stop i H ∧ Q (.ref D) H) ∨ (J.go i H ∧ ∃ Nx : Hp → Prop, (∀ H', Nx H' → ∃ m', m' < m ∧ W (i + 1) m' H') ∧ ∀ x H', J.yld i H x H' → g x (wipe σ vs) H' fun σ2 H2 => wipe σ2 vs = wipe σ vs ∧ tt σ2 H2 fun b H3 =>
    if b = true then te σ2 H3 fun y H4 => ∃ acc, H4 D = some (.lst acc) ∧ acc.length < sizeLine ∧ Nx (upd H4 D (.lst (acc ++ [y]))) else Nx H3)
theorem lc_core {pins : List (Addr × Obj)} {s : Shared} {σ : St} {H : Hp} {Q : VK} {elt tg iter : Expr} {ifs : List Expr} {scope : Scope} {own : List (Str × Nat)} {pos pos' : Pos} {wi : TI} {g : TG} {tt : TT} {te : TE} {use : Option (Value → Sem Unit)} {Qf : Value → Shared → Prop}
    (hc : X.calm = true) (hN : X.N.Nodup) (I : Inv X pins σ H s) (hi : PI X tg iter wi) (ok : BlkOk X.N X.env.scope scope own)
    (hg : ∀ (s : Shared) (H : Hp) (C : Addr) (cl : List (Str × Addr)) (fp : List Addr), PG (X.blk s H scope (compEnvC scope cl C X.env) fp) tg g) (ht : ∀ (s : Shared) (H : Hp) (C : Addr) (cl : List (Str × Addr)) (fp : List Addr), PTs (X.blk s H scope (compEnvC scope cl C X.env) fp) ifs tt)
    (he : ∀ (s : Shared) (H : Hp) (C : Addr) (cl : List (Str × Addr)) (fp : List Addr), PE (X.blk s H scope (compEnvC scope cl C X.env) fp) elt te) (hs : ∀ x, foldedSetIterable iter X.env x = pure x)
    (h : tLc wi g tt te (own.map (·.2)) σ H Q)
    (hRR : ∀ D C s' m H', Inv X pins σ H' s' → Q (.ref D) H' → s'.heap.Ns C m → FpOk X pins H' C → compPost (model X.prog X.w) X.A X.xe use Qf (.ref D) C (.ok .next) s') :
    wpAny (model X.prog X.w) X.A (comprehension (.ListComp elt [⟨tg, iter, ifs, 0⟩] scope pos) scope X.env pos' (newList []) false (eval iter X.env) use) Qf X.xe s := by
  have hfree : ∀ y ∈ scope.names, y.2 = .free → ∃ c, X.env.cells.lookup y.1 = some c := fun y hy e => by
    rcases ok.free y hy e with k | k
    · exact I.ok.has _ (.inl k)
    · exact I.ok.has _ (.inr k)
  refine wpAny_comprehension_free (use := use) rfl hs (closure_ok hfree) ok.kind (fun y hy e => by rw [ok.uniq y hy, e])
    (thn (hi pins s σ H _ I h) fun xv s1 hx => thn hx fun itv s2 h2 => ?_)
  obtain ⟨it, fp, tn, J, H2, e, I2, T, st2, f2, q⟩ := h2
  subst e
  refine wpAny_newObj_type (newEnv_comp ?_) (by show 0 ≤ sizeLine; decide)
  generalize hD : s2.heap.objs.size = D
  have hDn : H2 D = none := I2.hok.fresh (Nat.le_of_eq hD)
  obtain ⟨W, ⟨m0, w0⟩, turn⟩ := q D hDn
  generalize hs3 : ({ s2 with heap := s2.heap.push { cls := .type "list", data := .seq ([] : List Value).toArray } } : Shared) = s3
  have I3 : Inv X pins σ (upd H2 D (.lst [])) s3 := by
    rw [← hs3]
    refine I2.laid (t' := s2.toks) (fun b o e => Heap.get?_push_of_some _ e) (Nat.le_of_eq hD) ⟨Nat.zero_le _, [], 0, .nil, ?_⟩
    rw [← hD]
    exact Heap.get?_push_size _ rfl
  have h3 : s3.heap = s2.heap.push { cls := .type "list", data := .seq ([] : List Value).toArray } := by rw [← hs3]
  have sz : ∀ b ∈ fp, b < s2.heap.objs.size := fun b hb => by
    obtain ⟨o, e, _⟩ := T.obj _ _ st2 b hb
    exact Heap.lt_size e
  have f3 : ∀ b ∈ fp, FpOk X pins (upd H2 D (.lst [])) b ∧ b < s3.heap.objs.size := fun b hb => by
    have hlt := sz b hb
    refine ⟨⟨?_, (f2 b hb).2⟩, by rw [h3, Heap.size_push]; exact Nat.lt_succ_of_lt hlt⟩
    rw [upd_ne (by rw [← hD]; exact Nat.ne_of_lt hlt)]
    exact (f2 b hb).1
  have st3 : tn 0 s3.heap := T.keep _ _ _ st2 fun b _ o e => by rw [h3]; exact Heap.get?_push_of_some _ e
  have I4 := block_start I3 ok hN f3
  have pg := hg s3 (upd H2 D (.lst [])) s3.heap.objs.size (cellsFrom (s3.heap.objs.size + 1) scope.names (cloFrom X.env.cells scope.names [])) fp
  have pt := ht s3 (upd H2 D (.lst [])) s3.heap.objs.size (cellsFrom (s3.heap.objs.size + 1) scope.names (cloFrom X.env.cells scope.names [])) fp
  have pe := he s3 (upd H2 D (.lst [])) s3.heap.objs.size (cellsFrom (s3.heap.objs.size + 1) scope.names (cloFrom X.env.cells scope.names [])) fp
  show codeAny _ _ (.compStart (.ListComp elt [⟨tg, iter, ifs, 0⟩] scope pos) 0 (.ref it) (.ref D) (compEnvC scope (cellsFrom (s3.heap.objs.size + 1) scope.names (cloFrom X.env.cells scope.names [])) s3.heap.objs.size X.env)) (compPost (model X.prog X.w) X.A X.xe use Qf (.ref D) s3.heap.objs.size) { s3 with heap := pushCells (s3.heap.push { cls := .type "dict", data := .dict #[] }) scope.names }
  have nfp : ∀ b ∈ fp, (upd H2 D (.lst [])) b = none := fun b hb => (f3 b hb).1.1
  generalize hce : compEnvC scope (cellsFrom (s3.heap.objs.size + 1) scope.names (cloFrom X.env.cells scope.names [])) s3.heap.objs.size X.env = ce at I4 pg pt pe ⊢
  have cL : ce.locals = s3.heap.objs.size := by subst hce; rfl
  generalize hH3 : upd H2 D (.lst []) = H3 at I3 I4 pg pt pe w0 nfp f3
  generalize hs4 : ({ s3 with heap := pushCells (s3.heap.push { cls := .type "dict", data := .dict #[] }) scope.names } : Shared) = s4 at I4 ⊢
  have st4 : tn 0 s4.heap := T.keep _ _ _ st3 fun b _ o e => by rw [← hs4]; exact pushCells_keeps _ _ _ _ (Heap.get?_push_of_some _ e)
  have stat : ∀ {σ' : St} {H' : Hp} {s' : Shared}, Inv (X.blk s3 H3 scope ce fp) [] σ' H' s' → (∀ b ∈ fp, H' b = none) → ∀ b ∈ fp, FpOk (X.blk s3 H3 scope ce fp) [] H' b := fun {σ' H' s'} I' hn b hb =>
    ⟨hn b hb, (I'.ok.exf b hb).1, I'.ok.exfs b hb, .inl hb, fun x c e => (I'.ok.exf b hb).2 x c e, fun p hp => absurd (show p ∈ ([] : List (Addr × Obj)) ++ [] from hp) (by simp)⟩
  have loop : codeAny (model X.prog X.w) X.A (.compLoop (.ListComp elt [⟨tg, iter, ifs, 0⟩] scope pos) 0 (.ref it) (.ref D) ce) (compPost (model X.prog X.w) X.A X.xe use Qf (.ref D) s3.heap.objs.size) s4 := by
    refine compLoop_any (fun n s' => ∃ i H', Inv (X.blk s3 H3 scope ce fp) [] (wipe σ (own.map (·.2))) H' s' ∧ tn i s'.heap ∧ (∀ b ∈ fp, H' b = none) ∧ W i n H') ?_ m0 ⟨0, H3, I4, st4, nfp, w0⟩
    rintro n s5 ⟨i, H5, I5, st5, n5, w5⟩
    rcases turn i n H5 w5 with ⟨stop, qq⟩ | ⟨go, Nx, hNx, step⟩
    · have td := T.done (X.blk s3 H3 scope ce fp) rfl rfl rfl hc i [] s5 _ H5 (fun _ _ => False) I5 (stat I5 n5) st5 stop
      refine thnF td fun r s6 ⟨hr, I6⟩ => ?_
      subst hr
      have I7 : Inv X pins σ H5 s6 := I3.call' (ch := fp) I6.os I6.base I6.hok I6.bare fun b hb => ⟨(f3 b hb).1.2.2.2.1, (f3 b hb).1.2.1, (f3 b hb).1.2.2.2.2.1, (f3 b hb).1.2.2.2.2.2⟩
      have nC : H5 s3.heap.objs.size = none := by
        have z : H5 ce.locals = none := I6.free
        rw [cL] at z
        exact z
      obtain ⟨m, hn, _⟩ := I6.loc
      have hn : s6.heap.Ns ce.locals m := hn
      rw [cL] at hn
      exact hRR D s3.heap.objs.size s6 m H5 I7 qq hn (I3.fpOk (Nat.le_refl _) nC)
    · have ti := T.item (X.blk s3 H3 scope ce fp) rfl rfl rfl hc i [] s5 _ H5 (fun _ _ => False) I5 (stat I5 n5) st5 go
      refine thnF ti fun r s6 ⟨u, hr, h6⟩ => ?_
      subst hr
      refine thnF h6 fun _ s7 ⟨x, H7, I7, r7, y7, st7, n7⟩ => ?_
      have I7' := I7.pinned (stat I7 n7) (T.obj _ _ st7)
      refine thnF (pg _ s7 _ H7 x u _ I7' r7 (step x H7 y7)) fun _ s8 ⟨σ8, H8, I8, hw8, q8⟩ => ?_
      refine thnF (pt _ s8 σ8 H8 _ I8 q8) fun b s9 ⟨H9, I9, q9⟩ => ?_
      have fin : ∀ {s' : Shared} {H' : Hp}, Inv (X.blk s3 H3 scope ce fp) ([] ++ pinsAt fp s7.heap) σ8 H' s' → Nx H' → ∃ m, m < n ∧ ∃ i H', Inv (X.blk s3 H3 scope ce fp) [] (wipe σ (own.map (·.2))) H' s' ∧ tn i s'.heap ∧ (∀ b ∈ fp, H' b = none) ∧ W i m H' := fun {s' H'} I' nx => by
        obtain ⟨m', hm, w'⟩ := hNx H' nx
        have pin' : ∀ b ∈ fp, ∀ o, s7.heap.get? b = some o → s'.heap.get? b = some o ∧ H' b = none := fun b hb o e =>
          let z := I'.pin (b, o) (List.mem_append_right _ (List.mem_append_right _ (mem_pinsAt hb e)))
          ⟨z.1, z.2.1⟩
        have hl : (wipe σ (own.map (·.2))).length = σ8.length := by rw [← hw8, wipe_length]
        refine ⟨m', hm, i + 1, H', (I'.unpinned (pins := [])).weak hl (fun j v e => ?_), T.keep _ _ _ st7 fun b hb o e => (pin' b hb o e).1, fun b hb => ?_, w'⟩
        · rw [← hw8] at e
          exact (wipe_some e).1
        · obtain ⟨o, e, _⟩ := T.obj _ _ st7 b hb
          exact (pin' b hb o e).2
      cases b with
      | false =>
        simp only [Bool.false_eq_true, if_false] at q9 ⊢
        exact fin I9 q9
      | true =>
        simp only [if_true] at q9 ⊢
        refine thnF (pe _ s9 σ8 H9 _ I9 q9) fun z s10 ⟨yv, H10, I10, r10, acc, hD10, hz10, nx⟩ => ?_
        exact app_ok (X := X.blk s3 H3 scope ce fp) I10 hD10 hz10 r10 fun s11 I11 => fin I11 nx
  exact codeAny_compStart_list loop (T.self X.A 0 _ _ _ st4 loop)
theorem pe_lc {elt tg iter : Expr} {ifs : List Expr} {scope : Scope} {own : List (Str × Nat)} {pos : Pos} {wi : TI} {g : TG} {tt : TT} {te : TE} (hc : X.calm = true) (hN : X.N.Nodup) (hi : PI X tg iter wi) (ok : BlkOk X.N X.env.scope scope own)
    (hg : ∀ (s : Shared) (H : Hp) (C : Addr) (cl : List (Str × Addr)) (fp : List Addr), PG (X.blk s H scope (compEnvC scope cl C X.env) fp) tg g) (ht : ∀ (s : Shared) (H : Hp) (C : Addr) (cl : List (Str × Addr)) (fp : List Addr), PTs (X.blk s H scope (compEnvC scope cl C X.env) fp) ifs tt)
    (he : ∀ (s : Shared) (H : Hp) (C : Addr) (cl : List (Str × Addr)) (fp : List Addr), PE (X.blk s H scope (compEnvC scope cl C X.env) fp) elt te) (hs : ∀ x, foldedSetIterable iter X.env x = pure x := by intro _; rfl) :
    PE X (.ListComp elt [⟨tg, iter, ifs, 0⟩] scope pos) (tLc wi g tt te (own.map (·.2))) := by
  intro pins s σ H Q I h
  rw [eval_ListComp]
  refine lc_core hc hN I hi ok hg ht he hs h fun D C s' m H' I' q hn f => ⟨m, hn, fun h'' sb => ?_⟩
  obtain ⟨f0, f1, f2, f3, f4, f5⟩ := f
  exact ⟨.ref D, H', I'.turned (t' := s'.toks) (fun b o hb e => (sb.2 b hb).trans e) f0 f1 f3 f4 f5, rfl, q⟩
theorem ps_setLc {i : Nat} {y : Str} {py : Pos} {elt tg iter : Expr} {ifs : List Expr} {scope : Scope} {own : List (Str × Nat)} {pos spos : Pos} {wi : TI} {g : TG} {tt : TT} {te : TE} (hc : X.calm = true) (hN : X.N.Nodup) (hy : X.N[i]? = some y) (hyl : X.env.scope.names.lookup y = some .local)
    (hsw : swapsWith (.ListComp elt [⟨tg, iter, ifs, 0⟩] scope pos) (some (.Name y py)) spos.line X.env = pure true) (hi : PI X tg iter wi) (ok : BlkOk X.N X.env.scope scope own)
    (hg : ∀ (s : Shared) (H : Hp) (C : Addr) (cl : List (Str × Addr)) (fp : List Addr), PG (X.blk s H scope (compEnvC scope cl C X.env) fp) tg g) (ht : ∀ (s : Shared) (H : Hp) (C : Addr) (cl : List (Str × Addr)) (fp : List Addr), PTs (X.blk s H scope (compEnvC scope cl C X.env) fp) ifs tt)
    (he : ∀ (s : Shared) (H : Hp) (C : Addr) (cl : List (Str × Addr)) (fp : List Addr), PE (X.blk s H scope (compEnvC scope cl C X.env) fp) elt te) (hs : ∀ x, foldedSetIterable iter X.env x = pure x := by intro _; rfl) :
    PS X (.Assign [.Name y py] (.ListComp elt [⟨tg, iter, ifs, 0⟩] scope pos) spos) (tAsg (tLc wi g tt te (own.map (·.2))) (gName i)) := by
  intro pins s σ H D I h
  rw [exec_Assign_Name_used _ _ _ _ hsw]
  refine wpAny_bind (wpAny_standAt (wpAny_bind ?_))
  show wpAny _ X.A (do let _ ← comprehension (.ListComp elt [⟨tg, iter, ifs, 0⟩] scope pos) scope X.env (firstIterPos [⟨tg, iter, ifs, 0⟩] pos) (newList []) false (eval iter X.env) (some (assign (.Name y py) X.env))) _ _ s
  have h : tLc wi g tt te (own.map (·.2)) σ H (fun x H1 => gName i x σ H1 D.nx) := h
  refine wpAny_bind (thn (lc_core (Qf := fun _ s' => SP X pins D .next s') hc hN I hi ok hg ht he hs h fun L C s' m H' I' q hn f => ?_) fun _ s' hq => wpAny_pure (wpAny_pure hq))
  show wpAny _ _ (assign (.Name y py) X.env (.ref L)) _ _ _
  refine wpAny_assign_Name (store_ok2 (v := V.ref L) I' hN hy (.inl hyl) rfl (fun s2 I2 ⟨a, sb, ha⟩ => ?_) (.inr hyl))
  obtain ⟨f0, f1, f2, f3, f4, f5⟩ := f
  have haC : C ≠ a := by
    rcases ha with z | z
    · rw [z]; exact f1
    · exact fun e => f4 y a z e.symm
  refine ⟨m, hn.sameBut sb haC, fun h3 sb3 => ?_⟩
  exact ⟨_, H', I2.turned (t' := s2.toks) (fun b o hb e => (sb3.2 b hb).trans e) f0 f1 f3 f4 f5, q⟩
theorem sw_true {elt : Expr} {gs : List Comprehension} {scope : Scope} {pos py : Pos} {y : Str} {l : Nat} {env : Env} (hk : env.scope.kind = .function) (hy : env.scope.names.lookup y = some .local) (hl : (py.line == pos.line) = true)
    (ha : (scope.names.any fun (n, k) => n == y && (k == .local || k == .cell)) = false) : swapsWith (.ListComp elt gs scope pos) (some (.Name y py)) l env = pure true := by
  have ky : env.kindOf y = some .local := hy
  have hb : env.blockKind = .function := by unfold Env.blockKind; rw [hk]; rfl
  unfold swapsWith
  simp only [hb, ky, ha, Expr.pos, hl]
  rfl
end
theorem lc_list {K : PySem.W.Frag} {a : Addr} {xs : List V} {g : TG} {tt : TT} {te : TE} {vs : List Nat} {σ : St} {H1 : Hp} {D : Addr} {Qd : Hp → Prop} (Pv : Nat → Hp → Prop) (h0 : Pv 0 (upd H1 D (.lst []))) (hl : ∀ i H, i ≤ xs.length → Pv i H → SqL K H a xs)
    (hs : ∀ i x H, xs[i]? = some x → Pv i H → g x (wipe σ vs) H fun σ2 H2 => wipe σ2 vs = wipe σ vs ∧ tt σ2 H2 fun b H3 =>
      if b = true then te σ2 H3 fun y H4 => ∃ acc, H4 D = some (.lst acc) ∧ acc.length < sizeLine ∧ Pv (i + 1) (upd H4 D (.lst (acc ++ [y]))) else Pv (i + 1) H3) (hd : ∀ H, Pv xs.length H → Qd H) :
    ∃ W : Nat → Nat → Hp → Prop, (∃ m, W 0 m (upd H1 D (.lst []))) ∧ ∀ i m H, W i m H →
      ((Itl K a).stop i H ∧ Qd H) ∨ ((Itl K a).go i H ∧ ∃ Nx : Hp → Prop, (∀ H', Nx H' → ∃ m', m' < m ∧ W (i + 1) m' H') ∧ ∀ x H', (Itl K a).yld i H x H' → g x (wipe σ vs) H' fun σ2 H2 => wipe σ2 vs = wipe σ vs ∧ tt σ2 H2 fun b H3 =>
        if b = true then te σ2 H3 fun y H4 => ∃ acc, H4 D = some (.lst acc) ∧ acc.length < sizeLine ∧ Nx (upd H4 D (.lst (acc ++ [y]))) else Nx H3) := by
  refine ⟨fun i m H => m = xs.length - i ∧ i ≤ xs.length ∧ Pv i H, ⟨xs.length, by simp, Nat.zero_le _, h0⟩, ?_⟩
  rintro i m H ⟨rfl, hi, p⟩
  have q := hl i H hi p
  by_cases hlt : i < xs.length
  · refine .inr ⟨⟨xs, xs[i], q, by simp [hlt]⟩, Pv (i + 1), fun H' p' => ⟨xs.length - (i + 1), by omega, rfl, hlt, p'⟩, fun x H' y => ?_⟩
    obtain ⟨e, y⟩ := y
    subst e
    exact hs i x _ (y xs q) p
  · have e : i = xs.length := by omega
    subst e
    exact .inl ⟨⟨xs, q, Nat.le_refl _⟩, hd H p⟩
def blkC (N : List Str) (sc scope : Scope) (own : List (Str × Nat)) : Bool :=
  (match scope.kind with | .function => true | _ => false) && (scope.names.all fun y => decide (scope.names.lookup y.1 = some y.2)) && (own.all fun p => decide (N[p.2]? = some p.1)) &&
    (scope.names.all fun y => match y.2 with
      | .free => (match sc.names.lookup y.1 with | some .cell => true | some .free => true | _ => false)
      | .local => decide (y.1 ∈ own.map (·.1)) || decide (y.1 ∉ N)
      | .cell => decide (y.1 ∈ own.map (·.1)) || decide (y.1 ∉ N)
      | _ => true)
theorem blkOk_by {N : List Str} {sc scope : Scope} {own : List (Str × Nat)} (h : blkC N sc scope own = true) : BlkOk N sc scope own := by
  unfold blkC at h
  simp only [Bool.and_eq_true, List.all_eq_true, decide_eq_true_eq] at h
  obtain ⟨⟨⟨h1, h2⟩, h3⟩, h4⟩ := h
  refine ⟨?_, h2, h3, fun y hy e => ?_, fun y hy e => ?_⟩
  · split at h1
    · assumption
    · cases h1
  · have q := h4 y hy
    simp only [e] at q
    split at q <;> first | exact .inl (by assumption) | exact .inr (by assumption) | cases q
  · have q := h4 y hy
    rcases e with e | e <;> (simp only [e, Bool.or_eq_true, decide_eq_true_eq] at q; exact q)
end L2
namespace L2
open PySem PySem.Spec PyProof.Rows
section
variable {prog : Program} {w : World} {A : Around} {R : Result → Shared → Prop} {s : Shared} {elt t0 i0 t1 i1 : Expr} {ifs0 ifs1 : List Expr} {scope : Scope} {pos : Pos} {it acc : Value} {env : Env}
end
section
variable {X : Cx}
end
end L2
namespace L2
open PySem PySem.Spec PyProof.Rows
section
variable {κ : Type} [DecidableEq κ]
def valV (kvs : List (κ × V)) (k : κ) : Option V := (kvs.find? fun kv => decide (kv.1 = k)).map (·.2)
def putK (kvs : List (κ × V)) (k : κ) (v : V) : List (κ × V) :=
  if (kvs.any fun kv => decide (kv.1 = k)) = true then kvs.map (fun kv => if kv.1 = k then (kv.1, v) else kv) else kvs ++ [(k, v)]
def dropK (kvs : List (κ × V)) (k : κ) : List (κ × V) := kvs.filter fun kv => decide (kv.1 ≠ k)
theorem valV_pos {p : κ × V} {r : List (κ × V)} {k : κ} (e : p.1 = k) : valV (p :: r) k = some p.2 := by simp [valV, List.find?_cons, e]
theorem valV_neg {p : κ × V} {r : List (κ × V)} {k : κ} (e : ¬ p.1 = k) : valV (p :: r) k = valV r k := by simp [valV, List.find?_cons, e]
theorem valV_any (k : κ) : ∀ kvs : List (κ × V), (kvs.any fun kv => decide (kv.1 = k)) = (valV kvs k).isSome
  | [] => rfl
  | p :: r => by
    rw [List.any_cons]
    by_cases e : p.1 = k
    · simp only [valV_pos e, decide_eq_true e, Bool.true_or, Option.isSome_some]
    · rw [valV_neg e, decide_eq_false e, Bool.false_or]; exact valV_any k r
theorem valV_map (k j : κ) (y : V) : ∀ kvs : List (κ × V), valV (kvs.map fun kv => if kv.1 = k then (kv.1, y) else kv) j = (valV kvs j).map fun x => if j = k then y else x
  | [] => rfl
  | p :: r => by
    have ih := valV_map k j y r
    rw [List.map_cons]
    by_cases h : p.1 = k
    · rw [if_pos h]
      by_cases e : p.1 = j
      · rw [valV_pos (p := (p.1, y)) e, valV_pos e, Option.map_some, if_pos (e.symm.trans h)]
      · rw [valV_neg (p := (p.1, y)) e, valV_neg e, ih]
    · rw [if_neg h]
      by_cases e : p.1 = j
      · rw [valV_pos (p := p) e, valV_pos e, Option.map_some, if_neg (fun z => h (e.trans z))]
      · rw [valV_neg (p := p) e, valV_neg e, ih]
theorem valV_snoc (k j : κ) (y : V) : ∀ kvs : List (κ × V), valV kvs k = none → valV (kvs ++ [(k, y)]) j = if j = k then some y else valV kvs j
  | [], _ => by
    by_cases e : k = j
    · rw [if_pos e.symm]; exact valV_pos (p := (k, y)) e
    · rw [if_neg (fun z => e z.symm)]; exact valV_neg (p := (k, y)) e
  | p :: r, hn => by
    rw [List.cons_append]
    have hk : ¬ p.1 = k := fun z => by rw [valV_pos z] at hn; cases hn
    rw [valV_neg hk] at hn
    have ih := valV_snoc k j y r hn
    by_cases e : p.1 = j
    · rw [valV_pos e, valV_pos e, if_neg (fun z => hk (e.trans z))]
    · rw [valV_neg e, valV_neg e, ih]
theorem valV_put (kvs : List (κ × V)) (k j : κ) (y : V) : valV (putK kvs k y) j = if j = k then some y else valV kvs j := by
  unfold putK
  by_cases a : (kvs.any fun kv => decide (kv.1 = k)) = true
  · rw [if_pos a, valV_map]
    rw [valV_any] at a
    by_cases e : j = k
    · obtain ⟨x, hx⟩ := Option.isSome_iff_exists.mp a
      rw [if_pos e, e, hx, Option.map_some, if_pos rfl]
    · rw [if_neg e]
      cases valV kvs j with
      | none => rfl
      | some x => rw [Option.map_some, if_neg e]
  · rw [if_neg a]
    refine valV_snoc k j y kvs ?_
    rw [valV_any] at a
    cases q : valV kvs k with
    | none => rfl
    | some x => rw [q] at a; exact (a rfl).elim
theorem length_putK (kvs : List (κ × V)) (k : κ) (v : V) : (putK kvs k v).length ≤ kvs.length + 1 := by
  unfold putK
  split
  · rw [List.length_map]; omega
  · rw [List.length_append, List.length_cons, List.length_nil]; omega
theorem RelO.isSome_eq {o : Option V} {u : Option Value} (r : RelO o u) : o.isSome = u.isSome := by
  cases o with
  | none => cases u with
    | none => rfl
    | some _ => exact (show False from r).elim
  | some _ => cases u with
    | none => exact (show False from r).elim
    | some _ => rfl
theorem RelO.getD {o : Option V} {u : Option Value} {d : V} {d' : Value} (r : RelO o u) (rd : RelV d d') : RelV (o.getD d) (u.getD d') := by
  cases o with
  | none => cases u with
    | none => exact rd
    | some _ => exact (show False from r).elim
  | some _ => cases u with
    | none => exact (show False from r).elim
    | some _ => exact r
theorem KV.val {kvs : List (κ × V)} {vs : List (κ × Value)} (r : KV kvs vs) (k : κ) : RelO (valV kvs k) (valueAt vs k) := by
  unfold KV at r
  induction r with
  | nil => exact True.intro
  | @cons p q ps qs h t ih =>
    obtain ⟨h1, h2⟩ := h
    by_cases e : p.1 = k
    · have e' : q.1 = k := h1.symm.trans e
      have b : valueAt (q :: qs) k = some q.2 := by simp [valueAt, List.find?_cons, e']
      rw [valV_pos e, b]; exact h2
    · have e' : ¬ q.1 = k := fun z => e (h1.trans z)
      have b : valueAt (q :: qs) k = valueAt qs k := by simp [valueAt, List.find?_cons, e']
      rw [valV_neg e, b]; exact ih
theorem KV.any {kvs : List (κ × V)} {vs : List (κ × Value)} (r : KV kvs vs) (k : κ) : (kvs.any fun kv => decide (kv.1 = k)) = vs.any fun kv => decide (kv.1 = k) := by
  unfold KV at r
  induction r with
  | nil => rfl
  | cons h t ih => rw [List.any_cons, List.any_cons, ih, h.1]
theorem KV.repl {kvs : List (κ × V)} {vs : List (κ × Value)} (r : KV kvs vs) (k : κ) {y : V} {u : Value} (ry : RelV y u) :
    KV (kvs.map fun kv => if kv.1 = k then (kv.1, y) else kv) (vs.map fun kv => if kv.1 = k then (kv.1, u) else kv) := by
  unfold KV at r ⊢
  induction r with
  | nil => exact .nil
  | @cons p q ps qs h t ih =>
    rw [List.map_cons, List.map_cons]
    refine .cons ?_ ih
    obtain ⟨h1, h2⟩ := h
    by_cases e : p.1 = k
    · rw [if_pos e, if_pos (h1.symm.trans e)]; exact ⟨h1, ry⟩
    · rw [if_neg e, if_neg (fun z => e (h1.trans z))]; exact ⟨h1, h2⟩
theorem KV.put {kvs : List (κ × V)} {vs : List (κ × Value)} (r : KV kvs vs) (k : κ) {y : V} {u : Value} (ry : RelV y u) : KV (putK kvs k y) (stored vs k u) := by
  unfold putK stored
  rw [r.any k]
  by_cases e : (vs.any fun kv => decide (kv.1 = k)) = true
  · rw [if_pos e, if_pos e]; exact r.repl k ry
  · rw [if_neg e, if_neg e]; exact Paired.snoc r ⟨rfl, ry⟩
theorem KV.drop {kvs : List (κ × V)} {vs : List (κ × Value)} (r : KV kvs vs) (k : κ) : KV (dropK kvs k) (without vs k) := by
  unfold KV at r ⊢
  unfold dropK without
  induction r with
  | nil => exact .nil
  | @cons p q ps qs h t ih =>
    obtain ⟨h1, h2⟩ := h
    rw [List.filter_cons, List.filter_cons]
    by_cases e : p.1 = k
    · have a : ¬ decide (p.1 ≠ k) = true := by simp [e]
      have b : ¬ decide (q.1 ≠ k) = true := by simp [h1.symm.trans e]
      rw [if_neg a, if_neg b]; exact ih
    · have e' : ¬ q.1 = k := fun z => e (h1.trans z)
      have a : decide (p.1 ≠ k) = true := by simp [e]
      have b : decide (q.1 ≠ k) = true := by simp [e']
      rw [if_pos a, if_pos b]; exact .cons ⟨h1, h2⟩ ih
theorem KV.keys {kvs : List (κ × V)} {vs : List (κ × Value)} (r : KV kvs vs) : kvs.map (·.1) = vs.map (·.1) := by
  unfold KV at r
  induction r with
  | nil => rfl
  | cons h t ih => rw [List.map_cons, List.map_cons, ih, h.1]
theorem KV.length {kvs : List (κ × V)} {vs : List (κ × Value)} (r : KV kvs vs) : kvs.length = vs.length := Paired.length r
end
theorem kV_is {P : Program} {w : World} {k : Key} {u : Value} (r : RelV (kV k) u) : (mixKind P w).is k u = true := by
  cases k with
  | inl i => obtain ⟨t, e⟩ := (show ∃ t, u = Value.int i t from r); subst e; exact mixKind_int P w i t
  | inr x => obtain ⟨t, e⟩ := (show ∃ t, u = Value.str x t from r); subst e; exact mixKind_str P w x t
theorem items_are {P : Program} {w : World} : ∀ {ks : List Key} {us : List Value}, Vals (ks.map kV) us → ItemsAre (mixKind P w) ks us
  | [], _, r => by rw [List.map_nil] at r; cases r; exact .nil
  | k :: ks, _, r => by
    rw [List.map_cons] at r
    cases r with
    | cons h t => exact .cons (kV_is h) (items_are t)
abbrev KT (H : Hp) : List (List Key × V) → List (List Key × Addr × Value) → Prop := Paired fun p q => p.1 = q.1 ∧ H q.2.1 = some (.tup (p.1.map kV)) ∧ RelV p.2 q.2.2
theorem KT.val {H : Hp} {kvs : List (List Key × V)} {xs : List (List Key × Addr × Value)} (r : KT H kvs xs) (k : List Key) : RelO (valV kvs k) ((atKey xs k).map (·.2)) := by
  induction r with
  | nil => exact True.intro
  | @cons p q ps qs h t ih =>
    obtain ⟨h1, _, h2⟩ := h
    by_cases e : p.1 = k
    · have e' : q.1 = k := h1.symm.trans e
      have b : atKey (q :: qs) k = some q.2 := by simp [atKey, List.find?_cons, e']
      rw [valV_pos e, b]; exact h2
    · have e' : ¬ q.1 = k := fun z => e (h1.trans z)
      have b : atKey (q :: qs) k = atKey qs k := by simp [atKey, List.find?_cons, e']
      rw [valV_neg e, b]; exact ih
theorem KT.repl {H : Hp} {kvs : List (List Key × V)} {xs : List (List Key × Addr × Value)} (r : KT H kvs xs) (k : List Key) {y : V} {u : Value} (ry : RelV y u) :
    KT H (kvs.map fun kv => if kv.1 = k then (kv.1, y) else kv) (xs.map (putAt k u)) := by
  induction r with
  | nil => exact .nil
  | @cons p q ps qs h t ih =>
    rw [List.map_cons, List.map_cons]
    refine .cons ?_ ih
    obtain ⟨h1, h2, h3⟩ := h
    unfold putAt
    by_cases e : p.1 = k
    · rw [if_pos e, if_pos (h1.symm.trans e)]; exact ⟨h1, h2, ry⟩
    · rw [if_neg e, if_neg (fun z => e (h1.trans z))]; exact ⟨h1, h2, h3⟩
theorem KT.put {H : Hp} {kvs : List (List Key × V)} {xs : List (List Key × Addr × Value)} (r : KT H kvs xs) (k : List Key) {b : Addr} {y : V} {u : Value} (hb : H b = some (.tup (k.map kV))) (ry : RelV y u) :
    KT H (putK kvs k y) (storedH xs k b u) := by
  have e : (kvs.any fun kv => decide (kv.1 = k)) = (atKey xs k).isSome := by
    rw [valV_any, (r.val k).isSome_eq, Option.isSome_map]
  unfold putK storedH
  rw [e]
  by_cases q : (atKey xs k).isSome = true
  · rw [if_pos q, if_pos q]; exact r.repl k ry
  · rw [if_neg q, if_neg q]; exact Paired.snoc r ⟨rfl, hb, ry⟩
theorem KT.keeps {H H' : Hp} {kvs : List (List Key × V)} {xs : List (List Key × Addr × Value)} (r : KT H kvs xs) (ht : ∀ b ys, H b = some (.tup ys) → H' b = some (.tup ys)) : KT H' kvs xs :=
  Paired.mapP r fun _ _ z => ⟨z.1, ht _ _ z.2.1, z.2.2⟩
section
variable {P : Program} {w : World} {H : Hp} {h : Heap} {a : Addr}
theorem rd_of {u : HO} (ok : HOk P w H h) (e : Rd H a u) : ObjOk P w H h a u := e.ok ok
theorem dk_rd {kvs : List (Key × V)} (ok : HOk P w H h) (e : Rd H a (.dK kvs)) : kvs.length ≤ sizeLine ∧ (a == sysModules) = false ∧ ∃ vs, KV kvs vs ∧ h.DictOf (mixKind P w) a vs :=
  show ObjOk P w H h a (.dK kvs) from rd_of ok e
theorem dk_of {kvs : List (Key × V)} (ok : HOk P w H h) (e : H a = some (.dK kvs)) : kvs.length ≤ sizeLine ∧ (a == sysModules) = false ∧ ∃ vs, KV kvs vs ∧ h.DictOf (mixKind P w) a vs := dk_rd ok (.inl e)
theorem key_of {ks : List Key} (ok : HOk P w H h) (e : H a = some (.tup (ks.map kV))) : (tupleKind (mixKind P w)).is h ks a := by
  obtain ⟨_, its, r, o, h1, h2, n, h3⟩ := (show ObjOk P w H h a (.tup (ks.map kV)) from ok a _ e)
  exact ⟨o, its.toArray, n, h1, h2, h3, by simpa using items_are r⟩
theorem dt_rd {kvs : List (List Key × V)} (ok : HOk P w H h) (e : Rd H a (.dT kvs)) : kvs.length ≤ sizeLine ∧ (a == sysModules) = false ∧
    ∃ xs, KT H kvs xs ∧ h.DictOfH (tupleKind (mixKind P w)) a xs := by
  obtain ⟨z, y, xs, r, o, es, ep, h1, h2, h3, h4, h5⟩ := (show ObjOk P w H h a (.dT kvs) from rd_of ok e)
  refine ⟨z, y, xs, r, o, es, ep, h1, h2, h3, h4, fun x hx => ?_, h5⟩
  have all : ∀ {l : List (List Key × V)} {m : List (List Key × Addr × Value)}, KT H l m → ∀ x ∈ m, (tupleKind (mixKind P w)).is h x.1 x.2.1 := by
    intro l m q
    induction q with
    | nil => intro x hx; exact nomatch hx
    | @cons p q ps qs hq t ih =>
      intro x hx
      rcases List.mem_cons.mp hx with e | hx
      · subst e
        exact key_of ok (by rw [← hq.1]; exact hq.2.1)
      · exact ih x hx
  exact all r x hx
theorem dt_of {kvs : List (List Key × V)} (ok : HOk P w H h) (e : H a = some (.dT kvs)) : kvs.length ≤ sizeLine ∧ (a == sysModules) = false ∧
    ∃ xs, KT H kvs xs ∧ h.DictOfH (tupleKind (mixKind P w)) a xs := dt_rd ok (.inl e)
end
def DGet (H : Hp) (a : Addr) (y : V) (r : Option V) : Prop :=
  (∃ kvs k, Rd H a (.dK kvs) ∧ y = kV k ∧ r = valV kvs k) ∨ ∃ kvs k b, Rd H a (.dT kvs) ∧ y = .ref b ∧ H b = some (.tup (k.map kV)) ∧ r = valV kvs k
def DPut (H : Hp) (a : Addr) (y v : V) (H' : Hp) : Prop :=
  (∃ kvs k, H a = some (.dK kvs) ∧ y = kV k ∧ kvs.length < sizeLine ∧ H' = upd H a (.dK (putK kvs k v))) ∨
  ∃ kvs k b, H a = some (.dT kvs) ∧ y = .ref b ∧ H b = some (.tup (k.map kV)) ∧ kvs.length < sizeLine ∧ H' = upd H a (.dT (putK kvs k v))
theorem DGet.k {H : Hp} {a : Addr} {kvs : List (Key × V)} {k : Key} (e : H a = some (.dK kvs)) : DGet H a (kV k) (valV kvs k) := .inl ⟨kvs, k, .inl e, rfl, rfl⟩
theorem DGet.t {H : Hp} {a b : Addr} {kvs : List (List Key × V)} {k : List Key} (e : H a = some (.dT kvs)) (eb : H b = some (.tup (k.map kV))) : DGet H a (.ref b) (valV kvs k) := .inr ⟨kvs, k, b, .inl e, rfl, eb, rfl⟩
theorem DPut.k {H : Hp} {a : Addr} {kvs : List (Key × V)} {k : Key} {v : V} (e : H a = some (.dK kvs)) (hl : kvs.length < sizeLine) : DPut H a (kV k) v (upd H a (.dK (putK kvs k v))) := .inl ⟨kvs, k, e, rfl, hl, rfl⟩
theorem DPut.t {H : Hp} {a b : Addr} {kvs : List (List Key × V)} {k : List Key} {v : V} (e : H a = some (.dT kvs)) (eb : H b = some (.tup (k.map kV))) (hl : kvs.length < sizeLine) :
    DPut H a (.ref b) v (upd H a (.dT (putK kvs k v))) := .inr ⟨kvs, k, b, e, rfl, eb, hl, rfl⟩
section
variable {X : Cx} {pins : List (Addr × Obj)} {σ : St} {H : Hp} {s : Shared} {a : Addr} {y v : V} {u r : Value} {o : Option V} {A : Around} {E : Value → Shared → Prop}
theorem Inv.big (I : Inv X pins σ H s) : sysModules < s.heap.objs.size := by
  have h : mainGlobals < s.heap.objs.size := (I.mod.glob.keeps I.bk).lt
  exact Nat.lt_trans (by decide) h
theorem d_getItem {Q : Value → Shared → Prop} (hu : A.units + 1 < cLine) (I : Inv X pins σ H s) (g : DGet H a y (some v)) (ry : RelV y u) (h : ∀ w' s', Inv X pins σ H s' → RelV v w' → Q w' s') :
    wpAny (model X.prog X.w) A (getItem (.ref a) u) Q E s := by
  rcases g with ⟨kvs, k, e, ey, l⟩ | ⟨kvs, k, b, e, ey, eb, l⟩
  · subst ey
    obtain ⟨z, hd, vs, rel, dd⟩ := dk_rd I.hok e
    obtain ⟨w', hw, rw'⟩ := RelO.some_of (v := v) (o := valueAt vs k) (by rw [l]; exact rel.val k)
    exact wpAny_getItem_of (kV_is ry) dd.mapOf hw (h w' _ (I.tok _) rw')
  · subst ey
    cases (show u = Value.ref b from ry)
    obtain ⟨z, hd, xs, rel, dd⟩ := dt_rd I.hok e
    obtain ⟨w', hw, rw'⟩ := RelO.some_of (v := v) (o := (atKey xs k).map (·.2)) (by rw [l]; exact rel.val k)
    obtain ⟨p, hp, hp2⟩ := Option.map_eq_some_iff.mp hw
    refine wpAny_getItem_heap (tupleKind_room_in1 hu) (key_of I.hok eb) dd hp ?_
    rw [hp2]
    exact h w' _ (I.tok _) rw'
theorem d_in {Q : Value → Shared → Prop} (hu : A.units + 1 < cLine) (I : Inv X pins σ H s) (g : DGet H a y o) (ry : RelV y u) (h : ∀ s', Inv X pins σ H s' → Q (.bool o.isSome) s') :
    wpAny (model X.prog X.w) A (compareOp .In u (.ref a)) Q E s := by
  rcases g with ⟨kvs, k, e, ey, l⟩ | ⟨kvs, k, b, e, ey, eb, l⟩
  · subst ey
    obtain ⟨z, hd, vs, rel, dd⟩ := dk_rd I.hok e
    refine wpAny_in_of (kV_is ry) hd dd.mapOf ?_
    rw [← (rel.val k).isSome_eq, ← l]
    exact h _ (I.tok _)
  · subst ey
    cases (show u = Value.ref b from ry)
    obtain ⟨z, hd, xs, rel, dd⟩ := dt_rd I.hok e
    refine wpAny_in_heap (tupleKind_room_in1 hu) (key_of I.hok eb) hd dd ?_
    have q := (rel.val k).isSome_eq
    rw [Option.isSome_map] at q
    rw [← q, ← l]
    exact h _ (I.tok _)
theorem d_write {h' : Heap} {t' : Nat} {ob : HO} (I : Inv X pins σ H s) (mu : Mut (H a)) (hs : Heap.SameBut a s.heap h') (he : ∃ q, h'.get? a = some q) (new : ObjOk X.prog X.w (upd H a ob) h' a ob) :
    Inv X pins σ (upd H a ob) { s with heap := h', toks := t' } :=
  I.write (x := a) (e := a) mu (.inl rfl) (fun b q hb z => (hs.2 b hb).trans z) he new
theorem dk_new {P : Program} {w : World} {H' : Hp} {h' : Heap} {kvs : List (Key × V)} {vs : List (Key × Value)} (z : kvs.length ≤ sizeLine) (hd : (a == sysModules) = false) (rel : KV kvs vs) (dd : h'.DictOf (mixKind P w) a vs) :
    ObjOk P w H' h' a (.dK kvs) := ⟨z, hd, vs, rel, dd⟩
theorem d_setItem {H' : Hp} {Q : Unit → Shared → Prop} (hu : A.units + 1 < cLine) (I : Inv X pins σ H s) (g : DPut H a y v H') (ry : RelV y u) (rv : RelV v r) (h : ∀ s', Inv X pins σ H' s' → Q () s') :
    wpAny (model X.prog X.w) A (setItem (.ref a) u r) Q E s := by
  rcases g with ⟨kvs, k, e, ey, l, eH⟩ | ⟨kvs, k, b, e, ey, eb, l, eH⟩
  · subst ey eH
    obtain ⟨z, hd, vs, rel, dd⟩ := dk_of I.hok e
    have hz : vs.length ≤ sizeLine := by rw [← rel.length]; exact z
    have hl : (putK kvs k v).length ≤ sizeLine := by have := length_putK kvs k v; omega
    refine wpAny_setItem_pairs (hsz := hz) (kV_is ry) dd fun h' dd' hs => h _ ?_
    have he : ∃ q, h'.get? a = some q := let ⟨q, _, _, hq, _⟩ := dd'; ⟨q, hq⟩
    exact d_write I (by rw [e]; exact True.intro) hs he (dk_new hl hd (rel.put k rv) dd')
  · subst ey eH
    cases (show u = Value.ref b from ry)
    obtain ⟨z, hd, xs, rel, dd⟩ := dt_of I.hok e
    have hz : xs.length ≤ sizeLine := by rw [← Paired.length rel]; exact z
    have hl : (putK kvs k v).length ≤ sizeLine := by have := length_putK kvs k v; omega
    refine wpAny_setItem_heap (hsz := hz) (tupleKind_room_in1 hu) (key_of I.hok eb) dd fun h' dd' hs => h _ ?_
    obtain ⟨q, es, ep, hq, h2, h3, h4, _, h5⟩ := dd'
    refine d_write I (by rw [e]; exact True.intro) hs ⟨q, hq⟩ ⟨hl, hd, _, (rel.put k eb rv).keeps fun c ys ec => ?_, q, es, ep, hq, h2, h3, h4, h5⟩
    rw [upd_ne (ne_of ec e (fun z => nomatch z))]
    exact ec
end
section
variable {X : Cx} {pins : List (Addr × Obj)} {σ : St} {H : Hp} {s : Shared} {a : Addr} {kvs : List (Key × V)} {k : Key} {u : Value} {A : Around} {E : Value → Shared → Prop}
end
def NoSl (i : Expr) : Prop := ∀ ov iv, subscripted i false ov iv = operate [ov, iv] (getItem ov iv)
theorem subD_of {prog : Program} {w : World} {A : Around} {E : Value → Shared → Prop} {s : Shared} {env : Env} {value slice : Expr} {pos : Pos} {T id : String} {Q : Value → Shared → Prop}
    (hl : typeLookup (.type T) "__getitem__" = pure (some (.builtin id))) (hs : NoSl slice)
    (h : wpAny (model prog w) A (eval value env) (fun o s₁ => wpAny (model prog w) A (eval slice env) (fun i s₂ => s₂.TypeIs o T ∧ wpAny (model prog w) A (getItem o i) Q E s₂) E s₁) E s) :
    wpAny (model prog w) A (eval (.Subscript value slice pos) env) Q E s := by
  refine Subscript_ (wpAny_mono h (fun o s₁ h₁ => wpAny_mono h₁ (fun i s₂ h₂ => ?_) fun _ _ x => x) fun _ _ x => x)
  obtain ⟨hT, h₂⟩ := h₂
  unfold subscriptTail
  refine wpAny_bind ?_
  rw [getitemInPython_of_ne hT.not_modules]
  refine wpAny_bind (wpAny_specialOf hT hl ?_)
  have fin : wpAny (model prog w) A (subscripted slice false o i) (fun r s₃ => wpAny (model prog w) A (letTemporaryGo value o r >>= fun _ => pure r) Q E s₃) E s₂ := by
    rw [hs o i]
    exact wpAny_operating (wpAny_mono h₂ (fun r s₃ h₃ => wpAny_bind (wpAny_letTemporaryGo (wpAny_pure h₃))) fun _ _ x => x)
  first
    | exact wpAny_pure (wpAny_bind fin)
    | exact wpAny_bind (wpAny_pure (wpAny_bind fin))
    | exact wpAny_bind fin
theorem dict_typeIs {X : Cx} {pins : List (Addr × Obj)} {σ : St} {H : Hp} {s : Shared} {a : Addr} {y : V} {o : Option V} (I : Inv X pins σ H s) (g : DGet H a y o) : s.TypeIs (.ref a) "dict" := by
  rcases g with ⟨kvs, k, e, _, _⟩ | ⟨kvs, k, b, e, _, _, _⟩
  · obtain ⟨_, _, vs, _, dd⟩ := dk_rd I.hok e
    exact dd.typeIs
  · obtain ⟨_, _, xs, _, dd⟩ := dt_rd I.hok e
    exact dd.typeIs
def tDGet (td ty : TE) : TE := fun σ H Q => td σ H fun x H1 => ty σ H1 fun y H2 => ∃ a v, x = .ref a ∧ DGet H2 a y (some v) ∧ Q v H2
def tDIn (ty td : TE) : TE := fun σ H Q => ty σ H fun y H1 => td σ H1 fun x H2 => ∃ a o, x = .ref a ∧ DGet H2 a y o ∧ Q (.bl o.isSome) H2
def tDNotIn (ty td : TE) : TE := fun σ H Q => ty σ H fun y H1 => td σ H1 fun x H2 => ∃ a o, x = .ref a ∧ DGet H2 a y o ∧ Q (.bl (!o.isSome)) H2
def sDPut (td ty tv : TE) : TS := fun D σ H => tv σ H fun v H1 => td σ H1 fun x H2 => ty σ H2 fun y H3 => ∃ a H4, x = .ref a ∧ DPut H3 a y v H4 ∧ D.nx σ H4
section
variable {X : Cx} {o i e value : Expr} {pos pos' tpos : Pos} {td ty tv : TE}
theorem pe_dget (hu : X.A.units + 1 < cLine) (ho : PE X o td) (hi : PE X i ty) (hs : NoSl i) : PE X (.Subscript o i pos) (tDGet td ty) := by
  intro pins s σ H Q I h
  refine subD_of PySem.F.slot_dict_getitem.lookup hs (thn (ho pins s σ H _ I h) fun u s1 ⟨x, H1, I1, rx, q1⟩ => thn (hi pins s1 σ H1 _ I1 q1) fun iv s2 ⟨y, H2, I2, ry, a, v, ex, g, q2⟩ => ?_)
  subst ex
  obtain rfl : u = Value.ref a := rx
  exact ⟨dict_typeIs I2 g, d_getItem hu I2 g ry fun w' s3 I3 rw' => ⟨v, H2, I3, rw', q2⟩⟩
theorem pc_din (hu : X.A.units + 1 < cLine) (hi : PE X i ty) (ho : PE X o td) : PC X .In i o (tDIn ty td) := by
  intro pins s σ H Q I h
  refine thn (hi pins s σ H _ I h) fun iv s1 ⟨y, H1, I1, ry, q1⟩ => thn (ho pins s1 σ H1 _ I1 q1) fun u s2 ⟨x, H2, I2, rx, a, ov, ex, g, q2⟩ => ?_
  subst ex
  obtain rfl : u = Value.ref a := rx
  exact d_in hu I2 g ry fun s3 I3 => ⟨.bl ov.isSome, H2, I3, rfl, q2⟩
theorem ps_dput (hu : X.A.units + 1 < cLine) (ho : PE X o td) (hi : PE X i ty) (hv : PE X value tv) (hs : swapsWith value (some (.Subscript o i pos')) pos.line X.env = pure false) :
    PS X (.Assign [.Subscript o i pos'] value pos) (sDPut td ty tv) := by
  intro pins s σ H D I h
  refine wpAny_Assign_Subscript (thn (hv pins s σ H _ I h) fun r s1 ⟨v, H1, I1, rv, q1⟩ => thn (ho pins s1 σ H1 _ I1 q1) fun u s2 ⟨x, H2, I2, rx, q2⟩ => thn (hi pins s2 σ H2 _ I2 q2) fun iv s3 ⟨y, H3, I3, ry, a, H4, ex, g, q3⟩ => ?_) hs
  subst ex
  obtain rfl : u = Value.ref a := rx
  exact d_setItem hu I3 g ry rv fun s4 I4 => ⟨σ, H4, I4, q3⟩
end
theorem dk_empty {P : Program} {w : World} {H : Hp} (h : Heap) (hb : sysModules < h.objs.size) : ObjOk P w H (h.push { cls := .type "dict", data := .dict #[] }) h.objs.size (.dK []) :=
  ⟨Nat.zero_le _, beq_eq_false_iff_ne.mpr (Ne.symm (Nat.ne_of_lt hb)), [], .nil, Heap.DictOf.new h⟩
def tDNewK : TE := fun _ H Q => ∀ p, H p = none → Q (.ref p) (upd H p (.dK []))
section
variable {X : Cx} {pos : Pos}
theorem pe_dnewK : PE X (.Dict [] [] pos) tDNewK := fun pins s σ H Q I h =>
  wpAny_Dict_empty ⟨.ref s.heap.objs.size, _, I.laid (a := s.heap.objs.size) (o := .dK []) (t' := s.toks) (fun _ _ q => Heap.get?_push_of_some _ q) (Nat.le_refl _) (dk_empty s.heap I.big), rfl, h _ (I.hok.fresh (Nat.le_refl _))⟩
end
def tPairs : List (TE × TE) → St → Hp → (List (V × V) → Hp → Prop) → Prop
  | [], _, H, Q => Q [] H
  | (tk, tv) :: r, σ, H, Q => tk σ H fun x H1 => tv σ H1 fun y H2 => tPairs r σ H2 fun ps H3 => Q ((x, y) :: ps) H3
abbrev VV : List (V × V) → List (Value × Value) → Prop := Paired fun p q => RelV p.1 q.1 ∧ RelV p.2 q.2
def PPs (X : Cx) (pos : Pos) (keys : List (Option Expr)) (values : List Expr) (trs : List (TE × TE)) : Prop :=
  ∀ (pins : List (Addr × Obj)) (s : Shared) (σ : St) (H : Hp) (Q : List (V × V) → Hp → Prop), Inv X pins σ H s → tPairs trs σ H Q →
    wpAny (model X.prog X.w) X.A (evalPairs (pairTrees keys values X.env pos)) (fun vs s' => ∃ ps H', Inv X pins σ H' s' ∧ VV ps vs ∧ Q ps H') X.xe s
theorem pps_nil {X : Cx} {pos : Pos} : PPs X pos [] [] [] := fun pins s σ H Q I h => pairTrees_nil_walk ⟨[], H, I, .nil, h⟩
theorem pps_cons {X : Cx} {pos : Pos} {k v : Expr} {ks : List (Option Expr)} {vs : List Expr} {tk tv : TE} {trs : List (TE × TE)} (hk : PE X k tk) (hv : PE X v tv) (hr : PPs X pos ks vs trs) :
    PPs X pos (some k :: ks) (v :: vs) ((tk, tv) :: trs) := fun pins s σ H Q I h =>
  pairTrees_cons_walk (thn (hk pins s σ H _ I h) fun u s1 ⟨x, H1, I1, rx, q1⟩ => thn (hv pins s1 σ H1 _ I1 q1) fun w2 s2 ⟨y, H2, I2, ry, q2⟩ =>
    thn (hr pins s2 σ H2 _ I2 q2) fun ws s3 ⟨ps, H3, I3, rel, q3⟩ => ⟨(x, y) :: ps, H3, I3, .cons ⟨rx, ry⟩ rel, q3⟩)
def mergeK (kvs more : List (Key × V)) : List (Key × V) := more.foldl (fun acc kv => putK acc kv.1 kv.2) kvs
theorem KV.merge : ∀ {more : List (Key × V)} {rs : List (Key × Value)} {kvs : List (Key × V)} {vs : List (Key × Value)}, KV more rs → KV kvs vs → KV (mergeK kvs more) (merged vs rs) := by
  intro more rs kvs vs r
  unfold KV at r
  induction r generalizing kvs vs with
  | nil => intro q; exact q
  | @cons p q ps qs h t ih =>
    intro r0
    have e : KV (putK kvs p.1 p.2) (stored vs q.1 q.2) := by
      have := r0.put p.1 h.2
      rw [← h.1]; exact this
    exact ih e
theorem length_mergeK : ∀ (more kvs : List (Key × V)), (mergeK kvs more).length ≤ kvs.length + more.length
  | [], kvs => by show kvs.length ≤ kvs.length + 0; omega
  | p :: r, kvs => by
    have h1 := length_mergeK r (putK kvs p.1 p.2)
    have h2 := length_putK kvs p.1 p.2
    show (mergeK (putK kvs p.1 p.2) r).length ≤ _
    rw [List.length_cons]; omega
theorem carries_of {P : Program} {w : World} : ∀ {kvs : List (Key × V)} {ws : List (Value × Value)}, VV (kvs.map fun kv => (kV kv.1, kv.2)) ws → ∃ rs, Carries (mixKind P w) ws rs ∧ KV kvs rs
  | [], _, r => by rw [List.map_nil] at r; cases r; exact ⟨[], True.intro, .nil⟩
  | p :: kvs, _, r => by
    rw [List.map_cons] at r
    cases r with
    | @cons a b as bs h t =>
      obtain ⟨rs, c, q⟩ := carries_of (P := P) (w := w) t
      obtain ⟨b1, b2⟩ := b
      exact ⟨(p.1, b2) :: rs, ⟨kV_is h.1, rfl, c⟩, .cons ⟨rfl, h.2⟩ q⟩
def tDisp (trs : List (TE × TE)) : TE := fun σ H Q => ∀ p, H p = none → tPairs trs σ (upd H p (.dK [])) fun ps H2 => H2 p = some (.dK []) ∧ ∃ kvs : List (Key × V), ps = kvs.map (fun kv => (kV kv.1, kv.2)) ∧ kvs.length ≤ 15 ∧ Q (.ref p) (upd H2 p (.dK (mergeK [] kvs)))
theorem pe_disp {X : Cx} {pos : Pos} {keys : List (Option Expr)} {values : List Expr} {trs : List (TE × TE)} (h : PPs X pos keys values trs) (hall : keys.all (·.isSome) = true) (hl : keys.length = values.length) (h0 : keys ≠ [])
    (h15 : keys.length ≤ 15) : PE X (.Dict keys values pos) (tDisp trs) := by
  intro pins s σ H Q I q
  have hn := I.hok.fresh (Nat.le_refl s.heap.objs.size)
  have I1 := I.laid (a := s.heap.objs.size) (o := .dK []) (h' := s.heap.push { cls := .type "dict", data := .dict #[] }) (t' := s.toks) (fun _ _ q => Heap.get?_push_of_some _ q) (Nat.le_refl _) (dk_empty s.heap I.big)
  refine wpAny_Dict_walk (knd := mixKind X.prog X.w) hall hl h0 h15 (thn (h pins _ σ _ _ I1 (q _ hn)) fun ws s2 ⟨ps, H2, I2, rel, e, kvs, ep, lk, q2⟩ => ?_)
  subst ep
  obtain ⟨rs, c, rk⟩ := carries_of (P := X.prog) (w := X.w) rel
  obtain ⟨z, hd, vs0, r0, dd⟩ := dk_of I2.hok e
  cases r0
  refine ⟨rs, c, dd, fun h' dd' hs => ⟨.ref s.heap.objs.size, _, ?_, rfl, q2⟩⟩
  have hz : (mergeK [] kvs).length ≤ sizeLine := by
    have h1 := length_mergeK kvs []
    rw [List.length_nil] at h1
    rw [sizeLine_eq]; omega
  have he : ∃ q, h'.get? s.heap.objs.size = some q := let ⟨q, _, _, hq, _⟩ := dd'; ⟨q, hq⟩
  exact d_write I2 (by rw [e]; exact True.intro) hs he (dk_new hz hd (rk.merge .nil) dd')
structure M2 (X : Cx) (o : Expr) (m : Str) (apos : Pos) (e f : Expr) (cpos : Pos) : Prop where
  base : attributeBase o m X.env (eval o X.env) = eval o X.env
  few : ((backTo cpos (starEach [e, f] X.env)).all (fun x => !x.1) && (backToKw cpos (keywordEach [] X.env)).all (fun x => x.1.isSome)
    && decide (([e, f] : List Expr).length + ([] : List Keyword).length + (if ([] : List Keyword).isEmpty then 0 else 1) < 30)) = true
  line : (apos.endLine == cpos.line) = true
  trees : backTo cpos (starEach [e, f] X.env) = [(false, eval e X.env), (false, eval f X.env)]
section
variable {X : Cx} {pins : List (Addr × Obj)} {σ : St} {H : Hp} {s : Shared} {a : Addr} {y d : V} {u r : Value} {o : Option V} {A : Around} {E : Value → Shared → Prop}
end
section
variable {X : Cx} {o e f : Expr} {apos cpos : Pos} {td ty tx : TE}
end
section
variable {X : Cx} {pins : List (Addr × Obj)} {σ : St} {H : Hp} {s : Shared} {a : Addr} {kvs : List (Key × V)} {A : Around} {E : Value → Shared → Prop}
end
section
variable {X : Cx} {pins : List (Addr × Obj)} {σ : St} {H : Hp} {s : Shared} {a : Addr} {y : V} {u : Value} {A : Around} {E : Value → Shared → Prop}
end
end L2
namespace L2
open PySem PySem.Spec PyProof.Rows
section
variable {prog : Program} {w : World} {A : Around} {E : Value → Shared → Prop}
end
section
variable {X : Cx}
theorem refs_at : ∀ {ps : List Addr} {us : List Value}, Vals (ps.map V.ref) us → us = ps.map Value.ref
  | [], us, r => by
    rw [List.map_nil] at r
    cases r
    rfl
  | p :: ps, us, r => by
    rw [List.map_cons] at r
    cases r with
    | cons h t =>
      cases h
      rw [List.map_cons, ← refs_at t]
end
end L2
namespace L2
open PySem PySem.Spec PyProof.Rows
theorem boot_reversed5 : bootBuiltins "reversed" = some (.type "reversed") := by decide +kernel
section
variable {X : Cx} {pins : List (Addr × Obj)} {σ : St} {H : Hp} {s : Shared} {h' : Heap}
end
section
variable {X : Cx}
theorem pi_one {tg : Expr} {pins : List (Addr × Obj)} {σ : St} {H : Hp} {s : Shared} {R : It → Hp → Prop} {J : It} {tn : Nat → Heap → Prop} {tk : Nat} (I : Inv X pins σ H s) (o : Obj)
    (T : Turn X.prog X.w X.K tg J [s.heap.objs.size] s.heap.objs.size tn) (st : tn 0 (s.heap.push o)) (q : R J H) : PIE X pins σ tg R (.ref s.heap.objs.size) { s with heap := s.heap.push o, toks := tk } := by
  refine ⟨s.heap.objs.size, [s.heap.objs.size], tn, J, H, rfl, I.kept fun b ob e => Heap.get?_push_of_some _ e, T, st, fun b hb => ?_, q⟩
  have e : b = s.heap.objs.size := by simpa using hb
  subst e
  exact I.fpOk (Nat.le_refl _) (I.hok.fresh (Nat.le_refl _))
end
def Itc (lo c : Int) (n : Nat) : It := ⟨fun i _ => i < n, fun i H x H' => H' = H ∧ x = .int (lo + (i : Nat) * c), fun i _ => n ≤ i⟩
theorem turn_rangeC {P : Program} {w : World} {K : PySem.W.Frag} {tg : Expr} (it : Addr) (lo c : Int) (n : Nat) : Turn P w K tg (Itc lo c n) [it] it (fun i h => IsRangeIter h it (lo + (i : Nat) * c) ((n : Int) - (i : Nat)) c) where
  mem := by simp
  obj := fun i h st b hb => by
    have e : b = it := by simpa using hb
    subst e
    exact ⟨_, st, fun v z => nomatch z⟩
  keep := fun i h h' st k => k it (by simp) _ st
  item := by
    intro X hP hw hK hc i pins s σ H E I hf st hg
    subst hP hw hK
    obtain ⟨f0, f1, f2, f3, f4, f5⟩ := hf it (by simp)
    have W := Walks.range (prog := X.prog) (w := X.w) (I.ok.hd hc) it lo c n
    refine W.item i s _ _ hg st fun v h' tk hv st' kk => ?_
    obtain ⟨t, rfl⟩ := hv
    have I1 : Inv X pins σ H { s with heap := h', toks := tk } := I.turned (fun b o hb e => kk b o (by simpa using hb) e) f0 f1 f3 f4 f5
    exact ⟨_, rfl, go_of (s := { s with heap := h', toks := tk }) (n := "range_iterator") st' rfl rfl (by decide) ⟨.int (lo + (i : Nat) * c), H, I1, ⟨t, rfl⟩, ⟨rfl, rfl⟩, st', fun b hb => (hf b hb).1⟩⟩
  done := by
    intro X hP hw hK hc i pins s σ H E I hf st hg
    subst hP hw hK
    obtain ⟨f0, f1, f2, f3, f4, f5⟩ := hf it (by simp)
    exact wpAny_pyNext_range_end (I.ok.hd hc) st (by have : n ≤ i := hg; omega) fun h' eb => ⟨rfl, I.turned (t' := s.toks) (fun b o hb e => eb b o hb e) f0 f1 f3 f4 f5⟩
  self := fun A i s Q E st h => wpAny_pyIter_rangeiter st h
def RgC (i j c : Int) (n : Nat) : Prop := c ≠ 0 ∧ c.natAbs < 1073741824 ∧ Builtin.Range.small i j c = true ∧ Builtin.Range.rangeSize i j c = n
theorem RgC.neg {i j : Int} (ha : -(2 ^ 62) ≤ i) (ha' : i < 2 ^ 62) (hb : -(2 ^ 62) ≤ j) (hb' : j < 2 ^ 62) : RgC i j (-1) (i - j).toNat :=
  ⟨by decide, by decide, PySem.W.small_down ha ha' hb hb', PySem.W.rangeSize_downNat i j⟩
def iRng3 (ta : TA) : TI := fun σ H R => ta σ H fun vs H1 => ∃ (i j c : Int) (n : Nat), vs = [.int i, .int j, .int c] ∧ RgC i j c n ∧ R (Itc i c n) H1
section
variable {X : Cx} {tg : Expr}
theorem pi_range3 {a b c : Expr} {ta : TA} {p pos : Pos} (hg : Gl X "range") (hm : X.mg "range" = none) (ha : PA X [a, b, c] ta)
    (hs : starEach [a, b, c] X.env = (false, eval a X.env) :: starEach [b, c] X.env := by rfl) (hpl : (backTo pos (starEach [b, c] X.env)).any (·.1) = false := by rfl) :
    PI X tg (.Call (.Name "range" p) [a, b, c] [] pos) (iRng3 ta) := by
  intro pins s σ H R I h
  refine Call_ (ld_blt I hg hm boot_range (PyProof.Rows.callWith_type1 (thn (ha pos pins s σ H _ I h) fun us s1 ⟨vs, H1, I1, r1, q1⟩ => ?_) hs hpl))
  obtain ⟨i, j, k, n, e, ⟨c0, c1, c2, c3⟩, q⟩ := q1
  subst e
  cases r1 with
  | cons r rr =>
    cases rr with
    | cons r' rr =>
      cases rr with
      | cons r'' rr =>
        cases rr
        obtain ⟨t, rfl⟩ := r
        obtain ⟨t', rfl⟩ := r'
        obtain ⟨t'', rfl⟩ := r''
        refine call_range_3 c0 ?_ (.inl (PyProof.noPylong_small c1))
        refine wpAny_pyIter_range (IsRange.new ..) c2 ?_
        have I2 : Inv X pins σ H1 { s1 with heap := s1.heap.push { cls := .type "range", data := .fields #[.int i t, .int j t', .int k t''] } } := I1.kept (t' := s1.toks) fun b o e => Heap.get?_push_of_some _ e
        refine pi_one (tk := s1.toks) I2 _ (turn_rangeC _ i k n) ?_ q
        have e1 : i + ((0 : Nat) : Int) * k = i := by simp
        have e2 : (n : Int) - ((0 : Nat) : Int) = Builtin.Range.rangeSize i j k := by rw [c3]; simp
        show IsRangeIter _ _ (i + ((0 : Nat) : Int) * k) ((n : Int) - ((0 : Nat) : Int)) k
        rw [e1, e2]
        exact Heap.get?_push_size _ rfl
end
theorem for_rangeC {lo c : Int} {n : Nat} {g : TG} {tb : TS} {D : Ends} {σ : St} {H : Hp} (Pv : Nat → St → Hp → Prop) (h0 : Pv 0 σ H)
    (hs : ∀ i σ H, i < n → Pv i σ H → g (.int (lo + (i : Nat) * c)) σ H fun σ2 H2 => tb { D with nx := Pv (i + 1), ct := Pv (i + 1), bk := D.nx } σ2 H2) (hd : ∀ σ H, Pv n σ H → D.nx σ H) :
    ∃ W : Nat → Nat → St → Hp → Prop, (∃ m, W 0 m σ H) ∧ ∀ i m σ H, W i m σ H →
      ((Itc lo c n).stop i H ∧ D.nx σ H) ∨ ((Itc lo c n).go i H ∧ ∃ N : St → Hp → Prop, (∀ σ' H', N σ' H' → ∃ m', m' < m ∧ W (i + 1) m' σ' H') ∧ ∀ x H', (Itc lo c n).yld i H x H' → g x σ H' fun σ2 H2 => tb { D with nx := N, ct := N, bk := D.nx } σ2 H2) := by
  refine ⟨fun i m σ H => m = n - i ∧ i ≤ n ∧ Pv i σ H, ⟨n, by simp, Nat.zero_le _, h0⟩, ?_⟩
  rintro i m σ H ⟨rfl, hi, p⟩
  by_cases hlt : i < n
  · refine .inr ⟨hlt, Pv (i + 1), fun σ' H' p' => ⟨n - (i + 1), by omega, rfl, hlt, p'⟩, fun x H' y => ?_⟩
    obtain ⟨e, y⟩ := y
    subst e y
    exact hs i σ _ hlt p
  · have e : i = n := by omega
    subst e
    exact .inl ⟨Nat.le_refl _, hd σ H p⟩
def Itv (K : PySem.W.Frag) (a : Addr) (n : Nat) : It :=
  ⟨fun i H => i < n ∧ ∃ (xs : List V) (x : V), SqL K H a xs ∧ xs[n - 1 - i]? = some x, fun i H x H' => H' = H ∧ ∀ xs, SqL K H a xs → xs[n - 1 - i]? = some x, fun i _ => n ≤ i⟩
theorem turn_rev {P : Program} {w : World} {K : PySem.W.Frag} {tg : Expr} (a it : Addr) (n : Nat) : Turn P w K tg (Itv K a n) [it] it (fun i h => i ≤ n ∧ h.IsRevIter it a ((n : Int) - 1 - (i : Nat))) where
  mem := by simp
  obj := fun i h st b hb => by
    have e : b = it := by simpa using hb
    subst e
    obtain ⟨_, o, e, c, d⟩ := st
    exact ⟨o, e, fun v z => by rw [d] at z; cases z⟩
  keep := fun i h h' st k => ⟨st.1, st.2.at fun o e => k it (by simp) o e⟩
  item := by
    intro X hP hw hK hc i pins s σ H E I hf st hg
    subst hP hw hK
    obtain ⟨hin, xs, x, hq, hx⟩ := hg
    obtain ⟨its, rv, p, hz⟩ := I.list hq
    obtain ⟨u, hu, ru⟩ := rv.get hx
    obtain ⟨f0, f1, f2, f3, f4, f5⟩ := hf it (by simp)
    obtain ⟨_, hit⟩ := st
    have e1 : (n : Int) - 1 - ((i : Nat) : Int) = ((n - 1 - i : Nat) : Int) := by omega
    rw [e1] at hit
    refine wpAny_pyNext_rev_item hit p.isList (x := u) (by simpa using hu) fun h' st' sb => ?_
    have e2 : ((n - 1 - i : Nat) : Int) - 1 = (n : Int) - 1 - ((i + 1 : Nat) : Int) := by omega
    rw [e2] at st'
    have I1 : Inv X pins σ H { s with heap := h' } := I.turned (t' := s.toks) (fun b o hb e => (sb.2 b hb).trans e) f0 f1 f3 f4 f5
    obtain ⟨o, e, c, d⟩ := id st'
    exact ⟨u, rfl, go_of (s := { s with heap := h' }) e c d (by decide) ⟨x, H, I1, ru, ⟨rfl, fun ys hy => by rw [I.list_inj hy hq]; exact hx⟩, ⟨hin, st'⟩, fun b hb => (hf b hb).1⟩⟩
  done := by
    intro X hP hw hK hc i pins s σ H E I hf st hg
    subst hP hw hK
    obtain ⟨f0, f1, f2, f3, f4, f5⟩ := hf it (by simp)
    obtain ⟨hin, hit⟩ := st
    have hge : n ≤ i := hg
    have e1 : (n : Int) - 1 - ((i : Nat) : Int) = -1 := by omega
    rw [e1] at hit
    exact wpAny_pyNext_rev_end (I.ok.hd hc) hit fun h' eb => ⟨rfl, I.turned (t' := s.toks) (fun b o hb e => eb b o hb e) f0 f1 f3 f4 f5⟩
  self := fun A i s Q E st h => wpAny_pyIter_revIter st.2 h
def iRev (K : PySem.W.Frag) (ta : TA) : TI := fun σ H R => ta σ H fun vs H1 => ∃ (a : Addr) (xs : List V), vs = [.ref a] ∧ SqL K H1 a xs ∧ R (Itv K a xs.length) H1
section
variable {X : Cx} {tg : Expr}
theorem pi_reversed {e : Expr} {ta : TA} {p pos : Pos} (hg : Gl X "reversed") (hm : X.mg "reversed" = none) (ha : PA X [e] ta) (hs : starEach [e] X.env = [(false, eval e X.env)] := by rfl) : PI X tg (.Call (.Name "reversed" p) [e] [] pos) (iRev X.K ta) := by
  intro pins s σ H R I h
  refine Call_ (ld_blt I hg hm boot_reversed5 (PyProof.Rows.callWith_type1 (thn (ha pos pins s σ H _ I h) fun us s1 ⟨vs, H1, I1, r1, q1⟩ => ?_) hs rfl))
  obtain ⟨a, xs, e, hq, q⟩ := q1
  subst e
  cases r1 with
  | cons r rr =>
    cases rr
    cases r
    obtain ⟨its, rv, p', hz⟩ := I1.list hq
    have hl := rv.length
    have e1 : ((its.toArray.size : Nat) : Int) - 1 = (xs.length : Int) - 1 - ((0 : Nat) : Int) := by simp only [List.size_toArray]; omega
    refine call_reversed_list p'.isList (wpAny_pyIter_revIter (l := a) (i := ((its.toArray.size : Nat) : Int) - 1) ⟨_, Heap.get?_push_size _ rfl, rfl, rfl⟩ ?_)
    refine pi_one (tk := s1.toks) I1 _ (turn_rev a _ xs.length) ⟨Nat.zero_le _, ?_⟩ q
    rw [← e1]
    exact ⟨_, Heap.get?_push_size _ rfl, rfl, rfl⟩
end
def Its (x : Str) : It := ⟨fun i _ => i < x.cps.size, fun i H v H' => H' = H ∧ ∃ c, x.cps[i]? = some c ∧ v = .str ⟨#[c]⟩, fun i _ => x.cps.size ≤ i⟩
section
variable {prog : Program} {w : World} {A : Around} {E : Value → Shared → Prop} {s : Shared}
end
section
variable {X : Cx} {pins : List (Addr × Obj)} {σ : St} {H : Hp} {s : Shared} {d : Addr} {o : Obj}
end
section
variable {P : Program} {w : World} {K : PySem.W.Frag} {tg : Expr} {d : Addr} {o : Obj} {es : Array DictEntry} {ep : Nat}
end
section
variable {X : Cx} {tg e : Expr} {td : TE} {apos cpos : Pos}
end
def Itz (K : PySem.W.Frag) (a b : Addr) : It :=
  ⟨fun i H => ∃ (xs ys : List V) (x y : V), SqL K H a xs ∧ SqL K H b ys ∧ xs[i]? = some x ∧ ys[i]? = some y,
    fun i H v H' => ∃ T x y, v = .ref T ∧ H T = none ∧ H' = upd H T (.tup [x, y]) ∧ (∀ xs, SqL K H a xs → xs[i]? = some x) ∧ ∀ ys, SqL K H b ys → ys[i]? = some y,
    fun i H => ∃ xs ys : List V, SqL K H a xs ∧ SqL K H b ys ∧ (xs.length ≤ i ∨ ys.length ≤ i)⟩
def iZip (K : PySem.W.Frag) (ta : TA) : TI := fun σ H R => ta σ H fun vs H1 => ∃ a b xs ys, vs = [.ref a, .ref b] ∧ SqL K H1 a xs ∧ SqL K H1 b ys ∧ R (Itz K a b) H1
end L2
section 
namespace Bits
open PySem PyProof.Rows
end Bits
end 
section 
namespace TL
open PySem PySem.Builtin PySem.Builtin.Str PySem.StrLaws
abbrev tl (x : Str) : List Nat := x.cps.toList
theorem len_tl (x : Str) : x.length = (tl x).length := by simp [tl, Str.length]
def pre (S l : List Nat) : Bool := l.take S.length == S
def par (S : List Nat) : List Nat → List Nat → Option (List Nat × List Nat)
  | _, [] => none
  | acc, c :: r => if pre S (c :: r) = true then some (acc, (c :: r).drop S.length) else par S (acc ++ [c]) r
theorem len1 {y : Str} (hy : tl y ≠ []) : 1 ≤ y.length := by
  have e2 : 0 < (tl y).length := List.length_pos_iff.mpr hy
  rw [len_tl y]
  exact e2
end TL
end 
namespace L2
open PySem PySem.Spec PyProof.Rows
section
variable {X : Cx} {pins : List (Addr × Obj)} {σ : St} {H : Hp} {s : Shared} {Q : VK}
end
section
variable {X : Cx}
end
section
variable {X : Cx} {o e : Expr} {to te : TE}
end
end L2
namespace L2
open PySem PySem.Spec PyProof.Rows
section
variable {X : Cx}
end
end L2
namespace Att
open PySem PySem.W PySem.Calls PyProof.Rows
section
variable {prog : Program} {w : World} {A : Around} {E : Value → Shared → Prop} {s : Shared} {K : Frag}
end
end Att
namespace L2
open PySem PySem.Spec PyProof.Rows
end L2
namespace L2
open PySem PySem.Spec PyProof.Rows
end L2
end
section
set_option Elab.async false
set_option linter.all false
set_option maxRecDepth 100000
set_option maxHeartbeats 2000000
namespace L2
open PySem PySem.Spec PyProof.Rows
open PySem.W (WData Codec OpenSpec Well WellAll ReadsW ReadsAllW)
mutual
inductive Dw (K : PySem.W.Frag) (H : Hp) : V → WData → Prop
  | non : Dw K H .non .none
  | bl (b : Bool) : Dw K H (.bl b) (.bool b)
  | int (i : Int) : Dw K H (.int i) (.int i)
  | str (x : Str) : Dw K H (.str x) (.str x)
  | byt (b : Array UInt8) : Dw K H (.byt b) (.bytes b.toList)
  | lst {a : Addr} {xs : List V} {ds : List WData} : SqL K H a xs → DwAll K H xs ds → Dw K H (.ref a) (.list ds)
  | tup {a : Addr} {xs : List V} {ds : List WData} : SqT K H a xs → DwAll K H xs ds → Dw K H (.ref a) (.tuple ds)
inductive DwAll (K : PySem.W.Frag) (H : Hp) : List V → List WData → Prop
  | nil : DwAll K H [] []
  | cons {v : V} {vs : List V} {d : WData} {ds : List WData} : Dw K H v d → DwAll K H vs ds → DwAll K H (v :: vs) (d :: ds)
end
theorem dw_ints {K : PySem.W.Frag} {H : Hp} : ∀ ns : List Int, DwAll K H (ns.map V.int) (ns.map WData.int)
  | [] => .nil
  | n :: r => .cons (.int n) (dw_ints r)
theorem ints_dw {K : PySem.W.Frag} {H : Hp} : ∀ (ns : List Int) (xs : List V), DwAll K H xs (ns.map WData.int) → xs = ns.map V.int
  | [], xs, h => by
    cases h
    rfl
  | n :: r, xs, h => by
    cases h with
    | cons h1 h2 =>
      cases h1
      rw [ints_dw r _ h2] <;> rfl
section
variable {P : Program} {w : World} {K : PySem.W.Frag} {H : Hp} {h : Heap} {R : PySem.W.WRecords} {cl : Str → Option Addr}
theorem sqL_at {a : Addr} {xs : List V} (hok : HOk P w H h) (KX : K.In h) (q : SqL K H a xs) : ∃ (its : List Value) (o : Obj) (n : Nat), Vals xs its ∧ h.get? a = some o ∧ o.cls = .type "list" ∧ o.data = .seq its.toArray n := by
  rcases q with q | ⟨o, its, n, e, hc, _, hd, _, hv⟩
  · obtain ⟨_, its, n, hv, e⟩ := (show ObjOk P w H h a (.lst xs) from q.ok hok)
    exact ⟨its, _, n, hv, e, rfl, rfl⟩
  · exact ⟨its.toList, o, n, hv, KX _ _ e, hc, by simp [hd]⟩
theorem sqT_at {a : Addr} {xs : List V} (hok : HOk P w H h) (KX : K.In h) (q : SqT K H a xs) : ∃ (its : List Value) (o : Obj) (n : Nat), Vals xs its ∧ h.get? a = some o ∧ o.cls = .type "tuple" ∧ o.data = .seq its.toArray n := by
  rcases q with q | ⟨o, its, n, e, hc, hd, _, hv⟩
  · obtain ⟨_, its, hv, o, e, hc, n, hd⟩ := (show ObjOk P w H h a (.tup xs) from q.ok hok)
    exact ⟨its, o, n, hv, e, hc, hd⟩
  · exact ⟨its.toList, o, n, hv, KX _ _ e, hc, by simp [hd]⟩
mutual
theorem Dw.reads (hok : HOk P w H h) (KX : K.In h) : ∀ (d : WData) (v : V) (u : Value), Dw K H v d → RelV v u → ∃ as, ReadsW R cl h u d as
  | .none, _, _, x, r => by
    cases x
    cases r
    exact ⟨_, ReadsW.none⟩
  | .bool b, _, _, x, r => by
    cases x
    cases r
    exact ⟨_, ReadsW.bool b⟩
  | .int i, _, _, x, r => by
    cases x
    obtain ⟨t, rfl⟩ := r
    exact ⟨_, ReadsW.int i t⟩
  | .str s, _, _, x, r => by
    cases x
    obtain ⟨t, rfl⟩ := r
    exact ⟨_, ReadsW.str s t⟩
  | .bytes b, _, _, x, r => by
    cases x
    obtain ⟨t, rfl⟩ := r
    exact ⟨_, ReadsW.bytes _ t⟩
  | .list ds, _, _, x, r => by
    cases x with
    | lst hs ha =>
      cases r
      obtain ⟨its, o, n, rv, ho, hc, hd⟩ := sqL_at hok KX hs
      obtain ⟨as, hr⟩ := Dw.readsAll hok KX ds _ its ha rv
      exact ⟨_, ReadsW.list ho hc hd hr⟩
  | .tuple ds, _, _, x, r => by
    cases x with
    | tup hs ha =>
      cases r
      obtain ⟨its, o, n, rv, ho, hc, hd⟩ := sqT_at hok KX hs
      obtain ⟨as, hr⟩ := Dw.readsAll hok KX ds _ its ha rv
      exact ⟨_, ReadsW.tuple ho hc hd hr⟩
  | .float _, _, _, x, _ => by cases x
  | .dict _, _, _, x, _ => by cases x
  | .bytearray _, _, _, x, _ => by cases x
  | .set _, _, _, x, _ => by cases x
  | .frozenset _, _, _, x, _ => by cases x
  | .obj _ _, _, _, x, _ => by cases x
theorem Dw.readsAll (hok : HOk P w H h) (KX : K.In h) : ∀ (ds : List WData) (vs : List V) (us : List Value), DwAll K H vs ds → Vals vs us → ∃ as, ReadsAllW R cl h us ds as
  | [], _, _, x, r => by
    cases x
    cases r
    exact ⟨_, ReadsAllW.nil⟩
  | d :: ds, _, _, x, r => by
    cases x with
    | cons h1 h2 =>
      cases r with
      | cons r1 r2 =>
        obtain ⟨as, q1⟩ := Dw.reads hok KX d _ _ h1 r1
        obtain ⟨bs, q2⟩ := Dw.readsAll hok KX ds _ _ h2 r2
        exact ⟨_, ReadsAllW.cons q1 q2⟩
end
end
mutual
def plW : WData → Bool
  | .none => true
  | .bool _ => true
  | .int _ => true
  | .str _ => true
  | .bytes _ => true
  | .list xs => plWs xs
  | .tuple xs => plWs xs
  | _ => false
def plWs : List WData → Bool
  | [] => true
  | x :: r => plW x && plWs r
end
theorem plWs_map {α : Type} {f : α → WData} (h : ∀ a, plW (f a) = true) : ∀ l : List α, plWs (l.map f) = true
  | [] => rfl
  | x :: r => by
    show (plW (f x) && plWs (r.map f)) = true
    rw [h x, plWs_map h r] <;> rfl
theorem pl_enc : ∀ (c : Codec) (a : c.denote), plW (c.enc a) = true
  | .unit, _ => rfl
  | .bool, _ => rfl
  | .int _ _, _ => rfl
  | .nat _ _, _ => rfl
  | .u8, _ => rfl
  | .bytes _ _, _ => rfl
  | .text _ _ _ _, _ => rfl
  | .list _ _ c, a => plWs_map (fun x => pl_enc c x) a
  | .pair c d, a => by
    show (plW (c.enc a.1) && (plW (d.enc a.2) && true)) = true
    rw [pl_enc c a.1, pl_enc d a.2] <;> rfl
  | .triple c d e, a => by
    show (plW (c.enc a.1) && (plW (d.enc a.2.1) && (plW (e.enc a.2.2) && true))) = true
    rw [pl_enc c a.1, pl_enc d a.2.1, pl_enc e a.2.2] <;> rfl
  | .option c, none => rfl
  | .option c, some x => pl_enc c x
theorem pl_encAll : ∀ (cs : List Codec) (a : Codec.denoteAll cs), plWs (Codec.encAll cs a) = true
  | [], _ => rfl
  | c :: cs, a => by
    show (plW (c.enc a.1) && plWs (Codec.encAll cs a.2)) = true
    rw [pl_enc c a.1, pl_encAll cs a.2] <;> rfl
theorem weight_mem : ∀ {xs : List WData} {d : WData}, d ∈ xs → d.weight ≤ WData.weightAll xs
  | [], d, h => absurd h (by simp)
  | x :: r, d, h => by
    show d.weight ≤ x.weight + 1 + WData.weightAll r
    rcases List.mem_cons.mp h with e | m
    · rw [e]
      omega
    · have z := weight_mem m
      omega
def toV : Value → V
  | .none => .non
  | .bool b => .bl b
  | .int i _ => .int i
  | .str x _ => .str x
  | .bytes b _ => .byt b
  | .ref a => .ref a
  | _ => .non
def OkU (A : List Addr) : Value → Prop
  | .none => True
  | .bool _ => True
  | .int _ _ => True
  | .str _ _ => True
  | .bytes _ _ => True
  | .ref a => a ∈ A
  | _ => False
theorem OkU.mono {A B : List Addr} (h : ∀ a ∈ A, a ∈ B) : ∀ {u : Value}, OkU A u → OkU B u := fun {u} x => by
  cases u with
  | ref a => exact h a x
  | none => trivial
  | bool b => trivial
  | int i t => trivial
  | str s t => trivial
  | bytes b t => trivial
  | _ => exact False.elim x
theorem relV_toV {A : List Addr} {u : Value} (x : OkU A u) : RelV (toV u) u := by
  cases u with
  | ref a => rfl
  | none => rfl
  | bool b => rfl
  | int i t => exact ⟨t, rfl⟩
  | str s t => exact ⟨t, rfl⟩
  | bytes b t => exact ⟨t, rfl⟩
  | _ => exact False.elim x
theorem vals_toV {A : List Addr} : ∀ {vs : List Value}, (∀ u ∈ vs, OkU A u) → Vals (vs.map toV) vs
  | [], _ => .nil
  | u :: r, h => .cons (relV_toV (h u (List.mem_cons_self ..))) (vals_toV fun x hx => h x (List.mem_cons_of_mem _ hx))
def ArgOb (h : Heap) (A : List Addr) (a : Addr) : Prop := ∃ vs : List Value, vs.length ≤ sizeLine ∧ (∀ u ∈ vs, OkU A u) ∧
  (h.get? a = some { cls := .type "list", data := .seq vs.toArray } ∨ h.get? a = some { cls := .type "tuple", data := .seq vs.toArray })
theorem ArgOb.mono {h : Heap} {A B : List Addr} {a : Addr} (k : ∀ a ∈ A, a ∈ B) (x : ArgOb h A a) : ArgOb h B a := by
  obtain ⟨vs, h1, h2, h3⟩ := x
  exact ⟨vs, h1, fun u hu => (h2 u hu).mono k, h3⟩
theorem wellAll_len {P : Params} {h : Heap} : ∀ {vs : List Value} {ds : List WData}, WellAll P h vs ds → vs.length = ds.length
  | _, _, .nil => rfl
  | _, _, .cons _ b => by
    show _ + 1 = _ + 1
    rw [wellAll_len b]
theorem well_list {P : Params} {h : Heap} {v : Value} {ds : List WData} (x : Well P h v (.list ds)) : ∃ (a : Addr) (vs : List Value), v = .ref a ∧ h.get? a = some { cls := .type "list", data := .seq vs.toArray } ∧ WellAll P h vs ds := by
  cases x with
  | list ho hall => exact ⟨_, _, rfl, ho, hall⟩
theorem well_tuple {P : Params} {h : Heap} {v : Value} {ds : List WData} (x : Well P h v (.tuple ds)) : ∃ (a : Addr) (vs : List Value), v = .ref a ∧ h.get? a = some { cls := .type "tuple", data := .seq vs.toArray } ∧ WellAll P h vs ds := by
  cases x with
  | tuple ho hall => exact ⟨_, _, rfl, ho, hall⟩
theorem well_cons {P : Params} {h : Heap} {us : List Value} {d : WData} {ds : List WData} (x : WellAll P h us (d :: ds)) : ∃ (v : Value) (vs : List Value), us = v :: vs ∧ Well P h v d ∧ WellAll P h vs ds := by
  cases x with
  | cons a b => exact ⟨_, _, rfl, a, b⟩
theorem line_of {n : Nat} (h : n ≤ 1048576) : n ≤ sizeLine := Nat.le_trans h (by decide)
section
variable {P : Params} {h : Heap}
mutual
theorem area_one : ∀ (d : WData) (v : Value), Well P h v d → plW d = true → d.weight ≤ 1048576 → ∃ A : List Addr, OkU A v ∧ ∀ a ∈ A, ArgOb h A a
  | .none, _, x, _, _ => by
    cases x
    exact ⟨[], trivial, fun a m => absurd m (by simp)⟩
  | .bool b, _, x, _, _ => by
    cases x
    exact ⟨[], trivial, fun a m => absurd m (by simp)⟩
  | .int i, _, x, _, _ => by
    cases x
    exact ⟨[], trivial, fun a m => absurd m (by simp)⟩
  | .str s, _, x, _, _ => by
    cases x
    exact ⟨[], trivial, fun a m => absurd m (by simp)⟩
  | .bytes b, _, x, _, _ => by
    cases x
    exact ⟨[], trivial, fun a m => absurd m (by simp)⟩
  | .list ds, _, x, p, z => by
    obtain ⟨a, vs, rfl, ho, hall⟩ := well_list x
    have z2 : WData.weightAll ds ≤ 1048576 := z
    obtain ⟨A, h1, h2⟩ := area_all ds _ hall p fun d hd => Nat.le_trans (weight_mem hd) z2
    have k : ∀ b ∈ A, b ∈ a :: A := fun b hb => List.mem_cons_of_mem _ hb
    refine ⟨a :: A, List.mem_cons_self .., fun b hb => ?_⟩
    rcases List.mem_cons.mp hb with e | m
    · rw [e]
      exact ⟨vs, line_of (by rw [wellAll_len hall]; exact Nat.le_trans (PySem.W.length_le_weightAllW ds) z2), fun u hu => (h1 u hu).mono k, .inl ho⟩
    · exact (h2 b m).mono k
  | .tuple ds, _, x, p, z => by
    obtain ⟨a, vs, rfl, ho, hall⟩ := well_tuple x
    have z2 : WData.weightAll ds ≤ 1048576 := z
    obtain ⟨A, h1, h2⟩ := area_all ds _ hall p fun d hd => Nat.le_trans (weight_mem hd) z2
    have k : ∀ b ∈ A, b ∈ a :: A := fun b hb => List.mem_cons_of_mem _ hb
    refine ⟨a :: A, List.mem_cons_self .., fun b hb => ?_⟩
    rcases List.mem_cons.mp hb with e | m
    · rw [e]
      exact ⟨vs, line_of (by rw [wellAll_len hall]; exact Nat.le_trans (PySem.W.length_le_weightAllW ds) z2), fun u hu => (h1 u hu).mono k, .inr ho⟩
    · exact (h2 b m).mono k
  | .float _, _, _, p, _ => Bool.noConfusion (show false = true from p)
  | .dict _, _, _, p, _ => Bool.noConfusion (show false = true from p)
  | .bytearray _, _, _, p, _ => Bool.noConfusion (show false = true from p)
  | .set _, _, _, p, _ => Bool.noConfusion (show false = true from p)
  | .frozenset _, _, _, p, _ => Bool.noConfusion (show false = true from p)
  | .obj _ _, _, _, p, _ => Bool.noConfusion (show false = true from p)
theorem area_all : ∀ (ds : List WData) (vs : List Value), WellAll P h vs ds → plWs ds = true → (∀ d ∈ ds, d.weight ≤ 1048576) → ∃ A : List Addr, (∀ u ∈ vs, OkU A u) ∧ ∀ a ∈ A, ArgOb h A a
  | [], _, x, _, _ => by
    cases x
    exact ⟨[], fun u m => absurd m (by simp), fun a m => absurd m (by simp)⟩
  | d :: ds, _, x, p, z => by
    obtain ⟨v, vs, rfl, x1, x2⟩ := well_cons x
    have q : plW d = true ∧ plWs ds = true := Bool.and_eq_true_iff.mp p
    obtain ⟨A, a1, a2⟩ := area_one d v x1 q.1 (z d (List.mem_cons_self ..))
    obtain ⟨B, b1, b2⟩ := area_all ds vs x2 q.2 fun e he => z e (List.mem_cons_of_mem _ he)
    have kA : ∀ b ∈ A, b ∈ A ++ B := fun b hb => List.mem_append.mpr (.inl hb)
    have kB : ∀ b ∈ B, b ∈ A ++ B := fun b hb => List.mem_append.mpr (.inr hb)
    refine ⟨A ++ B, fun u hu => ?_, fun b hb => ?_⟩
    · rcases List.mem_cons.mp hu with e | m
      · rw [e]
        exact a1.mono kA
      · exact (b1 u m).mono kB
    · rcases List.mem_append.mp hb with m | m
      · exact (a2 b m).mono kA
      · exact (b2 b m).mono kB
end
end
def hoOf (o : Obj) : Option HO := match o.data with
  | .seq vs _ => if (o.cls == Value.type "list") = true then some (.frz o (.lst (vs.toList.map toV))) else some (.frz o (.tup (vs.toList.map toV)))
  | _ => none
def argH (K : PySem.W.Frag) (h : Heap) (A : List Addr) : Hp := fun b => if b ∈ A then (if (K.lookup b).isNone = true then (h.get? b).bind hoOf else none) else none
def OnlyF (H : Hp) : Prop := ∀ b, H b = none ∨ ∃ o u, H b = some (.frz o u)
theorem hoOf_lst (vs : List Value) : hoOf { cls := .type "list", data := .seq vs.toArray } = some (.frz { cls := .type "list", data := .seq vs.toArray } (.lst (vs.map toV))) := by
  show (if (Value.type "list" == Value.type "list") = true then some (HO.frz { cls := .type "list", data := .seq vs.toArray } (.lst (vs.toArray.toList.map toV))) else some (HO.frz { cls := .type "list", data := .seq vs.toArray } (.tup (vs.toArray.toList.map toV)))) = _
  rw [if_pos (beq_self_eq_true _)]
theorem hoOf_tup (vs : List Value) : hoOf { cls := .type "tuple", data := .seq vs.toArray } = some (.frz { cls := .type "tuple", data := .seq vs.toArray } (.tup (vs.map toV))) := by
  show (if (Value.type "tuple" == Value.type "list") = true then some (HO.frz { cls := .type "tuple", data := .seq vs.toArray } (.lst (vs.toArray.toList.map toV))) else some (HO.frz { cls := .type "tuple", data := .seq vs.toArray } (.tup (vs.toArray.toList.map toV)))) = _
  rw [if_neg (by decide)]
section
variable {P : Program} {w : World} {K : PySem.W.Frag} {h : Heap} {A : List Addr}
theorem argH_at {b : Addr} {o : Obj} (hb : b ∈ A) (hk : K.lookup b = none) (e : h.get? b = some o) : argH K h A b = hoOf o := by
  unfold argH
  rw [if_pos hb, hk, if_pos (show (none : Option Obj).isNone = true from rfl), e] <;> rfl
theorem of_argH {b : Addr} {u : HO} (q : argH K h A b = some u) : b ∈ A ∧ K.lookup b = none := by
  unfold argH at q
  by_cases hb : b ∈ A
  · rw [if_pos hb] at q
    cases hk : K.lookup b with
    | none => exact ⟨hb, rfl⟩
    | some o =>
      rw [hk, if_neg (by simp)] at q
      cases q
  · rw [if_neg hb] at q
    cases q
theorem argH_is (ar : ∀ a ∈ A, ArgOb h A a) {b : Addr} {u : HO} (q : argH K h A b = some u) : K.lookup b = none ∧ ∃ vs : List Value, vs.length ≤ sizeLine ∧ (∀ u ∈ vs, OkU A u) ∧
    ((h.get? b = some { cls := .type "list", data := .seq vs.toArray } ∧ u = .frz { cls := .type "list", data := .seq vs.toArray } (.lst (vs.map toV))) ∨
     (h.get? b = some { cls := .type "tuple", data := .seq vs.toArray } ∧ u = .frz { cls := .type "tuple", data := .seq vs.toArray } (.tup (vs.map toV)))) := by
  obtain ⟨hb, hk⟩ := of_argH q
  obtain ⟨vs, h1, h2, h3⟩ := ar b hb
  refine ⟨hk, vs, h1, h2, ?_⟩
  rcases h3 with e | e
  · rw [argH_at hb hk e, hoOf_lst] at q
    exact .inl ⟨e, (Option.some.inj q).symm⟩
  · rw [argH_at hb hk e, hoOf_tup] at q
    exact .inr ⟨e, (Option.some.inj q).symm⟩
theorem argH_only (ar : ∀ a ∈ A, ArgOb h A a) : OnlyF (argH K h A) := fun b => by
  cases q : argH K h A b with
  | none => exact .inl rfl
  | some u =>
    obtain ⟨_, vs, _, _, ⟨_, e⟩ | ⟨_, e⟩⟩ := argH_is ar q
    · exact .inr ⟨_, _, by rw [e]⟩
    · exact .inr ⟨_, _, by rw [e]⟩
theorem argH_ok (ar : ∀ a ∈ A, ArgOb h A a) : HOk P w (argH K h A) h := fun b u q => by
  obtain ⟨_, vs, h1, h2, ⟨e, rfl⟩ | ⟨e, rfl⟩⟩ := argH_is ar q
  · exact ⟨e, by rw [List.length_map]; exact h1, vs, _, vals_toV h2, e⟩
  · exact ⟨e, by rw [List.length_map]; exact h1, vs, vals_toV h2, _, e, rfl, _, rfl⟩
theorem seq_inj {c c' : Value} {vs us : List Value} (e : (some { cls := c, data := .seq vs.toArray } : Option Obj) = some { cls := c', data := .seq us.toArray }) : c = c' ∧ vs = us := by
  have e1 := Option.some.inj e
  have e2 : c = c' := congrArg Obj.cls e1
  have e3 : Data.seq vs.toArray = Data.seq us.toArray := congrArg Obj.data e1
  injection e3 with e4
  refine ⟨e2, ?_⟩
  have e5 := congrArg Array.toList e4
  simpa using e5
theorem argL (KX : K.In h) (ar : ∀ a ∈ A, ArgOb h A a) {a : Addr} {vs : List Value} (ha : a ∈ A) (e : h.get? a = some { cls := .type "list", data := .seq vs.toArray }) : (∀ u ∈ vs, OkU A u) ∧ SqL K (argH K h A) a (vs.map toV) := by
  obtain ⟨us, h1, h2, h3⟩ := ar a ha
  have hu : us = vs := by
    rcases h3 with q | q
    · rw [e] at q
      exact (seq_inj q).2.symm
    · rw [e] at q
      exact absurd (Value.type.inj (seq_inj q).1) (by decide)
  subst hu
  refine ⟨h2, ?_⟩
  cases hk : K.lookup a with
  | none => exact .inl (.inr ⟨_, by rw [argH_at ha hk e, hoOf_lst]⟩)
  | some o =>
    have e2 := KX a o hk
    rw [e] at e2
    obtain rfl := Option.some.inj e2
    exact .inr ⟨_, us.toArray, _, hk, rfl, rfl, rfl, by rw [List.size_toArray]; exact h1, by simpa using vals_toV h2⟩
theorem argT (KX : K.In h) (ar : ∀ a ∈ A, ArgOb h A a) {a : Addr} {vs : List Value} (ha : a ∈ A) (e : h.get? a = some { cls := .type "tuple", data := .seq vs.toArray }) : (∀ u ∈ vs, OkU A u) ∧ SqT K (argH K h A) a (vs.map toV) := by
  obtain ⟨us, h1, h2, h3⟩ := ar a ha
  have hu : us = vs := by
    rcases h3 with q | q
    · rw [e] at q
      exact absurd (Value.type.inj (seq_inj q).1) (by decide)
    · rw [e] at q
      exact (seq_inj q).2.symm
  subst hu
  refine ⟨h2, ?_⟩
  cases hk : K.lookup a with
  | none => exact .inl (.inr ⟨_, by rw [argH_at ha hk e, hoOf_tup]⟩)
  | some o =>
    have e2 := KX a o hk
    rw [e] at e2
    obtain rfl := Option.some.inj e2
    exact .inr ⟨_, us.toArray, _, hk, rfl, rfl, by rw [List.size_toArray]; exact h1, by simpa using vals_toV h2⟩
mutual
theorem dw_one {Pm : Params} (KX : K.In h) (ar : ∀ a ∈ A, ArgOb h A a) : ∀ (d : WData) (v : Value), Well Pm h v d → plW d = true → OkU A v → Dw K (argH K h A) (toV v) d
  | .none, _, x, _, _ => by
    cases x
    exact .non
  | .bool b, _, x, _, _ => by
    cases x
    exact .bl b
  | .int i, _, x, _, _ => by
    cases x
    exact .int i
  | .str s, _, x, _, _ => by
    cases x
    exact .str s
  | .bytes b, _, x, _, _ => by
    cases x
    have z := Dw.byt (K := K) (H := argH K h A) b.toArray
    exact z
  | .list ds, _, x, p, hu => by
    obtain ⟨a, vs, rfl, ho, hall⟩ := well_list x
    obtain ⟨h2, hs⟩ := argL KX ar hu ho
    exact .lst hs (dw_all KX ar ds _ hall p h2)
  | .tuple ds, _, x, p, hu => by
    obtain ⟨a, vs, rfl, ho, hall⟩ := well_tuple x
    obtain ⟨h2, hs⟩ := argT KX ar hu ho
    exact .tup hs (dw_all KX ar ds _ hall p h2)
  | .float _, _, _, p, _ => Bool.noConfusion (show false = true from p)
  | .dict _, _, _, p, _ => Bool.noConfusion (show false = true from p)
  | .bytearray _, _, _, p, _ => Bool.noConfusion (show false = true from p)
  | .set _, _, _, p, _ => Bool.noConfusion (show false = true from p)
  | .frozenset _, _, _, p, _ => Bool.noConfusion (show false = true from p)
  | .obj _ _, _, _, p, _ => Bool.noConfusion (show false = true from p)
theorem dw_all {Pm : Params} (KX : K.In h) (ar : ∀ a ∈ A, ArgOb h A a) : ∀ (ds : List WData) (vs : List Value), WellAll Pm h vs ds → plWs ds = true → (∀ u ∈ vs, OkU A u) → DwAll K (argH K h A) (vs.map toV) ds
  | [], _, x, _, _ => by
    cases x
    exact .nil
  | d :: ds, _, x, p, hu => by
    obtain ⟨v, vs, rfl, x1, x2⟩ := well_cons x
    have q : plW d = true ∧ plWs ds = true := Bool.and_eq_true_iff.mp p
    exact .cons (dw_one KX ar d v x1 q.1 (hu _ (List.mem_cons_self ..))) (dw_all KX ar ds vs x2 q.2 fun u m => hu u (List.mem_cons_of_mem _ m))
end
end
theorem spec_call {P : Program} {w : World} {K : PySem.W.Frag} {mg mb : Str → Option Value} {CX : CXT} {k : Nat} {fa : Addr} {fd : FuncData} {ps : List Str} {sp : Sp} {s₁ : Shared} {vals : List Value} {ds : List WData} {R : PySem.W.WRecords} {cl : Str → Option Addr} {d0 : WData}
    (KX : K.In s₁.heap) (hns : s₁.heap.Ns mainGlobals mg) (hb : s₁.heap.Ns builtinsNs mb) (hbb : ∀ x : Str, x ≠ "__name__" → mb x = bootBuiltins x) (hlim : s₁.heap.NoLimit) (hg : s₁.gens = #[])
    (hwl : WellAll w.params s₁.heap vals ds) (hpl : plWs ds = true) (hwt : ∀ d ∈ ds, d.weight ≤ 1048576) (hr : Room k callerA)
    (F : ∀ base : Heap, K.In base → base.Ns mainGlobals mg → FnOk P w K mg base CX k fa fd ps sp) (hbind : ∀ (s : Shared) (us : List Value), us.length = ps.length → BindsTo s fd ⟨us, []⟩ (ps.zip us)) (hlen : ds.length = ps.length)
    (hsp : ∀ (H : Hp) (xs : List V), OnlyF H → DwAll K H xs ds → sp xs H (fun v H' => Dw K H' v d0) fun _ _ _ => False)
    (hCX : ∀ H e s', CX [] H s₁ (fun _ _ _ => False) e s' → False) :
    codeAny (model P w) callerA (.call (.ref fa) ⟨vals, []⟩) (fun r s' => ∃ u as, r = .ok (.ret u) ∧ ReadsW R cl s'.heap u d0 as ∧ OldK s₁.heap s'.heap ∧ s'.os = s₁.os ∧ AllBare s'.gens) s₁ := by
  obtain ⟨A, ho, ar⟩ := area_all ds vals hwl hpl hwt
  have hO : OnlyF (argH K s₁.heap A) := argH_only ar
  have hok : HOk P w (argH K s₁.heap A) s₁.heap := argH_ok ar
  have hS := dw_all KX ar ds vals hwl hpl ho
  have hV := vals_toV ho
  have hK : ∀ b u, argH K s₁.heap A b = some u → K.lookup b = none := fun b u q => (argH_is ar q).1
  have noA : ∀ {b : Addr} {o : Obj} {es : Array DictEntry} {ep : Nat}, s₁.heap.get? b = some o → o.data = .dict es ep → argH K s₁.heap A b = none := fun {b o es ep} e d => by
    cases q : argH K s₁.heap A b with
    | none => rfl
    | some u =>
      obtain ⟨_, vs, _, _, ⟨e2, _⟩ | ⟨e2, _⟩⟩ := argH_is ar q
      · rw [e2] at e
        cases e
        have d' : Data.seq vs.toArray _ = Data.dict es ep := d
        cases d'
      · rw [e2] at e
        cases e
        have d' : Data.seq vs.toArray _ = Data.dict es ep := d
        cases d'
  generalize argH K s₁.heap A = H at hO hok hS hK noA
  have base_of : ∀ {b : Addr} {o : Obj}, s₁.heap.get? b = some o → H b = none → (hidT s₁.heap H).get? b = some o := fun e n => hidT_get e n
  have nsK : ∀ {b : Addr} {m : Str → Option Value}, s₁.heap.Ns b m → (hidT s₁.heap H).Ns b m := fun {b m} ⟨o, es, ep, e, d, r⟩ => ⟨o, es, ep, base_of e (noA e d), d, r⟩
  have nK : ∀ b o, K.lookup b = some o → H b = none := fun b o e => by
    cases q : H b with
    | none => rfl
    | some u =>
      rw [hK b u q] at e
      cases e
  have hKb : K.In (hidT s₁.heap H) := fun b o e => base_of (KX b o e) (nK b o e)
  have hM : Mod K mg (hidT s₁.heap H) := ⟨hKb, nsK hns, ⟨mb, nsK hb, hbb⟩, let ⟨mc, h1, h2⟩ := hlim; ⟨mc, nsK h1, h2⟩⟩
  have e0 : Env0 P w K mg (hidT s₁.heap H) callerA [] s₁ H := ⟨rfl, hM, fun b o e => of_hidT e, Nat.le_of_eq (hidT_size _ _), trivial, fun b hb => absurd (show b ∈ ([] : List Addr) from hb) (by simp), hok, .of_eq hg⟩
  have hl : vals.length = ps.length := by rw [wellAll_len hwl]; exact hlen
  refine codeAny_mono ((F _ hKb (nsK hns)).run callerA [] s₁ H ⟨vals, []⟩ vals (vals.map toV) _ _ hr e0 (hbind s₁ vals hl) hV (hsp H _ hO hS)) fun r s' x => ?_
  cases r with
  | error e => exact (hCX H e s' x).elim
  | ok fl =>
    cases fl with
    | next => exact False.elim x
    | brk => exact False.elim x
    | cont => exact False.elim x
    | ret u =>
      obtain ⟨v, H', os, bare, un, hok', r', q⟩ := x
      have kept : ∀ b o, s₁.heap.get? b = some o → s'.heap.get? b = some o := fun b o e => by
        cases q2 : H b with
        | none => exact un.keep b o e q2 (by intro z; exact absurd (show b ∈ ([] : List Addr) from z) (by simp)) (by simp)
        | some u2 =>
          rcases hO b with z | ⟨ob, u3, z⟩
          · rw [q2] at z
            cases z
          · have z2 := un.frzs b ob _ z
            obtain ⟨e1, _⟩ := hok b _ z
            obtain ⟨e2, _⟩ := hok' b _ z2
            rw [e] at e1
            cases e1
            exact e2
      have KX' : K.In s'.heap := fun b o e => kept b o (KX b o e)
      obtain ⟨as, hrd⟩ := Dw.reads (R := R) (cl := cl) hok' KX' d0 v u q r'
      exact ⟨u, as, rfl, hrd, OldK.of_keep kept, os, bare⟩
theorem layable_weight {ds : List WData} (h : WData.layableAll ds = true) : ∀ d ∈ ds, d.weight ≤ 1048576 := fun d hd =>
  (PySem.W.layableW_iff.mp (List.all_eq_true.mp h d hd)).2.2
theorem encAll_len : ∀ (cs : List Codec) (a : Codec.denoteAll cs), (Codec.encAll cs a).length = cs.length
  | [], _ => rfl
  | c :: cs, a => by
    show (Codec.encAll cs a.2).length + 1 = cs.length + 1
    rw [encAll_len cs a.2]
theorem walk_spec {r : OpenSpec} {k : Nat} {q : Program} {loose : List Str} {XP : (Str → Option Value) → Heap → Prop} {YP : World → Heap → Prop} {d : DefRec} {K : Params → PySem.W.Frag} {CX : World → CXT} {ps : List Str} {sp : World → Sp}
    (hwell : r.wellSaid = true) (hdf : d.params.defaults = []) (hlen : r.args.length = ps.length) (hr : Room k callerA)
    (hY : ∀ (w : World) (h : Heap), YP w h → (K w.params).In h)
    (F : ∀ (w : World) (mg : Str → Option Value) (fa : Addr) (h : Heap), YP w h → (K w.params).In h → h.Ns mainGlobals mg → mg d.name = some (.ref fa) →
      ∃ fd : FuncData, (∀ (s : Shared) (us : List Value), us.length = ps.length → BindsTo s fd ⟨us, []⟩ (ps.zip us)) ∧
        ∀ base : Heap, (K w.params).In base → base.Ns mainGlobals mg → FnOk r.prog w (K w.params) mg base (CX w) k fa fd ps (sp w))
    (hsp : ∀ (w : World) (H : Hp) (xs : List V) (a : Codec.denoteAll r.args), OnlyF H → Codec.withinAll r.args a = true → Codec.app r.args r.asked a = true → DwAll (K w.params) H xs (Codec.encAll r.args a) →
      sp w xs H (fun v H' => Dw (K w.params) H' v (r.ret.enc (Codec.app r.args r.f a))) fun _ _ _ => False)
    (hCX : ∀ (w : World) (H : Hp) (s : Shared) (e : Value) (s' : Shared), CX w [] H s (fun _ _ _ => False) e s' → False) :
    PySem.W.WalkOS q loose XP YP r d [] (fun f vs => PySem.call f vs) := by
  intro w s_0 s₁ mg mb G Y fa o pm cd doc dV kV ho hd hcd hD hmg hg args vals as hpre hlay hrd hwl hlo
  obtain ⟨a, e1, e2⟩ := PySem.W.os_pre_some hpre
  obtain ⟨e3, hwi⟩ := Codec.encAll_of_decAll r.args args a e1
  subst e3
  have KX := hY w _ Y
  obtain ⟨fd, hb, hF⟩ := F w mg fa _ Y KX G.T.g hmg
  refine PySem.W.enter_call (codeAny_mono (spec_call (R := []) (cl := classAt s_0.heap) (d0 := r.ret.enc (Codec.app r.args r.f a)) KX G.T.g G.T.b G.T.builtins G.T.nolimit hg hwl (pl_encAll _ _) (layable_weight hlay) hr hF hb (by rw [encAll_len]; exact hlen)
    (fun H xs hO hS => hsp w H xs a hO hwi e2 hS) fun H e s' => hCX w H s₁ e s') fun r' s' hq => ?_)
  obtain ⟨u, as', rfl, h1, h2, h3, h4⟩ := hq
  exact ⟨.inl ⟨u, _, as', rfl, fun _ => rfl, h1, (OpenSpec.post_iff hwell hwi _ _).mpr rfl, fun z => Bool.noConfusion (show false = true from z)⟩, h2, h3, h4⟩
theorem walk_specK {r : OpenSpec} {k : Nat} {q : Program} {loose : List Str} {XP : (Str → Option Value) → Heap → Prop} {YP : World → Heap → Prop} {d : DefRec} {K : Params → PySem.W.Frag} {CX : CXT} {ps : List Str} {sp : PySem.W.Frag → Sp}
    (hwell : r.wellSaid = true) (hdf : d.params.defaults = []) (hlen : r.args.length = ps.length) (hr : Room k callerA)
    (hY : ∀ (w : World) (h : Heap), YP w h → (K w.params).In h)
    (F : ∀ (w : World) (mg : Str → Option Value) (fa : Addr) (h : Heap), YP w h → (K w.params).In h → h.Ns mainGlobals mg → mg d.name = some (.ref fa) →
      ∃ fd : FuncData, (∀ (s : Shared) (us : List Value), us.length = ps.length → BindsTo s fd ⟨us, []⟩ (ps.zip us)) ∧
        ∀ base : Heap, (K w.params).In base → base.Ns mainGlobals mg → FnOk r.prog w (K w.params) mg base CX k fa fd ps (sp (K w.params)))
    (hsp : ∀ (K : PySem.W.Frag) (H : Hp) (xs : List V) (a : Codec.denoteAll r.args), OnlyF H → Codec.withinAll r.args a = true → Codec.app r.args r.asked a = true → DwAll K H xs (Codec.encAll r.args a) →
      sp K xs H (fun v H' => Dw K H' v (r.ret.enc (Codec.app r.args r.f a))) fun _ _ _ => False)
    (hCX : ∀ (H : Hp) (s : Shared) (e : Value) (s' : Shared), CX [] H s (fun _ _ _ => False) e s' → False) :
    PySem.W.WalkOS q loose XP YP r d [] (fun f vs => PySem.call f vs) :=
  walk_spec (K := K) (CX := fun _ => CX) (sp := fun w => sp (K w.params)) hwell hdf hlen hr hY F (fun w H xs a h1 h2 h3 h4 => hsp (K w.params) H xs a h1 h2 h3 h4) fun _ H s e s' => hCX H s e s'
end L2
end
section
namespace L2
open PySem PySem.Spec PyProof.Rows
def inClass (s : Stmt) (j : Nat) : Stmt := match s with
  | .ClassDef _ _ _ body _ _ _ _ _ _ _ => body.getD j (.Pass ⟨0, 0, 0, 0⟩)
  | _ => .Pass ⟨0, 0, 0, 0⟩
def defArgs (s : Stmt) : Arguments := match s with
  | .FunctionDef _ a _ _ _ _ _ _ _ _ => a
  | _ => { posonlyargs := [], args := [], vararg := none, kwonlyargs := [], kw_defaults := [], kwarg := none, defaults := [] }
def defBody (s : Stmt) : List Stmt := match s with
  | .FunctionDef _ _ b _ _ _ _ _ _ _ => b
  | _ => []
def defScope (s : Stmt) : Scope := match s with
  | .FunctionDef _ _ _ _ _ _ sc _ _ _ => sc
  | _ => { kind := .function, names := [], isGenerator := false, isCoroutine := false }
abbrev CX0 : CXT := fun _ _ _ _ _ _ => False
abbrev E0 : XK := fun _ _ _ => False
theorem pass0 {X : Cx} : Passes CX0 X E0 := fun _ _ _ _ _ _ _ h => h.elim
structure Fun (K : PySem.W.Frag) (x qual : Str) (st : Stmt) (f : Addr) (fd : FuncData) : Prop where
  ex : ∃ (oc : Value) (od : Option Addr) (kV doc pm : Value) (an : Option Addr) (cdv ct : Value) (osl : Array (Option Value)),
    fd = PySem.W.fnOf x qual (defArgs st) (defBody st) (defScope st) .none kV doc pm an cdv ct ∧ K.lookup f = some ⟨oc, od, .func fd, osl⟩ ∧ PySem.W.codeIn K cdv qual = true
  kp : PySem.W.keepIn K (.ref f) = true
section
variable {P : Program} {w : World} {K : PySem.W.Frag} {mg : Str → Option Value} {base : Heap}
theorem Fun.ok {x qual : Str} {st : Stmt} {f : Addr} {fd : FuncData} {N ps : List Str} {k : Nat} {sp : Sp} (F : Fun K x qual st f fd) (S : FnScope N ps (defScope st)) (len : ∀ vs H Q E, sp vs H Q E → vs.length = ps.length)
    (hbody : ∀ (cdv : Value) (A : Around) (outer : List Env) (s : Shared) (H : Hp) (vs : List V) (Q : VK) (E : XK), Room k (A.deeper (envOfC qual (defScope st) s.heap.objs.size f cdv)) → sp vs H Q E →
      ∃ t, PSs (cxOf CX0 P w K mg base N qual (defScope st) f cdv A outer s H E).nox (defBody st) t ∧ t { nx := fun _ H' => Q .non H', rt := Q } (start N vs) H) : FnOk P w K mg base CX0 (k + 1) f fd ps sp := by
  obtain ⟨oc, od, kV, doc, pm, an, cdv, ct, osl, rfl, lk, hcd⟩ := F.ex
  refine fn_of lk hcd S len fun A outer s H vs Q E hr hsp => ?_
  obtain ⟨t, h, q⟩ := hbody cdv A outer s H vs Q E hr hsp
  exact ⟨t, h.nox, q⟩
theorem Fun.binds {x qual : Str} {st : Stmt} {f : Addr} {fd : FuncData} {ps : List Str} (F : Fun K x qual st f fd)
    (h : ∀ (kV doc pm : Value) (an : Option Addr) (cdv ct : Value) (us : List Value), us.length = ps.length → bindArgs (PySem.W.fnOf x qual (defArgs st) (defBody st) (defScope st) .none kV doc pm an cdv ct) ⟨us, []⟩ = pure (ps.zip us)) : Binds K fd ps [] := by
  obtain ⟨oc, od, kV, doc, pm, an, cdv, ct, osl, rfl, lk, hcd⟩ := F.ex
  exact .all (h kV doc pm an cdv ct)
theorem fun_mk {x qual : Str} {st : Stmt} {f : Addr} {oc : Value} {od an : Option Addr} {osl : Array (Option Value)} {kV doc pm cdv ct : Value} (l : K.lookup f = some ⟨oc, od, .func (PySem.W.fnOf x qual (defArgs st) (defBody st) (defScope st) .none kV doc pm an cdv ct), osl⟩)
    (c : PySem.W.codeIn K cdv qual = true) (k : PySem.W.keepIn K (.ref f) = true) : Fun K x qual st f (PySem.W.fnOf x qual (defArgs st) (defBody st) (defScope st) .none kV doc pm an cdv ct) := ⟨⟨oc, od, kV, doc, pm, an, cdv, ct, osl, rfl, l, c⟩, k⟩
end
theorem hu_of {A : Around} {k : Nat} (hr : Room k A) : A.units + 1 < cLine := Nat.lt_of_le_of_lt (Nat.add_le_add_left (by decide : 1 ≤ 64) _) hr.units
theorem small1000 {n : Nat} (h : n ≤ 1000) : n < sizeLine := Nat.lt_of_le_of_lt h (by decide)
section
variable {X : Cx}
theorem pv (i : Nat) {x : Str} {pos : Pos} (hN : X.N[i]? = some x := by rfl) (hv : Vis X.env.scope x := by first | exact Or.inl rfl | exact Or.inr (Or.inl rfl) | exact Or.inr (Or.inr rfl)) (hd : (x == ("__debug__" : Str)) = false := by decide)
    (hcd : (x == ("__classdict__" : Str)) = false := by decide) : PE X (.Name x pos) (tVar i) := pe_var hN hv hd hcd
end
def Same (H H' : Hp) : Prop := ∀ b o, H b = some o → H' b = some o
theorem Same.refl (H : Hp) : Same H H := fun _ _ h => h
theorem Same.trans {H H1 H2 : Hp} (a : Same H H1) (b : Same H1 H2) : Same H H2 := fun c o h => b c o (a c o h)
theorem Same.free {H H' : Hp} (e : Same H H') {l : Addr} (h : H' l = Option.none) : H l = Option.none := by
  cases q : H l with
  | none => rfl
  | some o =>
    rw [e l o q] at h
    cases h
theorem Same.seq {K : PySem.W.Frag} {H H' : Hp} {a : Addr} {xs : List V} (e : Same H H') (h : SqL K H a xs) : SqL K H' a xs := by
  rcases h with (h | ⟨o, h⟩) | h
  · exact .inl (.inl (e _ _ h))
  · exact .inl (.inr ⟨o, e _ _ h⟩)
  · exact .inr h
section
variable {κ : Type} [DecidableEq κ]
end
theorem at_of {xs : List V} {z : Int} {j : Nat} {v : V} (e : z = (j : Int)) (h : xs[j]? = some v) : atI xs z = some v := by
  rw [e]
  exact atI_nat h
theorem Same.made {H H1 : Hp} {x dx C : Addr} (nx : H x = Option.none) (nd : H dx = Option.none) (k : ∀ b o, (upd (upd H dx (.own x)) x (.ins C dx [])) b = some o → b ≠ x → H1 b = some o) : Same H H1 := fun b o e =>
  k b o (by rw [upd_ne (ne_of_none e nx), upd_ne (ne_of_none e nd)]; exact e) (ne_of_none e nx)
end L2
end
set_option Elab.async false
set_option linter.all false
set_option maxRecDepth 100000
set_option maxHeartbeats 2000000
namespace M47
open Sz47 Sz47Neutral
theorem rules_len : ∀ (k : Nat) (l : List Int), l.length = 2 * k → (rules l).length = k
  | 0, [], _ => rfl
  | 0, _ :: _, h => by simp at h
  | k + 1, [], h => by simp at h
  | k + 1, [_], h => by simp at h; omega
  | k + 1, a :: b :: r, h => by
    have h2 : r.length = 2 * k := by simp at h; omega
    show (rules r).length + 1 = k + 1
    rw [rules_len k r h2]
theorem rules_get : ∀ (i : Nat) (l : List Int) (a b : Int), l[2 * i]? = some a → l[2 * i + 1]? = some b → (rules l)[i]? = some (a.toNat, b.toNat)
  | _, [], _, _, h, _ => by simp at h
  | 0, [x], _, _, _, h => by simp at h
  | i + 1, [x], _, _, h, _ => by simp at h
  | 0, x :: y :: r, a, b, h1, h2 => by
    simp at h1 h2
    subst h1 h2
    rfl
  | i + 1, x :: y :: r, a, b, h1, h2 => by
    show (rules r)[i]? = _
    refine rules_get i r a b ?_ ?_
    · have e : 2 * (i + 1) = 2 * i + 1 + 1 := by omega
      rw [e] at h1
      exact h1
    · have e : 2 * (i + 1) + 1 = 2 * i + 1 + 1 + 1 := by omega
      rw [e] at h2
      exact h2
def NamesOk (rs : Rules) : Prop := ∀ (i : Nat) (y : Rule), rs[i]? = some y → y.1 < 256 + i ∧ y.2 < 256 + i
def namesB (rs : Rules) : Bool := (List.range rs.length).all (fun (i : Nat) => match rs[i]? with
      | some y => decide (y.1 < 256 + i) && decide (y.2 < 256 + i)
      | none => true)
theorem namesB_iff (rs : Rules) : namesB rs = true ↔ NamesOk rs := by
  unfold namesB NamesOk
  rw [List.all_eq_true]
  constructor
  · intro h i y e
    have hi : i < rs.length := (List.getElem?_eq_some_iff.mp e).1
    have := h i (List.mem_range.mpr hi)
    rw [e] at this
    simpa using this
  · intro h i _
    cases e : rs[i]? with
    | none => rfl
    | some y => simpa using h i y e
theorem lengths_snoc (l : Rules) (x : Rule) : lengths (l ++ [x]) = lengths l ++ [wide (lengths l) x.1 + wide (lengths l) x.2] := by
  unfold lengths
  rw [List.foldl_append]
  rfl
theorem foldl_len {α β : Type} (g : List β → α → β) : ∀ (l : List α) (acc : List β), (l.foldl (fun acc x => acc ++ [g acc x]) acc).length = acc.length + l.length
  | [], acc => by simp
  | x :: l, acc => by
    rw [List.foldl_cons, foldl_len g l, List.length_append]
    simp; omega
theorem lengths_len (l : Rules) : (lengths l).length = l.length := by
  unfold lengths
  rw [foldl_len (fun (l : List Nat) (x : Rule) => wide l x.1 + wide l x.2)]
  simp
theorem take_snoc {α : Type} : ∀ {l : List α} {i : Nat} {x : α}, l[i]? = some x → l.take (i + 1) = l.take i ++ [x]
  | [], i, x, h => by simp at h
  | a :: l, 0, x, h => by
    have e : a = x := Option.some.inj h
    subst e
    rfl
  | a :: l, i + 1, x, h => by
    have ih := take_snoc (l := l) (i := i) (x := x) h
    show a :: l.take (i + 1) = a :: l.take i ++ [x]
    rw [ih]
    rfl
def nums (l : List Nat) : List Int := l.map fun (n : Nat) => (n : Int)
theorem nums_len (l : List Nat) : (nums l).length = l.length := by unfold nums; rw [List.length_map]
theorem nums_snoc (l : List Nat) (n : Nat) : nums (l ++ [n]) = nums l ++ [(n : Int)] := by unfold nums; rw [List.map_append]; rfl
theorem nums_get {l : List Nat} {i : Nat} {n : Nat} (h : l[i]? = some n) : (nums l)[i]? = some (n : Int) := by unfold nums; rw [List.getElem?_map, h]; rfl
structure Ask (k : Int) (r : List Int) : Prop where
  lo : -2147483648 ≤ k
  hi : k < 2147483648
  num : ∀ x ∈ r, 0 ≤ x ∧ x < 65536
  len : (r.length : Int) = if 1 ≤ k ∧ k ≤ 256 then 2 * k else 0
theorem ask_of {k : Int} {r : List Int} (h : (whole32 k && (r.all (fun (z : Int) => natural z 16) && decide ((r.length : Int) = if 1 ≤ k ∧ k ≤ 256 then 2 * k else 0))) = true) : Ask k r := by
  rw [Bool.and_eq_true, Bool.and_eq_true, List.all_eq_true] at h
  obtain ⟨h1, h2, h3⟩ := h
  unfold whole32 at h1
  rw [Bool.and_eq_true] at h1
  have a1 := of_decide_eq_true h1.1
  have a2 := of_decide_eq_true h1.2
  refine ⟨by omega, by omega, fun x hx => ?_, of_decide_eq_true h3⟩
  have h4 := h2 x hx
  unfold natural at h4
  rw [Bool.and_eq_true] at h4
  have b1 := of_decide_eq_true h4.1
  have b2 := of_decide_eq_true h4.2
  exact ⟨b1, by omega⟩
structure Fit (k : Int) (r : List Int) (n : Nat) : Prop where
  k : k = (n : Int)
  pos : 1 ≤ n
  most : n ≤ 256
  len : r.length = 2 * n
  rl : (rules r).length = n
  num : ∀ x ∈ r, 0 ≤ x ∧ x < 65536
theorem Ask.fit {k : Int} {r : List Int} (h : Ask k r) (hk : 1 ≤ k ∧ k ≤ 256) : ∃ n, Fit k r n := by
  have hl := h.len
  rw [if_pos hk] at hl
  refine ⟨k.toNat, by omega, by omega, by omega, by omega, rules_len _ _ (by omega), h.num⟩
theorem Fit.at_ {k : Int} {r : List Int} {n : Nat} (h : Fit k r n) {i : Nat} (hi : i < n) : ∃ a b : Nat, r[2 * i]? = some (a : Int) ∧ r[2 * i + 1]? = some (b : Int) ∧ (rules r)[i]? = some (a, b) := by
  have hl := h.len
  have h1 : 2 * i < r.length := by omega
  have h2 : 2 * i + 1 < r.length := by omega
  have e1 : r[2 * i]? = some r[2 * i] := List.getElem?_eq_getElem h1
  have e2 : r[2 * i + 1]? = some r[2 * i + 1] := List.getElem?_eq_getElem h2
  have b1 := h.num _ (List.getElem_mem h1)
  have b2 := h.num _ (List.getElem_mem h2)
  refine ⟨r[2 * i].toNat, r[2 * i + 1].toNat, ?_, ?_, rules_get i r _ _ e1 e2⟩
  · rw [e1]; congr 1; omega
  · rw [e2]; congr 1; omega
theorem sound_count {k : Int} {r : List Int} (h : ¬ (1 ≤ k ∧ k ≤ 256)) : sound (handed k r) = -1 := by
  unfold sound
  rw [if_pos]
  exact h
theorem sound_names {k : Int} {r : List Int} (h : namesB (rules r) = false) : sound (handed k r) = -1 := by
  unfold sound
  by_cases hk : ¬ (1 ≤ (handed k r).count ∧ (handed k r).count ≤ (MOST : Int))
  · rw [if_pos hk]
  · rw [if_neg hk, if_pos]
    exact h
theorem sound_rest {k : Int} {r : List Int} (hk : 1 ≤ k ∧ k ≤ 256) (h : namesB (rules r) = true) : sound (handed k r) = if (1152921504606846976 : Int) ≤ (length (rules r) : Int) then -2 else 0 := by
  unfold sound
  rw [if_neg (by intro c; exact c hk), if_neg (by intro c; have c' : namesB (rules r) = false := c; rw [h] at c'; cases c')]
  have e : (LONG ≤ length (handed k r).rules) = ((1152921504606846976 : Int) ≤ (length (rules r) : Int)) := by
    have e1 : LONG = 1152921504606846976 := by decide
    rw [e1]
    show (1152921504606846976 ≤ length (rules r)) = _
    apply propext
    omega
  simp only [e]
theorem sound_neg (x : Handed) : sound x = 0 ∨ sound x = -1 ∨ sound x = -2 := by
  unfold sound
  repeat' split
  all_goals simp
theorem length_last {rs : Rules} {n : Nat} (h : rs.length = n) (hn : 1 ≤ n) : (lengths rs)[n - 1]? = some (length rs) := by
  unfold length
  have hl := lengths_len rs
  have h1 : n - 1 < (lengths rs).length := by omega
  have e : (lengths rs).length - 1 = n - 1 := by omega
  rw [List.getLastD_eq_getLast?, List.getLast?_eq_getElem?, e, List.getElem?_eq_getElem h1]
  rfl
theorem length_eq (k : Int) (r : List Int) : PySz47.length k r = if sound (handed k r) = 0 then [((length (rules r) : Nat) : Int)] else [sound (handed k r)] := by
  show (ofList (handed k r) (says _)).value :: (ofList (handed k r) (says _)).out.map _ = _
  unfold ofList
  split
  · rfl
  · rfl
theorem wide_byte {l : List Nat} {x : Nat} (h : x < 256) : wide l x = 1 := by unfold wide; rw [if_pos h]
theorem wide_rule {l : List Nat} {x : Nat} (h : ¬ x < 256) (h2 : x < 256 + l.length) : l[x - 256]? = some (wide l x) := by
  unfold wide
  rw [if_neg h, List.getD_eq_getElem?_getD, List.getElem?_eq_getElem (by omega)]
  rfl
end M47
namespace M47
open Sz47 Sz47Neutral
theorem grow_len {α β : Type} (g : List β → α → β) (l : List α) : (l.foldl (fun acc x => acc ++ [g acc x]) []).length = l.length := by
  rw [foldl_len g]
  simp
theorem grow_snoc {α β : Type} (g : List β → α → β) (l : List α) (x : α) : (l ++ [x]).foldl (fun acc x => acc ++ [g acc x]) [] = l.foldl (fun acc x => acc ++ [g acc x]) [] ++ [g (l.foldl (fun acc x => acc ++ [g acc x]) []) x] := by
  rw [List.foldl_append]
  rfl
theorem grow_pre {α β : Type} (g : List β → α → β) : ∀ (l : List α) (acc : List β), ∃ m, l.foldl (fun acc x => acc ++ [g acc x]) acc = acc ++ m
  | [], acc => ⟨[], by simp⟩
  | x :: l, acc => by
    obtain ⟨m, h⟩ := grow_pre g l (acc ++ [g acc x])
    exact ⟨[g acc x] ++ m, by rw [List.foldl_cons, h, List.append_assoc]⟩
theorem grow_take {α β : Type} (g : List β → α → β) (l : List α) (i : Nat) : (l.take i).foldl (fun acc x => acc ++ [g acc x]) [] = (l.foldl (fun acc x => acc ++ [g acc x]) []).take i := by
  by_cases hi : i ≤ l.length
  · have e : l = l.take i ++ l.drop i := (List.take_append_drop i l).symm
    have h1 : l.foldl (fun acc x => acc ++ [g acc x]) [] = (l.drop i).foldl (fun acc x => acc ++ [g acc x]) ((l.take i).foldl (fun acc x => acc ++ [g acc x]) []) := by
      rw [← List.foldl_append, ← e]
    obtain ⟨m, h2⟩ := grow_pre g (l.drop i) ((l.take i).foldl (fun acc x => acc ++ [g acc x]) [])
    have h3 : ((l.take i).foldl (fun acc x => acc ++ [g acc x]) []).length = i := by
      rw [grow_len, List.length_take]
      omega
    generalize (l.take i).foldl (fun acc x => acc ++ [g acc x]) [] = A at h1 h2 h3
    rw [h1, h2, List.take_append_of_le_length (by omega)]
    exact (List.take_of_length_le (by omega)).symm
  · rw [List.take_of_length_le (by omega), List.take_of_length_le (by rw [grow_len]; omega)]
theorem grow_get {α β : Type} (g : List β → α → β) {l : List α} {i : Nat} {x : α} (h : l[i]? = some x) : (l.foldl (fun acc x => acc ++ [g acc x]) [])[i]? = some (g ((l.take i).foldl (fun acc x => acc ++ [g acc x]) []) x) := by
  have hi : i < l.length := (List.getElem?_eq_some_iff.mp h).1
  have e1 : (l.foldl (fun acc x => acc ++ [g acc x]) [])[i]? = ((l.foldl (fun acc x => acc ++ [g acc x]) []).take (i + 1))[i]? := by rw [List.getElem?_take_of_lt (by omega)]
  rw [e1, ← grow_take g l (i + 1), take_snoc h, grow_snoc]
  have h3 : ((l.take i).foldl (fun acc x => acc ++ [g acc x]) []).length = i := by
    rw [grow_len, List.length_take]
    omega
  rw [List.getElem?_append_right (by omega), h3]
  simp
def gE (l : List Text) (x : Rule) : Text := made l x.1 ++ made l x.2
def gL (l : List Nat) (x : Rule) : Nat := wide l x.1 + wide l x.2
theorem each_len (r : Rules) : (each r).length = r.length := grow_len gE r
theorem each_take (r : Rules) (i : Nat) : each (r.take i) = (each r).take i := grow_take gE r i
theorem each_get {r : Rules} {i : Nat} {x : Rule} (h : r[i]? = some x) : (each r)[i]? = some (made (each (r.take i)) x.1 ++ made (each (r.take i)) x.2) := grow_get gE h
theorem lengths_take (r : Rules) (i : Nat) : lengths (r.take i) = (lengths r).take i := grow_take gL r i
theorem lengths_get {r : Rules} {i : Nat} {x : Rule} (h : r[i]? = some x) : (lengths r)[i]? = some (wide (lengths (r.take i)) x.1 + wide (lengths (r.take i)) x.2) := grow_get gL h
theorem getD_take {α : Type} (l : List α) (i j : Nat) (d : α) (h : j < i) : (l.take i).getD j d = l.getD j d := by
  rw [List.getD_eq_getElem?_getD, List.getD_eq_getElem?_getD, List.getElem?_take_of_lt h]
theorem made_take (r : Rules) {i x : Nat} (h : x < 256 + i) : made (each (r.take i)) x = made (each r) x := by
  unfold made
  rw [each_take]
  split
  · rfl
  · rw [getD_take _ _ _ _ (by omega)]
theorem wide_take (r : Rules) {i x : Nat} (h : x < 256 + i) : wide (lengths (r.take i)) x = wide (lengths r) x := by
  unfold wide
  rw [lengths_take]
  split
  · rfl
  · rw [getD_take _ _ _ _ (by omega)]
theorem made_byte {l : List Text} {x : Nat} (h : x < 256) : made l x = [x] := by unfold made; rw [if_pos h]
theorem made_rule {r : Rules} (hN : NamesOk r) {i : Nat} {y : Rule} (h : r[i]? = some y) : made (each r) (256 + i) = made (each r) y.1 ++ made (each r) y.2 := by
  have h2 := hN i y h
  have e : made (each r) (256 + i) = (each r).getD i [] := by
    unfold made
    rw [if_neg (by omega), Nat.add_sub_cancel_left]
  rw [e, List.getD_eq_getElem?_getD, each_get h]
  show made (each (r.take i)) y.1 ++ made (each (r.take i)) y.2 = _
  rw [made_take r h2.1, made_take r h2.2]
theorem wide_sum {r : Rules} (hN : NamesOk r) {i : Nat} {y : Rule} (h : r[i]? = some y) : wide (lengths r) (256 + i) = wide (lengths r) y.1 + wide (lengths r) y.2 := by
  have h2 := hN i y h
  have e : wide (lengths r) (256 + i) = (lengths r).getD i 0 := by
    unfold wide
    rw [if_neg (by omega), Nat.add_sub_cancel_left]
  rw [e, List.getD_eq_getElem?_getD, lengths_get h]
  show wide (lengths (r.take i)) y.1 + wide (lengths (r.take i)) y.2 = _
  rw [wide_take r h2.1, wide_take r h2.2]
theorem things_ind {r : Rules} (hN : NamesOk r) (P : Nat → Prop) (hb : ∀ x, x < 256 → P x) (hr : ∀ (i : Nat) (y : Rule), r[i]? = some y → P y.1 → P y.2 → P (256 + i)) : ∀ x, x < 256 + r.length → P x := by
  intro x
  induction x using Nat.strongRecOn with
  | ind x ih =>
    intro hx
    by_cases h : x < 256
    · exact hb x h
    · have hi : x - 256 < r.length := by omega
      have e : r[x - 256]? = some r[x - 256] := List.getElem?_eq_getElem hi
      have h2 := hN _ _ e
      have e2 : 256 + (x - 256) = x := by omega
      have := hr (x - 256) _ e (ih _ (by omega) (by omega)) (ih _ (by omega) (by omega))
      rw [e2] at this
      exact this
theorem made_len {r : Rules} (hN : NamesOk r) : ∀ x, x < 256 + r.length → (made (each r) x).length = wide (lengths r) x := by
  refine things_ind hN _ (fun x h => ?_) (fun i y h h1 h2 => ?_)
  · rw [made_byte h, wide_byte h]
    rfl
  · rw [made_rule hN h, wide_sum hN h, List.length_append, h1, h2]
theorem made_bytes {r : Rules} (hN : NamesOk r) : ∀ x, x < 256 + r.length → ∀ c ∈ made (each r) x, c < 256 := by
  refine things_ind hN _ (fun x h c hc => ?_) (fun i y h h1 h2 c hc => ?_)
  · rw [made_byte h] at hc
    have : c = x := by simpa using hc
    omega
  · rw [made_rule hN h, List.mem_append] at hc
    exact hc.elim (h1 c) (h2 c)
theorem text_last {r : Rules} {n : Nat} (h : r.length = n) (hn : 1 ≤ n) : text r = made (each r) (255 + n) := by
  unfold text made
  have hl := each_len r
  rw [if_neg (by omega), List.getLastD_eq_getLast?, List.getLast?_eq_getElem?, List.getD_eq_getElem?_getD]
  have e : (each r).length - 1 = 255 + n - 256 := by omega
  rw [e]
theorem length_last2 {r : Rules} {n : Nat} (h : r.length = n) (hn : 1 ≤ n) : length r = wide (lengths r) (255 + n) := by
  unfold length wide
  have hl := lengths_len r
  rw [if_neg (by omega), List.getLastD_eq_getLast?, List.getLast?_eq_getElem?, List.getD_eq_getElem?_getD]
  have e : (lengths r).length - 1 = 255 + n - 256 := by omega
  rw [e]
theorem text_len {r : Rules} (hN : NamesOk r) (hn : 1 ≤ r.length) : (text r).length = length r := by
  rw [text_last rfl hn, length_last2 rfl hn, made_len hN _ (by omega)]
theorem common_append (s t u : Text) : common (s ++ t) (s ++ u) = s.length + common t u := by
  induction s with
  | nil => simp
  | cons a s ih =>
    show (if a = a then common (s ++ t) (s ++ u) + 1 else 0) = (s.length + 1) + common t u
    rw [if_pos rfl, ih]
    omega
end M47
namespace M47
open Sz47 Sz47Neutral
def Low (k : Nat) (ws : List Nat) : Prop := ∀ (i x : Nat), ws[i]? = some x → x + i ≤ 255 + k
theorem Low.pre {k : Nat} {ws : List Nat} {y : Nat} (h : Low k (ws ++ [y])) : Low k ws := by
  intro i x hx
  have hi : i < ws.length := (List.getElem?_eq_some_iff.mp hx).1
  refine h i x ?_
  rw [List.getElem?_append_left hi]
  exact hx
theorem Low.top {k : Nat} {ws : List Nat} {y : Nat} (h : Low k (ws ++ [y])) : y + ws.length ≤ 255 + k := by
  refine h ws.length y ?_
  rw [List.getElem?_append_right (Nat.le_refl _), Nat.sub_self]
  rfl
theorem Low.push {k : Nat} {ws : List Nat} {y a b : Nat} (h : Low k (ws ++ [y])) (ha : a < y) (hb : b < y) : Low k (ws ++ [b, a]) := by
  have ht := h.top
  intro i x hx
  by_cases hi : i < ws.length
  · refine h i x ?_
    rw [List.getElem?_append_left hi] at hx ⊢
    exact hx
  · rw [List.getElem?_append_right (by omega)] at hx
    rcases hj : i - ws.length with _ | _ | j
    · rw [hj] at hx
      have e : b = x := Option.some.inj hx
      omega
    · rw [hj] at hx
      have e : a = x := Option.some.inj hx
      omega
    · rw [hj] at hx
      simp at hx
theorem snoc_of {α : Type} {ws : List α} (h : ws ≠ []) : ∃ us x, ws = us ++ [x] := ⟨ws.dropLast, ws.getLast h, (List.dropLast_concat_getLast h).symm⟩
theorem rule_at {k : Int} {ns : List Int} {n : Nat} (hF : Fit k ns n) {x : Nat} (h1 : ¬ x < 256) (h2 : x ≤ 255 + n) : ∃ a b i : Nat, x = 256 + i ∧ i < n ∧ ns[2 * i]? = some (a : Int) ∧ ns[2 * i + 1]? = some (b : Int) ∧ (rules ns)[i]? = some (a, b) := by
  obtain ⟨a, b, e1, e2, e3⟩ := hF.at_ (i := x - 256) (by omega)
  exact ⟨a, b, x - 256, by omega, by omega, e1, e2, e3⟩
theorem sound_zero {k : Int} {ns : List Int} (hA : Ask k ns) (h : sound (handed k ns) = 0) : ∃ n, Fit k ns n ∧ NamesOk (rules ns) ∧ (text (rules ns)).length = length (rules ns) ∧ length (rules ns) < 1152921504606846976 := by
  have hk : 1 ≤ k ∧ k ≤ 256 := by
    by_cases c : 1 ≤ k ∧ k ≤ 256
    · exact c
    · rw [sound_count c] at h
      omega
  have hB : namesB (rules ns) = true := by
    cases c : namesB (rules ns) with
    | true => rfl
    | false =>
      rw [sound_names c] at h
      omega
  obtain ⟨n, hF⟩ := hA.fit hk
  have hN := (namesB_iff _).mp hB
  rw [sound_rest hk hB] at h
  have h1 := hF.rl
  have h2 := hF.pos
  refine ⟨n, hF, hN, text_len hN (by omega), ?_⟩
  split at h
  · omega
  · omega
end M47
set_option linter.all false
namespace B47
def stp (p : Nat → Nat → Bool) (bs : List (List Nat)) (x : Nat) : List (List Nat) := match bs.getLast? with
  | some s => (match s.getLast? with
    | some y => if p y x = true then bs.dropLast ++ [s ++ [x]] else bs ++ [[x]]
    | none => bs ++ [[x]])
  | none => [[x]]
def seg (p : Nat → Nat → Bool) (r : List Nat) : List (List Nat) := r.foldl (stp p) []
section
variable {p : Nat → Nat → Bool}
theorem stp_snoc (q : List (List Nat)) (s : List Nat) (y x : Nat) : stp p (q ++ [s ++ [y]]) x = if p y x = true then q ++ [s ++ [y] ++ [x]] else q ++ [s ++ [y]] ++ [[x]] := by
  unfold stp
  rw [List.getLast?_concat]
  simp only
  rw [List.getLast?_concat, List.dropLast_concat]
theorem stp_nil (x : Nat) : stp p [] x = [[x]] := rfl
theorem seg_nil : seg p [] = [] := rfl
theorem seg_one (x : Nat) : seg p [x] = [[x]] := rfl
theorem seg_snoc (r : List Nat) (x : Nat) : seg p (r ++ [x]) = stp p (seg p r) x := by
  unfold seg
  rw [List.foldl_append]
  rfl
theorem last_cases {α : Type} (l : List α) : l = [] ∨ ∃ q x, l = q ++ [x] := by
  rcases List.eq_nil_or_concat l with h | ⟨q, x, h⟩
  · exact .inl h
  · exact .inr ⟨q, x, by simpa using h⟩
theorem stp_ne {bs : List (List Nat)} (h : ∀ s ∈ bs, s ≠ []) (x : Nat) : ∀ s ∈ stp p bs x, s ≠ [] := by
  intro s hs
  rcases last_cases bs with rfl | ⟨q, t, rfl⟩
  · rw [stp_nil] at hs
    rw [List.mem_singleton.mp hs]
    simp
  · rcases last_cases t with rfl | ⟨t', y, rfl⟩
    · exact absurd rfl (h [] (by simp))
    · rw [stp_snoc] at hs
      split at hs
      · rcases List.mem_append.mp hs with hs | hs
        · exact h s (by simp [hs])
        · rw [List.mem_singleton.mp hs]
          simp
      · rcases List.mem_append.mp hs with hs | hs
        · exact h s hs
        · rw [List.mem_singleton.mp hs]
          simp
theorem fold_ne : ∀ (z : List Nat) {bs : List (List Nat)}, (∀ s ∈ bs, s ≠ []) → ∀ s ∈ z.foldl (stp p) bs, s ≠ []
  | [], _, h => h
  | x :: z, _, h => fold_ne z (stp_ne h x)
theorem seg_ne (r : List Nat) : ∀ s ∈ seg p r, s ≠ [] := fold_ne r (fun s hs => by cases hs)
theorem stp_front {q : List (List Nat)} {s : List Nat} (hs : s ≠ []) (x : Nat) : stp p (q ++ [s]) x = q ++ stp p [s] x := by
  rcases last_cases s with rfl | ⟨t, y, rfl⟩
  · exact absurd rfl hs
  · have e : stp p [t ++ [y]] x = stp p ([] ++ [t ++ [y]]) x := by rw [List.nil_append]
    rw [stp_snoc, e, stp_snoc]
    split
    · simp
    · simp
theorem fold_front : ∀ (z : List Nat) {q : List (List Nat)} {s : List Nat}, s ≠ [] → z.foldl (stp p) (q ++ [s]) = q ++ z.foldl (stp p) [s]
  | [], _, _, _ => rfl
  | x :: z, q, s, hs => by
    rw [List.foldl_cons, List.foldl_cons, stp_front hs]
    rcases last_cases s with rfl | ⟨t, y, rfl⟩
    · exact absurd rfl hs
    · have e : stp p [t ++ [y]] x = stp p ([] ++ [t ++ [y]]) x := by rw [List.nil_append]
      rw [e, stp_snoc]
      split
      · rw [List.nil_append, fold_front z (by simp)]
      · rw [List.nil_append, ← List.append_assoc, fold_front z (by simp), fold_front z (s := [x]) (q := [t ++ [y]]) (by simp), List.append_assoc]
theorem fold_last : ∀ (z : List Nat) (s s' : List Nat) (y : Nat), ∃ u q, z.foldl (stp p) [s ++ [y]] = (s ++ [y] ++ u) :: q ∧ z.foldl (stp p) [s' ++ [y]] = (s' ++ [y] ++ u) :: q
  | [], s, s', y => ⟨[], [], by simp, by simp⟩
  | x :: z, s, s', y => by
    rw [List.foldl_cons, List.foldl_cons]
    have e : ∀ t : List Nat, stp p [t ++ [y]] x = if p y x = true then [t ++ [y] ++ [x]] else [t ++ [y]] ++ [[x]] := fun t => by
      have := stp_snoc (p := p) [] t y x
      rw [List.nil_append] at this
      exact this
    rw [e, e]
    split
    · obtain ⟨u, q, h1, h2⟩ := fold_last z (s ++ [y]) (s' ++ [y]) x
      exact ⟨x :: u, q, by rw [h1]; simp, by rw [h2]; simp⟩
    · refine ⟨[], z.foldl (stp p) [[x]], ?_, ?_⟩
      · rw [fold_front z (by simp)]; simp
      · rw [fold_front z (by simp)]; simp
theorem stp_flat {bs : List (List Nat)} (h : ∀ s ∈ bs, s ≠ []) (x : Nat) : (stp p bs x).flatten = bs.flatten ++ [x] := by
  rcases last_cases bs with rfl | ⟨q, t, rfl⟩
  · rfl
  · rcases last_cases t with rfl | ⟨t', y, rfl⟩
    · exact absurd rfl (h [] (by simp))
    · rw [stp_snoc]
      split
      · simp
      · simp
theorem fold_flat : ∀ (z : List Nat) {bs : List (List Nat)}, (∀ s ∈ bs, s ≠ []) → (z.foldl (stp p) bs).flatten = bs.flatten ++ z
  | [], _, _ => by simp
  | x :: z, bs, h => by
    rw [List.foldl_cons, fold_flat z (stp_ne h x), stp_flat h]
    simp
theorem seg_flat (r : List Nat) : (seg p r).flatten = r := by
  have := fold_flat (p := p) r (bs := []) (fun s hs => by cases hs)
  rw [List.flatten_nil, List.nil_append] at this
  exact this
def Chain (p : Nat → Nat → Bool) : List Nat → Prop
  | [] => True
  | [_] => True
  | a :: b :: r => p a b = true ∧ Chain p (b :: r)
theorem chain_snoc : ∀ {s : List Nat} {y x : Nat}, Chain p (s ++ [y]) → p y x = true → Chain p (s ++ [y] ++ [x])
  | [], y, x, _, h => ⟨h, True.intro⟩
  | [a], y, x, h, h2 => ⟨h.1, h2, True.intro⟩
  | a :: b :: r, y, x, h, h2 => ⟨h.1, chain_snoc (s := b :: r) h.2 h2⟩
theorem fold_chain : ∀ (z : List Nat) {bs : List (List Nat)}, (∀ s ∈ bs, s ≠ [] ∧ Chain p s) → ∀ s ∈ z.foldl (stp p) bs, Chain p s
  | [], _, h => fun s hs => (h s hs).2
  | x :: z, bs, h => by
    refine fold_chain z (bs := stp p bs x) fun s hs => ⟨stp_ne (fun t ht => (h t ht).1) x s hs, ?_⟩
    rcases last_cases bs with rfl | ⟨q, t, rfl⟩
    · rw [stp_nil] at hs
      rw [List.mem_singleton.mp hs]
      exact True.intro
    · rcases last_cases t with rfl | ⟨t', y, rfl⟩
      · exact absurd rfl (h [] (by simp)).1
      · rw [stp_snoc] at hs
        split at hs
        · next hp =>
          rcases List.mem_append.mp hs with hs | hs
          · exact (h s (by simp [hs])).2
          · rw [List.mem_singleton.mp hs]
            exact chain_snoc (h _ (by simp)).2 hp
        · rcases List.mem_append.mp hs with hs | hs
          · exact (h s hs).2
          · rw [List.mem_singleton.mp hs]
            exact True.intro
theorem seg_chain (r : List Nat) : ∀ s ∈ seg p r, Chain p s := fold_chain r (fun s hs => by cases hs)
theorem fold_of_chain : ∀ (z : List Nat) (s : List Nat) (y : Nat), Chain p (y :: z) → z.foldl (stp p) [s ++ [y]] = [s ++ [y] ++ z]
  | [], s, y, _ => by simp
  | x :: z, s, y, h => by
    rw [List.foldl_cons]
    have e := stp_snoc (p := p) [] s y x
    rw [List.nil_append, if_pos h.1, List.nil_append] at e
    rw [e, fold_of_chain z (s ++ [y]) x h.2]
    simp
theorem seg_of_chain {s : List Nat} (hs : s ≠ []) (h : Chain p s) : seg p s = [s] := by
  cases s with
  | nil => exact absurd rfl hs
  | cons y z =>
    show z.foldl (stp p) (stp p [] y) = _
    rw [stp_nil]
    have := fold_of_chain z [] y h
    simpa using this
theorem seg_right {r : List Nat} {q : List (List Nat)} {s : List Nat} (h : seg p r = q ++ [s]) (z : List Nat) : seg p (r ++ z) = q ++ seg p (s ++ z) := by
  have hm : s ∈ seg p r := by rw [h]; simp
  have hs := seg_ne r s hm
  have hc := seg_chain r s hm
  have e1 : seg p (r ++ z) = z.foldl (stp p) (seg p r) := by unfold seg; rw [List.foldl_append]
  have e2 : seg p (s ++ z) = z.foldl (stp p) (seg p s) := by unfold seg; rw [List.foldl_append]
  rw [e1, e2, h, seg_of_chain hs hc, fold_front z hs]
theorem seg_left {r : List Nat} {q : List (List Nat)} {s : List Nat} (h : seg p r = s :: q) (z : List Nat) : seg p (z ++ r) = seg p (z ++ s) ++ q := by
  have hm : s ∈ seg p r := by rw [h]; simp
  have hs := seg_ne r s hm
  have hc := seg_chain r s hm
  have hf := seg_flat (p := p) r
  rw [h, List.flatten_cons] at hf
  rw [← hf, ← List.append_assoc]
  have e0 : seg p (s ++ q.flatten) = s :: q := by rw [hf]; exact h
  have e2 : seg p (s ++ q.flatten) = q.flatten.foldl (stp p) [s] := by
    have : seg p (s ++ q.flatten) = q.flatten.foldl (stp p) (seg p s) := by unfold seg; rw [List.foldl_append]
    rw [this, seg_of_chain hs hc]
  have e3 : seg p (z ++ s ++ q.flatten) = q.flatten.foldl (stp p) (seg p (z ++ s)) := by unfold seg; rw [List.foldl_append]
  rw [e3]
  rcases last_cases (seg p (z ++ s)) with hz | ⟨Q, t, hz⟩
  · exfalso
    have := seg_flat (p := p) (z ++ s)
    rw [hz] at this
    have : z ++ s = [] := this.symm
    simp at this
    exact hs this.2
  · have ht : t ≠ [] := seg_ne (z ++ s) t (by rw [hz]; simp)
    rcases last_cases t with rfl | ⟨t', y', rfl⟩
    · exact absurd rfl ht
    · rcases last_cases s with rfl | ⟨s', y, rfl⟩
      · exact absurd rfl hs
      · have hl := seg_flat (p := p) (z ++ (s' ++ [y]))
        rw [hz] at hl
        have ey : y' = y := by
          have h1 := congrArg List.getLast? hl
          rw [List.flatten_append] at h1
          simp at h1
          exact h1
        subst ey
        obtain ⟨u, q', h1, h2⟩ := fold_last (p := p) q.flatten s' t' y'
        rw [e2, h1] at e0
        have e4 := List.cons.inj e0
        have hu : u = [] := by
          have := e4.1
          simpa using this
        subst hu
        rw [hz, fold_front _ ht, h2, e4.2]
        simp
end
def Adj {α : Type} (R : α → α → Prop) : List α → Prop
  | a :: b :: r => R a b ∧ Adj R (b :: r)
  | _ => True
section
variable {α β : Type} {R R' : α → α → Prop}
theorem Adj.tail {l : List α} (h : Adj R l) : Adj R l.tail := by
  match l, h with
  | [], _ => exact True.intro
  | [_], _ => exact True.intro
  | _ :: _ :: _, h => exact h.2
theorem adj_app {a b : α} : ∀ {x : List α} {y : List α}, Adj R (x ++ [a] ++ b :: y) ↔ Adj R (x ++ [a]) ∧ R a b ∧ Adj R (b :: y)
  | [], y => ⟨fun h => ⟨True.intro, h.1, h.2⟩, fun h => ⟨h.2.1, h.2.2⟩⟩
  | [c], y => ⟨fun h => ⟨⟨h.1, True.intro⟩, h.2.1, h.2.2⟩, fun h => ⟨h.1.1, h.2.1, h.2.2⟩⟩
  | c :: d :: x, y => by
    have ih := adj_app (a := a) (b := b) (x := d :: x) (y := y)
    constructor
    · intro h
      have h2 := ih.mp h.2
      exact ⟨⟨h.1, h2.1⟩, h2.2⟩
    · intro h
      exact ⟨h.1.1, ih.mpr ⟨h.1.2, h.2⟩⟩
theorem Adj.left : ∀ {x y : List α}, Adj R (x ++ y) → Adj R x
  | [], _, _ => True.intro
  | [_], _, _ => True.intro
  | _ :: b :: x, y, h => ⟨h.1, Adj.left (x := b :: x) h.2⟩
theorem Adj.right : ∀ {x y : List α}, Adj R (x ++ y) → Adj R y
  | [], _, h => h
  | a :: x, y, h => Adj.right (x := x) (by have := h.tail; exact this)
theorem Adj.dropLast {l : List α} (h : Adj R l) : Adj R l.dropLast := by
  rcases last_cases l with rfl | ⟨q, x, rfl⟩
  · exact True.intro
  · rw [List.dropLast_concat]
    exact h.left
theorem Adj.map {f : α → β} {S : β → β → Prop} : ∀ {l : List α}, Adj (fun a b => S (f a) (f b)) l → Adj S (l.map f)
  | [], _ => True.intro
  | [_], _ => True.intro
  | a :: b :: r, h => ⟨h.1, Adj.map (l := b :: r) h.2⟩
theorem Adj.imp : ∀ {l : List α}, Adj R l → (∀ a b, a ∈ l → b ∈ l → R a b → R' a b) → Adj R' l
  | [], _, _ => True.intro
  | [_], _, _ => True.intro
  | a :: b :: r, h, hi => ⟨hi a b (by simp) (by simp) h.1, Adj.imp (l := b :: r) h.2 fun x y hx hy => hi x y (by simp [hx]) (by simp [hy])⟩
theorem Adj.and {l : List α} (h : Adj R l) (h' : Adj R' l) : Adj (fun a b => R a b ∧ R' a b) l := by
  induction l with
  | nil => exact True.intro
  | cons a l ih =>
    cases l with
    | nil => exact True.intro
    | cons b r => exact ⟨⟨h.1, h'.1⟩, ih h.2 h'.2⟩
end
theorem adj_parts {R : Nat → Nat → Prop} : ∀ {bs : List (List Nat)}, (∀ s ∈ bs, s ≠ []) → Adj R bs.flatten → Adj (fun s t => R (s.getLastD 0) (t.headD 0)) bs
  | [], _, _ => True.intro
  | [_], _, _ => True.intro
  | s :: t :: r, hne, h => by
    have hs := hne s (by simp)
    have ht := hne t (by simp)
    rcases last_cases s with rfl | ⟨s', x, rfl⟩
    · exact absurd rfl hs
    · cases t with
      | nil => exact absurd rfl ht
      | cons y t' =>
        have e : ((s' ++ [x]) :: (y :: t') :: r).flatten = s' ++ [x] ++ y :: (t' ++ r.flatten) := by simp
        rw [e] at h
        have h2 := adj_app.mp h
        refine ⟨?_, adj_parts (bs := (y :: t') :: r) (fun u hu => hne u (by simp at hu ⊢; exact .inr hu)) ?_⟩
        · have e1 : (s' ++ [x]).getLastD 0 = x := by simp [List.getLastD_eq_getLast?]
          show R ((s' ++ [x]).getLastD 0) y
          rw [e1]
          exact h2.2.1
        · have e2 : ((y :: t') :: r).flatten = y :: (t' ++ r.flatten) := by simp
          rw [e2]
          exact h2.2.2
theorem fold_bound {p : Nat → Nat → Bool} : ∀ (z : List Nat) {bs : List (List Nat)}, (∀ s ∈ bs, s ≠ []) → Adj (fun s t => p (s.getLastD 0) (t.headD 0) = false) bs → Adj (fun s t => p (s.getLastD 0) (t.headD 0) = false) (z.foldl (stp p) bs)
  | [], _, _, h => h
  | x :: z, bs, hne, h => by
    refine fold_bound z (stp_ne hne x) ?_
    rcases last_cases bs with rfl | ⟨q, t, rfl⟩
    · exact True.intro
    · rcases last_cases t with rfl | ⟨t', y, rfl⟩
      · exact absurd rfl (hne [] (by simp))
      · rw [stp_snoc]
        split
        · next hp =>
          rcases last_cases q with rfl | ⟨q', u, rfl⟩
          · exact True.intro
          · have h2 : Adj (fun s t => p (s.getLastD 0) (t.headD 0) = false) (q' ++ [u] ++ [t' ++ [y]]) := h
            have h3 := adj_app.mp h2
            show Adj _ (q' ++ [u] ++ [t' ++ [y] ++ [x]])
            refine adj_app.mpr ⟨h3.1, ?_, True.intro⟩
            have e : (t' ++ [y] ++ [x]).headD 0 = (t' ++ [y]).headD 0 := by cases t' <;> rfl
            rw [e]
            exact h3.2.1
        · next hp =>
          refine adj_app.mpr ⟨h, ?_, True.intro⟩
          have e : (t' ++ [y]).getLastD 0 = y := by simp [List.getLastD_eq_getLast?]
          rw [e]
          simpa using hp
theorem seg_bound {p : Nat → Nat → Bool} (r : List Nat) : Adj (fun s t => p (s.getLastD 0) (t.headD 0) = false) (seg p r) := fold_bound r (fun s hs => by cases hs) True.intro
theorem seg_len {p : Nat → Nat → Bool} (r : List Nat) : (seg p r).length ≤ r.length := by
  have h := seg_flat (p := p) r
  have hn := seg_ne (p := p) r
  have : ∀ (bs : List (List Nat)), (∀ s ∈ bs, s ≠ []) → bs.length ≤ bs.flatten.length := by
    intro bs
    induction bs with
    | nil => intro _; exact Nat.le_refl _
    | cons s bs ih =>
      intro hb
      have h1 := ih fun t ht => hb t (by simp [ht])
      have h2 : 0 < s.length := List.length_pos_iff.mpr (hb s (by simp))
      rw [List.flatten_cons, List.length_append, List.length_cons]
      omega
  have h2 := this _ hn
  rw [h] at h2
  exact h2
end B47
set_option linter.all false
namespace B47
open Sz47 M47
abbrev Pr := Nat × Nat
abbrev Blk := List Pr
def rl (L : Nat) (u v : Nat) : Bool := if L % 3 = 0 then decide (u = v) else if L % 3 = 1 then decide (u < v) else decide (v < u)
def blkOf (L : Nat) (s : List Nat) : Blk := if L % 3 = 0 then [(s.headD 0, s.length)] else s.map fun n => (n, 1)
def nm (tb : List Blk) (b : Blk) : Nat := match b with
  | [(u, 1)] => u
  | _ => 256 + tb.idxOf b
theorem blk_one (L u : Nat) : blkOf L [u] = [(u, 1)] := by
  unfold blkOf
  split <;> rfl
theorem nm_one (tb : List Blk) (u : Nat) : nm tb [(u, 1)] = u := rfl
theorem nm_more {tb : List Blk} {b : Blk} (h : ∀ u, b ≠ [(u, 1)]) : nm tb b = 256 + tb.idxOf b := by
  unfold nm
  split
  · next u => exact absurd rfl (h u)
  · rfl
theorem blk_more {L : Nat} {s : List Nat} (h : 2 ≤ s.length) : ∀ u, blkOf L s ≠ [(u, 1)] := by
  intro u e
  unfold blkOf at e
  split at e
  · have := List.cons.inj e
    have h2 := congrArg Prod.snd this.1
    simp at h2
    omega
  · have := congrArg List.length e
    simp at this
    omega
def lvO (l : List Nat) (x : Nat) : Nat := if x < 256 then 0 else l.getD (x - 256) 0
def mx (l : List Nat) (b : Blk) : Nat := b.foldr (fun pr m => max (lvO l pr.1) m) 0
def ty (b : Blk) : Nat := match b with
  | (u, _) :: (v, _) :: _ => if u < v then 1 else 2
  | _ => 0
def nxt (m t : Nat) : Nat := m + (t + 3 - m % 3) % 3
def gV (l : List Nat) (b : Blk) : Nat := 1 + nxt (mx l b) (ty b)
def levs (tb : List Blk) : List Nat := tb.foldl (fun l b => l ++ [gV l b]) []
def lev (tb : List Blk) (x : Nat) : Nat := lvO (levs tb) x
structure TabOk (tb : List Blk) : Prop where
  nd : tb.Nodup
  low : ∀ (i : Nat) (b : Blk), tb[i]? = some b → ∀ pr ∈ b, pr.1 < 256 + i
theorem levs_take (tb : List Blk) (i : Nat) : levs (tb.take i) = (levs tb).take i := grow_take gV tb i
theorem levs_get {tb : List Blk} {i : Nat} {b : Blk} (h : tb[i]? = some b) : (levs tb)[i]? = some (gV (levs (tb.take i)) b) := grow_get gV h
theorem lvO_take (tb : List Blk) {i x : Nat} (h : x < 256 + i) : lvO (levs (tb.take i)) x = lvO (levs tb) x := by
  unfold lvO
  rw [levs_take]
  split
  · rfl
  · rw [getD_take _ _ _ _ (by omega)]
theorem mx_congr {l l' : List Nat} {b : Blk} (h : ∀ pr ∈ b, lvO l pr.1 = lvO l' pr.1) : mx l b = mx l' b := by
  unfold mx
  induction b with
  | nil => rfl
  | cons a b ih =>
    rw [List.foldr_cons, List.foldr_cons, h a (by simp), ih fun pr hp => h pr (by simp [hp])]
theorem mx_le {l : List Nat} {b : Blk} {m : Nat} (h : ∀ pr ∈ b, lvO l pr.1 ≤ m) : mx l b ≤ m := by
  unfold mx
  induction b with
  | nil => exact Nat.zero_le _
  | cons a b ih =>
    rw [List.foldr_cons]
    have h1 := h a (by simp)
    have h2 := ih fun pr hp => h pr (by simp [hp])
    omega
theorem le_mx {l : List Nat} {b : Blk} {pr : Pr} (h : pr ∈ b) : lvO l pr.1 ≤ mx l b := by
  unfold mx
  induction b with
  | nil => cases h
  | cons a b ih =>
    rw [List.foldr_cons]
    rcases List.mem_cons.mp h with rfl | h
    · omega
    · have := ih h
      omega
theorem lev_at {tb : List Blk} (hT : TabOk tb) {i : Nat} {b : Blk} (h : tb[i]? = some b) : lev tb (256 + i) = 1 + nxt (mx (levs tb) b) (ty b) := by
  unfold lev
  have e : lvO (levs tb) (256 + i) = (levs tb).getD i 0 := by
    unfold lvO
    rw [if_neg (by omega), Nat.add_sub_cancel_left]
  rw [e, List.getD_eq_getElem?_getD, levs_get h]
  show gV (levs (tb.take i)) b = _
  unfold gV
  rw [mx_congr fun pr hp => lvO_take tb (hT.low i b h pr hp)]
theorem idx_at {tb : List Blk} {b : Blk} (h : b ∈ tb) : tb[tb.idxOf b]? = some b := by
  have h1 := List.idxOf_lt_length_of_mem h
  rw [List.getElem?_eq_getElem h1, List.getElem_idxOf h1]
theorem nm_inj {tb : List Blk} {b c : Blk} (hb : b ∈ tb) (hc : c ∈ tb) (h1 : ∀ u, b ≠ [(u, 1)]) (h2 : ∀ u, c ≠ [(u, 1)]) (h : nm tb b = nm tb c) : b = c := by
  rw [nm_more h1, nm_more h2] at h
  have e : tb.idxOf b = tb.idxOf c := by omega
  have e1 := idx_at hb
  rw [e, idx_at hc] at e1
  exact (Option.some.inj e1).symm
def inner {α : Type} (l : List α) : List α := l.tail.dropLast
theorem inner_mem {α : Type} {l : List α} {x : α} (h : x ∈ inner l) : x ∈ l := List.mem_of_mem_tail ((List.dropLast_sublist _).subset h)
def rw_ (tb : List Blk) (t : List Nat) : Nat → List Nat
  | 0 => t
  | L + 1 => (inner (seg (rl L) (rw_ tb t L))).map fun s => nm tb (blkOf L s)
def Known (tb : List Blk) (t : List Nat) (N : Nat) : Prop := ∀ (L : Nat), L < N → ∀ (s : List Nat), s ∈ inner (seg (rl L) (rw_ tb t L)) → s.length = 1 ∨ blkOf L s ∈ tb
def Late (tb : List Blk) (L : Nat) (u v : Nat) : Prop := ∀ l, l < L → lev tb u ≤ l → lev tb v ≤ l → rl l u v = false
theorem rl_mod {L : Nat} (h : 3 ≤ L) (u v : Nat) : rl (L - 3) u v = rl L u v := by
  have e : (L - 3) % 3 = L % 3 := by omega
  unfold rl
  rw [e]
theorem part_adj {R : Nat → Nat → Prop} {p : Nat → Nat → Bool} {r s : List Nat} (h : Adj R r) (hs : s ∈ seg p r) : Adj R s := by
  obtain ⟨q, q', e⟩ := List.append_of_mem hs
  have hf := seg_flat (p := p) r
  rw [e] at hf
  have e2 : r = q.flatten ++ (s ++ q'.flatten) := by rw [← hf]; simp
  rw [e2] at h
  exact h.right.left
theorem ty_of {L : Nat} {s : List Nat} (h2 : 2 ≤ s.length) (hc : Chain (rl L) s) : ty (blkOf L s) = L % 3 := by
  match s, h2, hc with
  | u :: v :: r, _, hc =>
    have h := hc.1
    unfold blkOf
    unfold rl at h
    by_cases c : L % 3 = 0
    · rw [if_pos c, c]
      rfl
    · rw [if_neg c]
      rw [if_neg c] at h
      show (if u < v then 1 else 2) = L % 3
      by_cases c1 : L % 3 = 1
      · rw [if_pos c1] at h
        rw [if_pos (of_decide_eq_true h), c1]
      · rw [if_neg c1] at h
        have := of_decide_eq_true h
        rw [if_neg (by omega)]
        omega
theorem blk_elems {L : Nat} {s : List Nat} (hc : Chain (rl L) s) (hs : s ≠ []) : (∀ pr ∈ blkOf L s, pr.1 ∈ s) ∧ (∀ u ∈ s, ∃ pr ∈ blkOf L s, pr.1 = u) := by
  unfold blkOf
  split
  · next c =>
    cases s with
    | nil => exact absurd rfl hs
    | cons a s =>
      refine ⟨fun pr hp => ?_, fun u hu => ?_⟩
      · rw [List.mem_singleton.mp hp]
        simp
      · refine ⟨_, List.mem_singleton.mpr rfl, ?_⟩
        have : ∀ (s : List Nat) (a : Nat), Chain (rl L) (a :: s) → ∀ u ∈ a :: s, u = a := by
          intro s
          induction s with
          | nil =>
            intro a _ u hu
            simpa using hu
          | cons b s ih =>
            intro a hc u hu
            have h1 := hc.1
            unfold rl at h1
            rw [if_pos c] at h1
            have h2 := of_decide_eq_true h1
            rcases List.mem_cons.mp hu with h | h
            · exact h
            · rw [ih b hc.2 u h, h2]
        exact (this s a hc u hu).symm
  · refine ⟨fun pr hp => ?_, fun u hu => ⟨(u, 1), List.mem_map.mpr ⟨u, hu, rfl⟩, rfl⟩⟩
    obtain ⟨n, hn, rfl⟩ := List.mem_map.mp hp
    exact hn
theorem comp_lev {tb : List Blk} (hT : TabOk tb) {L : Nat} {r s : List Nat} (hlv : ∀ u ∈ r, lev tb u ≤ L) (ha : Adj (Late tb L) r) (hs : s ∈ seg (rl L) r) (h2 : 2 ≤ s.length) (hk : blkOf L s ∈ tb) : lev tb (nm tb (blkOf L s)) = L + 1 := by
  have hc := seg_chain r s hs
  have hne := seg_ne r s hs
  have hsr : ∀ u ∈ s, u ∈ r := fun u hu => by
    rw [← seg_flat (p := rl L) r]
    exact List.mem_flatten.mpr ⟨s, hs, hu⟩
  obtain ⟨e1, e2⟩ := blk_elems hc hne
  rw [nm_more (blk_more h2), lev_at hT (idx_at hk), ty_of h2 hc]
  have hle : mx (levs tb) (blkOf L s) ≤ L := mx_le fun pr hp => hlv _ (hsr _ (e1 pr hp))
  have hge : L ≤ mx (levs tb) (blkOf L s) + 2 := by
    by_cases h3 : 3 ≤ L
    · have hsa := part_adj ha hs
      match s, h2, hc, hsa, e2 with
      | u :: v :: r', _, hc, hsa, e2 =>
        have hl := hsa.1 (L - 3) (by omega)
        obtain ⟨pu, hpu, eu⟩ := e2 u (by simp)
        obtain ⟨pv, hpv, ev⟩ := e2 v (by simp)
        have m1 := le_mx (l := levs tb) hpu
        have m2 := le_mx (l := levs tb) hpv
        rw [eu] at m1
        rw [ev] at m2
        by_cases c1 : lev tb u ≤ L - 3
        · by_cases c2 : lev tb v ≤ L - 3
          · have h5 := hl c1 c2
            rw [rl_mod h3, hc.1] at h5
            cases h5
          · have : lev tb v = lvO (levs tb) v := rfl
            omega
        · have : lev tb u = lvO (levs tb) u := rfl
          omega
    · omega
  unfold nxt
  omega
theorem adj_inner {α : Type} {R : α → α → Prop} {l : List α} (h : Adj R l) : Adj R (inner l) := h.tail.dropLast
theorem one_of {s : List Nat} (h : s.length = 1) : ∃ u, s = [u] := by
  match s, h with
  | [u], _ => exact ⟨u, rfl⟩
theorem row_inv {tb : List Blk} {t : List Nat} {N : Nat} (hT : TabOk tb) (ht : ∀ c ∈ t, c < 256) (hK : Known tb t N) : ∀ L, L ≤ N → (∀ u ∈ rw_ tb t L, lev tb u ≤ L) ∧ Adj (Late tb L) (rw_ tb t L)
  | 0, _ => by
    refine ⟨fun u hu => ?_, ?_⟩
    · have : lev tb u = 0 := by
        unfold lev lvO
        rw [if_pos (ht u hu)]
      omega
    · have : ∀ l : List Nat, Adj (Late tb 0) l := by
        intro l
        induction l with
        | nil => exact True.intro
        | cons a l ih =>
          cases l with
          | nil => exact True.intro
          | cons b r => exact ⟨fun l hl => absurd hl (Nat.not_lt_zero _), ih⟩
      exact this t
  | L + 1, hLN => by
    obtain ⟨h1, h2⟩ := row_inv hT ht hK L (by omega)
    have hin : ∀ s ∈ inner (seg (rl L) (rw_ tb t L)), s ∈ seg (rl L) (rw_ tb t L) := fun s hs => inner_mem hs
    have hcases : ∀ s ∈ inner (seg (rl L) (rw_ tb t L)), (∃ u, s = [u] ∧ u ∈ rw_ tb t L ∧ nm tb (blkOf L s) = u) ∨ (2 ≤ s.length ∧ blkOf L s ∈ tb ∧ lev tb (nm tb (blkOf L s)) = L + 1) := by
      intro s hs
      have hsr : ∀ u ∈ s, u ∈ rw_ tb t L := fun u hu => by
        rw [← seg_flat (p := rl L) (rw_ tb t L)]
        exact List.mem_flatten.mpr ⟨s, hin s hs, hu⟩
      by_cases c : s.length = 1
      · obtain ⟨u, rfl⟩ := one_of c
        exact .inl ⟨u, rfl, hsr u (by simp), by rw [blk_one, nm_one]⟩
      · have hk := (hK L (by omega) s hs).resolve_left c
        have hne := seg_ne _ s (hin s hs)
        have h3 : 2 ≤ s.length := by
          have := List.length_pos_iff.mpr hne
          omega
        exact .inr ⟨h3, hk, comp_lev hT h1 h2 (hin s hs) h3 hk⟩
    constructor
    · intro u hu
      obtain ⟨s, hs, rfl⟩ := List.mem_map.mp hu
      rcases hcases s hs with ⟨u, _, hu2, e⟩ | ⟨_, _, e⟩
      · rw [e]
        have := h1 u hu2
        omega
      · omega
    · refine Adj.map ?_
      have a1 := adj_parts (seg_ne (p := rl L) (rw_ tb t L)) (by rw [seg_flat]; exact h2)
      have a2 := seg_bound (p := rl L) (rw_ tb t L)
      refine (adj_inner (a1.and a2)).imp fun s s' hs hs' hR => ?_
      intro l hl hu hv
      rcases hcases s hs with ⟨u, rfl, _, e⟩ | ⟨_, _, e⟩
      · rcases hcases s' hs' with ⟨v, rfl, _, e'⟩ | ⟨_, _, e'⟩
        · rw [e] at hu ⊢
          rw [e'] at hv ⊢
          by_cases c : l < L
          · exact hR.1 l c hu hv
          · have : l = L := by omega
            subst this
            exact hR.2
        · omega
      · omega
theorem inner_cases {tb : List Blk} {t : List Nat} {N : Nat} (hT : TabOk tb) (ht : ∀ c ∈ t, c < 256) (hK : Known tb t N) (L : Nat) (hLN : L < N) : ∀ s ∈ inner (seg (rl L) (rw_ tb t L)), (∃ u, s = [u] ∧ u ∈ rw_ tb t L ∧ nm tb (blkOf L s) = u) ∨ (2 ≤ s.length ∧ blkOf L s ∈ tb ∧ lev tb (nm tb (blkOf L s)) = L + 1) := by
  obtain ⟨h1, h2⟩ := row_inv hT ht hK L (by omega)
  intro s hs
  have hm := inner_mem hs
  have hsr : ∀ u ∈ s, u ∈ rw_ tb t L := fun u hu => by
    rw [← seg_flat (p := rl L) (rw_ tb t L)]
    exact List.mem_flatten.mpr ⟨s, hm, hu⟩
  by_cases c : s.length = 1
  · obtain ⟨u, rfl⟩ := one_of c
    exact .inl ⟨u, rfl, hsr u (by simp), by rw [blk_one, nm_one]⟩
  · have hk := (hK L hLN s hs).resolve_left c
    have h3 : 2 ≤ s.length := by
      have := List.length_pos_iff.mpr (seg_ne _ s hm)
      omega
    exact .inr ⟨h3, hk, comp_lev hT h1 h2 hm h3 hk⟩
theorem chain_same {L : Nat} (c : L % 3 = 0) : ∀ (s : List Nat) (a : Nat), Chain (rl L) (a :: s) → ∀ u ∈ a :: s, u = a := by
  intro s
  induction s with
  | nil =>
    intro a _ u hu
    simpa using hu
  | cons b s ih =>
    intro a hc u hu
    have h1 := hc.1
    unfold rl at h1
    rw [if_pos c] at h1
    have h2 := of_decide_eq_true h1
    rcases List.mem_cons.mp hu with h | h
    · exact h
    · rw [ih b hc.2 u h, h2]
theorem row_diff {tb : List Blk} {t : List Nat} {N : Nat} (hT : TabOk tb) (ht : ∀ c ∈ t, c < 256) (hK : Known tb t N) {L : Nat} (hL : L % 3 = 0) (hLN : L < N) : Adj (fun u v => u ≠ v) (rw_ tb t (L + 1)) := by
  obtain ⟨h1, h2⟩ := row_inv hT ht hK L (by omega)
  refine Adj.map ?_
  refine (adj_inner (seg_bound (p := rl L) (rw_ tb t L))).imp fun s s' hs hs' hR => ?_
  have hne := seg_ne _ s (inner_mem hs)
  have hne' := seg_ne _ s' (inner_mem hs')
  have hR2 : s.getLastD 0 ≠ s'.headD 0 := by
    have h3 := hR
    unfold rl at h3
    rw [if_pos hL] at h3
    exact of_decide_eq_false h3
  rcases inner_cases hT ht hK L hLN s hs with ⟨u, rfl, hu, e⟩ | ⟨c2, hk, e⟩
  · rcases inner_cases hT ht hK L hLN s' hs' with ⟨v, rfl, hv, e'⟩ | ⟨c2', hk', e'⟩
    · rw [e, e']
      exact hR2
    · intro z
      rw [e] at z
      have := h1 u hu
      rw [← z] at e'
      omega
  · rcases inner_cases hT ht hK L hLN s' hs' with ⟨v, rfl, hv, e'⟩ | ⟨c2', hk', e'⟩
    · intro z
      rw [e'] at z
      have := h1 v hv
      rw [z] at e
      omega
    · intro z
      have hb := nm_inj hk hk' (blk_more c2) (blk_more c2') z
      unfold blkOf at hb
      rw [if_pos hL, if_pos hL] at hb
      have hh : s.headD 0 = s'.headD 0 := congrArg Prod.fst (List.cons.inj hb).1
      cases s with
      | nil => exact hne rfl
      | cons a s =>
        have hc := seg_chain _ _ (inner_mem hs)
        have hl : (a :: s).getLastD 0 = a := by
          refine chain_same hL s a hc _ ?_
          rw [List.getLastD_eq_getLast?, List.getLast?_eq_some_getLast (by simp)]
          exact List.getLast_mem _
        rw [hl] at hR2
        exact hR2 hh
def nb (p : Nat → Nat → Bool) : List Nat → Nat
  | a :: b :: r => (if p a b = true then 0 else 1) + nb p (b :: r)
  | _ => 0
theorem nb_snoc {p : Nat → Nat → Bool} : ∀ (s : List Nat) (y x : Nat), nb p (s ++ [y] ++ [x]) = nb p (s ++ [y]) + if p y x = true then 0 else 1
  | [], y, x => by simp [nb]
  | [a], y, x => by simp [nb]
  | a :: b :: r, y, x => by
    have ih := nb_snoc (p := p) (b :: r) y x
    show (if p a b = true then 0 else 1) + nb p (b :: r ++ [y] ++ [x]) = (if p a b = true then 0 else 1) + nb p (b :: r ++ [y]) + _
    rw [ih]
    omega
theorem seg_nb {p : Nat → Nat → Bool} (r : List Nat) (h : r ≠ []) : (seg p r).length = 1 + nb p r := by
  suffices H : ∀ (n : Nat) (r : List Nat), r.length = n → r ≠ [] → (seg p r).length = 1 + nb p r from H _ r rfl h
  intro n
  induction n with
  | zero =>
    intro r hr hne
    exact absurd (List.length_eq_zero_iff.mp hr) hne
  | succ n ih =>
    intro r hr hne
    rcases last_cases r with rfl | ⟨q, x, rfl⟩
    · exact absurd rfl hne
    · rcases last_cases q with rfl | ⟨q', y, rfl⟩
      · rfl
      · have ih2 := ih (q' ++ [y]) (by simpa using hr) (by simp)
        rw [seg_snoc, nb_snoc]
        rcases last_cases (seg p (q' ++ [y])) with hz | ⟨Q, t, hz⟩
        · rw [hz] at ih2
          simp at ih2
          omega
        · have htn := seg_ne (p := p) (q' ++ [y]) t (by rw [hz]; simp)
          rcases last_cases t with rfl | ⟨t', y', rfl⟩
          · exact absurd rfl htn
          · have hl := seg_flat (p := p) (q' ++ [y])
            rw [hz] at hl
            have ey : y' = y := by
              have h1 := congrArg List.getLast? hl
              rw [List.flatten_append] at h1
              simp at h1
              exact h1
            subst ey
            rw [hz] at ih2 ⊢
            rw [stp_snoc]
            split
            · simp at ih2 ⊢
              omega
            · simp at ih2 ⊢
              omega
def kc (bs : List (List Nat)) : Nat := (bs.filter fun s => decide (2 ≤ s.length)).length
theorem kc_cons (s : List Nat) (bs : List (List Nat)) : kc (s :: bs) = (if 2 ≤ s.length then 1 else 0) + kc bs := by
  unfold kc
  rw [List.filter_cons]
  by_cases h : 2 ≤ s.length
  · rw [if_pos (by simpa using h), if_pos h, List.length_cons]
    omega
  · rw [if_neg (by simpa using h), if_neg h]
    omega
theorem kc_len : ∀ (bs : List (List Nat)), (∀ s ∈ bs, s ≠ []) → bs.length + kc bs ≤ bs.flatten.length
  | [], _ => Nat.le_refl _
  | s :: bs, h => by
    have ih := kc_len bs fun t ht => h t (by simp [ht])
    have hp := List.length_pos_iff.mpr (h s (by simp))
    rw [kc_cons, List.length_cons, List.flatten_cons, List.length_append]
    split <;> omega
theorem nb_kc {f : List Nat → Nat} {p : Nat → Nat → Bool} : ∀ (bs : List (List Nat)), Adj (fun s s' => s.length = 1 → s'.length = 1 → p (f s) (f s') = true) bs → (∀ s ∈ bs, s ≠ []) → nb p (bs.map f) ≤ 2 * kc bs
  | [], _, _ => Nat.zero_le _
  | [_], _, _ => Nat.zero_le _
  | s :: s' :: r, h, hne => by
    suffices H : ∀ (s : List Nat) (r : List (List Nat)), Adj (fun s s' => s.length = 1 → s'.length = 1 → p (f s) (f s') = true) (s :: r) → (∀ t ∈ s :: r, t ≠ []) → nb p ((s :: r).map f) ≤ (if 2 ≤ s.length then 1 else 0) + 2 * kc r by
      have := H s (s' :: r) h hne
      rw [kc_cons s]
      split at this
      · next c => rw [if_pos c]; omega
      · next c => rw [if_neg c]; omega
    intro s r
    induction r generalizing s with
    | nil => intro _ _; exact Nat.zero_le _
    | cons s' r ih =>
      intro h hne
      have ih2 := ih s' h.2 fun t ht => hne t (by simp at ht ⊢; exact .inr ht)
      have hp := List.length_pos_iff.mpr (hne s (by simp))
      have hp' := List.length_pos_iff.mpr (hne s' (by simp))
      show (if p (f s) (f s') = true then 0 else 1) + nb p ((s' :: r).map f) ≤ _
      rw [kc_cons s']
      by_cases c : 2 ≤ s.length
      · rw [if_pos c]
        by_cases c' : 2 ≤ s'.length
        · rw [if_pos c'] at ih2 ⊢
          split <;> omega
        · rw [if_neg c'] at ih2 ⊢
          split <;> omega
      · rw [if_neg c]
        by_cases c' : 2 ≤ s'.length
        · rw [if_pos c'] at ih2 ⊢
          split <;> omega
        · rw [if_neg c'] at ih2 ⊢
          rw [if_pos (h.1 (by omega) (by omega))]
          omega
theorem row_falls {tb : List Blk} {t : List Nat} {N : Nat} (hT : TabOk tb) (ht : ∀ c ∈ t, c < 256) (hK : Known tb t N) {L : Nat} (hL : L % 3 = 1) (hLN : L ≤ N) : Adj (fun s s' => s.length = 1 → s'.length = 1 → rl (L + 1) (nm tb (blkOf L s)) (nm tb (blkOf L s')) = true) (seg (rl L) (rw_ tb t L)) := by
  have hd : Adj (fun u v => u ≠ v) (rw_ tb t L) := by
    have e : L = L - 1 + 1 := by omega
    rw [e]
    exact row_diff hT ht hK (by omega) (by omega)
  have a1 := adj_parts (seg_ne (p := rl L) (rw_ tb t L)) (by rw [seg_flat]; exact hd)
  have a2 := seg_bound (p := rl L) (rw_ tb t L)
  refine (a1.and a2).imp fun s s' hs hs' hR h1 h1' => ?_
  obtain ⟨u, rfl⟩ := one_of h1
  obtain ⟨v, rfl⟩ := one_of h1'
  rw [blk_one, blk_one, nm_one, nm_one]
  have hR1 : u ≠ v := hR.1
  have hR2 : rl L u v = false := hR.2
  unfold rl at hR2 ⊢
  rw [if_neg (by omega), if_pos hL] at hR2
  rw [if_neg (by omega), if_neg (by omega)]
  have := of_decide_eq_false hR2
  exact decide_eq_true (by omega)
theorem inner_len {α : Type} (l : List α) : (inner l).length = l.length - 2 := by
  unfold inner
  rw [List.length_dropLast, List.length_tail]
  omega
theorem inner_flat (bs : List (List Nat)) : (inner bs).flatten.length ≤ bs.flatten.length := by
  have h1 : ∀ l : List (List Nat), l.tail.flatten.length ≤ l.flatten.length := by
    intro l
    cases l with
    | nil => exact Nat.le_refl _
    | cons a l => simp
  have h2 : ∀ l : List (List Nat), l.dropLast.flatten.length ≤ l.flatten.length := by
    intro l
    rcases last_cases l with rfl | ⟨q, x, rfl⟩
    · exact Nat.le_refl _
    · rw [List.dropLast_concat]
      simp
  exact Nat.le_trans (h2 _) (h1 _)
theorem row_third {tb : List Blk} {t : List Nat} {N : Nat} (hT : TabOk tb) (ht : ∀ c ∈ t, c < 256) (hK : Known tb t N) {L : Nat} (hL : L % 3 = 0) (hLN : L + 1 ≤ N) : 3 * (rw_ tb t (L + 3)).length ≤ 2 * (rw_ tb t L).length := by
  have n1 : (rw_ tb t (L + 1)).length ≤ (rw_ tb t L).length := by
    show ((inner (seg (rl L) (rw_ tb t L))).map _).length ≤ _
    rw [List.length_map, inner_len]
    have := seg_len (p := rl L) (rw_ tb t L)
    omega
  have e2 : rw_ tb t (L + 1 + 1) = (inner (seg (rl (L + 1)) (rw_ tb t (L + 1)))).map fun s => nm tb (blkOf (L + 1) s) := rfl
  have n3 : (rw_ tb t (L + 3)).length = (seg (rl (L + 2)) (rw_ tb t (L + 2))).length - 2 := by
    show ((inner (seg (rl (L + 2)) (rw_ tb t (L + 2)))).map _).length = _
    rw [List.length_map, inner_len]
  have hne : ∀ s ∈ inner (seg (rl (L + 1)) (rw_ tb t (L + 1))), s ≠ [] := fun s hs => seg_ne _ s (inner_mem hs)
  have hfall := adj_inner (row_falls hT ht hK (L := L + 1) (by omega) hLN)
  have hnb := nb_kc (f := fun s => nm tb (blkOf (L + 1) s)) (p := rl (L + 2)) _ hfall hne
  have hkl := kc_len _ hne
  have hfl := inner_flat (seg (rl (L + 1)) (rw_ tb t (L + 1)))
  rw [seg_flat] at hfl
  have hlen2 : (rw_ tb t (L + 2)).length = (inner (seg (rl (L + 1)) (rw_ tb t (L + 1)))).length := by
    show (rw_ tb t (L + 1 + 1)).length = _
    rw [e2, List.length_map]
  by_cases hz : rw_ tb t (L + 2) = []
  · rw [n3, hz]
    simp [seg_nil]
  · have hs := seg_nb (p := rl (L + 2)) (rw_ tb t (L + 2)) hz
    have hs2 := seg_len (p := rl (L + 2)) (rw_ tb t (L + 2))
    have hnb2 : nb (rl (L + 2)) (rw_ tb t (L + 2)) ≤ 2 * kc (inner (seg (rl (L + 1)) (rw_ tb t (L + 1)))) := hnb
    omega
theorem row_pow {tb : List Blk} {t : List Nat} {N : Nat} (hT : TabOk tb) (ht : ∀ c ∈ t, c < 256) (hK : Known tb t N) : ∀ j : Nat, 3 * j ≤ N + 2 → 3 ^ j * (rw_ tb t (3 * j)).length ≤ 2 ^ j * t.length
  | 0, _ => by simp [rw_]
  | j + 1, hj => by
    have ih := row_pow hT ht hK j (by omega)
    have h := row_third hT ht hK (L := 3 * j) (by omega) (by omega)
    have e : 3 * (j + 1) = 3 * j + 3 := by omega
    rw [e]
    calc 3 ^ (j + 1) * (rw_ tb t (3 * j + 3)).length = 3 ^ j * (3 * (rw_ tb t (3 * j + 3)).length) := by rw [Nat.pow_succ, Nat.mul_assoc]
      _ ≤ 3 ^ j * (2 * (rw_ tb t (3 * j)).length) := Nat.mul_le_mul_left _ h
      _ = 2 * (3 ^ j * (rw_ tb t (3 * j)).length) := by rw [Nat.mul_left_comm]
      _ ≤ 2 * (2 ^ j * t.length) := Nat.mul_le_mul_left _ ih
      _ = 2 ^ (j + 1) * t.length := by rw [Nat.pow_succ, ← Nat.mul_assoc, Nat.mul_comm 2 (2 ^ j)]
theorem row_end {tb : List Blk} {t : List Nat} (hT : TabOk tb) (ht : ∀ c ∈ t, c < 256) (hK : Known tb t 307) (hlen : t.length < 2 ^ 60) : rw_ tb t 309 = [] := by
  have h := row_pow hT ht hK 103 (by omega)
  have e : 3 * 103 = 309 := rfl
  rw [e] at h
  by_cases c : rw_ tb t 309 = []
  · exact c
  · have h1 : 0 < (rw_ tb t 309).length := List.length_pos_iff.mpr c
    have h2 : 3 ^ 103 * 1 ≤ 3 ^ 103 * (rw_ tb t 309).length := Nat.mul_le_mul_left _ h1
    have h3 : 2 ^ 103 * t.length ≤ 2 ^ 103 * 2 ^ 60 := Nat.mul_le_mul_left _ (Nat.le_of_lt hlen)
    have h4 : (2 ^ 103 * 2 ^ 60 : Nat) < 3 ^ 103 * 1 := by decide
    omega
end B47
set_option linter.all false
namespace B47
open Sz47 M47
theorem seg_app_le {p : Nat → Nat → Bool} (x y : List Nat) : (seg p (x ++ y)).length ≤ (seg p x).length + (seg p y).length := by
  have nb_app : ∀ (x y : List Nat), nb p (x ++ y) ≤ nb p x + nb p y + 1 := by
    intro x
    induction x with
    | nil => intro y; simp; omega
    | cons a x ih =>
      intro y
      cases x with
      | nil =>
        cases y with
        | nil => simp [nb]
        | cons b y =>
          show (if p a b = true then 0 else 1) + nb p (b :: y) ≤ nb p [a] + nb p (b :: y) + 1
          split <;> omega
      | cons b x =>
        have := ih y
        show (if p a b = true then 0 else 1) + nb p (b :: x ++ y) ≤ (if p a b = true then 0 else 1) + nb p (b :: x) + nb p y + 1
        omega
  by_cases hx : x = []
  · subst hx; simp [seg_nil]
  · by_cases hy : y = []
    · subst hy; simp
    · rw [seg_nb _ hx, seg_nb _ hy, seg_nb (x ++ y) (by simp [hx])]
      have := nb_app x y
      omega
theorem chain_le {p : Nat → Nat → Bool} {s : List Nat} (h : Chain p s) : (seg p s).length ≤ 1 := by
  by_cases c : s = []
  · subst c; simp [seg_nil]
  · rw [seg_of_chain c h]; simp
theorem mid_len {p : Nat → Nat → Bool} {A C b : List Nat} (hA : Chain p A) (hC : Chain p C) : (seg p (A ++ b ++ C)).length ≤ (seg p b).length + 2 := by
  have h1 := seg_app_le (p := p) (A ++ b) C
  have h2 := seg_app_le (p := p) A b
  have h3 := chain_le hA
  have h4 := chain_le hC
  omega
theorem head_chain {p : Nat → Nat → Bool} {A z : List Nat} (hA : Chain p A) (hne : A ≠ []) : ∃ u q, seg p (A ++ z) = (A ++ u) :: q := by
  have e : seg p (A ++ z) = z.foldl (stp p) (seg p A) := by unfold seg; rw [List.foldl_append]
  rw [e, seg_of_chain hne hA]
  rcases last_cases A with rfl | ⟨s, y, rfl⟩
  · exact absurd rfl hne
  · obtain ⟨u, q, h1, _⟩ := fold_last (p := p) z s s y
    exact ⟨u, q, h1⟩
theorem last_chain {p : Nat → Nat → Bool} {C z : List Nat} (hC : Chain p C) (hne : C ≠ []) : ∃ u q, seg p (z ++ C) = q ++ [u ++ C] := by
  cases C with
  | nil => exact absurd rfl hne
  | cons c C =>
    have e : z ++ c :: C = (z ++ [c]) ++ C := by simp
    have e2 : seg p ((z ++ [c]) ++ C) = C.foldl (stp p) (seg p (z ++ [c])) := by unfold seg; rw [List.foldl_append]
    rw [e, e2]
    have h : ∃ Q s, seg p (z ++ [c]) = Q ++ [s ++ [c]] := by
      rw [seg_snoc]
      rcases last_cases (seg p z) with hz | ⟨Q, t, hz⟩
      · rw [hz]; exact ⟨[], [], rfl⟩
      · have ht := seg_ne (p := p) z t (by rw [hz]; simp)
        rcases last_cases t with rfl | ⟨t', y, rfl⟩
        · exact absurd rfl ht
        · rw [hz, stp_snoc]
          split
          · exact ⟨Q, t' ++ [y], rfl⟩
          · exact ⟨Q ++ [t' ++ [y]], [], by simp⟩
    obtain ⟨Q, s, hs⟩ := h
    rw [hs, fold_front C (by simp), fold_of_chain C s c hC]
    exact ⟨s, Q, by simp⟩
theorem kc_le (bs : List (List Nat)) : kc bs ≤ bs.length := List.length_filter_le _ _
theorem kc_app (x y : List (List Nat)) : kc (x ++ y) = kc x + kc y := by unfold kc; rw [List.filter_append, List.length_append]
theorem mid_kc {p : Nat → Nat → Bool} {A C b : List Nat} (hA : Chain p A) (hC : Chain p C) : (seg p (A ++ b ++ C)).length + kc (seg p (A ++ b ++ C)) ≤ b.length + 4 := by
  generalize hm : seg p (A ++ b ++ C) = m
  have hf := seg_flat (p := p) (A ++ b ++ C)
  have hn := seg_ne (p := p) (A ++ b ++ C)
  rw [hm] at hf hn
  have hk := kc_le m
  match hmm : m with
  | [] => simp [kc]
  | [x] => have := kc_le [x]; simp at this ⊢; omega
  | f :: g :: m' =>
    rcases last_cases (g :: m') with h0 | ⟨i, l, hi⟩
    · cases h0
    · have hfl : A.length ≤ f.length := by
        by_cases c : A = []
        · subst c; simp
        · obtain ⟨u, q, e⟩ := head_chain (p := p) (z := b ++ C) hA c
          rw [← List.append_assoc, hm] at e
          have := (List.cons.inj e).1
          rw [this, List.length_append]
          omega
      have hll : C.length ≤ l.length := by
        by_cases c : C = []
        · subst c; simp
        · obtain ⟨u, q, e⟩ := last_chain (p := p) (z := A ++ b) hC c
          rw [hm, hi] at e
          have e2 : (f :: i) ++ [l] = q ++ [u ++ C] := by simpa using e
          have := List.append_inj' e2 rfl
          have e3 : l = u ++ C := by simpa using this.2
          rw [e3, List.length_append]
          omega
      rw [hi] at hf hn ⊢
      have hlen := congrArg List.length hf
      simp only [List.flatten_cons, List.flatten_append, List.length_append, List.flatten_nil, List.append_nil] at hlen
      have hki := kc_len i fun s hs => hn s (by simp [hs])
      have e1 : kc (f :: (i ++ [l])) ≤ kc i + 2 := by
        rw [kc_cons, kc_app]
        have := kc_le [l]
        simp at this
        split <;> omega
      simp only [List.length_cons, List.length_append, List.length_nil]
      omega
def lastP (S : List (List Nat)) : List Nat := S.getLastD []
def firstP (S : List (List Nat)) : List Nat := S.headD []
theorem seg_r {p : Nat → Nat → Bool} (r z : List Nat) : seg p (r ++ z) = (seg p r).dropLast ++ seg p (lastP (seg p r) ++ z) := by
  rcases last_cases (seg p r) with h | ⟨q, s, h⟩
  · have hr : r = [] := by
      have := seg_flat (p := p) r
      rw [h] at this
      exact this.symm
    subst hr
    rw [h]
    rfl
  · rw [seg_right h z, h, List.dropLast_concat]
    have : lastP (q ++ [s]) = s := by unfold lastP; simp [List.getLastD_eq_getLast?]
    rw [this]
theorem seg_l {p : Nat → Nat → Bool} (r z : List Nat) : seg p (z ++ r) = seg p (z ++ firstP (seg p r)) ++ (seg p r).tail := by
  cases h : seg p r with
  | nil =>
    have hr : r = [] := by
      have := seg_flat (p := p) r
      rw [h] at this
      exact this.symm
    subst hr
    simp [firstP]
  | cons s q => rw [seg_left h z]; rfl
theorem seg_join {p : Nat → Nat → Bool} (r1 b r2 : List Nat) : seg p (r1 ++ b ++ r2) = (seg p r1).dropLast ++ seg p (lastP (seg p r1) ++ b ++ firstP (seg p r2)) ++ (seg p r2).tail := by
  rw [List.append_assoc, seg_r, ← List.append_assoc, seg_l]
  simp only [List.append_assoc]
theorem edge_chain1 {p : Nat → Nat → Bool} (r : List Nat) : Chain p (lastP (seg p r)) := by
  rcases last_cases (seg p r) with h | ⟨q, s, h⟩
  · rw [h]; exact True.intro
  · have : lastP (q ++ [s]) = s := by unfold lastP; simp [List.getLastD_eq_getLast?]
    rw [h, this]
    exact seg_chain r s (by rw [h]; simp)
theorem edge_chain2 {p : Nat → Nat → Bool} (r : List Nat) : Chain p (firstP (seg p r)) := by
  cases h : seg p r with
  | nil => exact True.intro
  | cons s q => exact seg_chain r s (by rw [h]; simp)
def goesOn (S1 S2 m : List (List Nat)) : List (List Nat) :=
  let m1 := if S1.length < 2 then m.tail else m
  if S2.length < 2 then m1.dropLast else m1
theorem inner_join {p : Nat → Nat → Bool} (r1 b r2 : List Nat) : inner (seg p (r1 ++ b ++ r2)) = inner (seg p r1) ++ goesOn (seg p r1) (seg p r2) (seg p (lastP (seg p r1) ++ b ++ firstP (seg p r2))) ++ inner (seg p r2) := by
  rw [seg_join]
  generalize hm : seg p (lastP (seg p r1) ++ b ++ firstP (seg p r2)) = m
  have hmne : m = [] → seg p r1 = [] ∧ seg p r2 = [] := by
    intro e
    have hf := seg_flat (p := p) (lastP (seg p r1) ++ b ++ firstP (seg p r2))
    rw [hm, e] at hf
    have hf2 : lastP (seg p r1) ++ b ++ firstP (seg p r2) = [] := hf.symm
    simp at hf2
    constructor
    · rcases last_cases (seg p r1) with h | ⟨q, s, h⟩
      · exact h
      · have : lastP (q ++ [s]) = s := by unfold lastP; simp [List.getLastD_eq_getLast?]
        rw [h, this] at hf2
        exact absurd hf2.1 (seg_ne r1 s (by rw [h]; simp))
    · cases h : seg p r2 with
      | nil => rfl
      | cons s q =>
        rw [h] at hf2
        exact absurd hf2.2.2 (seg_ne r2 s (by rw [h]; simp))
  unfold goesOn inner
  by_cases h1 : (seg p r1).length < 2
  · have d1 : (seg p r1).dropLast = [] := by
      apply List.length_eq_zero_iff.mp
      rw [List.length_dropLast]; omega
    have i1 : (seg p r1).tail.dropLast = [] := by
      apply List.length_eq_zero_iff.mp
      rw [List.length_dropLast, List.length_tail]; omega
    rw [d1, i1, if_pos h1, List.nil_append, List.nil_append]
    by_cases h2 : (seg p r2).length < 2
    · have t2 : (seg p r2).tail = [] := by
        apply List.length_eq_zero_iff.mp
        rw [List.length_tail]; omega
      rw [t2, if_pos h2]
      simp
    · rw [if_neg h2]
      cases m with
      | nil => have := (hmne rfl).2; rw [this] at h2; simp at h2
      | cons a m =>
        show (m ++ (seg p r2).tail).dropLast = m ++ _
        have : (seg p r2).tail ≠ [] := by
          intro e
          have := congrArg List.length e
          rw [List.length_tail] at this
          simp at this
          omega
        rw [List.dropLast_append_of_ne_nil this]
  · rw [if_neg h1]
    have hd : (seg p r1).dropLast ≠ [] := by
      intro e
      have := congrArg List.length e
      rw [List.length_dropLast] at this
      simp at this
      omega
    have e1 : ((seg p r1).dropLast ++ m ++ (seg p r2).tail).tail = (seg p r1).tail.dropLast ++ m ++ (seg p r2).tail := by
      rw [List.append_assoc, List.tail_append_of_ne_nil hd, List.append_assoc]
      congr 1
      cases hh : seg p r1 with
      | nil => rfl
      | cons a l =>
        cases l with
        | nil => rfl
        | cons b l => rfl
    rw [e1]
    by_cases h2 : (seg p r2).length < 2
    · have t2 : (seg p r2).tail = [] := by
        apply List.length_eq_zero_iff.mp
        rw [List.length_tail]; omega
      rw [t2, if_pos h2]
      have hmn : m ≠ [] := by
        intro e
        have := (hmne e).1
        rw [this] at h1
        simp at h1
      rw [List.append_nil, List.dropLast_append_of_ne_nil hmn]
      simp
    · rw [if_neg h2]
      have ht : (seg p r2).tail ≠ [] := by
        intro e
        have := congrArg List.length e
        rw [List.length_tail] at this
        simp at this
        omega
      rw [List.dropLast_append_of_ne_nil ht]
theorem goesOn_len (S1 S2 m : List (List Nat)) : (goesOn S1 S2 m).length ≤ m.length := by
  unfold goesOn
  simp only
  split <;> split <;> simp <;> omega
theorem goesOn_sub (S1 S2 m : List (List Nat)) : ∃ x y, m = x ++ goesOn S1 S2 m ++ y := by
  have h1 : ∀ m : List (List Nat), ∃ x, m = x ++ m.tail := fun m => by
    cases m with
    | nil => exact ⟨[], rfl⟩
    | cons a m => exact ⟨[a], rfl⟩
  have h2 : ∀ m : List (List Nat), ∃ y, m = m.dropLast ++ y := fun m => by
    rcases last_cases m with rfl | ⟨q, x, rfl⟩
    · exact ⟨[], rfl⟩
    · exact ⟨[x], by rw [List.dropLast_concat]⟩
  unfold goesOn
  simp only
  by_cases c1 : S1.length < 2
  · rw [if_pos c1]
    obtain ⟨x, hx⟩ := h1 m
    by_cases c2 : S2.length < 2
    · rw [if_pos c2]
      obtain ⟨y, hy⟩ := h2 m.tail
      exact ⟨x, y, by rw [List.append_assoc, ← hy]; exact hx⟩
    · rw [if_neg c2]
      exact ⟨x, [], by rw [List.append_nil]; exact hx⟩
  · rw [if_neg c1]
    by_cases c2 : S2.length < 2
    · rw [if_pos c2]
      obtain ⟨y, hy⟩ := h2 m
      exact ⟨[], y, by rw [List.nil_append]; exact hy⟩
    · rw [if_neg c2]
      exact ⟨[], [], by simp⟩
theorem row_join {tb : List Blk} {tx ty b : List Nat} {L : Nat} (h : rw_ tb (tx ++ ty) L = rw_ tb tx L ++ b ++ rw_ tb ty L) :
    rw_ tb (tx ++ ty) (L + 1) = rw_ tb tx (L + 1) ++ (goesOn (seg (rl L) (rw_ tb tx L)) (seg (rl L) (rw_ tb ty L)) (seg (rl L) (lastP (seg (rl L) (rw_ tb tx L)) ++ b ++ firstP (seg (rl L) (rw_ tb ty L))))).map (fun s => nm tb (blkOf L s)) ++ rw_ tb ty (L + 1) := by
  show (inner (seg (rl L) (rw_ tb (tx ++ ty) L))).map _ = _
  rw [h, inner_join, List.map_append, List.map_append]
  rfl
structure Short (L : Nat) (b : List Nat) : Prop where
  z : L % 3 = 0 → b.length ≤ 19
  o : L % 3 = 1 → b.length ≤ 21
  t : L % 3 = 2 → b.length ≤ 23 ∧ (seg (rl L) b).length ≤ 17
theorem short_zero : Short 0 [] := ⟨fun _ => Nat.zero_le _, fun h => by omega, fun h => by omega⟩
theorem Short.le {L : Nat} {b : List Nat} (h : Short L b) : b.length ≤ 23 := by
  have := h.z
  have := h.o
  have := h.t
  omega
theorem short_next {tb : List Blk} {tx ty b : List Nat} {L : Nat} (hT : TabOk tb) (ht : ∀ c ∈ tx ++ ty, c < 256) (hK : Known tb (tx ++ ty) L) (h : rw_ tb (tx ++ ty) L = rw_ tb tx L ++ b ++ rw_ tb ty L) (hb : Short L b) :
    (seg (rl L) (lastP (seg (rl L) (rw_ tb tx L)) ++ b ++ firstP (seg (rl L) (rw_ tb ty L)))).length ≤ 23 ∧
    Short (L + 1) ((goesOn (seg (rl L) (rw_ tb tx L)) (seg (rl L) (rw_ tb ty L)) (seg (rl L) (lastP (seg (rl L) (rw_ tb tx L)) ++ b ++ firstP (seg (rl L) (rw_ tb ty L))))).map (fun s => nm tb (blkOf L s))) := by
  have hA := edge_chain1 (p := rl L) (rw_ tb tx L)
  have hC := edge_chain2 (p := rl L) (rw_ tb ty L)
  have hml := mid_len (b := b) hA hC
  have hsl := seg_len (p := rl L) b
  have hmk := mid_kc (b := b) hA hC
  have hj := seg_join (p := rl L) (rw_ tb tx L) b (rw_ tb ty L)
  generalize hm : seg (rl L) (lastP (seg (rl L) (rw_ tb tx L)) ++ b ++ firstP (seg (rl L) (rw_ tb ty L))) = m at hml hmk hj ⊢
  generalize hg : goesOn (seg (rl L) (rw_ tb tx L)) (seg (rl L) (rw_ tb ty L)) m = g
  have hgl : g.length ≤ m.length := by rw [← hg]; exact goesOn_len _ _ _
  obtain ⟨x, y, hxy⟩ : ∃ x y, m = x ++ g ++ y := by rw [← hg]; exact goesOn_sub _ _ _
  have hgk : kc g ≤ kc m := by rw [hxy, kc_app, kc_app]; omega
  have hz := hb.z
  have ho := hb.o
  have ht2 := hb.t
  refine ⟨by omega, fun c => ?_, fun c => ?_, fun c => ?_⟩
  · rw [List.length_map]; omega
  · rw [List.length_map]; omega
  · rw [List.length_map]
    refine ⟨by omega, ?_⟩
    have hf := row_falls hT ht hK (L := L) (by omega) (Nat.le_refl _)
    rw [h, hj, hxy] at hf
    have hf2 : Adj (fun s s' => s.length = 1 → s'.length = 1 → rl (L + 1) (nm tb (blkOf L s)) (nm tb (blkOf L s')) = true) g := by
      have e : (seg (rl L) (rw_ tb tx L)).dropLast ++ (x ++ g ++ y) ++ (seg (rl L) (rw_ tb ty L)).tail = ((seg (rl L) (rw_ tb tx L)).dropLast ++ x) ++ (g ++ (y ++ (seg (rl L) (rw_ tb ty L)).tail)) := by simp
      rw [e] at hf
      exact hf.right.left
    have hgn : ∀ s ∈ g, s ≠ [] := fun s hs => seg_ne _ s (by rw [hm, hxy]; simp [hs])
    have hnb := nb_kc (f := fun s => nm tb (blkOf L s)) (p := rl (L + 1)) g hf2 hgn
    by_cases hgz : g.map (fun s => nm tb (blkOf L s)) = []
    · rw [hgz]; simp [seg_nil]
    · rw [seg_nb _ hgz]
      have h3 := seg_len (p := rl (L + 1)) (g.map (fun s => nm tb (blkOf L s)))
      rw [seg_nb _ hgz, List.length_map] at h3
      omega
end B47
set_option linter.all false
namespace B47
open Sz47 M47
theorem nm_ext {tb e : List Blk} {b : Blk} (h : b ∈ tb) : nm (tb ++ e) b = nm tb b := by
  unfold nm
  split
  · rfl
  · rw [List.idxOf_append, if_pos h]
theorem rw_ext {tb e : List Blk} {t : List Nat} {N : Nat} (hK : Known tb t N) : ∀ L, L ≤ N → rw_ (tb ++ e) t L = rw_ tb t L
  | 0, _ => rfl
  | L + 1, hL => by
    have ih := rw_ext (e := e) hK L (by omega)
    show (inner (seg (rl L) (rw_ (tb ++ e) t L))).map _ = (inner (seg (rl L) (rw_ tb t L))).map _
    rw [ih]
    apply List.map_congr_left
    intro s hs
    rcases hK L (by omega) s hs with h | h
    · obtain ⟨u, rfl⟩ := one_of h
      rw [blk_one, nm_one, nm_one]
    · exact nm_ext h
theorem known_ext {tb e : List Blk} {t : List Nat} {N : Nat} (hK : Known tb t N) : Known (tb ++ e) t N := by
  intro L hL s hs
  rw [rw_ext hK L (by omega)] at hs
  rcases hK L hL s hs with h | h
  · exact .inl h
  · exact .inr (List.mem_append_left _ h)
theorem known_le {tb : List Blk} {t : List Nat} {N M : Nat} (hK : Known tb t N) (h : M ≤ N) : Known tb t M := fun L hL s hs => hK L (by omega) s hs
theorem tab_nil : TabOk [] := ⟨List.nodup_nil, fun i b h => by simp at h⟩
theorem tab_ext {tb : List Blk} {b : Blk} (hT : TabOk tb) (hn : b ∉ tb) (hl : ∀ pr ∈ b, pr.1 < 256 + tb.length) : TabOk (tb ++ [b]) := by
  refine ⟨?_, ?_⟩
  · rw [List.nodup_append]
    exact ⟨hT.nd, by simp, fun x hx y hy => by rw [List.mem_singleton.mp hy]; rintro rfl; exact hn hx⟩
  · intro i c h pr hp
    by_cases hi : i < tb.length
    · rw [List.getElem?_append_left hi] at h
      exact hT.low i c h pr hp
    · rw [List.getElem?_append_right (by omega)] at h
      have e0 : i - tb.length = 0 := by
        have := (List.getElem?_eq_some_iff.mp h).1
        simp at this
        omega
      rw [e0] at h
      have : b = c := Option.some.inj h
      subst this
      have := hl pr hp
      omega
def rep (n : Nat) (w : Text) : Text := (List.replicate n w).flatten
def bt (l : List Text) (b : Blk) : Text := (b.map fun pr => rep pr.2 (made l pr.1)).flatten
def exs (tb : List Blk) : List Text := tb.foldl (fun l b => l ++ [bt l b]) []
def ex (tb : List Blk) (x : Nat) : Text := made (exs tb) x
theorem exs_len (tb : List Blk) : (exs tb).length = tb.length := grow_len bt tb
theorem exs_take (tb : List Blk) (i : Nat) : exs (tb.take i) = (exs tb).take i := grow_take bt tb i
theorem exs_get {tb : List Blk} {i : Nat} {b : Blk} (h : tb[i]? = some b) : (exs tb)[i]? = some (bt (exs (tb.take i)) b) := grow_get bt h
theorem ex_take (tb : List Blk) {i x : Nat} (h : x < 256 + i) : made (exs (tb.take i)) x = ex tb x := by
  unfold ex made
  rw [exs_take]
  split
  · rfl
  · rw [getD_take _ _ _ _ (by omega)]
theorem bt_congr {l l' : List Text} {b : Blk} (h : ∀ pr ∈ b, made l pr.1 = made l' pr.1) : bt l b = bt l' b := by
  unfold bt
  congr 1
  apply List.map_congr_left
  intro pr hp
  rw [h pr hp]
def btx (tb : List Blk) (b : Blk) : Text := bt (exs tb) b
theorem ex_byte {tb : List Blk} {x : Nat} (h : x < 256) : ex tb x = [x] := made_byte h
theorem ex_at {tb : List Blk} (hT : TabOk tb) {i : Nat} {b : Blk} (h : tb[i]? = some b) : ex tb (256 + i) = btx tb b := by
  unfold ex
  have e : made (exs tb) (256 + i) = (exs tb).getD i [] := by
    unfold made
    rw [if_neg (by omega), Nat.add_sub_cancel_left]
  rw [e, List.getD_eq_getElem?_getD, exs_get h]
  show bt (exs (tb.take i)) b = _
  exact bt_congr fun pr hp => ex_take tb (hT.low i b h pr hp)
theorem rep_zero (w : Text) : rep 0 w = [] := rfl
theorem rep_succ (n : Nat) (w : Text) : rep (n + 1) w = w ++ rep n w := by
  unfold rep
  rw [List.replicate_succ, List.flatten_cons]
theorem rep_one (w : Text) : rep 1 w = w := by rw [rep_succ, rep_zero, List.append_nil]
theorem rep_add (m n : Nat) (w : Text) : rep (m + n) w = rep m w ++ rep n w := by
  induction m with
  | zero => simp [rep_zero]
  | succ m ih =>
    have e : m + 1 + n = m + n + 1 := by omega
    rw [e, rep_succ, rep_succ, ih, List.append_assoc]
theorem rep_len (n : Nat) (w : Text) : (rep n w).length = n * w.length := by
  induction n with
  | zero => simp [rep_zero]
  | succ n ih => rw [rep_succ, List.length_append, ih, Nat.succ_mul]; omega
theorem btx_cons (tb : List Blk) (pr : Pr) (b : Blk) : btx tb (pr :: b) = rep pr.2 (ex tb pr.1) ++ btx tb b := rfl
theorem btx_app (tb : List Blk) (a b : Blk) : btx tb (a ++ b) = btx tb a ++ btx tb b := by
  unfold btx bt
  rw [List.map_append, List.flatten_append]
def rtx (tb : List Blk) (r : List Nat) : Text := (r.map (ex tb)).flatten
theorem rtx_app (tb : List Blk) (a b : List Nat) : rtx tb (a ++ b) = rtx tb a ++ rtx tb b := by
  unfold rtx
  rw [List.map_append, List.flatten_append]
theorem rtx_bytes {tb : List Blk} : ∀ {t : List Nat}, (∀ c ∈ t, c < 256) → rtx tb t = t
  | [], _ => rfl
  | c :: t, h => by
    show ex tb c ++ rtx tb t = c :: t
    rw [ex_byte (h c (by simp)), rtx_bytes fun d hd => h d (by simp [hd])]
    rfl
theorem btx_of {tb : List Blk} {L : Nat} {s : List Nat} (hc : Chain (rl L) s) : btx tb (blkOf L s) = rtx tb s := by
  unfold blkOf
  split
  · next c =>
    cases s with
    | nil => rfl
    | cons a s =>
      have h := chain_same c s a hc
      have : ∀ (r : List Nat), (∀ u ∈ r, u = a) → rtx tb r = rep r.length (ex tb a) := by
        intro r
        induction r with
        | nil => intro _; rfl
        | cons b r ih =>
          intro hb
          rw [List.length_cons, rep_succ, ← ih fun u hu => hb u (by simp [hu])]
          show ex tb b ++ rtx tb r = _
          rw [hb b (by simp)]
      rw [this (a :: s) h]
      show rep (a :: s).length (ex tb a) ++ [] = _
      rw [List.append_nil]
  · induction s with
    | nil => rfl
    | cons a s ih =>
      have hc2 : Chain (rl L) s := by
        cases s with
        | nil => exact True.intro
        | cons b s => exact hc.2
      show rep 1 (ex tb a) ++ btx tb (s.map fun n => (n, 1)) = ex tb a ++ rtx tb s
      rw [rep_one, ih hc2]
theorem ex_nm {tb : List Blk} (hT : TabOk tb) {L : Nat} {s : List Nat} (hc : Chain (rl L) s) (h : s.length = 1 ∨ (2 ≤ s.length ∧ blkOf L s ∈ tb)) : ex tb (nm tb (blkOf L s)) = rtx tb s := by
  rcases h with h | ⟨h2, hm⟩
  · obtain ⟨u, rfl⟩ := one_of h
    rw [blk_one, nm_one]
    show ex tb u = ex tb u ++ []
    rw [List.append_nil]
  · rw [nm_more (blk_more h2), ex_at hT (idx_at hm), btx_of hc]
theorem rtx_flat {tb : List Blk} (f : List Nat → Nat) : ∀ {bs : List (List Nat)}, (∀ s ∈ bs, ex tb (f s) = rtx tb s) → rtx tb (bs.map f) = rtx tb bs.flatten
  | [], _ => rfl
  | s :: bs, h => by
    rw [List.flatten_cons, rtx_app, ← rtx_flat f fun t ht => h t (by simp [ht]), ← h s (by simp)]
    rfl
theorem ends_of {α : Type} {l : List (List α)} (h : 2 ≤ l.length) : l.flatten = l.headD [] ++ (inner l).flatten ++ l.getLastD [] := by
  match l, h with
  | a :: b :: r, _ =>
    rcases last_cases (b :: r) with h0 | ⟨q, x, h0⟩
    · cases h0
    · have e : inner (a :: b :: r) = q := by
        show (b :: r).dropLast = q
        rw [h0, List.dropLast_concat]
      have e2 : (a :: b :: r).getLastD [] = x := by
        rw [h0]
        have e3 : a :: (q ++ [x]) = (a :: q) ++ [x] := rfl
        rw [e3, List.getLastD_eq_getLast?, List.getLast?_concat]
        rfl
      rw [e, e2, h0]
      simp
theorem rtx_row {tb : List Blk} {t : List Nat} {L : Nat} (hT : TabOk tb) (hK : Known tb t (L + 1)) (h : 2 ≤ (seg (rl L) (rw_ tb t L)).length) : rtx tb (rw_ tb t L) = rtx tb (firstP (seg (rl L) (rw_ tb t L))) ++ rtx tb (rw_ tb t (L + 1)) ++ rtx tb (lastP (seg (rl L) (rw_ tb t L))) := by
  have hf := seg_flat (p := rl L) (rw_ tb t L)
  have he := ends_of h
  rw [hf] at he
  have e1 : rtx tb (rw_ tb t (L + 1)) = rtx tb (inner (seg (rl L) (rw_ tb t L))).flatten := by
    refine rtx_flat (fun s => nm tb (blkOf L s)) fun s hs => ?_
    have hc := seg_chain _ s (inner_mem hs)
    refine ex_nm hT hc ?_
    by_cases c : s.length = 1
    · exact .inl c
    · refine .inr ⟨?_, (hK L (by omega) s hs).resolve_left c⟩
      have := List.length_pos_iff.mpr (seg_ne _ s (inner_mem hs))
      omega
  have e2 : rw_ tb t L = firstP (seg (rl L) (rw_ tb t L)) ++ (inner (seg (rl L) (rw_ tb t L))).flatten ++ lastP (seg (rl L) (rw_ tb t L)) := he
  have e3 : rtx tb (rw_ tb t L) = rtx tb (firstP (seg (rl L) (rw_ tb t L)) ++ (inner (seg (rl L) (rw_ tb t L))).flatten ++ lastP (seg (rl L) (rw_ tb t L))) := congrArg (rtx tb) e2
  rw [e3, rtx_app, rtx_app, e1]
end B47
set_option linter.all false
namespace B47
open Sz47 M47
def blkE (L : Nat) (s : List Nat) : Blk := if s = [] then [] else blkOf L s
abbrev sg (tb : List Blk) (t : List Nat) (L : Nat) : List (List Nat) := seg (rl L) (rw_ tb t L)
structure Lay (tb : List Blk) (t : List Nat) (fr : List Blk) (mi : Blk) (ba : List Blk) : Prop where
  len : ba.length = fr.length
  two : ∀ L, L < fr.length → 2 ≤ (sg tb t L).length
  frs : ∀ L, L < fr.length → fr[L]? = some (blkOf L (firstP (sg tb t L)))
  bas : ∀ L, L < fr.length → ba[L]? = some (blkOf L (lastP (sg tb t L)))
  one : (sg tb t fr.length).length < 2
  mid : mi = blkE fr.length (rw_ tb t fr.length)
  known : ∀ N, Known tb t N
theorem few_next {tb : List Blk} {t : List Nat} {L : Nat} (h : (sg tb t L).length < 2) : rw_ tb t (L + 1) = [] := by
  show (inner (sg tb t L)).map _ = []
  have : inner (sg tb t L) = [] := by
    apply List.length_eq_zero_iff.mp
    rw [inner_len]
    omega
  rw [this]
  rfl
theorem few_after {tb : List Blk} {t : List Nat} {L : Nat} (h : (sg tb t L).length < 2) : ∀ k, rw_ tb t (L + 1 + k) = []
  | 0 => few_next h
  | k + 1 => by
    have ih := few_after h k
    have : (sg tb t (L + 1 + k)).length < 2 := by
      show (seg (rl (L + 1 + k)) (rw_ tb t (L + 1 + k))).length < 2
      rw [ih]
      simp [seg_nil]
    exact few_next this
theorem known_all {tb : List Blk} {t : List Nat} {l : Nat} (hK : Known tb t l) (h : (sg tb t l).length < 2) : ∀ N, Known tb t N := by
  intro N L hL s hs
  by_cases c : L < l
  · exact hK L c s hs
  · exfalso
    have h2 : (sg tb t L).length < 2 := by
      by_cases e : L = l
      · rw [e]; exact h
      · have e2 : L = l + 1 + (L - l - 1) := by omega
        show (seg (rl L) (rw_ tb t L)).length < 2
        rw [e2, few_after h]
        simp [seg_nil]
    have : inner (seg (rl L) (rw_ tb t L)) = [] := by
      apply List.length_eq_zero_iff.mp
      rw [inner_len]
      have : (seg (rl L) (rw_ tb t L)).length < 2 := h2
      omega
    rw [this] at hs
    cases hs
theorem one_seg {p : Nat → Nat → Bool} {r : List Nat} (h : (seg p r).length < 2) : lastP (seg p r) = r ∧ firstP (seg p r) = r := by
  have hf := seg_flat (p := p) r
  match hs : seg p r with
  | [] => rw [hs] at hf; exact ⟨by rw [← hf]; rfl, by rw [← hf]; rfl⟩
  | [s] => rw [hs] at hf; simp at hf; subst hf; exact ⟨rfl, rfl⟩
  | _ :: _ :: _ => rw [hs] at h; simp at h; omega
section
variable {tb : List Blk} {t : List Nat} {fr : List Blk} {mi : Blk} {ba : List Blk}
theorem Lay.past (h : Lay tb t fr mi ba) {L : Nat} (hL : fr.length < L) : rw_ tb t L = [] := by
  have e : L = fr.length + 1 + (L - fr.length - 1) := by omega
  rw [e]
  exact few_after h.one _
theorem Lay.goes (h : Lay tb t fr mi ba) (L : Nat) : (sg tb t L).length < 2 ↔ ¬ L < fr.length := by
  constructor
  · intro h1 h2
    have := h.two L h2
    omega
  · intro h1
    by_cases e : L = fr.length
    · rw [e]; exact h.one
    · show (seg (rl L) (rw_ tb t L)).length < 2
      rw [h.past (by omega)]
      simp [seg_nil]
theorem Lay.backE (h : Lay tb t fr mi ba) (L : Nat) : (if L < ba.length then ba[L]? else some (if L = ba.length then mi else [])) = some (blkE L (lastP (sg tb t L))) := by
  rw [h.len]
  by_cases c : L < fr.length
  · rw [if_pos c, h.bas L c]
    unfold blkE
    have hn : lastP (sg tb t L) ≠ [] := by
      rcases last_cases (sg tb t L) with e | ⟨q, s, e⟩
      · have := h.two L c
        rw [e] at this
        simp at this
      · have : lastP (q ++ [s]) = s := by unfold lastP; simp [List.getLastD_eq_getLast?]
        rw [e, this]
        exact seg_ne _ s (by show s ∈ sg tb t L; rw [e]; simp)
    rw [if_neg hn]
  · rw [if_neg c]
    by_cases e : L = fr.length
    · rw [if_pos e, h.mid, e, (one_seg h.one).1]
    · have hp := h.past (L := L) (by omega)
      rw [if_neg e]
      have : lastP (sg tb t L) = [] := by
        show lastP (seg (rl L) (rw_ tb t L)) = []
        rw [hp]
        rfl
      rw [this]
      rfl
theorem Lay.frontE (h : Lay tb t fr mi ba) (L : Nat) : (if L < fr.length then fr[L]? else some (if L = fr.length then mi else [])) = some (blkE L (firstP (sg tb t L))) := by
  by_cases c : L < fr.length
  · rw [if_pos c, h.frs L c]
    unfold blkE
    have hn : firstP (sg tb t L) ≠ [] := by
      cases e : sg tb t L with
      | nil =>
        have := h.two L c
        rw [e] at this
        simp at this
      | cons s q => exact seg_ne _ s (by show s ∈ sg tb t L; rw [e]; simp)
    rw [if_neg hn]
  · rw [if_neg c]
    by_cases e : L = fr.length
    · rw [if_pos e, h.mid, e, (one_seg h.one).2]
    · have hp := h.past (L := L) (by omega)
      rw [if_neg e]
      have : firstP (sg tb t L) = [] := by
        show firstP (seg (rl L) (rw_ tb t L)) = []
        rw [hp]
        rfl
      rw [this]
      rfl
theorem Lay.ext (h : Lay tb t fr mi ba) (e : List Blk) : Lay (tb ++ e) t fr mi ba := by
  have hr : ∀ L, rw_ (tb ++ e) t L = rw_ tb t L := fun L => rw_ext (h.known L) L (Nat.le_refl _)
  have hs : ∀ L, sg (tb ++ e) t L = sg tb t L := fun L => by show seg (rl L) (rw_ (tb ++ e) t L) = _; rw [hr L]
  refine ⟨h.len, fun L hL => ?_, fun L hL => ?_, fun L hL => ?_, ?_, ?_, fun N => known_ext (h.known N)⟩
  · rw [hs]; exact h.two L hL
  · rw [hs]; exact h.frs L hL
  · rw [hs]; exact h.bas L hL
  · rw [hs]; exact h.one
  · rw [hr]; exact h.mid
end
theorem lay_byte (tb : List Blk) {c : Nat} (hc : c < 256) : Lay tb [c] [] [(c, 1)] [] := by
  have h1 : (sg tb [c] 0).length < 2 := by
    show (seg (rl 0) [c]).length < 2
    simp [seg_one]
  exact ⟨rfl, fun L h => absurd h (Nat.not_lt_zero _), fun L h => absurd h (Nat.not_lt_zero _), fun L h => absurd h (Nat.not_lt_zero _), h1, rfl, known_all (l := 0) (fun L h => absurd h (Nat.not_lt_zero _)) h1⟩
def frTx (tb : List Blk) (fr : List Blk) : Text := (fr.map (btx tb)).flatten
theorem blkE_tx {tb : List Blk} {L : Nat} {s : List Nat} (hc : Chain (rl L) s) : btx tb (blkE L s) = rtx tb s := by
  unfold blkE
  split
  · next h => rw [h]; rfl
  · exact btx_of hc
theorem lay_text_from {tb : List Blk} {t : List Nat} {fr : List Blk} {mi : Blk} {ba : List Blk} (hT : TabOk tb) (h : Lay tb t fr mi ba) : ∀ k L, L + k = fr.length → rtx tb (rw_ tb t L) = frTx tb (fr.drop L) ++ btx tb mi ++ frTx tb (ba.drop L).reverse
  | 0, L, e => by
    have e : L = fr.length := by omega
    have hl := h.len
    rw [e, List.drop_length, ← hl, List.drop_length, h.mid]
    have hc : Chain (rl fr.length) (rw_ tb t fr.length) := by
      have := edge_chain1 (p := rl fr.length) (rw_ tb t fr.length)
      rw [(one_seg h.one).1] at this
      exact this
    rw [hl, blkE_tx hc]
    show _ = [] ++ rtx tb (rw_ tb t fr.length) ++ []
    simp
  | k + 1, L, e => by
    have hL : L < fr.length := by omega
    have ih := lay_text_from hT h k (L + 1) (by omega)
    have hb := h.len
    rw [rtx_row hT (h.known (L + 1)) (h.two L hL), ih]
    have e1 : fr.drop L = blkOf L (firstP (sg tb t L)) :: fr.drop (L + 1) := by
      have h1 := h.frs L hL
      rw [List.drop_eq_getElem_cons hL]
      congr 1
      rw [List.getElem?_eq_getElem hL] at h1
      exact Option.some.inj h1
    have e2 : ba.drop L = blkOf L (lastP (sg tb t L)) :: ba.drop (L + 1) := by
      have h1 := h.bas L hL
      have hL' : L < ba.length := by omega
      rw [List.drop_eq_getElem_cons hL']
      congr 1
      rw [List.getElem?_eq_getElem hL'] at h1
      exact Option.some.inj h1
    rw [e1, e2]
    unfold frTx
    rw [List.map_cons, List.flatten_cons, List.reverse_cons, List.map_append, List.flatten_append, btx_of (edge_chain2 _)]
    have e3 : ((List.map (btx tb) [blkOf L (lastP (sg tb t L))]).flatten) = rtx tb (lastP (sg tb t L)) := by
      show btx tb (blkOf L (lastP (sg tb t L))) ++ [] = _
      rw [List.append_nil, btx_of (edge_chain1 _)]
    rw [e3]
    simp only [List.append_assoc]
theorem lay_text {tb : List Blk} {t : List Nat} {fr : List Blk} {mi : Blk} {ba : List Blk} (hT : TabOk tb) (ht : ∀ c ∈ t, c < 256) (h : Lay tb t fr mi ba) : t = frTx tb fr ++ btx tb mi ++ frTx tb ba.reverse := by
  have := lay_text_from hT h fr.length 0 (by omega)
  simp only [List.drop_zero] at this
  rw [← this]
  exact (rtx_bytes ht).symm
theorem chain_nodup {L : Nat} (hL : L % 3 ≠ 0) : ∀ {s : List Nat}, Chain (rl L) s → s.Nodup := by
  have up : ∀ (s : List Nat) (a : Nat), L % 3 = 1 → Chain (rl L) (a :: s) → ∀ u ∈ s, a < u := by
    intro s
    induction s with
    | nil => intro a _ _ u hu; cases hu
    | cons b s ih =>
      intro a h1 hc u hu
      have h2 := hc.1
      unfold rl at h2
      rw [if_neg hL, if_pos h1] at h2
      have h3 := of_decide_eq_true h2
      rcases List.mem_cons.mp hu with rfl | hu
      · exact h3
      · have := ih b h1 hc.2 u hu
        omega
  have dn : ∀ (s : List Nat) (a : Nat), L % 3 ≠ 1 → Chain (rl L) (a :: s) → ∀ u ∈ s, u < a := by
    intro s
    induction s with
    | nil => intro a _ _ u hu; cases hu
    | cons b s ih =>
      intro a h1 hc u hu
      have h2 := hc.1
      unfold rl at h2
      rw [if_neg hL, if_neg h1] at h2
      have h3 := of_decide_eq_true h2
      rcases List.mem_cons.mp hu with rfl | hu
      · exact h3
      · have := ih b h1 hc.2 u hu
        omega
  intro s
  induction s with
  | nil => intro _; exact List.nodup_nil
  | cons a s ih =>
    intro hc
    have hc2 : Chain (rl L) s := by
      cases s with
      | nil => exact True.intro
      | cons b s => exact hc.2
    refine List.nodup_cons.mpr ⟨fun h => ?_, ih hc2⟩
    by_cases c : L % 3 = 1
    · have := up s a c hc a h
      omega
    · have := dn s a c hc a h
      omega
theorem nodup_len {l m : List Nat} (hl : l.Nodup) (h : ∀ x ∈ l, x ∈ m) : l.length ≤ m.length := by
  induction l generalizing m with
  | nil => exact Nat.zero_le _
  | cons a l ih =>
    have ha : a ∈ m := h a (by simp)
    have h1 : l.length ≤ (m.erase a).length := by
      refine ih (List.nodup_cons.mp hl).2 fun x hx => ?_
      refine (List.mem_erase_of_ne ?_).mpr (h x (by simp [hx]))
      rintro rfl
      exact (List.nodup_cons.mp hl).1 hx
    rw [List.length_erase_of_mem ha] at h1
    have h2 : 0 < m.length := List.length_pos_iff.mpr (List.ne_nil_of_mem ha)
    rw [List.length_cons]
    omega
structure Uni (tb : List Blk) (ts : List (List Nat)) (u : Nat → List Nat) (j : Nat) : Prop where
  has : ∀ t ∈ ts, ∀ L n, n ∈ rw_ tb t L → n ∈ u L
  few : ∀ L, (u L).length ≤ 256 + 23 * j
theorem uni_zero (tb : List Blk) (ts : List (List Nat)) (h : ∀ t ∈ ts, ∃ c, c < 256 ∧ t = [c]) : Uni tb ts (fun _ => List.range 256) 0 := by
  refine ⟨fun t ht L n hn => ?_, fun L => by simp⟩
  obtain ⟨c, hc, rfl⟩ := h t ht
  have hl := lay_byte tb hc
  by_cases e : L = 0
  · rw [e] at hn
    have : n = c := by simpa [rw_] using hn
    rw [this]
    exact List.mem_range.mpr hc
  · rw [hl.past (by show ([] : List Blk).length < L; simp; omega)] at hn
    cases hn
theorem Uni.ext {tb : List Blk} {ts : List (List Nat)} {u : Nat → List Nat} {j : Nat} (h : Uni tb ts u j) (e : List Blk) (hk : ∀ t ∈ ts, ∀ N, Known tb t N) : Uni (tb ++ e) ts u j := by
  refine ⟨fun t ht L n hn => h.has t ht L n ?_, h.few⟩
  rw [rw_ext (hk t ht L) L (Nat.le_refl _)] at hn
  exact hn
theorem Uni.join {tb : List Blk} {ts : List (List Nat)} {u : Nat → List Nat} {j : Nat} (h : Uni tb ts u j) {tx ty : List Nat} (hx : tx ∈ ts) (hy : ty ∈ ts) {b : Nat → List Nat} (hb : ∀ L, (b L).length ≤ 23) (hr : ∀ L, rw_ tb (tx ++ ty) L = rw_ tb tx L ++ b L ++ rw_ tb ty L) :
    Uni tb ((tx ++ ty) :: ts) (fun L => u L ++ b L) (j + 1) := by
  refine ⟨fun t ht L n hn => ?_, fun L => ?_⟩
  · rcases List.mem_cons.mp ht with rfl | ht
    · rw [hr L] at hn
      rcases List.mem_append.mp hn with hn | hn
      · rcases List.mem_append.mp hn with hn | hn
        · exact List.mem_append_left _ (h.has tx hx L n hn)
        · exact List.mem_append_right _ hn
      · exact List.mem_append_left _ (h.has ty hy L n hn)
    · exact List.mem_append_left _ (h.has t ht L n hn)
  · rw [List.length_append]
    have := h.few L
    have := hb L
    omega
theorem blk_short {tb : List Blk} {ts : List (List Nat)} {u : Nat → List Nat} {j : Nat} (h : Uni tb ts u j) {t : List Nat} (ht : t ∈ ts) {L : Nat} {s : List Nat} (hs : ∀ n ∈ s, n ∈ rw_ tb t L) (hc : Chain (rl L) s) : (blkOf L s).length ≤ 256 + 23 * j := by
  unfold blkOf
  split
  · simp; omega
  · next hL =>
    rw [List.length_map]
    have h1 := nodup_len (m := u L) (chain_nodup hL hc) fun n hn => h.has t ht L n (hs n hn)
    have h2 := h.few L
    omega
theorem lay_short {tb : List Blk} {ts : List (List Nat)} {u : Nat → List Nat} {j : Nat} (h : Uni tb ts u j) {t : List Nat} (ht : t ∈ ts) {fr : List Blk} {mi : Blk} {ba : List Blk} (hl : Lay tb t fr mi ba) : (∀ b ∈ fr, b.length ≤ 256 + 23 * j) ∧ mi.length ≤ 256 + 23 * j ∧ (∀ b ∈ ba, b.length ≤ 256 + 23 * j) := by
  have memL : ∀ L, ∀ n ∈ lastP (sg tb t L), n ∈ rw_ tb t L := by
    intro L n hn
    rw [← seg_flat (p := rl L) (rw_ tb t L)]
    rcases last_cases (sg tb t L) with e | ⟨q, s, e⟩
    · rw [e] at hn; cases hn
    · have e2 : lastP (q ++ [s]) = s := by unfold lastP; simp [List.getLastD_eq_getLast?]
      rw [e, e2] at hn
      exact List.mem_flatten.mpr ⟨s, by show s ∈ sg tb t L; rw [e]; simp, hn⟩
  have memF : ∀ L, ∀ n ∈ firstP (sg tb t L), n ∈ rw_ tb t L := by
    intro L n hn
    rw [← seg_flat (p := rl L) (rw_ tb t L)]
    cases e : sg tb t L with
    | nil => rw [e] at hn; cases hn
    | cons s q =>
      rw [e] at hn
      exact List.mem_flatten.mpr ⟨s, by show s ∈ sg tb t L; rw [e]; simp, hn⟩
  refine ⟨fun b hb => ?_, ?_, fun b hb => ?_⟩
  · obtain ⟨L, hL⟩ := List.mem_iff_getElem?.mp hb
    have hlt := (List.getElem?_eq_some_iff.mp hL).1
    rw [hl.frs L hlt] at hL
    have := Option.some.inj hL
    rw [← this]
    exact blk_short h ht (memF L) (edge_chain2 _)
  · rw [hl.mid]
    unfold blkE
    split
    · simp
    · refine blk_short h ht (fun n hn => hn) ?_
      have := edge_chain1 (p := rl fr.length) (rw_ tb t fr.length)
      rw [(one_seg hl.one).1] at this
      exact this
  · obtain ⟨L, hL⟩ := List.mem_iff_getElem?.mp hb
    have hlt := (List.getElem?_eq_some_iff.mp hL).1
    have hlen := hl.len
    rw [hl.bas L (by omega)] at hL
    have := Option.some.inj hL
    rw [← this]
    exact blk_short h ht (memL L) (edge_chain1 _)
theorem lay_levels {tb : List Blk} {t : List Nat} (hT : TabOk tb) (ht : ∀ c ∈ t, c < 256) (hlen : t.length < 2 ^ 60) {fr : List Blk} {mi : Blk} {ba : List Blk} (hl : Lay tb t fr mi ba) : fr.length ≤ 309 := by
  by_cases c : fr.length ≤ 309
  · exact c
  · have h1 := row_end hT ht (hl.known 307) hlen
    have h2 := hl.two 309 (by omega)
    have h3 : (seg (rl 309) (rw_ tb t 309)).length = 0 := by rw [h1]; rfl
    have h4 : (sg tb t 309).length = 0 := h3
    omega
end B47
set_option linter.all false
namespace B47
open Sz47 M47
def stx (tb : List Blk) (st : Blk) : Text := btx tb st.reverse
theorem stx_snoc (tb : List Blk) (st : Blk) (pr : Pr) : stx tb (st ++ [pr]) = rep pr.2 (ex tb pr.1) ++ stx tb st := by
  unfold stx
  rw [List.reverse_append]
  rfl
theorem stx_app (tb : List Blk) (st b : Blk) : stx tb (st ++ b.reverse) = btx tb b ++ stx tb st := by
  unfold stx
  rw [List.reverse_append, List.reverse_reverse, btx_app]
structure TabC (tb : List Blk) : Prop where
  ok : TabOk tb
  pos : ∀ b ∈ tb, ∀ pr ∈ b, 1 ≤ pr.2
  two : ∀ b ∈ tb, 2 ≤ b.length ∨ ∃ n t, b = [(n, t)] ∧ 2 ≤ t
theorem ex_pos {tb : List Blk} (hT : TabC tb) : ∀ x, x < 256 + tb.length → 1 ≤ (ex tb x).length ∧ (¬ x < 256 → 2 ≤ (ex tb x).length) := by
  intro x
  induction x using Nat.strongRecOn with
  | ind x ih =>
    intro hx
    by_cases c : x < 256
    · rw [ex_byte c]
      exact ⟨by simp, fun h => absurd c h⟩
    · have hi : x - 256 < tb.length := by omega
      have e : tb[x - 256]? = some tb[x - 256] := List.getElem?_eq_getElem hi
      have ex' : x = 256 + (x - 256) := by omega
      have hm : tb[x - 256] ∈ tb := List.getElem_mem hi
      have h1 := ex_at hT.ok e
      rw [← ex'] at h1
      have hlow := hT.ok.low _ _ e
      have hpos := hT.pos _ hm
      have each : ∀ pr ∈ tb[x - 256], 1 ≤ (rep pr.2 (ex tb pr.1)).length := by
        intro pr hp
        have h2 := hlow pr hp
        have h3 := (ih pr.1 (by omega) (by omega)).1
        rw [rep_len]
        exact Nat.mul_le_mul (hpos pr hp) h3
      have hsum : ∀ b : Blk, (∀ pr ∈ b, 1 ≤ (rep pr.2 (ex tb pr.1)).length) → b.length ≤ (btx tb b).length := by
        intro b
        induction b with
        | nil => intro _; exact Nat.zero_le _
        | cons a b ihb =>
          intro hb
          rw [btx_cons, List.length_append, List.length_cons]
          have := hb a (by simp)
          have := ihb fun pr hp => hb pr (by simp [hp])
          omega
      have h2 : 2 ≤ (ex tb x).length := by
        rw [h1]
        rcases hT.two _ hm with h | ⟨n, t, hb, ht⟩
        · have := hsum _ each
          omega
        · rw [hb] at hlow ⊢
          have h4 := hlow (n, t) (by simp)
          have h3 := (ih n (by simp at h4; omega) (by simp at h4; omega)).1
          rw [btx_cons, List.length_append, rep_len]
          have : 2 * 1 ≤ t * (ex tb n).length := Nat.mul_le_mul ht h3
          simp at this ⊢
          omega
      exact ⟨by omega, fun _ => h2⟩
theorem lev_part {tb : List Blk} (hT : TabOk tb) {i : Nat} {b : Blk} (h : tb[i]? = some b) {pr : Pr} (hp : pr ∈ b) : lev tb pr.1 < lev tb (256 + i) := by
  rw [lev_at hT h]
  have h1 : lvO (levs tb) pr.1 ≤ mx (levs tb) b := le_mx hp
  have h2 : lev tb pr.1 = lvO (levs tb) pr.1 := rfl
  unfold nxt
  omega
def ndO (l : List Nat) (x : Nat) : Nat := if x < 256 then 1 else l.getD (x - 256) 1
def sumN (l : List Nat) (b : Blk) : Nat := (b.map fun pr => pr.2 * ndO l pr.1).sum
def gN (l : List Nat) (b : Blk) : Nat := 1 + sumN l b
def nds (tb : List Blk) : List Nat := tb.foldl (fun l b => l ++ [gN l b]) []
def nd (tb : List Blk) (x : Nat) : Nat := ndO (nds tb) x
def mst (tb : List Blk) (st : Blk) : Nat := sumN (nds tb) st
theorem ndO_take (tb : List Blk) {i x : Nat} (h : x < 256 + i) : ndO (nds (tb.take i)) x = ndO (nds tb) x := by
  have e : nds (tb.take i) = (nds tb).take i := grow_take gN tb i
  unfold ndO
  rw [e]
  split
  · rfl
  · rw [getD_take _ _ _ _ (by omega)]
theorem nd_at {tb : List Blk} (hT : TabOk tb) {i : Nat} {b : Blk} (h : tb[i]? = some b) : nd tb (256 + i) = 1 + mst tb b := by
  unfold nd
  have e : ndO (nds tb) (256 + i) = (nds tb).getD i 1 := by
    unfold ndO
    rw [if_neg (by omega), Nat.add_sub_cancel_left]
  have e2 : (nds tb)[i]? = some (gN (nds (tb.take i)) b) := grow_get gN h
  rw [e, List.getD_eq_getElem?_getD, e2]
  show 1 + sumN (nds (tb.take i)) b = 1 + sumN (nds tb) b
  congr 1
  unfold sumN
  congr 1
  apply List.map_congr_left
  intro pr hp
  rw [ndO_take tb (hT.low i b h pr hp)]
theorem nd_pos {tb : List Blk} (hT : TabOk tb) {x : Nat} (hx : x < 256 + tb.length) : 1 ≤ nd tb x := by
  by_cases c : x < 256
  · have : nd tb x = 1 := by unfold nd ndO; rw [if_pos c]
    omega
  · have hi : x - 256 < tb.length := by omega
    have e : tb[x - 256]? = some tb[x - 256] := List.getElem?_eq_getElem hi
    have ex' : 256 + (x - 256) = x := by omega
    have := nd_at hT e
    rw [ex'] at this
    omega
theorem mst_snoc (tb : List Blk) (st : Blk) (pr : Pr) : mst tb (st ++ [pr]) = mst tb st + pr.2 * nd tb pr.1 := by
  unfold mst sumN
  rw [List.map_append, List.sum_append]
  show _ + (pr.2 * ndO (nds tb) pr.1 + 0) = _
  rfl
theorem mst_app (tb : List Blk) (st b : Blk) : mst tb (st ++ b.reverse) = mst tb st + mst tb b := by
  unfold mst sumN
  rw [List.map_append, List.sum_append, List.map_reverse, List.sum_reverse]
inductive Stk (tb : List Blk) (P0 B M0 : Nat) : Nat → Blk → Prop
  | base {st : Blk} : st.length ≤ P0 → (∀ pr ∈ st, lev tb pr.1 < M0) → Stk tb P0 B M0 M0 st
  | push {M M' : Nat} {st g : Blk} : Stk tb P0 B M0 M st → M' < M → g ≠ [] → g.length ≤ B → (∀ pr ∈ g, lev tb pr.1 < M') → Stk tb P0 B M0 M' (st ++ g)
theorem Stk.le {tb : List Blk} {P0 B M0 M : Nat} {st : Blk} (h : Stk tb P0 B M0 M st) : M ≤ M0 ∧ st.length ≤ P0 + (M0 - M) * B := by
  induction h with
  | base h1 _ => exact ⟨Nat.le_refl _, by omega⟩
  | @push M M' st g _ hM _ hg _ ih =>
    refine ⟨by omega, ?_⟩
    rw [List.length_append]
    have h1 : (M0 - M) * B + B ≤ (M0 - M') * B := by
      have : (M0 - M + 1) * B ≤ (M0 - M') * B := Nat.mul_le_mul_right _ (by omega)
      rw [Nat.succ_mul] at this
      exact this
    omega
def SB (tb : List Blk) (P0 B M0 : Nat) (st : Blk) : Prop := ∃ M, Stk tb P0 B M0 M st
theorem SB.len {tb : List Blk} {P0 B M0 : Nat} {st : Blk} (h : SB tb P0 B M0 st) : st.length ≤ P0 + M0 * B := by
  obtain ⟨M, h⟩ := h
  have h1 := h.le
  have h2 : (M0 - M) * B ≤ M0 * B := Nat.mul_le_mul_right _ (by omega)
  omega
theorem stk_pop {tb : List Blk} {P0 B M0 M : Nat} {w : Blk} (h : Stk tb P0 B M0 M w) : ∀ {st : Blk} {pr : Pr}, w = st ++ [pr] → lev tb pr.1 < M ∧ (∃ M', M ≤ M' ∧ Stk tb P0 B M0 M' st) ∧ ∀ pr' : Pr, lev tb pr'.1 = lev tb pr.1 → Stk tb P0 B M0 M (st ++ [pr']) := by
  cases h with
  | base h1 h2 =>
    intro st pr e
    subst e
    refine ⟨h2 pr (by simp), ⟨M0, Nat.le_refl _, .base (by simp at h1; omega) fun q hq => h2 q (by simp [hq])⟩, fun pr' hp' => .base (by simpa using h1) fun q hq => ?_⟩
    rcases List.mem_append.mp hq with hq | hq
    · exact h2 q (by simp [hq])
    · rw [List.mem_singleton.mp hq, hp']
      exact h2 pr (by simp)
  | @push M2 _ s0 g h hM hne hg hl =>
    intro st pr e
    rcases last_cases g with rfl | ⟨g', x, rfl⟩
    · exact absurd rfl hne
    · rw [← List.append_assoc] at e
      have e2 := List.append_inj' e rfl
      have ex : x = pr := by simpa using e2.2
      subst ex
      refine ⟨hl x (by simp), ?_, fun pr' hp' => ?_⟩
      · by_cases c : g' = []
        · refine ⟨M2, by omega, ?_⟩
          rw [← e2.1, c, List.append_nil]
          exact h
        · refine ⟨M, Nat.le_refl _, ?_⟩
          rw [← e2.1]
          exact .push h hM c (by simp at hg; omega) fun q hq => hl q (by simp [hq])
      · rw [← e2.1, List.append_assoc]
        refine .push h hM (by simp) (by simpa using hg) fun q hq => ?_
        rcases List.mem_append.mp hq with hq | hq
        · exact hl q (by simp [hq])
        · rw [List.mem_singleton.mp hq, hp']
          exact hl x (by simp)
theorem SB.pop {tb : List Blk} {P0 B M0 : Nat} {st : Blk} {pr : Pr} (h : SB tb P0 B M0 (st ++ [pr])) : SB tb P0 B M0 st := by
  obtain ⟨M, h⟩ := h
  obtain ⟨_, ⟨M', _, h'⟩, _⟩ := stk_pop h rfl
  exact ⟨M', h'⟩
theorem SB.less {tb : List Blk} {P0 B M0 : Nat} {st : Blk} {n t t' : Nat} (h : SB tb P0 B M0 (st ++ [(n, t)])) : SB tb P0 B M0 (st ++ [(n, t')]) := by
  obtain ⟨M, h⟩ := h
  exact ⟨M, (stk_pop h rfl).2.2 (n, t') rfl⟩
theorem SB.open_ {tb : List Blk} {P0 B M0 : Nat} {st : Blk} {i t : Nat} {b : Blk} (hT : TabOk tb) (hb : tb[i]? = some b) (hne : b ≠ []) (hlen : b.length ≤ B) (h : SB tb P0 B M0 (st ++ [(256 + i, t)])) : SB tb P0 B M0 (st ++ b.reverse) ∧ ∀ t', SB tb P0 B M0 (st ++ [(256 + i, t')] ++ b.reverse) := by
  obtain ⟨M, h⟩ := h
  obtain ⟨hl, ⟨M', hM', h'⟩, h3⟩ := stk_pop h rfl
  have hg : ∀ pr ∈ b.reverse, lev tb pr.1 < lev tb (256 + i) := fun pr hp => lev_part hT hb (List.mem_reverse.mp hp)
  have hr : b.reverse ≠ [] := by simpa using hne
  have hrl : b.reverse.length ≤ B := by rw [List.length_reverse]; exact hlen
  have hl' : lev tb (256 + i) < M := hl
  exact ⟨⟨_, .push h' (by omega) hr hrl hg⟩, fun t' => ⟨_, .push (h3 (256 + i, t') rfl) hl' hr hrl hg⟩⟩
def less (st : Blk) (n t m : Nat) : Blk := if t > m then st ++ [(n, t - m)] else st
theorem less_tx {tb : List Blk} {st : Blk} {n t m : Nat} (h : m ≤ t) : stx tb (st ++ [(n, t)]) = rep m (ex tb n) ++ stx tb (less st n t m) := by
  unfold less
  rw [stx_snoc]
  split
  · rw [stx_snoc, ← List.append_assoc, ← rep_add]
    congr 3
    show t = m + (t - m)
    omega
  · have : t = m := by omega
    rw [this]
theorem less_mst {tb : List Blk} {st : Blk} {n t m : Nat} (h : m ≤ t) : mst tb (st ++ [(n, t)]) = m * nd tb n + mst tb (less st n t m) := by
  unfold less
  rw [mst_snoc]
  split
  · rw [mst_snoc]
    have : t * nd tb n = m * nd tb n + (t - m) * nd tb n := by rw [← Nat.add_mul]; congr 1; omega
    show _ + t * nd tb n = _ + (_ + (t - m) * nd tb n)
    omega
  · have : t = m := by omega
    rw [this]
    show _ + m * nd tb n = _
    omega
theorem less_sb {tb : List Blk} {P0 B M0 : Nat} {st : Blk} {n t m : Nat} (h : SB tb P0 B M0 (st ++ [(n, t)])) : SB tb P0 B M0 (less st n t m) := by
  unfold less
  split
  · exact h.less
  · exact h.pop
theorem open_tx {tb : List Blk} (hT : TabOk tb) {st : Blk} {i t : Nat} {b : Blk} (hb : tb[i]? = some b) (ht : 1 ≤ t) : stx tb (less st (256 + i) t 1 ++ b.reverse) = stx tb (st ++ [(256 + i, t)]) := by
  rw [stx_app, less_tx (m := 1) ht, rep_one, ex_at hT hb]
theorem open_mst {tb : List Blk} (hT : TabOk tb) {st : Blk} {i t : Nat} {b : Blk} (hb : tb[i]? = some b) (ht : 1 ≤ t) : mst tb (less st (256 + i) t 1 ++ b.reverse) + 1 = mst tb (st ++ [(256 + i, t)]) := by
  rw [mst_app, less_mst (m := 1) ht, nd_at hT hb]
  omega
theorem open_sb {tb : List Blk} {P0 B M0 : Nat} {st : Blk} {i t : Nat} {b : Blk} (hT : TabOk tb) (hb : tb[i]? = some b) (hne : b ≠ []) (hlen : b.length ≤ B) (h : SB tb P0 B M0 (st ++ [(256 + i, t)])) : SB tb P0 B M0 (less st (256 + i) t 1 ++ b.reverse) := by
  obtain ⟨h1, h2⟩ := SB.open_ hT hb hne hlen h
  unfold less
  split
  · exact h2 _
  · exact h1
def PrOk (tb : List Blk) (st : Blk) : Prop := ∀ pr ∈ st, 1 ≤ pr.2 ∧ pr.1 < 256 + tb.length
theorem PrOk.less {tb : List Blk} {st : Blk} {n t m : Nat} (h : PrOk tb (st ++ [(n, t)])) (hm : 1 ≤ m) : PrOk tb (B47.less st n t m) := by
  unfold B47.less
  have h1 := h (n, t) (by simp)
  split
  · intro pr hp
    rcases List.mem_append.mp hp with hp | hp
    · exact h pr (by simp [hp])
    · rw [List.mem_singleton.mp hp]
      exact ⟨by show 1 ≤ t - m; omega, h1.2⟩
  · intro pr hp
    exact h pr (by simp [hp])
theorem PrOk.open_ {tb : List Blk} (hT : TabC tb) {st : Blk} {i t : Nat} {b : Blk} (hb : tb[i]? = some b) (h : PrOk tb (st ++ [(256 + i, t)])) : PrOk tb (B47.less st (256 + i) t 1 ++ b.reverse) := by
  intro pr hp
  rcases List.mem_append.mp hp with hp | hp
  · exact h.less (Nat.le_refl _) pr hp
  · have hm := List.mem_reverse.mp hp
    have h1 := hT.pos b (List.mem_of_getElem? hb) pr hm
    have h2 := hT.ok.low i b hb pr hm
    have h3 := (List.getElem?_eq_some_iff.mp hb).1
    exact ⟨h1, by omega⟩
theorem pass_common {tb : List Blk} {s1 s2 : Blk} {n t1 t2 : Nat} : common (stx tb (s1 ++ [(n, t1)])) (stx tb (s2 ++ [(n, t2)])) = (ex tb n).length * (min t1 t2) + common (stx tb (less s1 n t1 (min t1 t2))) (stx tb (less s2 n t2 (min t1 t2))) := by
  rw [less_tx (m := min t1 t2) (Nat.min_le_left _ _), less_tx (m := min t1 t2) (Nat.min_le_right _ _), common_append, rep_len, Nat.mul_comm]
theorem part_common {tb : List Blk} {s1 s2 : Blk} {n1 n2 t1 t2 : Nat} (h1 : n1 < 256) (h2 : n2 < 256) (hn : n1 ≠ n2) (ht1 : 1 ≤ t1) (ht2 : 1 ≤ t2) : common (stx tb (s1 ++ [(n1, t1)])) (stx tb (s2 ++ [(n2, t2)])) = 0 := by
  obtain ⟨k1, rfl⟩ : ∃ k, t1 = k + 1 := ⟨t1 - 1, by omega⟩
  obtain ⟨k2, rfl⟩ : ∃ k, t2 = k + 1 := ⟨t2 - 1, by omega⟩
  rw [stx_snoc, stx_snoc]
  show common (rep (k1 + 1) (ex tb n1) ++ _) (rep (k2 + 1) (ex tb n2) ++ _) = 0
  rw [rep_succ, rep_succ, ex_byte h1, ex_byte h2]
  show (if n1 = n2 then _ else 0) = 0
  rw [if_neg hn]
end B47
namespace B47
open Sz47
def xp (r : Blk) : List Nat := (r.map fun pr => List.replicate pr.2 pr.1).flatten
theorem xp_app (a b : Blk) : xp (a ++ b) = xp a ++ xp b := by unfold xp; rw [List.map_append, List.flatten_append]
theorem xp_one (n t : Nat) : xp [(n, t)] = List.replicate t n := by unfold xp; simp
theorem xp_ones (s : List Nat) : xp (s.map fun n => (n, 1)) = s := by
  induction s with
  | nil => rfl
  | cons a s ih =>
    rw [List.map_cons, show (a, 1) :: s.map (fun n => (n, 1)) = [(a, 1)] ++ s.map (fun n => (n, 1)) from rfl, xp_app, xp_one, ih]
    rfl
theorem seg_more {p : Nat → Nat → Bool} {x z : List Nat} {n : Nat} (hc : Chain p (n :: z)) :
    (seg p x = [] → seg p (x ++ n :: z) = [n :: z]) ∧ ∀ q s y, seg p x = q ++ [s ++ [y]] → seg p (x ++ n :: z) = if p y n = true then q ++ [s ++ [y] ++ n :: z] else q ++ [s ++ [y]] ++ [n :: z] := by
  have e : seg p (x ++ n :: z) = z.foldl (stp p) (stp p (seg p x) n) := by
    unfold seg
    rw [List.foldl_append]
    rfl
  refine ⟨fun h => ?_, fun q s y h => ?_⟩
  · rw [e, h, stp_nil]
    exact fold_of_chain z [] n hc
  · rw [e, h, stp_snoc]
    split
    · have := fold_front (p := p) z (q := q) (s := s ++ [y] ++ [n]) (by simp)
      rw [this, fold_of_chain z (s ++ [y]) n hc]
      simp
    · have := fold_front (p := p) z (q := q ++ [s ++ [y]]) (s := [n]) (by simp)
      rw [this]
      have := fold_of_chain z [] n hc
      rw [List.nil_append] at this
      rw [this]
      simp
theorem chain_rep {L : Nat} (h : L % 3 = 0) (n : Nat) : ∀ t, Chain (rl L) (n :: List.replicate t n)
  | 0 => by simp [Chain]
  | t + 1 => by
    rw [List.replicate_succ]
    refine ⟨?_, chain_rep h n t⟩
    unfold rl
    rw [if_pos h]
    simp
theorem rl0 {L : Nat} (h : L % 3 = 0) : rl L = rl 0 := by
  funext u v
  unfold rl
  rw [if_pos h, if_pos rfl]
theorem blk0 {L : Nat} (h : L % 3 = 0) : blkOf L = blkOf 0 := by
  funext s
  unfold blkOf
  rw [if_pos h, if_pos rfl]
theorem blkS {L : Nat} (h : ¬ L % 3 = 0) (s : List Nat) : blkOf L s = s.map fun n => (n, 1) := by
  unfold blkOf
  rw [if_neg h]
theorem blkA (s : List Nat) : blkOf 0 s = [(s.headD 0, s.length)] := rfl
theorem alike_step {x : List Nat} {n t : Nat} (ht : 1 ≤ t) :
    (seg (rl 0) x = [] → seg (rl 0) (x ++ List.replicate t n) = [List.replicate t n]) ∧
    ∀ q s, seg (rl 0) x = q ++ [s] → (s.headD 0 = n → ∃ s', seg (rl 0) (x ++ List.replicate t n) = q ++ [s'] ∧ blkOf 0 s' = [(n, s.length + t)]) ∧ (s.headD 0 ≠ n → seg (rl 0) (x ++ List.replicate t n) = q ++ [s] ++ [List.replicate t n]) := by
  obtain ⟨t, rfl⟩ : ∃ k, t = k + 1 := ⟨t - 1, by omega⟩
  have hm := seg_more (x := x) (chain_rep (L := 0) rfl n t)
  rw [List.replicate_succ]
  refine ⟨hm.1, fun q s h => ?_⟩
  have hs : s ∈ seg (rl 0) x := by rw [h]; simp
  have hne := seg_ne x s hs
  have hc := seg_chain x s hs
  have hall : ∀ u ∈ s, u = s.headD 0 := by
    cases s with
    | nil => exact absurd rfl hne
    | cons a s => exact chain_same rfl s a hc
  rcases last_cases s with rfl | ⟨s0, y, rfl⟩
  · exact absurd rfl hne
  have hy := hall y (by simp)
  have h2 := hm.2 q s0 y h
  refine ⟨fun hn => ?_, fun hn => ?_⟩
  · rw [if_pos (by unfold rl; simp; omega)] at h2
    refine ⟨_, h2, ?_⟩
    rw [blkA]
    have e1 : (s0 ++ [y] ++ n :: List.replicate t n).headD 0 = n := by
      cases s0 with
      | nil => simp at hn ⊢; exact hn
      | cons a s0 => simp at hn ⊢; exact hn
    rw [e1]
    simp
    omega
  · rw [if_neg (by unfold rl; simp; omega)] at h2
    exact h2
theorem slope_step {L : Nat} {x : List Nat} {n : Nat} :
    (seg (rl L) x = [] → seg (rl L) (x ++ [n]) = [[n]]) ∧ ∀ q s y, seg (rl L) x = q ++ [s ++ [y]] → seg (rl L) (x ++ [n]) = if rl L y n = true then q ++ [s ++ [y] ++ [n]] else q ++ [s ++ [y]] ++ [[n]] :=
  seg_more (x := x) (z := []) (n := n) (by simp [Chain])
theorem blk_rep {n t : Nat} (ht : 1 ≤ t) : blkOf 0 (List.replicate t n) = [(n, t)] := by
  obtain ⟨t, rfl⟩ : ∃ k, t = k + 1 := ⟨t - 1, by omega⟩
  rw [blkA, List.length_replicate, List.replicate_succ]
  rfl
end B47
namespace B47
theorem chain_rep_eq {s : List Nat} (h : Chain (rl 0) s) : s = List.replicate s.length (s.headD 0) := by
  cases s with
  | nil => rfl
  | cons a s =>
    have := chain_same (L := 0) rfl s a h
    rw [List.eq_replicate_iff]
    exact ⟨rfl, fun b hb => this b hb⟩
theorem xp_blkE {L : Nat} {s : List Nat} (h : Chain (rl L) s) : xp (blkE L s) = s := by
  unfold blkE
  split
  · next c => rw [c]; rfl
  · by_cases c : L % 3 = 0
    · rw [rl0 c] at h
      rw [blk0 c, blkA, xp_one]
      exact (chain_rep_eq h).symm
    · rw [blkS c, xp_ones]
theorem blkE_pos {L : Nat} {s : List Nat} : ∀ pr ∈ blkE L s, 1 ≤ pr.2 := by
  intro pr hp
  unfold blkE at hp
  split at hp
  · cases hp
  · next hs =>
    by_cases c : L % 3 = 0
    · rw [blk0 c, blkA] at hp
      simp at hp
      subst hp
      exact List.length_pos_iff.mpr hs
    · rw [blkS c] at hp
      obtain ⟨n, _, rfl⟩ := List.mem_map.mp hp
      exact Nat.le_refl _
theorem blkE_one {L : Nat} {s : List Nat} (c : L % 3 ≠ 0) : ∀ pr ∈ blkE L s, pr.2 = 1 := by
  intro pr hp
  unfold blkE at hp
  split at hp
  · cases hp
  · rw [blkS c] at hp
    obtain ⟨n, _, rfl⟩ := List.mem_map.mp hp
    rfl
theorem blkE_of {L : Nat} {s : List Nat} (h : s ≠ []) : blkE L s = blkOf L s := by
  unfold blkE
  rw [if_neg h]
def jrow (L : Nat) (x b y : List Nat) : Blk := blkE L x ++ b.map (fun n => (n, 1)) ++ blkE L y
theorem jrow_xp {L : Nat} {x b y : List Nat} (hx : Chain (rl L) x) (hy : Chain (rl L) y) : xp (jrow L x b y) = x ++ b ++ y := by
  unfold jrow
  rw [xp_app, xp_app, xp_blkE hx, xp_blkE hy, xp_ones]
theorem jrow_pos {L : Nat} {x b y : List Nat} : ∀ pr ∈ jrow L x b y, 1 ≤ pr.2 := by
  intro pr hp
  unfold jrow at hp
  rcases List.mem_append.mp hp with hp | hp
  · rcases List.mem_append.mp hp with hp | hp
    · exact blkE_pos pr hp
    · obtain ⟨n, _, rfl⟩ := List.mem_map.mp hp
      exact Nat.le_refl _
  · exact blkE_pos pr hp
theorem jrow_one {L : Nat} {x b y : List Nat} (c : L % 3 ≠ 0) : ∀ pr ∈ jrow L x b y, pr.2 = 1 := by
  intro pr hp
  unfold jrow at hp
  rcases List.mem_append.mp hp with hp | hp
  · rcases List.mem_append.mp hp with hp | hp
    · exact blkE_one c pr hp
    · obtain ⟨n, _, rfl⟩ := List.mem_map.mp hp
      rfl
  · exact blkE_one c pr hp
theorem jrow_len {L : Nat} {x b y : List Nat} : (jrow L x b y).length = (blkE L x).length + b.length + (blkE L y).length := by
  unfold jrow
  rw [List.length_append, List.length_append, List.length_map]
theorem edge_le {bs : List Blk} {mi r : Blk} {L n : Nat} (h : (if L < bs.length then bs[L]? else some (if L = bs.length then mi else [])) = some r) (hb : ∀ b ∈ bs, b.length ≤ n) (hm : mi.length ≤ n) : r.length ≤ n := by
  split at h
  · exact hb r (List.mem_of_getElem? h)
  · have := Option.some.inj h
    subst this
    split
    · exact hm
    · exact Nat.zero_le _
end B47
set_option linter.all false
namespace B47
open Sz47 M47
abbrev mids (tb : List Blk) (tx ty b : List Nat) (L : Nat) : List (List Nat) := seg (rl L) (lastP (sg tb tx L) ++ b ++ firstP (sg tb ty L))
structure JSt (tb : List Blk) (tx ty : List Nat) (L : Nat) (bf : Nat → List Nat) (fs bs : List Blk) : Prop where
  known : Known tb (tx ++ ty) L
  rows : ∀ l, l ≤ L → rw_ tb (tx ++ ty) l = rw_ tb tx l ++ bf l ++ rw_ tb ty l
  short : ∀ l, l ≤ L → Short l (bf l)
  fl : fs.length = L
  bl : bs.length = L
  two : ∀ l, l < L → 2 ≤ (sg tb (tx ++ ty) l).length
  frs : ∀ l, l < L → fs[l]? = some (blkOf l (firstP (sg tb (tx ++ ty) l)))
  bas : ∀ l, l < L → bs[l]? = some (blkOf l (lastP (sg tb (tx ++ ty) l)))
theorem jst_zero (tb : List Blk) (tx ty : List Nat) : JSt tb tx ty 0 (fun _ => []) [] [] := by
  refine ⟨fun L h => by omega, fun l h => ?_, fun l h => ?_, rfl, rfl, fun l h => by omega, fun l h => by omega, fun l h => by omega⟩
  · have e : l = 0 := by omega
    subst e
    show tx ++ ty = tx ++ [] ++ ty
    simp
  · have e : l = 0 := by omega
    subst e
    exact short_zero
variable {tb e : List Blk} {tx ty : List Nat} {L : Nat} {bf : Nat → List Nat} {fs bs : List Blk}
theorem JSt.sgt (h : JSt tb tx ty L bf fs bs) : sg tb (tx ++ ty) L = (sg tb tx L).dropLast ++ mids tb tx ty (bf L) L ++ (sg tb ty L).tail := by
  unfold sg
  rw [h.rows L (Nat.le_refl _), seg_join]
theorem part_ne {t : List Nat} (h : sg tb t L ≠ []) : firstP (sg tb t L) ≠ [] ∧ lastP (sg tb t L) ≠ [] := by
  have hne := seg_ne (p := rl L) (rw_ tb t L)
  constructor
  · cases e : sg tb t L with
    | nil => exact absurd e h
    | cons s q =>
      show s ≠ []
      exact hne s (by show s ∈ sg tb t L; rw [e]; simp)
  · rcases last_cases (sg tb t L) with e | ⟨q, s, e⟩
    · exact absurd e h
    · have : lastP (q ++ [s]) = s := by unfold lastP; simp [List.getLastD_eq_getLast?]
      rw [e, this]
      exact hne s (by show s ∈ sg tb t L; rw [e]; simp)
theorem mids_ne {b : List Nat} (h : 2 ≤ (sg tb tx L).length ∨ 2 ≤ (sg tb ty L).length) : mids tb tx ty b L ≠ [] := by
  intro e
  have hf := seg_flat (p := rl L) (lastP (sg tb tx L) ++ b ++ firstP (sg tb ty L))
  rw [show seg (rl L) (lastP (sg tb tx L) ++ b ++ firstP (sg tb ty L)) = [] from e] at hf
  have hf2 : lastP (sg tb tx L) ++ b ++ firstP (sg tb ty L) = [] := hf.symm
  rw [List.append_eq_nil_iff, List.append_eq_nil_iff] at hf2
  rcases h with h | h
  · exact (part_ne (tb := tb) (t := tx) (L := L) (by intro c; rw [c] at h; simp at h)).2 hf2.1.1
  · exact (part_ne (tb := tb) (t := ty) (L := L) (by intro c; rw [c] at h; simp at h)).1 hf2.2
theorem drop_nil {α : Type} {l : List α} (h : l.length < 2) : l.dropLast = [] ∧ l.tail = [] := by
  match l, h with
  | [], _ => exact ⟨rfl, rfl⟩
  | [a], _ => exact ⟨rfl, rfl⟩
theorem lastP_snoc (q : List (List Nat)) (s : List Nat) : lastP (q ++ [s]) = s := by unfold lastP; simp [List.getLastD_eq_getLast?]
theorem JSt.first1 (h : JSt tb tx ty L bf fs bs) (hx : 2 ≤ (sg tb tx L).length) : firstP (sg tb (tx ++ ty) L) = firstP (sg tb tx L) := by
  rw [h.sgt]
  match e : sg tb tx L, hx with
  | a :: b :: r, _ => rfl
theorem JSt.first2 (h : JSt tb tx ty L bf fs bs) (hx : (sg tb tx L).length < 2) {s : List Nat} {m : List (List Nat)} (hm : mids tb tx ty (bf L) L = s :: m) : firstP (sg tb (tx ++ ty) L) = s := by
  rw [h.sgt, (drop_nil hx).1, hm]
  rfl
theorem JSt.last1 (h : JSt tb tx ty L bf fs bs) (hy : 2 ≤ (sg tb ty L).length) : lastP (sg tb (tx ++ ty) L) = lastP (sg tb ty L) := by
  rw [h.sgt]
  rcases last_cases (sg tb ty L) with e | ⟨q, s, e⟩
  · rw [e] at hy; simp at hy
  · rw [e, lastP_snoc]
    cases q with
    | nil => rw [e] at hy; simp at hy
    | cons a q =>
      rw [List.cons_append, List.tail_cons, ← List.append_assoc]
      exact lastP_snoc _ _
theorem JSt.last2 (h : JSt tb tx ty L bf fs bs) (hy : (sg tb ty L).length < 2) {s : List Nat} {m : List (List Nat)} (hm : mids tb tx ty (bf L) L = m ++ [s]) : lastP (sg tb (tx ++ ty) L) = s := by
  rw [h.sgt, (drop_nil hy).2, hm, List.append_nil, ← List.append_assoc]
  exact lastP_snoc _ _
theorem JSt.more (h : JSt tb tx ty L bf fs bs) (hn : ¬ ((mids tb tx ty (bf L) L).length < 2 ∧ (sg tb tx L).length < 2 ∧ (sg tb ty L).length < 2)) : 2 ≤ (sg tb (tx ++ ty) L).length := by
  rw [h.sgt, List.length_append, List.length_append, List.length_dropLast, List.length_tail]
  by_cases c : 2 ≤ (sg tb tx L).length ∨ 2 ≤ (sg tb ty L).length
  · have := List.length_pos_iff.mpr (mids_ne (b := bf L) c)
    omega
  · omega
theorem JSt.next (h : JSt tb tx ty L bf fs bs) (hT : TabOk (tb ++ e)) (ht : ∀ c ∈ tx ++ ty, c < 256) (hx : ∀ N, Known tb tx N) (hy : ∀ N, Known tb ty N)
    (hgo : ∀ s ∈ goesOn (sg tb tx L) (sg tb ty L) (mids tb tx ty (bf L) L), s.length = 1 ∨ blkOf L s ∈ tb ++ e) (h2 : 2 ≤ (sg tb (tx ++ ty) L).length) :
    JSt (tb ++ e) tx ty (L + 1) (fun l => if l = L + 1 then (goesOn (sg tb tx L) (sg tb ty L) (mids tb tx ty (bf L) L)).map (fun s => nm (tb ++ e) (blkOf L s)) else bf l)
      (fs ++ [blkOf L (firstP (sg tb (tx ++ ty) L))]) (bs ++ [blkOf L (lastP (sg tb (tx ++ ty) L))]) := by
  have er : ∀ l, l ≤ L → rw_ (tb ++ e) (tx ++ ty) l = rw_ tb (tx ++ ty) l := fun l hl => rw_ext h.known l hl
  have ex : ∀ l, rw_ (tb ++ e) tx l = rw_ tb tx l := fun l => rw_ext (hx l) l (Nat.le_refl _)
  have ey : ∀ l, rw_ (tb ++ e) ty l = rw_ tb ty l := fun l => rw_ext (hy l) l (Nat.le_refl _)
  have esx : ∀ l, sg (tb ++ e) tx l = sg tb tx l := fun l => by unfold sg; rw [ex]
  have esy : ∀ l, sg (tb ++ e) ty l = sg tb ty l := fun l => by unfold sg; rw [ey]
  have est : ∀ l, l ≤ L → sg (tb ++ e) (tx ++ ty) l = sg tb (tx ++ ty) l := fun l hl => by unfold sg; rw [er l hl]
  have hrow : rw_ (tb ++ e) (tx ++ ty) L = rw_ (tb ++ e) tx L ++ bf L ++ rw_ (tb ++ e) ty L := by rw [er L (Nat.le_refl _), ex, ey]; exact h.rows L (Nat.le_refl _)
  have hkn : Known (tb ++ e) (tx ++ ty) (L + 1) := by
    intro l hl s hs
    by_cases c : l < L
    · exact known_ext h.known l c s hs
    · have e1 : l = L := by omega
      subst e1
      rw [hrow, inner_join] at hs
      rcases List.mem_append.mp hs with hs | hs
      · rcases List.mem_append.mp hs with hs | hs
        · exact known_ext (hx (l + 1)) l (by omega) s hs
        · have hs' : s ∈ goesOn (sg (tb ++ e) tx l) (sg (tb ++ e) ty l) (seg (rl l) (lastP (sg (tb ++ e) tx l) ++ bf l ++ firstP (sg (tb ++ e) ty l))) := hs
          rw [esx, esy] at hs'
          exact hgo s hs'
      · exact known_ext (hy (l + 1)) l (by omega) s hs
  have hnext := row_join (tb := tb ++ e) hrow
  have hsh := short_next hT ht (known_le hkn (by omega)) hrow (h.short L (Nat.le_refl _))
  have eg : goesOn (seg (rl L) (rw_ (tb ++ e) tx L)) (seg (rl L) (rw_ (tb ++ e) ty L)) (seg (rl L) (lastP (seg (rl L) (rw_ (tb ++ e) tx L)) ++ bf L ++ firstP (seg (rl L) (rw_ (tb ++ e) ty L)))) = goesOn (sg tb tx L) (sg tb ty L) (mids tb tx ty (bf L) L) := by rw [ex, ey]
  rw [eg] at hnext hsh
  refine ⟨hkn, fun l hl => ?_, fun l hl => ?_, by simp [h.fl], by simp [h.bl], fun l hl => ?_, fun l hl => ?_, fun l hl => ?_⟩
  · by_cases c : l = L + 1
    · subst c
      simp only [if_true]
      exact hnext
    · simp only [if_neg c]
      rw [er l (by omega), ex, ey]
      exact h.rows l (by omega)
  · by_cases c : l = L + 1
    · subst c
      simp only [if_true]
      exact hsh.2
    · simp only [if_neg c]
      exact h.short l (by omega)
  · rw [est l (by omega)]
    by_cases c : l = L
    · subst c; exact h2
    · exact h.two l (by omega)
  · rw [est l (by omega)]
    by_cases c : l = L
    · subst c
      rw [List.getElem?_append_right (by rw [h.fl]; exact Nat.le_refl _), h.fl, Nat.sub_self]
      rfl
    · rw [List.getElem?_append_left (by rw [h.fl]; omega)]
      exact h.frs l (by omega)
  · rw [est l (by omega)]
    by_cases c : l = L
    · subst c
      rw [List.getElem?_append_right (by rw [h.bl]; exact Nat.le_refl _), h.bl, Nat.sub_self]
      rfl
    · rw [List.getElem?_append_left (by rw [h.bl]; omega)]
      exact h.bas l (by omega)
theorem JSt.done (h : JSt tb tx ty L bf fs bs) {f1 b1 f2 b2 : List Blk} {m1 m2 : Blk} (l1 : Lay tb tx f1 m1 b1) (l2 : Lay tb ty f2 m2 b2) (hm : (mids tb tx ty (bf L) L).length < 2) (hx : (sg tb tx L).length < 2) (hy : (sg tb ty L).length < 2) :
    Lay tb (tx ++ ty) fs (match mids tb tx ty (bf L) L with | [] => [] | s :: _ => blkOf L s) bs ∧ ∀ l, rw_ tb (tx ++ ty) l = rw_ tb tx l ++ (if l ≤ L then bf l else []) ++ rw_ tb ty l := by
  have es : sg tb (tx ++ ty) L = mids tb tx ty (bf L) L := by rw [h.sgt, (drop_nil hx).1, (drop_nil hy).2]; simp
  have hf := seg_flat (p := rl L) (rw_ tb (tx ++ ty) L)
  have hone : (sg tb (tx ++ ty) L).length < 2 := by rw [es]; exact hm
  refine ⟨⟨by rw [h.bl, h.fl], fun l hl => h.two l (by rw [h.fl] at hl; exact hl), fun l hl => h.frs l (by rw [h.fl] at hl; exact hl), fun l hl => h.bas l (by rw [h.fl] at hl; exact hl), by rw [h.fl]; exact hone, ?_, known_all h.known hone⟩, fun l => ?_⟩
  · rw [h.fl]
    unfold blkE
    have hf' : (sg tb (tx ++ ty) L).flatten = rw_ tb (tx ++ ty) L := hf
    rw [← hf', es]
    match hq : mids tb tx ty (bf L) L, hm with
    | [], _ => simp
    | [s], _ =>
      have hs : s ≠ [] := seg_ne _ s (by show s ∈ mids tb tx ty (bf L) L; rw [hq]; simp)
      simp [hs]
  · by_cases c : l ≤ L
    · rw [if_pos c]; exact h.rows l c
    · rw [if_neg c]
      obtain ⟨k, rfl⟩ : ∃ k, l = L + 1 + k := ⟨l - (L + 1), by omega⟩
      rw [few_after hone k, few_after hx k, few_after hy k]
      rfl
theorem row_lt (ht : ∀ c ∈ tx, c < 256) {N : Nat} (hK : Known tb tx N) : ∀ l, l ≤ N → ∀ u ∈ rw_ tb tx l, u < 256 + tb.length
  | 0, _, u, hu => by have := ht u hu; omega
  | l + 1, hl, u, hu => by
    obtain ⟨s, hs, rfl⟩ := List.mem_map.mp hu
    rcases hK l (by omega) s hs with h | h
    · obtain ⟨v, rfl⟩ := one_of h
      rw [blk_one, nm_one]
      refine row_lt ht hK l (by omega) v ?_
      rw [← seg_flat (p := rl l) (rw_ tb tx l)]
      exact List.mem_flatten.mpr ⟨_, inner_mem hs, by simp⟩
    · by_cases c : ∃ v, blkOf l s = [(v, 1)]
      · obtain ⟨v, hv⟩ := c
        rw [hv, nm_one]
        have hsn := seg_ne _ s (inner_mem hs)
        have hb := (blk_elems (seg_chain _ s (inner_mem hs)) hsn).1 (v, 1) (by rw [hv]; simp)
        refine row_lt ht hK l (by omega) v ?_
        rw [← seg_flat (p := rl l) (rw_ tb tx l)]
        exact List.mem_flatten.mpr ⟨_, inner_mem hs, hb⟩
      · rw [nm_more fun v hv => c ⟨v, hv⟩]
        have := List.idxOf_lt_length_of_mem h
        omega
theorem row_len : ∀ l, (rw_ tb tx l).length ≤ tx.length
  | 0 => Nat.le_refl _
  | l + 1 => by
    have ih := row_len l
    have h1 := seg_len (p := rl l) (rw_ tb tx l)
    show (List.map _ (inner (seg (rl l) (rw_ tb tx l)))).length ≤ _
    rw [List.length_map, inner_len]
    omega
end B47
namespace B47
theorem blk_ne {L : Nat} {s : List Nat} (h : s ≠ []) : blkOf L s ≠ [] := by
  unfold blkOf
  split
  · simp
  · simpa using h
theorem tabc_ext {tb : List Blk} (hT : TabC tb) {L : Nat} {s : List Nat} (hs : s ≠ []) (hn : blkOf L s ∉ tb) (ho : ∀ u, blkOf L s ≠ [(u, 1)]) (hl : ∀ pr ∈ blkOf L s, pr.1 < 256 + tb.length) : TabC (tb ++ [blkOf L s]) := by
  have hp : ∀ pr ∈ blkOf L s, 1 ≤ pr.2 := fun pr h => blkE_pos (L := L) (s := s) pr (by rw [blkE_of hs]; exact h)
  refine ⟨tab_ext hT.ok hn hl, fun b hb pr hpr => ?_, fun b hb => ?_⟩
  · rcases List.mem_append.mp hb with h | h
    · exact hT.pos b h pr hpr
    · rw [List.mem_singleton] at h
      subst h
      exact hp pr hpr
  · rcases List.mem_append.mp hb with h | h
    · exact hT.two b h
    · rw [List.mem_singleton] at h
      subst h
      generalize hq : blkOf L s = q at *
      match q, hq with
      | [], e => exact absurd e (blk_ne hs)
      | [(n, t)], e =>
        refine .inr ⟨n, t, rfl, ?_⟩
        have h1 := hp (n, t) (by simp)
        have h2 : t ≠ 1 := fun c => ho n (by rw [c])
        have h3 : 1 ≤ t := h1
        omega
      | a :: b :: r, e => exact .inl (by simp)
theorem one_len {L : Nat} {s : List Nat} (hs : s ≠ []) {u : Nat} (h : blkOf L s = [(u, 1)]) : s.length = 1 := by
  have h1 := List.length_pos_iff.mpr hs
  by_cases c : 2 ≤ s.length
  · exact absurd h (blk_more c u)
  · omega
theorem nm_grow {tb e : List Blk} {L : Nat} {s : List Nat} (h : s.length = 1 ∨ blkOf L s ∈ tb) : nm (tb ++ e) (blkOf L s) = nm tb (blkOf L s) := by
  rcases h with h | h
  · obtain ⟨u, rfl⟩ := one_of h
    rw [blk_one, nm_one, nm_one]
  · exact nm_ext h
theorem goes_mem {S1 S2 m : List (List Nat)} {s : List Nat} (h : s ∈ goesOn S1 S2 m) : s ∈ m := by
  unfold goesOn at h
  by_cases c1 : S1.length < 2
  · by_cases c2 : S2.length < 2
    · simp only [if_pos c1, if_pos c2] at h
      exact List.mem_of_mem_tail ((List.dropLast_sublist _).subset h)
    · simp only [if_pos c1, if_neg c2] at h
      exact List.mem_of_mem_tail h
  · by_cases c2 : S2.length < 2
    · simp only [if_neg c1, if_pos c2] at h
      exact (List.dropLast_sublist _).subset h
    · simp only [if_neg c1, if_neg c2] at h
      exact h
theorem blk_len_le {L : Nat} {s : List Nat} (hs : s ≠ []) : (blkOf L s).length ≤ s.length := by
  have := List.length_pos_iff.mpr hs
  unfold blkOf
  split
  · show 1 ≤ s.length
    exact this
  · simp
theorem blk_time {L : Nat} {s : List Nat} : ∀ pr ∈ blkOf L s, pr.2 = 1 ∨ pr.2 = s.length := by
  intro pr h
  unfold blkOf at h
  split at h
  · simp at h
    subst h
    exact .inr rfl
  · obtain ⟨n, _, rfl⟩ := List.mem_map.mp h
    exact .inl rfl
theorem JSt.mid {tb : List Blk} {tx ty : List Nat} {L : Nat} {bf : Nat → List Nat} {fs bs : List Blk} (h : JSt tb tx ty L bf fs bs) {s : List Nat} (hs : s ∈ mids tb tx ty (bf L) L) : s ∈ sg tb (tx ++ ty) L := by
  rw [h.sgt]
  simp [hs]
theorem part_row {tb : List Blk} {t : List Nat} {L : Nat} {s : List Nat} (h : s ∈ sg tb t L) : s ≠ [] ∧ Chain (rl L) s ∧ (∀ n ∈ s, n ∈ rw_ tb t L) ∧ s.length ≤ t.length := by
  refine ⟨seg_ne _ s h, seg_chain _ s h, fun n hn => ?_, ?_⟩
  · rw [← seg_flat (p := rl L) (rw_ tb t L)]
    exact List.mem_flatten.mpr ⟨s, h, hn⟩
  · have h1 := row_len (tb := tb) (tx := t) L
    have h2 := congrArg List.length (seg_flat (p := rl L) (rw_ tb t L))
    have h3 : s.length ≤ (seg (rl L) (rw_ tb t L)).flatten.length := by
      have : ∀ (l : List (List Nat)), s ∈ l → s.length ≤ l.flatten.length := by
        intro l
        induction l with
        | nil => intro h; cases h
        | cons a l ih =>
          intro h
          rw [List.flatten_cons, List.length_append]
          rcases List.mem_cons.mp h with rfl | h
          · omega
          · have := ih h; omega
      exact this _ h
    omega
theorem blk_names {L : Nat} {s : List Nat} (hc : Chain (rl L) s) (hs : s ≠ []) : ∀ pr ∈ blkOf L s, pr.1 ∈ s := (blk_elems hc hs).1
theorem mid_blk {tb : List Blk} {tx ty b : List Nat} {L n : Nat} (h1 : (blkE L (lastP (sg tb tx L))).length ≤ n) (h2 : (blkE L (firstP (sg tb ty L))).length ≤ n) {s : List Nat} (hs : s ∈ mids tb tx ty b L) : (blkOf L s).length ≤ n + b.length + n + 1 := by
  by_cases c : L % 3 = 0
  · rw [blk0 c, blkA]
    simp
  · have hne : s ≠ [] := seg_ne _ s hs
    have e : ∀ x : List Nat, (blkE L x).length = x.length := fun x => by
      unfold blkE
      split
      · next h => rw [h]; rfl
      · rw [blkS c, List.length_map]
    rw [e] at h1 h2
    have h3 := blk_len_le (L := L) hne
    have h4 := congrArg List.length (seg_flat (p := rl L) (lastP (sg tb tx L) ++ b ++ firstP (sg tb ty L)))
    rw [List.length_append, List.length_append] at h4
    have h5 : s.length ≤ (mids tb tx ty b L).flatten.length := by
      have : ∀ (l : List (List Nat)), s ∈ l → s.length ≤ l.flatten.length := by
        intro l
        induction l with
        | nil => intro h; cases h
        | cons a l ih =>
          intro h
          rw [List.flatten_cons, List.length_append]
          rcases List.mem_cons.mp h with rfl | h
          · omega
          · have := ih h; omega
      exact this _ hs
    have h6 : (mids tb tx ty b L).flatten.length = (lastP (sg tb tx L)).length + b.length + (firstP (sg tb ty L)).length := h4
    omega
end B47
namespace B47
theorem JSt.ne {tb : List Blk} {tx ty : List Nat} {L : Nat} {bf : Nat → List Nat} {fs bs : List Blk} (h : JSt tb tx ty L bf fs bs) : (∀ x ∈ fs, x ≠ []) ∧ (∀ x ∈ bs, x ≠ []) := by
  have hp : ∀ l, l < L → firstP (sg tb (tx ++ ty) l) ≠ [] ∧ lastP (sg tb (tx ++ ty) l) ≠ [] := fun l hl => part_ne (by
    intro c
    have := h.two l hl
    rw [c] at this
    simp at this)
  constructor
  · intro x hx
    obtain ⟨i, hi⟩ := List.mem_iff_getElem?.mp hx
    have hil : i < L := by rw [← h.fl]; exact (List.getElem?_eq_some_iff.mp hi).1
    have h2 := h.frs i hil
    rw [hi] at h2
    rw [Option.some.inj h2]
    exact blk_ne (hp i hil).1
  · intro x hx
    obtain ⟨i, hi⟩ := List.mem_iff_getElem?.mp hx
    have hil : i < L := by rw [← h.bl]; exact (List.getElem?_eq_some_iff.mp hi).1
    have h2 := h.bas i hil
    rw [hi] at h2
    rw [Option.some.inj h2]
    exact blk_ne (hp i hil).2
end B47
namespace B47
theorem goes_cut {S1 S2 m : List (List Nat)} (h : S2.length < 2) : goesOn S1 S2 m = (if S1.length < 2 then m.tail else m).dropLast := by
  unfold goesOn
  simp only [if_pos h]
theorem goes_all {S1 S2 m : List (List Nat)} (h : ¬ S2.length < 2) : goesOn S1 S2 m = (if S1.length < 2 then m.tail else m) := by
  unfold goesOn
  simp only [if_neg h]
end B47
namespace B47
open Sz47 M47
theorem same_eq (k : Int) (r : List Int) (j : Int) (s : List Int) : PySz47.same k r j s = if sound (Sz47Neutral.handed k r) = 0 then (if sound (Sz47Neutral.handed j s) = 0 then [((common (text (Sz47Neutral.rules r)) (text (Sz47Neutral.rules s)) : Nat) : Int)] else [sound (Sz47Neutral.handed j s)]) else [sound (Sz47Neutral.handed k r)] := by
  show (ofList (Sz47Neutral.handed k r) (ofList (Sz47Neutral.handed j s) (says _))).value :: (ofList (Sz47Neutral.handed k r) (ofList (Sz47Neutral.handed j s) (says _))).out.map _ = _
  unfold ofList
  split
  · split
    · rfl
    · rfl
  · rfl
theorem frTx_flat (tb : List Blk) : ∀ fr : List Blk, frTx tb fr = btx tb fr.flatten
  | [] => rfl
  | b :: fr => by
    show btx tb b ++ frTx tb fr = _
    rw [frTx_flat tb fr, List.flatten_cons, btx_app]
theorem lay_btx {tb : List Blk} {t : List Nat} {fr : List Blk} {mi : Blk} {ba : List Blk} (hT : TabOk tb) (ht : ∀ c ∈ t, c < 256) (h : Lay tb t fr mi ba) : btx tb (fr.flatten ++ mi ++ ba.reverse.flatten) = t := by
  rw [btx_app, btx_app, ← frTx_flat, ← frTx_flat]
  exact (lay_text hT ht h).symm
theorem row_pairs {tb : List Blk} {t : List Nat} (hT : TabOk tb) (ht : ∀ c ∈ t, c < 256) (hK : ∀ N, Known tb t N) {L : Nat} (hL : L ≤ 309) {s : List Nat} (hs : s ≠ []) (hc : Chain (rl L) s) (hr : ∀ n ∈ s, n ∈ rw_ tb t L) : ∀ pr ∈ blkOf L s, 1 ≤ pr.2 ∧ pr.1 < 256 + tb.length ∧ lev tb pr.1 < 310 := by
  intro pr hp
  have h1 := hr _ (blk_names hc hs pr hp)
  refine ⟨blkE_pos (L := L) (s := s) pr (by rw [blkE_of hs]; exact hp), row_lt ht (hK L) L (Nat.le_refl _) _ h1, ?_⟩
  have := (row_inv hT ht (hK L) L (Nat.le_refl _)).1 _ h1
  omega
theorem firstP_mem {S : List (List Nat)} (h : S ≠ []) : firstP S ∈ S := by
  cases S with
  | nil => exact absurd rfl h
  | cons a S => show a ∈ a :: S; simp
theorem lastP_mem {S : List (List Nat)} (h : S ≠ []) : lastP S ∈ S := by
  rcases last_cases S with e | ⟨q, s, rfl⟩
  · exact absurd e h
  · rw [lastP_snoc]; simp
theorem lay_pairs {tb : List Blk} {t : List Nat} {fr : List Blk} {mi : Blk} {ba : List Blk} (hT : TabOk tb) (ht : ∀ c ∈ t, c < 256) (h : Lay tb t fr mi ba) (hf : fr.length ≤ 309) : ∀ pr ∈ fr.flatten ++ mi ++ ba.reverse.flatten, 1 ≤ pr.2 ∧ pr.1 < 256 + tb.length ∧ lev tb pr.1 < 310 := by
  have ne : ∀ L, L < fr.length → sg tb t L ≠ [] := fun L hL c => by
    have := h.two L hL
    rw [c] at this
    simp at this
  intro pr hp
  rcases List.mem_append.mp hp with hp | hp
  · rcases List.mem_append.mp hp with hp | hp
    · obtain ⟨b, hb, hpb⟩ := List.mem_flatten.mp hp
      obtain ⟨L, hL⟩ := List.mem_iff_getElem?.mp hb
      have hl : L < fr.length := (List.getElem?_eq_some_iff.mp hL).1
      have e := h.frs L hl
      rw [hL] at e
      rw [Option.some.inj e] at hpb
      obtain ⟨q1, q2, q3, _⟩ := part_row (firstP_mem (ne L hl))
      exact row_pairs hT ht h.known (by omega) q1 q2 q3 pr hpb
    · rw [h.mid] at hp
      unfold blkE at hp
      split at hp
      · cases hp
      · next hne =>
        have h1 := one_seg h.one
        have hch := edge_chain2 (p := rl fr.length) (rw_ tb t fr.length)
        have h2 : firstP (seg (rl fr.length) (rw_ tb t fr.length)) = rw_ tb t fr.length := h1.2
        rw [h2] at hch
        exact row_pairs hT ht h.known hf hne hch (fun n hn => hn) pr hp
  · obtain ⟨b, hb, hpb⟩ := List.mem_flatten.mp hp
    rw [List.mem_reverse] at hb
    obtain ⟨L, hL⟩ := List.mem_iff_getElem?.mp hb
    have hl : L < fr.length := by rw [← h.len]; exact (List.getElem?_eq_some_iff.mp hL).1
    have e := h.bas L hl
    rw [hL] at e
    rw [Option.some.inj e] at hpb
    obtain ⟨q1, q2, q3, _⟩ := part_row (lastP_mem (ne L hl))
    exact row_pairs hT ht h.known (by omega) q1 q2 q3 pr hpb
theorem flat_len {n : Nat} : ∀ {bs : List Blk}, (∀ b ∈ bs, b.length ≤ n) → bs.flatten.length ≤ bs.length * n
  | [], _ => Nat.zero_le _
  | b :: bs, h => by
    have h1 := h b (by simp)
    have h2 := flat_len (bs := bs) fun c hc => h c (by simp [hc])
    rw [List.flatten_cons, List.length_append, List.length_cons, Nat.succ_mul]
    omega
end B47
namespace PySem
open Sem (wp)
set_option maxRecDepth 100000
namespace NK
section
variable {prog : Program} {w : World} {K : Type} [DecidableEq K] (ek : HeapKind prog w K)
inductive Its (h : Heap) : List K → List Value → Prop
  | nil : Its h [] []
  | cons {k : K} {b : Addr} {ks : List K} {vs : List Value} : ek.is h k b → Its h ks vs → Its h (k :: ks) (.ref b :: vs)
def IsNest (h : Heap) (ks : List K) (a : Addr) : Prop := ∃ o items n, h.get? a = some o ∧ o.cls = .type "tuple" ∧ o.data = .seq items n ∧ Its ek h ks items.toList
variable {ek}
theorem Its.inj {h : Heap} {x y : List K} {vs : List Value} (hx : Its ek h x vs) (hy : Its ek h y vs) : x = y := by
  induction hx generalizing y with
  | nil => cases hy; rfl
  | cons h1 _ ih =>
    cases hy with
    | cons h2 t2 => rw [ek.inj h1 h2, ih t2]
theorem Its.mono {h h' : Heap} {x : List K} {vs : List Value} (hx : Its ek h x vs) (e : ∀ k b, ek.is h k b → ek.is h' k b) : Its ek h' x vs := by
  induction hx with
  | nil => exact .nil
  | cons h1 _ ih => exact .cons (e _ _ h1) ih
theorem IsNest.typeIs {s : Shared} {ks : List K} {a : Addr} (x : IsNest ek s.heap ks a) : s.TypeIs (.ref a) "tuple" := let ⟨o, _, _, ho, hc, _⟩ := x; ⟨o, ho, hc⟩
theorem IsNest.inj {h : Heap} {a : Addr} {x y : List K} (hx : IsNest ek h x a) (hy : IsNest ek h y a) : x = y := by
  obtain ⟨o, items, n, ho, _, hd, hi⟩ := hx
  obtain ⟨o', items', n', ho', _, hd', hi'⟩ := hy
  have e : o = o' := Option.some.inj (ho.symm.trans ho')
  subst e
  rw [hd] at hd'
  cases hd'
  exact hi.inj hi'
theorem IsNest.keeps {h h' : Heap} {ks : List K} {a d : Addr} {o : Obj} {es ep} (x : IsNest ek h ks a) (ho : h.get? d = some o) (hd : o.data = .dict es ep) (hs : Heap.SameBut d h h') : IsNest ek h' ks a := by
  obtain ⟨o', items, n, ho', hc, hd', hi⟩ := x
  have hne : a ≠ d := by
    intro e
    rw [e, ho] at ho'
    cases ho'
    rw [hd] at hd'
    cases hd'
  exact ⟨o', items, n, (hs.2 a hne).trans ho', hc, hd', hi.mono fun k b hb => ek.keeps hb ho hd hs⟩
def drawsOf (ek : HeapKind prog w K) : List K → Nat
  | [] => 0
  | k :: ks => ek.draws k + drawsOf ek ks
theorem drawsOf_append (x y : List K) : drawsOf ek (x ++ y) = drawsOf ek x + drawsOf ek y := by
  induction x with
  | nil => simp [drawsOf]
  | cons a x ih => simp [drawsOf, ih, Nat.add_assoc]
def nestHash (ek : HeapKind prog w K) (ks : List K) : Int := reduceHash (Builtin.Tuple.tupleHashOf (ks.map ek.hash))
variable {A : Around} {E : Value → Shared → Prop} {s : Shared}
theorem hash_nest {ks : List K} {a : Addr} {Q : Int → Shared → Prop} (hu : A.units < cLine) (hr : ek.room A.in1) (hk : IsNest ek s.heap ks a) (h : Q (nestHash ek ks) { s with toks := s.toks + (drawsOf ek ks + 1) }) :
    wpAny (model prog w) A (pyHash (.ref a)) Q E s := by
  have hT := hk.typeIs
  obtain ⟨o, items, n, ho, _, hd, hi⟩ := hk
  unfold pyHash
  first | unfold pyHashByItsType | skip
  first | refine wpAny_bind (wpAny_cRoomFor_or (.inr hu) ?_) | skip
  refine wpAny_bind (wpAny_specialOf hT F.slot_tuple_hash.lookup ?_)
  show wpAny _ _ (if (some (Value.builtin "tuple.__hash__") == some Value.none) = true then _ else _) Q E s
  rw [if_neg (by rw [beq_builtin_none]; exact Bool.false_ne_true)]
  refine wpAny_bind (wpAny_specialOf hT F.slot_tuple_hash.lookup ?_)
  show wpAny _ _ (callSpecialIfBoundUnlessNone? (.ref a) "__hash__" _ >>= _) Q E s
  refine wpAny_bind (wpAny_callSpecialIfBoundUnlessNone?_slot hT F.slot_tuple_hash (wpAny_call_entry F.slot_tuple_hash hT F.entry_tuple_hash ?_ (F.args_tuple_hash_1 _)))
  show wpAny _ _ (Builtin.Tuple.tupleItemsOf (.ref a) >>= _) _ _ s
  refine wpAny_bind (wpAny_tupleItemsOf ho hd ?_)
  refine wpAny_bind ?_
  rw [← Array.forIn_toList]
  refine wpAny_forIn_list _ (fun rest (b : Array Int) s' => ∃ done left, ks = done ++ left ∧ Its ek s.heap left rest ∧ b.toList = done.map ek.hash ∧ s' = { s with toks := s.toks + drawsOf ek done }) _ ?_ ?_ _ _ ⟨[], ks, rfl, hi, rfl, rfl⟩
  · rintro x rest b s' ⟨done, left, rfl, hl, hb, rfl⟩
    cases hl with
    | @cons k c ks' _ h1 hl' =>
      refine wpAny_bind (ek.pyHash hr h1 ?_)
      have e1 : s.toks + drawsOf ek done + ek.draws k = s.toks + drawsOf ek (done ++ [k]) := by
        rw [drawsOf_append]; simp [drawsOf, Nat.add_assoc]
      first
        | exact wpAny_pure ⟨done ++ [k], ks', by simp, hl', by simp [hb], by rw [← e1]⟩
        | exact wpAny_bind (wpAny_pure (wpAny_pure ⟨done ++ [k], ks', by simp, hl', by simp [hb], by rw [← e1]⟩))
  · rintro b s' ⟨done, left, rfl, hl, hb, rfl⟩
    cases hl
    rw [List.append_nil] at h
    show wpAny _ _ (retInt (Builtin.Tuple.tupleHashOf b.toList)) _ _ _
    rw [hb]
    refine wpAny_ret_mkInt ?_
    show wpAny _ _ (if (decide (-(2 : Int) ^ 63 ≤ Builtin.Tuple.tupleHashOf (done.map ek.hash)) && decide (Builtin.Tuple.tupleHashOf (done.map ek.hash) < 2 ^ 63)) = true then _ else _) Q E _
    unfold nestHash reduceHash at h
    by_cases hr : (decide (-(2 : Int) ^ 63 ≤ Builtin.Tuple.tupleHashOf (done.map ek.hash)) && decide (Builtin.Tuple.tupleHashOf (done.map ek.hash) < 2 ^ 63)) = true
    · rw [if_pos hr]
      rw [if_pos hr] at h
      exact wpAny_pure (by simpa [Nat.add_assoc] using h)
    · rw [if_neg hr]
      rw [if_neg hr] at h
      exact wpAny_bind (wpAny_rule (wpAny_pure (by simpa [Nat.add_assoc] using h)))
theorem eq_tree {x y : List K} {a b : Addr} {P : Fin → Shared → Prop} (hr : ek.room A) (hx : IsNest ek s.heap x a) (hy : IsNest ek s.heap y b) (h : P (.done (.ret (.bool (decide (x = y))))) s) :
    wpAny (model prog w) A (Builtin.«tuple.__eq__» ⟨[.ref a, .ref b], []⟩) P E s := by
  have hTb := hy.typeIs
  obtain ⟨oa, xs, na, hoa, _, hda, hia⟩ := hx
  obtain ⟨ob, ys, nb, hob, _, hdb, hib⟩ := hy
  show wpAny _ _ (isInstance (.ref b) (.type "tuple") >>= _) _ _ s
  refine wpAny_bind (wpAny_isInstance hTb isSubtype_tuple_tuple ?_)
  simp only [Bool.not_true, Bool.false_eq_true, if_false]
  refine wpAny_bind (wpAny_tupleItemsOf hoa hda ?_)
  refine wpAny_bind (wpAny_tupleItemsOf hob hdb ?_)
  refine wpAny_bind ?_
  refine wpAny_forIn_list _
    (fun rest r s' => r.1 = none ∧ s' = s ∧ ∃ x' y' xs' ys', rest = List.zip xs' ys' ∧ Its ek s.heap x' xs' ∧ Its ek s.heap y' ys' ∧ decide (x' = y') = decide (x = y) ∧ (xs'.length == ys'.length) = (xs.size == ys.size))
    _ ?_ ?_ _ _ ⟨rfl, rfl, x, y, xs.toList, ys.toList, rfl, hia, hib, rfl, by simp⟩
  · rintro ⟨u, v⟩ rest r s' ⟨hr0, rfl, x', y', xs', ys', hz, hx', hy', hdec, hlen⟩
    cases hx' with
    | nil => simp at hz
    | @cons k1 u' x'' xs'' h1 hx'' =>
      cases hy' with
      | nil => simp at hz
      | @cons k2 v' y'' ys'' h2 hy'' =>
        simp only [List.zip_cons_cons, List.cons.injEq, Prod.mk.injEq] at hz
        obtain ⟨⟨rfl, rfl⟩, rfl⟩ := hz
        refine wpAny_bind (ek.eqBool hr h1 h2 ?_)
        by_cases hk : k1 = k2
        · subst hk
          rw [decide_eq_true rfl]
          simp only [Bool.not_true, Bool.false_eq_true, if_false]
          refine wpAny_pure ⟨rfl, rfl, x'', y'', xs'', ys'', rfl, hx'', hy'', ?_, by simpa using hlen⟩
          rw [← hdec]
          by_cases hxy : x'' = y''
          · simp [hxy]
          · simp [hxy]
        · rw [decide_eq_false hk]
          simp only [Bool.not_false, if_true]
          have hf : decide (x = y) = false := by rw [← hdec]; simp [hk]
          rw [hf] at h
          exact wpAny_bind (wpAny_pure (wpAny_pure (wpAny_pure h)))
  · rintro ⟨r1, r2⟩ s' ⟨hr0, rfl, x', y', xs', ys', hz, hx', hy', hdec, hlen⟩
    simp only at hr0
    subst hr0
    refine wpAny_pure ?_
    have hfin : (xs.size == ys.size) = decide (x = y) := by
      rw [← hdec, ← hlen]
      cases hx' with
      | nil =>
        cases hy' with
        | nil => simp
        | cons _ _ => simp
      | cons _ _ =>
        cases hy' with
        | nil => simp
        | cons _ _ => simp at hz
    show P (.done (.ret (.bool (xs.size == ys.size)))) s'
    rw [hfin]
    exact h
theorem eq_nest {x y : List K} {a b : Addr} {Q : Bool → Shared → Prop} (hu : A.units < cLine) (hr : ∀ A' : Around, A'.units ≤ A.units + 3 → ek.room A') (hx : IsNest ek s.heap x a) (hy : IsNest ek s.heap y b) (h : Q (decide (x = y)) s) :
    wpAny (model prog w) A (eqBool (.ref a) (.ref b)) Q E s := by
  unfold eqBool
  try with_reducible refine wpAny_holding ?_
  show wpAny _ _ (if (Value.ref a == Value.ref b) = true then _ else _) Q E s
  by_cases hab : (Value.ref a == Value.ref b) = true
  · rw [if_pos hab]
    have e : a = b := by have := eq_of_beq hab; injection this
    subst e
    have e2 := hx.inj hy
    subst e2
    exact wpAny_bind (wpAny_rule (wpAny_pure (by simpa using h)))
  · rw [if_neg hab]
    exact wpAny_bind (wpAny_richCompare_same_room (op := .Eq) hx.typeIs hy.typeIs F.slot_tuple_eq
      (wpAny_call_entry F.slot_tuple_eq hx.typeIs F.entry_tuple_eq (eq_tree (hr _ (by simp only [Around.in1_units]; omega)) hx hy ⟨_, rfl, (fun e => nomatch e), wpAny_truthy_bool h⟩) (F.args_tuple_eq_2 _ _)) hu)
theorem quiet_nest {ks : List K} {a : Addr} {Q : Bool → Shared → Prop} (hq : ∀ {A : Around} {E : Value → Shared → Prop} {s : Shared} {k : K} {a : Addr} {Q : Bool → Shared → Prop}, ek.is s.heap k a → Q true s → wpAny (model prog w) A (eqIsQuiet 7 (.ref a)) Q E s)
    (hk : IsNest ek s.heap ks a) (h : Q true s) : wpAny (model prog w) A (eqIsQuiet 8 (.ref a)) Q E s := by
  have hT := hk.typeIs
  obtain ⟨o, items, n, ho, _, hd, hi⟩ := hk
  unfold eqIsQuiet
  refine wpAny_bind (wpAny_specialOf hT F.slot_tuple_eq.lookup ?_)
  show wpAny _ _ (isInstance (.ref a) (.type "tuple") >>= _) _ _ s
  refine wpAny_bind (wpAny_isInstance hT isSubtype_tuple_tuple ?_)
  simp only [Bool.not_true, Bool.false_eq_true, if_false]
  refine wpAny_bind (wpAny_seqItems ho hd ?_)
  refine wpAny_bind ?_
  show wpAny _ _ (forIn items _ _) _ _ s
  rw [← Array.forIn_toList]
  refine wpAny_forIn_list _ (fun rest r s' => r.1 = none ∧ s' = s ∧ ∃ ks', Its ek s.heap ks' rest) _ ?_ ?_ _ _ ⟨rfl, rfl, ks, hi⟩
  · rintro v rest r s' ⟨hr, rfl, ks', hall⟩
    cases hall with
    | @cons k b ks2 _ h1 h2 =>
      refine wpAny_bind (hq h1 ?_)
      simp only [Bool.not_true, Bool.false_eq_true, if_false]
      exact wpAny_pure ⟨rfl, rfl, ks2, h2⟩
  · rintro ⟨r1, r2⟩ s' ⟨hr, rfl, _⟩
    simp only at hr
    subst hr
    exact wpAny_pure h
theorem quiet_flat {KK : Type} [DecidableEq KK] {knd : KeyKind prog w KK} {ks : List KK} {a : Addr} {Q : Bool → Shared → Prop} (hk : IsTupleKey knd s.heap ks a) (h : Q true s) : wpAny (model prog w) A (eqIsQuiet 7 (.ref a)) Q E s := by
  have hT := hk.typeIs
  obtain ⟨o, items, n, ho, _, hd, hi⟩ := hk
  unfold eqIsQuiet
  refine wpAny_bind (wpAny_specialOf hT F.slot_tuple_eq.lookup ?_)
  show wpAny _ _ (isInstance (.ref a) (.type "tuple") >>= _) _ _ s
  refine wpAny_bind (wpAny_isInstance hT isSubtype_tuple_tuple ?_)
  simp only [Bool.not_true, Bool.false_eq_true, if_false]
  refine wpAny_bind (wpAny_seqItems ho hd ?_)
  refine wpAny_bind ?_
  show wpAny _ _ (forIn items _ _) _ _ s
  rw [← Array.forIn_toList]
  refine wpAny_forIn_list _ (fun rest r s' => r.1 = none ∧ s' = s ∧ ∀ v ∈ rest, carriedByValue v = true) _ ?_ ?_ _ _ ⟨rfl, rfl, hi.byValue⟩
  · rintro v rest r s' ⟨hr, rfl, hall⟩
    rw [eqIsQuiet_byValue _ (hall v List.mem_cons_self)]
    refine wpAny_bind (wpAny_pure ?_)
    simp only [Bool.not_true, Bool.false_eq_true, if_false]
    exact wpAny_pure ⟨rfl, rfl, fun u hu' => hall u (List.mem_cons_of_mem _ hu')⟩
  · rintro ⟨r1, r2⟩ s' ⟨hr, rfl, _⟩
    simp only at hr
    subst hr
    exact wpAny_pure h
end
def nestKind {prog : Program} {w : World} {K : Type} [DecidableEq K] (knd : KeyKind prog w K) : HeapKind prog w (List (List K)) where
  is := IsNest (tupleKind knd)
  hash := nestHash (tupleKind knd)
  draws := fun ks => drawsOf (tupleKind knd) ks + 1
  room := fun A => A.units + 3 < cLine
  inj := fun hx hy => hx.inj hy
  keeps := fun x ho hd hs => x.keeps ho hd hs
  pyHash := fun {A} {_} {_} {_} {_} {_} hu hk h => hash_nest (by omega) (show A.in1.units < cLine by simp only [Around.in1_units]; omega) hk h
  eqBool := fun {A} {_} {_} {_} {_} {_} {_} {_} hu hx hy h => eq_nest (by omega) (fun A' h' => show A'.units < cLine by omega) hx hy h
  quiet := fun hk h => quiet_nest (fun hk h => quiet_flat hk h) hk h
end NK
end PySem
namespace PySem
open Sem (wp)
set_option maxRecDepth 100000
namespace RV
theorem own_rev : Manifest.owners.lookup (String.ofList ['d', 'e', 's', 'r', 'e', 'v', 'e', 'r'].reverse) = some Manifest.sig_reversed := by kernel_rfl
theorem slot_next : Slot "reversed" "__next__" "reversed.__next__" :=
  .of (owner := "reversed") (n := "__next__") (by rw [typeLookup_type, builtinLookup_eq_fast]; kernel_rfl) (by decide +kernel) (by decide +kernel) (by decide +kernel)
    (by first | exact .inl (by decide +kernel) | exact .inr (by decide +kernel)) (by rw [isSubtype_type]; kernel_rfl)
theorem entry_next : entryFor table "reversed.__next__" = some Builtin.«reversed.__next__» := entryFor_of_tree (by kernel_rfl)
theorem args_next (a : Value) : argsOk "reversed.__next__" ⟨[a], []⟩ := by
  unfold argsOk; rw [signature?_of (id := "reversed.__next__") (n := ['_', '_', 't', 'x', 'e', 'n', '_', '_']) (o := ['d', 'e', 's', 'r', 'e', 'v', 'e', 'r']) (by kernel_rfl) own_rev]; kernel_rfl
theorem slot_iter : Slot "reversed" "__iter__" "reversed.__iter__" :=
  .of (owner := "reversed") (n := "__iter__") (by rw [typeLookup_type, builtinLookup_eq_fast]; kernel_rfl) (by decide +kernel) (by decide +kernel) (by decide +kernel)
    (by first | exact .inl (by decide +kernel) | exact .inr (by decide +kernel)) (by rw [isSubtype_type]; kernel_rfl)
theorem entry_iter : entryFor table "reversed.__iter__" = some Builtin.«dict_keyiterator.__iter__» :=
  entryFor_alias (id' := "dict_keyiterator.__iter__") (by kernel_rfl) rfl (by decide +kernel) (by kernel_rfl)
theorem args_iter (a : Value) : argsOk "reversed.__iter__" ⟨[a], []⟩ := by
  unfold argsOk; rw [signature?_of (id := "reversed.__iter__") (n := ['_', '_', 'r', 'e', 't', 'i', '_', '_']) (o := ['d', 'e', 's', 'r', 'e', 'v', 'e', 'r']) (by kernel_rfl) own_rev]; kernel_rfl
theorem slot_hint : Slot "reversed" "__length_hint__" "reversed.__length_hint__" :=
  .of (owner := "reversed") (n := "__length_hint__") (by rw [typeLookup_type, builtinLookup_eq_fast]; kernel_rfl) (by decide +kernel) (by decide +kernel) (by decide +kernel)
    (by first | exact .inl (by decide +kernel) | exact .inr (by decide +kernel)) (by rw [isSubtype_type]; kernel_rfl)
theorem entry_hint : entryFor table "reversed.__length_hint__" = some Builtin.«reversed.__length_hint__» := entryFor_of_tree (by kernel_rfl)
theorem args_hint (a : Value) : argsOk "reversed.__length_hint__" ⟨[a], []⟩ := by
  unfold argsOk; rw [signature?_of (id := "reversed.__length_hint__") (n := ['_', '_', 't', 'n', 'i', 'h', '_', 'h', 't', 'g', 'n', 'e', 'l', '_', '_']) (o := ['d', 'e', 's', 'r', 'e', 'v', 'e', 'r']) (by kernel_rfl) own_rev]; kernel_rfl
theorem no_len : typeLookup (.type "reversed") "__len__" = pure none := by rw [typeLookup_type, builtinLookup_eq_fast]; kernel_rfl
theorem no_len_l : typeLookup (.type "list_reverseiterator") "__len__" = pure none := by rw [typeLookup_type, builtinLookup_eq_fast]; kernel_rfl
theorem slot_hint_l : Slot "list_reverseiterator" "__length_hint__" "list_reverseiterator.__length_hint__" :=
  .of (owner := "list_reverseiterator") (n := "__length_hint__") (by rw [typeLookup_type, builtinLookup_eq_fast]; kernel_rfl) (by decide +kernel) (by decide +kernel) (by decide +kernel)
    (by first | exact .inl (by decide +kernel) | exact .inr (by decide +kernel)) (by rw [isSubtype_type]; kernel_rfl)
theorem slot_init : Slot "reversed" "__init__" "object.__init__" :=
  .of (owner := "object") (n := "__init__") (by rw [typeLookup_type, builtinLookup_eq_fast]; kernel_rfl) (by decide +kernel) (by decide +kernel) (by decide +kernel)
    (by first | exact .inl (by decide +kernel) | exact .inr (by decide +kernel)) (by rw [isSubtype_type]; kernel_rfl)
theorem called : TypeCalled "reversed" "reversed.__new__" "object.__init__" :=
  ⟨by decide +kernel, by decide +kernel, ⟨_, _, F.mro_reversed⟩, F.made_reversed, by decide +kernel, by rw [isSubtype_type]; kernel_rfl, slot_init⟩
section
variable {prog : Program} {w : World} {A : Around} {E : Value → Shared → Prop} {s : Shared}
theorem list_walk {T : String} {I : Addr} {fp : List Addr} {n : Nat} {P : Nat → Value → Prop} {St : Nat → Heap → Prop} {Q : Value → Shared → Prop} (W : Walks prog w A.in1.in1 I fp [I] n P St) (hT : ∀ (s : Shared), St 0 s.heap → s.TypeIs (.ref I) T)
    (hl : (Value.type T == Value.type "list") = false) (ht : (Value.type T == Value.type "tuple") = false)
    (hint : ∀ (s : Shared) (Q : Bool → Shared → Prop), St 0 s.heap → (∀ (b : Bool) (tk : Nat), Q b { s with toks := tk }) → wpAny (model prog w) A.in1.in1 (Builtin.List.listLengthHint (.ref I)) Q E s)
    (hst : St 0 s.heap) (hfp : ∀ b ∈ fp, b < s.heap.objs.size) (hI : I ∈ fp) (hn : n ≤ sizeLine)
    (hQ : ∀ (h' : Heap) (tk : Nat) (acc : Array Value) (c : Nat), (∀ b o, b ≠ I → s.heap.get? b = some o → h'.get? b = some o) → h'.get? s.heap.objs.size = some { cls := .type "list", dict := none, data := .seq acc c, slots := #[] } → ItemsOf P acc n → Q (.ref s.heap.objs.size) { s with heap := h', toks := tk }) :
    wpAny (model prog w) A (call (.type "list") [.ref I]) Q E s := by
  refine callType_codes (Q₁ := fun obj s₁ => obj = .ref s.heap.objs.size ∧ s₁ = { s with heap := s.heap.push { cls := .type "list", data := .seq #[] } }) F.called_list (F.typeCall_list_1 _) F.entry_list_init
    (code_list_new _ ⟨rfl, rfl⟩) fun obj s₁ h₁ => ?_
  obtain ⟨rfl, rfl⟩ := h₁
  generalize hS0 : s.heap.objs.size = S at *
  have hSf : S ∉ fp := fun hm => Nat.lt_irrefl _ (hfp _ hm)
  have hSI : S ≠ I := fun e => hSf (e ▸ hI)
  have hS : (s.heap.push { cls := .type "list", data := .seq #[] }).get? S = some { cls := .type "list", data := .seq #[] } := by rw [← hS0]; exact Heap.get?_push_size _ rfl
  have keep : ∀ b o, s.heap.get? b = some o → (s.heap.push { cls := .type "list", data := .seq #[] }).get? b = some o := fun b o e => Heap.get?_push_of_some _ e
  have hst1 : St 0 (s.heap.push { cls := .type "list", data := .seq #[] }) := W.frame 0 _ _ hst fun b _ o e => keep b o e
  generalize s.heap.push { cls := .type "list", data := .seq #[] } = h1 at hS keep hst1 ⊢
  refine ⟨⟨_, hS, rfl⟩, F.args_list_init_2 _ _, ?_⟩
  show wpAny _ _ (do let old ← Builtin.List.listItems (.ref S); Builtin.List.listUpdate (.ref S) (fun _ => #[]); letGo old.toList.reverse; Builtin.List.listExtendWith (.ref S) (.ref I) .none) _ _ _
  refine wpAny_bind ?_
  unfold Builtin.List.listItems
  refine wpAny_bind (wpAny_seqItems hS rfl (wpAny_pure ?_))
  show wpAny _ _ (updateSeq S (fun _ => #[]) >>= fun _ => letGo (#[] : Array Value).toList.reverse >>= fun _ => Builtin.List.listExtendWith (.ref S) (.ref I) .none) _ _ _
  refine wpAny_bind (wpAny_updateSeq hS rfl ?_)
  have hS2 := Heap.get?_update_self (Obj.mapSeq (fun _ => (#[] : Array Value))) hS rfl
  have oth : ∀ b o, b ≠ S → h1.get? b = some o → (h1.update S (Obj.mapSeq (fun _ => (#[] : Array Value)))).get? b = some o := fun b o hb e => (Heap.get?_update_other _ _ (Ne.symm hb)).trans e
  have hst2 : St 0 (h1.update S (Obj.mapSeq (fun _ => (#[] : Array Value)))) := W.frame 0 _ _ hst1 fun b hb o e => oth b o (fun z => hSf (z ▸ hb)) e
  refine wpAny_bind (wpAny_letGo ?_)
  generalize h1.update S (Obj.mapSeq (fun _ => (#[] : Array Value))) = h2 at hS2 oth hst2 ⊢
  unfold Builtin.List.listExtendWith
  refine wpAny_bind (wpAny_typeOf (T := T) (hT _ hst2) ?_)
  have e1 : Builtin.List.listSameRef (.ref S) (.ref I) = false := by simp [Builtin.List.listSameRef, hSI]
  simp only [e1, hl, ht, Bool.or_false, Bool.false_eq_true, if_false]
  refine wpAny_bind (W.self 0 _ _ _ hst2 ?_)
  refine wpAny_bind (wpAny_holding (hint _ _ hst2 fun hb tk => ?_))
  have key : ∀ (R : Result → Shared → Prop) (h3 : Heap) (c : Nat), St 0 h3 → (∀ (b : Addr) (o : Obj), b ≠ S → h2.get? b = some o → h3.get? b = some o) → h3.get? S = some { cls := .type "list", data := .seq #[] c } →
      (∀ (h4 : Heap) (tk : Nat) (acc : Array Value) (c' : Nat), (∀ b o, b ≠ I → s.heap.get? b = some o → h4.get? b = some o) → h4.get? S = some { cls := .type "list", dict := none, data := .seq acc c', slots := #[] } → ItemsOf P acc n → R (.ok (.ret .none)) { s with heap := h4, toks := tk }) →
      codeAny (model prog w) A.in1 (.builtin "list.extend.loop" ⟨[.ref S, .ref I, .none], []⟩) R { s with heap := h3, toks := tk } := by
    intro R h3 c hst3 hk3 hS3 hR
    refine codeAny_extend_loopS W.toS hn S hSf .none n 0 _ #[] c rfl (Nat.zero_le _) hst3 hS3 (ItemsOf.nil _) fun s' acc' c' hm hS' hacc => ?_
    obtain ⟨h4, g4, d4, tk4, os4⟩ := s'
    have eg : g4 = s.gens := hm.gens
    have ed : d4 = s.drawn := hm.drawn
    have eo : os4 = s.os := hm.os
    subst eg ed eo
    refine hR h4 tk4 acc' c' (fun b o hbI e => hm.heap b o (fun hmem => ?_) ?_) hS' hacc
    · rcases List.mem_cons.mp hmem with e' | hmem
      · have := Heap.lt_size e
        rw [hS0, e'] at this
        exact Nat.lt_irrefl _ this
      · exact hbI (List.mem_singleton.mp hmem)
    · have hbS : b ≠ S := by
        intro c
        have := Heap.lt_size e
        rw [hS0, c] at this
        exact Nat.lt_irrefl _ this
      exact hk3 b o hbS (oth b o hbS (keep b o e))
  refine wpAny_ite_split (fun _ => ?_) (fun _ => wpAny_pure ⟨plainId_quiet PySem.F.plain_extend_loop _, key _ h2 _ hst2 (fun _ _ _ e => e) hS2 fun h4 tk acc c' a1 a2 a3 => ⟨rfl, hQ h4 tk acc c' a1 a2 a3⟩⟩)
  refine wpAny_bind (wpAny_rule ?_)
  refine wpAny_bind ?_
  show wpAny _ _ (updateSeq S (·.push .none) >>= fun _ => updateSeq S (·.pop)) _ _ _
  refine wpAny_bind (wpAny_updateSeq hS2 rfl ?_)
  have hS3 := Heap.get?_update_self (Obj.mapSeq (·.push Value.none)) hS2 rfl
  refine wpAny_updateSeq (hz := by seq_fits) hS3 rfl ?_
  have hS4 := Heap.get?_update_self (Obj.mapSeq (·.pop)) hS3 rfl
  refine wpAny_pure ⟨plainId_quiet PySem.F.plain_extend_loop _, key _ _ _ ?_ (fun b o hb e => ?_) hS4 fun h4 tk acc c' a1 a2 a3 => ⟨rfl, hQ h4 tk acc c' a1 a2 a3⟩⟩
  · refine W.frame 0 _ _ hst2 fun b hb o e => ?_
    have hbS : b ≠ S := fun h => hSf (h ▸ hb)
    exact (Heap.get?_update_other _ _ (Ne.symm hbS)).trans ((Heap.get?_update_other _ _ (Ne.symm hbS)).trans e)
  · exact (Heap.get?_update_other _ _ (Ne.symm hb)).trans ((Heap.get?_update_other _ _ (Ne.symm hb)).trans e)
end
end RV
end PySem
namespace PySem
open Sem (wp)
set_option maxRecDepth 100000
namespace RV
open PyProof.Rows (IsTup)
theorem entry_oinit : entryFor table "object.__init__" = some Builtin.«object.__init__» := entryFor_of_tree (by kernel_rfl)
theorem args_oinit (a b : Value) : argsOk "object.__init__" ⟨[a, b], []⟩ := by kernel_rfl
def RevAt (h : Heap) (it t : Addr) (i : Int) : Prop := ∃ o, h.get? it = some o ∧ o.cls = .type "reversed" ∧ o.data = .fields #[.ref t, .int i 0]
section
variable {prog : Program} {w : World} {A : Around} {E : Value → Shared → Prop} {s : Shared}
theorem RevAt.typeIs {it t : Addr} {i : Int} (x : RevAt s.heap it t i) : s.TypeIs (.ref it) "reversed" := let ⟨o, ho, hc, _⟩ := x; ⟨o, ho, hc⟩
theorem RevAt.at {h h' : Heap} {it t : Addr} {i : Int} (x : RevAt h it t i) (e : ∀ o, h.get? it = some o → h'.get? it = some o) : RevAt h' it t i := let ⟨o, ho, r⟩ := x; ⟨o, e _ ho, r⟩
theorem tup_at {h h' : Heap} {t : Addr} {items : Array Value} (x : IsTup h t items) (e : ∀ o, h.get? t = some o → h'.get? t = some o) : IsTup h' t items := let ⟨o, ho, r⟩ := x; ⟨o, e _ ho, r⟩
theorem rev_next {it t : Addr} {i : Nat} {items : Array Value} {x : Value} {Q : Option Value → Shared → Prop} (hit : RevAt s.heap it t (i : Int)) (ht : IsTup s.heap t items) (hx : items[i]? = some x) (hsz : items.size ≤ sizeLine)
    (hQ : ∀ h' tk, RevAt h' it t ((i : Int) - 1) → Heap.SameBut it s.heap h' → Q (some x) { s with heap := h', toks := tk }) : wpAny (model prog w) A (pyNext (.ref it)) Q E s := by
  obtain ⟨o, ho, hc, hd⟩ := id hit
  have hi : i < items.size := (Array.getElem?_eq_some_iff.mp hx).1
  have hb : (i : Int) < 2 ^ 63 := by rw [sizeLine_eq] at hsz; omega
  unfold pyNext
  refine wpAny_bind (wpAny_attempt (wpAny_callSpecial?_slot (name := Str.ofString "__next__") hit.typeIs slot_next
    (wpAny_call_entry slot_next hit.typeIs entry_next ?_ (args_next _))))
  unfold Builtin.«reversed.__next__»
  refine wpAny_bind (wpAny_pure ?_)
  dsimp only
  refine wpAny_bind (wpAny_field ho hd (x := .ref t) rfl ?_)
  refine wpAny_bind (wpAny_field ho hd (x := .int i 0) rfl ?_)
  dsimp only
  rw [if_neg (by omega)]
  refine wpAny_bind (wpAny_specialOf ht.typeIs F.slot_tuple_getitem.lookup ?_)
  simp only [Option.isNone_some, Bool.false_eq_true, if_false]
  refine wpAny_bind (wpAny_mkInt ?_)
  refine wpAny_bind (wpAny_attempt (PyProof.Rows.getItem_tuple (s := { s with toks := s.toks + 1 }) ht (by omega) hb (j := i) (by simp [seqIndex?]; omega) hx ?_))
  dsimp only
  refine wpAny_bind (wpAny_field (s := { s with toks := s.toks + 1 }) ho hd (x := .int i 0) rfl ?_)
  dsimp only
  refine wpAny_bind (wpAny_setField (s := { s with toks := s.toks + 1 }) ho hd (by simp) ?_)
  refine wpAny_pure ⟨x, rfl, wpAny_pure (hQ _ _ ?_ (Heap.SameBut.update ..))⟩
  refine ⟨_, Heap.get?_update_self _ ho (Obj.isFreed_of_fields (Obj.data_mapFields hd _)), (Obj.cls_mapFields ..).trans hc, ?_⟩
  rw [Obj.data_mapFields hd]
  simp [rawInt]
theorem rev_end {it t : Addr} {Q : Option Value → Shared → Prop} (hh : A.handled = none) (hit : RevAt s.heap it t (-1)) (hQ : ∀ h', Heap.ExtBut it s.heap h' → Q none { s with heap := h' }) : wpAny (model prog w) A (pyNext (.ref it)) Q E s := by
  obtain ⟨o, ho, hc, hd⟩ := id hit
  unfold pyNext
  refine wpAny_bind (wpAny_attempt (wpAny_callSpecial?_slot (name := Str.ofString "__next__") hit.typeIs slot_next
    (wpAny_call_entry slot_next hit.typeIs entry_next ?_ (args_next _))))
  unfold Builtin.«reversed.__next__»
  refine wpAny_bind (wpAny_pure ?_)
  dsimp only
  refine wpAny_bind (wpAny_field ho hd (x := .ref t) rfl ?_)
  refine wpAny_bind (wpAny_field ho hd (x := .int (-1) 0) rfl ?_)
  dsimp only
  rw [if_pos (by omega)]
  refine wpAny_bind (wpAny_rule ?_)
  refine wpAny_bind ?_
  show wpAny _ _ (setField (.ref it) 1 (rawInt (-1)) >>= fun _ => setField (.ref it) 0 .none) _ _ _
  refine wpAny_bind (wpAny_setField ho hd (by simp) ?_)
  have g1 := Heap.get?_update_self (Obj.mapFields (·.setIfInBounds 1 (rawInt (-1)))) ho (Obj.isFreed_of_fields (Obj.data_mapFields hd _))
  refine wpAny_setField g1 (Obj.data_mapFields hd _) (by simp) ?_
  unfold Builtin.SmallTypes.stopIteration
  refine wpAny_bind ?_
  refine wpAny_bind ?_
  simp only [newExc, newTuple]
  refine wpAny_bind (wpAny_newObj_type ?_ (by size_fits))
  refine wpAny_bind (m := firstArgMember _ _) (wpAny_of_eq (a := Value.none) (by first | rfl | (simp only [firstArgMember]; rfl)) ?_)
  refine wpAny_newObj_type ?_ (by size_fits)
  simp only [raiseNew]
  refine wpAny_bind (wpAny_handled ?_)
  rw [show A.in1.handled = none from hh]
  refine wpAny_bind (wpAny_pure (wpAny_throw ?_))
  refine wpAny_bind (wpAny_isInstance (T := "StopIteration") (b := true) ⟨_, Heap.get?_push_size _ rfl, rfl⟩ isSubtype_stop ?_)
  exact wpAny_pure (hQ _ ((((Heap.SameBut.update ..).trans (Heap.SameBut.update ..)).extBut.push _).push _))
theorem rev_self {it t : Addr} {i : Int} {Q : Value → Shared → Prop} (hit : RevAt s.heap it t i) (h : Q (.ref it) s) : wpAny (model prog w) A (pyIter (.ref it)) Q E s := by
  refine wpAny_pyIter_slot hit.typeIs slot_iter (wpAny_call_entry slot_iter hit.typeIs entry_iter ?_ (args_iter _))
  show wpAny _ _ (ret (.ref it)) _ _ s
  exact wpAny_pure ⟨_, rfl, "reversed", _, hit.typeIs, slot_next.lookup, h⟩
theorem walk_rev (hh : A.handled = none) (I t : Addr) (hne : t ≠ I) (items : Array Value) (hsz : items.size ≤ sizeLine) :
    Walks prog w A I [I, t] [I] items.size (fun i v => items[items.size - 1 - i]? = some v) (fun i h => i ≤ items.size ∧ RevAt h I t ((items.size : Int) - 1 - (i : Int)) ∧ IsTup h t items) where
  sub := fun b hb => by simp at hb; simp [hb]
  frame := fun _ _ _ x hk => ⟨x.1, x.2.1.at fun o e => hk I (by simp) o e, tup_at x.2.2 fun o e => hk t (by simp) o e⟩
  item := fun i s Q E hi x hQ => by
    have e : (items.size : Int) - 1 - (i : Int) = ((items.size - 1 - i : Nat) : Int) := by omega
    have hit := x.2.1
    rw [e] at hit
    have hx : items[items.size - 1 - i]? = some (items[items.size - 1 - i]'(by omega)) := Array.getElem?_eq_getElem (by omega)
    refine rev_next hit x.2.2 hx hsz fun h' tk hit' hs' => ?_
    have e2 : ((items.size - 1 - i : Nat) : Int) - 1 = (items.size : Int) - 1 - ((i + 1 : Nat) : Int) := by omega
    rw [e2] at hit'
    exact hQ _ h' tk hx ⟨hi, hit', tup_at x.2.2 fun o eo => (hs'.2 t hne).trans eo⟩ fun b o hb eo => hs'.extBut b o (fun h => hb (by simp [h])) eo
  done := fun s Q E x hQ => by
    have e : (items.size : Int) - 1 - (items.size : Int) = -1 := by omega
    have hit := x.2.1
    rw [e] at hit
    exact rev_end hh hit fun h' he' => hQ h' s.toks fun b o hb eo => he' b o (fun h => hb (by simp [h])) eo
  self := fun _ _ _ _ x hQ => rev_self x.2.1 hQ
theorem hint_rev {it t : Addr} {items : Array Value} {Q : Bool → Shared → Prop} (hit : RevAt s.heap it t ((items.size : Int) - 1)) (ht : IsTup s.heap t items) (hsz : items.size ≤ sizeLine) (h : ∀ (b : Bool) (tk : Nat), Q b { s with toks := tk }) :
    wpAny (model prog w) A (Builtin.List.listLengthHint (.ref it)) Q E s := by
  obtain ⟨o, ho, hc, hd⟩ := id hit
  have hb : (items.size : Int) < 2 ^ 63 := by rw [sizeLine_eq] at hsz; omega
  unfold Builtin.List.listLengthHint
  refine wpAny_bind (wpAny_specialOf hit.typeIs no_len ?_)
  refine wpAny_ite_split (fun hab => absurd hab (by decide +kernel)) (fun _ => ?_)
  refine wpAny_ite_split (fun hab => absurd hab (by decide)) (fun _ => ?_)
  refine wpAny_bind (wpAny_specialOf hit.typeIs slot_hint.lookup ?_)
  generalize hid : ("reversed.__length_hint__" : String) = id0
  wp_delta
  rw [show splitId id0 = some ("reversed", "__length_hint__") from by subst hid; decide +kernel]
  subst hid
  refine wpAny_bind (wpAny_isInstance (T := "reversed") (b := true) hit.typeIs (by rw [isSubtype_type]; kernel_rfl) ?_)
  refine wpAny_ite_split (fun hab => absurd hab (by decide)) (fun _ => ?_)
  refine wpAny_ite_split (fun hab => absurd hab (by decide +kernel)) (fun _ => ?_)
  refine wpAny_bind (wpAny_rule ?_)
  refine wpAny_bind (wpAny_of_eq (slot_hint.bind _) ?_)
  dsimp only
  refine wpAny_bind (wpAny_attempt (wpAny_call_entry slot_hint hit.typeIs entry_hint ?_ (args_hint _)))
  unfold Builtin.«reversed.__length_hint__»
  refine wpAny_bind (wpAny_of_eq (a := Value.ref it) (by rfl) ?_)
  refine wpAny_bind (wpAny_field ho hd (x := .ref t) rfl ?_)
  show wpAny _ _ (if (Value.ref t == Value.none) = true then _ else _) _ _ _
  rw [if_neg (show ¬ ((Value.ref t == Value.none) = true) from Bool.false_ne_true)]
  refine wpAny_bind (PyProof.Rows.len_tuple ht hb ?_)
  refine wpAny_bind (wpAny_of_eq (a := some (items.size : Int)) (by rfl) ?_)
  dsimp only
  refine wpAny_bind (wpAny_field (s := { s with toks := s.toks + 1 + 1 }) ho hd (x := .int ((items.size : Int) - 1) 0) rfl ?_)
  dsimp only
  have fin : ∀ (tk : Nat) (u : Tok), wpAny (model prog w) A (match (Except.ok (Value.int ((items.size : Int) - 1 + 1) u) : Except Value Value) with
            | Except.error e => do
              let __do_lift ← isInstance e (Value.type "TypeError")
              if __do_lift = true then pure true else throw e
            | Except.ok Value.notImplemented => pure true
            | Except.ok r => do
              let __x ← asInt? r
              match __x with
                | some n =>
                  if (!Builtin.List.listFitsIndex n) = true then do
                    raiseErrorWords "OverflowError" "Python int too large to convert to C ssize_t"
                    if n < 0 then do
                        raiseErrorWords "ValueError" "__length_hint__() should return >= 0"
                        if Builtin.List.listTooLong n.toNat = true then do
                            unsupported "list.length-hint:memory"
                            pure (n != 0)
                          else pure (n != 0)
                      else
                        if Builtin.List.listTooLong n.toNat = true then do
                          unsupported "list.length-hint:memory"
                          pure (n != 0)
                        else pure (n != 0)
                  else
                    if n < 0 then do
                      raiseErrorWords "ValueError" "__length_hint__() should return >= 0"
                      if Builtin.List.listTooLong n.toNat = true then do
                          unsupported "list.length-hint:memory"
                          pure (n != 0)
                        else pure (n != 0)
                    else
                      if Builtin.List.listTooLong n.toNat = true then do
                        unsupported "list.length-hint:memory"
                        pure (n != 0)
                      else pure (n != 0)
                | x => do
                  let __do_lift ← typeNameOf r
                  raiseErrorMade "TypeError"
                      (toString "__length_hint__ must be an integer, not " ++ toString __do_lift)) Q E { s with toks := tk } := by
    intro tk u
    dsimp only
    refine wpAny_bind (wpAny_of_eq (a := some ((items.size : Int) - 1 + 1)) (by rfl) ?_)
    dsimp only
    have e1 : Builtin.List.listFitsIndex ((items.size : Int) - 1 + 1) = true := by
      unfold Builtin.List.listFitsIndex
      simp
      omega
    rw [e1]
    simp only [Bool.not_true, Bool.false_eq_true, if_false]
    rw [if_neg (by omega)]
    have e2 : Builtin.List.listTooLong ((items.size : Int) - 1 + 1).toNat = false := by
      unfold Builtin.List.listTooLong
      rw [sizeLine_eq] at hsz
      simp [sizeLine_eq]
      omega
    rw [e2]
    simp only [Bool.false_eq_true, if_false]
    exact wpAny_pure (h _ _)
  rw [if_neg (by omega)]
  unfold retInt
  exact wpAny_bind (wpAny_mkInt (wpAny_pure ⟨_, rfl, fin _ _⟩))
theorem no_reversed_tuple : typeLookup (.type "tuple") "__reversed__" = pure none := by rw [typeLookup_type, builtinLookup_eq_fast]; kernel_rfl
theorem new_rev {t : Addr} {items : Array Value} {Q₁ : Value → Shared → Prop} (ht : IsTup s.heap t items) (hb : (items.size : Int) < 2 ^ 63)
    (h : ∀ tk, Q₁ (.ref s.heap.objs.size) { s with heap := s.heap.push { cls := .type "reversed", data := .fields #[.ref t, rawInt ((items.size : Int) - 1)] }, toks := tk }) :
    codeAny (model prog w) A (.call (.builtin "reversed.__new__") ⟨[.type "reversed", .ref t], []⟩) (wants Q₁ E) s := by
  refine codeAny_of_tree ?_
  show wpAny _ A.in1 (do checkBuiltinCall "reversed.__new__" ⟨[.type "reversed", .ref t], []⟩; again (.builtin "reversed.__new__" ⟨[.type "reversed", .ref t], []⟩)) _ _ s
  refine wpAny_bind (wpAny_of_eq (F.newCall_reversed_1 _) (wpAny_pure ⟨plainId_quiet F.plain_reversed_new _, codeAny_builtin F.entry_reversed_new ?_⟩))
  rw [Around.under_plainId F.plain_reversed_new _]
  unfold Builtin.«reversed.__new__»
  refine wpAny_bind (wpAny_of_eq (newClass_reversed _) ?_)
  try dsimp only
  refine wpAny_bind (wpAny_of_eq (a := ()) (by first | rfl | kernel_rfl) ?_)
  refine wpAny_bind (wpAny_of_eq (a := ()) (by first | rfl | kernel_rfl) ?_)
  try dsimp only
  refine wpAny_bind (wpAny_specialOf ht.typeIs no_reversed_tuple ?_)
  try dsimp only
  refine wpAny_bind ?_
  refine wpAny_bind (m := isInstance (.ref t) (.type "dict")) (wpAny_isInstance (T := "tuple") (b := false) ht.typeIs (by rw [isSubtype_type]; kernel_rfl) ?_)
  refine wpAny_ite_split (fun hab => absurd hab (by decide)) (fun _ => ?_)
  refine wpAny_bind (wpAny_specialOf ht.typeIs F.slot_tuple_getitem.lookup ?_)
  dsimp only
  refine wpAny_ite_split (fun _ => ?_) (fun hab => absurd (by decide +kernel) hab)
  refine wpAny_pure ?_
  rw [if_neg (by decide)]
  refine wpAny_bind (PyProof.Rows.len_tuple ht hb ?_)
  refine wpAny_bind (wpAny_of_eq (a := some (items.size : Int)) (by rfl) ?_)
  dsimp only
  refine wpAny_bind (m := newObj (.type "reversed") (.fields #[.ref t, rawInt ((items.size : Int) - 1)])) (wpAny_newObj_type (wpAny_pure ?_))
  exact h _
theorem call_rev {t : Addr} {items : Array Value} {Q : Value → Shared → Prop} (ht : IsTup s.heap t items) (hb : (items.size : Int) < 2 ^ 63)
    (h : ∀ tk, Q (.ref s.heap.objs.size) { s with heap := s.heap.push { cls := .type "reversed", data := .fields #[.ref t, rawInt ((items.size : Int) - 1)] }, toks := tk }) : wpAny (model prog w) A (call (.type "reversed") [.ref t]) Q E s := by
  refine callType_codes (Q₁ := fun obj s₁ => obj = .ref s.heap.objs.size ∧ ∃ tk, s₁ = { s with heap := s.heap.push { cls := .type "reversed", data := .fields #[.ref t, rawInt ((items.size : Int) - 1)] }, toks := tk }) called (F.typeCall_reversed_1 _) entry_oinit
    (new_rev ht hb fun tk => ⟨rfl, tk, rfl⟩) fun obj s₁ h₁ => ?_
  obtain ⟨rfl, tk, rfl⟩ := h₁
  have hT : Shared.TypeIs { s with heap := s.heap.push { cls := .type "reversed", data := .fields #[.ref t, rawInt ((items.size : Int) - 1)] }, toks := tk } (.ref s.heap.objs.size) "reversed" := ⟨_, Heap.get?_push_size _ rfl, rfl⟩
  refine ⟨hT, args_oinit _ _, ?_⟩
  unfold Builtin.«object.__init__»
  dsimp only
  refine wpAny_ite_split (fun _ => ?_) (fun hab => absurd (by rfl) hab)
  refine wpAny_bind (wpAny_typeOf hT ?_)
  refine wpAny_bind (wpAny_of_eq slot_init.lookup ?_)
  dsimp only
  refine wpAny_bind (wpAny_of_eq F.made_reversed ?_)
  refine wpAny_ite_split (fun hab => absurd hab (by decide)) (fun _ => ?_)
  refine wpAny_ite_split (fun hab => absurd hab (by decide +kernel)) (fun _ => ?_)
  exact wpAny_pure ⟨rfl, h tk⟩
end
end RV
end PySem
namespace C47
open PySem PySem.Spec PyProof.Rows L2
structure DefAt (K : PySem.W.Frag) (mg : Str → Option Value) (x : Str) (st : Stmt) (ps : List Str) (f : Addr) (fd : FuncData) : Prop where
  fn : Fun K x x st f fd
  at_ : mg x = some (.ref f)
  bd : ∀ (s : Shared) (us : List Value), us.length = ps.length → BindsTo s fd ⟨us, []⟩ (ps.zip us)
structure Callee (P : Program) (w : World) (K : PySem.W.Frag) (mg : Str → Option Value) (base : Heap) (x : Str) (k : Nat) (ps : List Str) (sp : Sp) : Prop where
  ex : ∃ f fd, FnOk P w K mg base CX0 k f fd ps sp ∧ mg x = some (.ref f) ∧ PySem.W.keepIn K (.ref f) = true ∧ Binds K fd ps []
theorem DefAt.callee {P : Program} {w : World} {K : PySem.W.Frag} {mg : Str → Option Value} {base : Heap} {x : Str} {st : Stmt} {ps : List Str} {f : Addr} {fd : FuncData} {k : Nat} {sp : Sp} (D : DefAt K mg x st ps f fd) (F : FnOk P w K mg base CX0 k f fd ps sp) :
    Callee P w K mg base x k ps sp :=
  ⟨f, fd, F, D.at_, D.fn.kp, fun s us _ hl => by rw [List.append_nil] at hl ⊢; exact D.bd s us hl⟩
section
variable {X : Cx} {x : Str} {j k : Nat} {ps : List Str} {sp : Sp} {p pos : Pos} {e : Expr} {es : List Expr} {t : TA}
theorem pe_fn (C : Callee X.prog X.w X.K X.mg X.base x j ps sp) (hr : Room k X.A) (hg : Gl X x) (ha : PA X (e :: es) t) (hj : j ≤ k := by decide) (hdb : (x == ("__debug__" : Str)) = false := by decide)
    (he : starEach (e :: es) X.env = (false, eval e X.env) :: starEach es X.env := by rfl) (hpl : (backTo pos (starEach es X.env)).any (·.1) = false := by rfl) : PE X (.Call (.Name x p) (e :: es) [] pos) (tCall sp [] E0 t) := by
  obtain ⟨f, fd, F, hm, hk, hb⟩ := C.ex
  exact pe_call F (hr.mono hj) hg hm hk hb .nil pass0 ha hdb he hpl
theorem pe_gi {i : Int} (hg : Gl X x) (h : ∃ t, X.mg x = some (.int i t)) (hd : (x == ("__debug__" : Str)) = false := by decide) : PE X (.Name x pos) (tC (.int i)) := by
  obtain ⟨t, h⟩ := h
  exact pe_glob hg h ⟨t, rfl⟩ hd
end
theorem cx_K {CX : CXT} {P : Program} {w : World} {K : PySem.W.Frag} {mg : Str → Option Value} {base : Heap} {N : List Str} {qual : Str} {scope : Scope} {f : Addr} {cd : Value} {A : Around} {outer : List Env} {s : Shared} {H : Hp} {E : XK} : (cxOf CX P w K mg base N qual scope f cd A outer s H E).K = K := rfl
def wB (x : V) (H : Hp) (Q : Bool → Hp → Prop) : Prop := ∃ k, x = .bl k ∧ Q k H
def forR (lo : Int) (n : Nat) (g : TG) (tb : TS) (D : Ends) (σ : L2.St) (H : Hp) : Prop := ∃ W : Nat → Nat → L2.St → Hp → Prop, (∃ m, W 0 m σ H) ∧ ∀ i m σ H, W i m σ H →
  ((Itr lo n).stop i H ∧ D.nx σ H) ∨ ((Itr lo n).go i H ∧ ∃ N : L2.St → Hp → Prop, (∀ σ' H', N σ' H' → ∃ m', m' < m ∧ W (i + 1) m' σ' H') ∧ ∀ x H', (Itr lo n).yld i H x H' → g x σ H' fun σ2 H2 => tb { D with nx := N, ct := N, bk := D.nx } σ2 H2)
def forL (K : PySem.W.Frag) (a : Addr) (g : TG) (tb : TS) (D : Ends) (σ : L2.St) (H : Hp) : Prop := ∃ W : Nat → Nat → L2.St → Hp → Prop, (∃ m, W 0 m σ H) ∧ ∀ i m σ H, W i m σ H →
  ((Itl K a).stop i H ∧ D.nx σ H) ∨ ((Itl K a).go i H ∧ ∃ N : L2.St → Hp → Prop, (∀ σ' H', N σ' H' → ∃ m', m' < m ∧ W (i + 1) m' σ' H') ∧ ∀ x H', (Itl K a).yld i H x H' → g x σ H' fun σ2 H2 => tb { D with nx := N, ct := N, bk := D.nx } σ2 H2)
def fR1 (vs : List V) (g : TG) (tb : TS) (D : Ends) (σ : L2.St) (H : Hp) : Prop := ∃ j : Int, vs = [.int j] ∧ -(2 ^ 62) ≤ j ∧ j < 2 ^ 62 ∧ forR 0 j.toNat g tb D σ H
def fR2 (vs : List V) (g : TG) (tb : TS) (D : Ends) (σ : L2.St) (H : Hp) : Prop := ∃ i j : Int, vs = [.int i, .int j] ∧ (-(2 ^ 62) ≤ i ∧ i < 2 ^ 62 ∧ -(2 ^ 62) ≤ j ∧ j < 2 ^ 62) ∧ forR i (j - i).toNat g tb D σ H
def fL (K : PySem.W.Frag) (x : V) (g : TG) (tb : TS) (D : Ends) (σ : L2.St) (H : Hp) : Prop := ∃ a, x = .ref a ∧ (∃ xs, SqL K H a xs) ∧ forL K a g tb D σ H
def bodyW (W : Nat → L2.St → Hp → Prop) (m : Nat) (tb : TS) (D : Ends) (σ : L2.St) (H : Hp) : Prop := ∃ N : L2.St → Hp → Prop, (∀ σ' H', N σ' H' → ∃ m', m' < m ∧ W m' σ' H') ∧ tb { D with nx := N, ct := N, bk := D.nx } σ H
def rLen (K : PySem.W.Frag) : List V → Hp → VK → Prop := fun xs H Q => ∃ p ys, xs = [.ref p] ∧ (SqL K H p ys ∨ SqT K H p ys) ∧ Q (.int ys.length) H
def rMax2 : List V → Hp → VK → Prop := fun xs H Q => ∃ i j, xs = [.int i, .int j] ∧ Q (.int (if j > i then j else i)) H
def rMin2 : List V → Hp → VK → Prop := fun xs H Q => ∃ i j, xs = [.int i, .int j] ∧ Q (.int (if j < i then j else i)) H
def rAbs : List V → Hp → VK → Prop := fun xs H Q => ∃ i, xs = [.int i] ∧ Q (.int (if i < 0 then -i else i)) H
def rListOf (K : PySem.W.Frag) : List V → Hp → VK → Prop := fun xs H Q => ∃ p ys, xs = [.ref p] ∧ (SqL K H p ys ∨ SqT K H p ys) ∧ ∀ l, H l = none → Q (.ref l) (upd H l (.lst ys))
def wPop (a : Addr) (H : Hp) (Q : VK) : Prop := ∃ xs y, H a = some (.lst xs) ∧ xs[xs.length - 1]? = some y ∧ Q y (upd H a (.lst xs.dropLast))
def wT (K : PySem.W.Frag) (x : V) (H : Hp) (Q : Bool → Hp → Prop) : Prop := ∃ k, TruV K x H k ∧ Q k H
def tTru (K : PySem.W.Frag) (te : TE) : TT := fun σ H Q => te σ H fun x H' => wT K x H' Q
section
variable {X : Cx}
theorem c_len : CallR X (.builtin "len") (rLen X.K) := call_len_seq
theorem c_max (hc : X.calm = true) : CallR X (.builtin "max") rMax2 := call_max2 hc
theorem c_min (hc : X.calm = true) : CallR X (.builtin "min") rMin2 := call_min2 hc
theorem pt_tru {a : Expr} {ta : TE} (ha : PE X a ta) (he : ∀ whole, isTrue a X.env whole = (do let v ← whole; standAt a.pos; holding [v] (truthy v))) : PT X a (tTru X.K ta) := pt_truth ha he
end
section
variable {D : Ends} {σ : L2.St} {H : Hp} {Q : VK} {QB : Bool → Hp → Prop} {QA : List V → Hp → Prop} {QS : L2.St → Hp → Prop} {QH : Hp → Prop} {t u : TS} {te ta tb td : TE} {tt tu : TT} {tl tr : TA} {K : PySem.W.Frag}
theorem w_seq : tSeq t u D σ H = t { D with nx := u D } σ H := rfl
theorem w_next : tNext D σ H = D.nx σ H := rfl
theorem w_break : tBreak D σ H = D.bk σ H := rfl
theorem w_cont : tCont D σ H = D.ct σ H := rfl
theorem w_drop : tDrop te D σ H = te σ H fun _ H1 => D.nx σ H1 := rfl
theorem w_ret : tRet te D σ H = te σ H D.rt := rfl
theorem w_if : tIfS tt t u D σ H = tt σ H fun b H1 => if b = true then t D σ H1 else u D σ H1 := rfl
theorem w_asg {g : TG} : tAsg te g D σ H = te σ H fun x H1 => g x σ H1 D.nx := rfl
theorem w_gname {i : Nat} {v : V} : gName i v σ H QS = QS (σ.set i (some v)) H := rfl
theorem w_gsub {ts : TSet} {v : V} : gSub ta tb ts v σ H QS = ta σ H fun o H1 => tb σ H1 fun i H2 => ts o i v H2 fun H3 => QS σ H3 := rfl
theorem w_aug {ti : TIp} {i : Nat} : tAug i te ti D σ H = tVar i σ H fun x H0 => te σ H0 fun y H1 => ti x y H1 fun z H2 => D.nx (σ.set i (some z)) H2 := rfl
theorem w_var0 {v : V} {s : L2.St} : tVar 0 (some v :: s) H Q = Q v H := propext ⟨fun ⟨_, e, q⟩ => by cases e; exact q, fun q => ⟨v, rfl, q⟩⟩
theorem w_varS {i : Nat} {o : Option V} {s : L2.St} : tVar (i + 1) (o :: s) H Q = tVar i s H Q := rfl
theorem w_c {v : V} : tC v σ H Q = Q v H := rfl
theorem w_op {r : R2} : tOp r ta tb σ H Q = ta σ H fun x H1 => tb σ H1 fun y H2 => r x y H2 Q := rfl
theorem w_un {r : V → Hp → VK → Prop} : tUn r ta σ H Q = ta σ H fun x H1 => r x H1 Q := rfl
theorem w_rI0 {g : Int → Int → V} {i j : Int} : rI0 g (.int i) (.int j) H Q = Q (g i j) H := propext ⟨fun ⟨_, _, e1, e2, q⟩ => by cases e1; cases e2; exact q, fun q => ⟨i, j, rfl, rfl, q⟩⟩
theorem w_rI {C : Int → Int → Prop} {g : Int → Int → V} {i j : Int} : rI C g (.int i) (.int j) H Q = (C i j ∧ Q (g i j) H) := propext ⟨fun ⟨_, _, e1, e2, c, q⟩ => by cases e1; cases e2; exact ⟨c, q⟩, fun ⟨c, q⟩ => ⟨i, j, rfl, rfl, c, q⟩⟩
theorem w_rU {g : Int → V} {i : Int} : rU g (.int i) H Q = Q (g i) H := propext ⟨fun ⟨_, e, q⟩ => by cases e; exact q, fun q => ⟨i, rfl, q⟩⟩
theorem w_ipI {g : Int → Int → Int} {i j : Int} : ipI g (.int i) (.int j) H Q = Q (.int (g i j)) H := propext ⟨fun ⟨_, _, e1, e2, q⟩ => by cases e1; cases e2; exact q, fun q => ⟨i, j, rfl, rfl, q⟩⟩
theorem w_rEq {i j : Int} : rEq (.int i) (.int j) H Q = Q (.bl (decide (i = j))) H := by
  have e : decide (V.int i = V.int j) = decide (i = j) := by rw [dec_int]; exact Bool.beq_eq_decide_eq i j
  exact propext ⟨fun ⟨_, q⟩ => by rw [e] at q; exact q, fun q => ⟨rfl, by rw [e]; exact q⟩⟩
theorem w_rNe {i j : Int} : rNe (.int i) (.int j) H Q = Q (.bl (!decide (i = j))) H := by
  have e : decide (V.int i = V.int j) = decide (i = j) := by rw [dec_int]; exact Bool.beq_eq_decide_eq i j
  exact propext ⟨fun ⟨_, q⟩ => by rw [e] at q; exact q, fun q => ⟨rfl, by rw [e]; exact q⟩⟩
theorem w_rIxL {a : Addr} {i : Int} : rIxL K (.ref a) (.int i) H Q = ∃ xs v, SqL K H a xs ∧ atI xs i = some v ∧ Q v H :=
  propext ⟨fun ⟨_, xs, _, v, e1, e2, h1, h2, q⟩ => by cases e1; cases e2; exact ⟨xs, v, h1, h2, q⟩, fun ⟨xs, v, h1, h2, q⟩ => ⟨a, xs, i, v, rfl, rfl, h1, h2, q⟩⟩
theorem w_rIxT {a : Addr} {i : Int} : rIxT K (.ref a) (.int i) H Q = ∃ xs v, SqT K H a xs ∧ atI xs i = some v ∧ Q v H :=
  propext ⟨fun ⟨_, xs, _, v, e1, e2, h1, h2, q⟩ => by cases e1; cases e2; exact ⟨xs, v, h1, h2, q⟩, fun ⟨xs, v, h1, h2, q⟩ => ⟨a, xs, i, v, rfl, rfl, h1, h2, q⟩⟩
theorem w_rSetL {a : Addr} {i : Int} {v : V} : rSetL (.ref a) (.int i) v H QH = ∃ xs j, H a = some (.lst xs) ∧ ixN xs.length i = some j ∧ QH (upd H a (.lst (xs.set j v))) :=
  propext ⟨fun ⟨_, xs, _, j, e1, e2, h1, h2, q⟩ => by cases e1; cases e2; exact ⟨xs, j, h1, h2, q⟩, fun ⟨xs, j, h1, h2, q⟩ => ⟨a, xs, i, j, rfl, rfl, h1, h2, q⟩⟩
theorem w_test : tTest te σ H QB = te σ H fun x H' => wB x H' QB := rfl
theorem w_tB : tB te σ H QB = te σ H fun x H' => wB x H' QB := rfl
theorem w_bl {b : Bool} : wB (.bl b) H QB = QB b H := propext ⟨fun ⟨_, e, q⟩ => by cases e; exact q, fun q => ⟨b, rfl, q⟩⟩
theorem w_and : tAnd tt tu σ H QB = tt σ H fun c H1 => if c = true then tu σ H1 QB else QB false H1 := rfl
theorem w_or : tOr tt tu σ H QB = tt σ H fun c H1 => if c = true then QB true H1 else tu σ H1 QB := rfl
theorem w_not : tNot tt σ H QB = tt σ H fun c H1 => QB (!c) H1 := rfl
theorem w_ifx : tIf tt ta tb σ H Q = tt σ H fun c H1 => if c = true then ta σ H1 Q else tb σ H1 Q := rfl
theorem w_nil : tNil σ H QA = QA [] H := rfl
theorem w_cons : tCons te tl σ H QA = te σ H fun x H1 => tl σ H1 fun xs H2 => QA (x :: xs) H2 := rfl
theorem w_lst : tLst tl σ H Q = tl σ H fun xs H1 => xs.length ≤ sizeLine ∧ ∀ p, H1 p = none → Q (.ref p) (upd H1 p (.lst xs)) := rfl
theorem w_tup : tTup tl σ H Q = tl σ H fun xs H1 => xs.length ≤ sizeLine ∧ ∀ p, H1 p = none → Q (.ref p) (upd H1 p (.tup xs)) := rfl
theorem w_call {sp : Sp} {dvs : List V} {E : XK} : tCall sp dvs E tl σ H Q = tl σ H fun vs H1 => sp (vs ++ dvs) H1 Q E := rfl
theorem w_cb {r : List V → Hp → VK → Prop} : tCB r tl σ H Q = tl σ H fun vs H1 => r vs H1 Q := rfl
theorem w_bm {T : String} {r : V → List V → Hp → VK → Prop} : tBM K T r te tl σ H Q = te σ H fun x H1 => tyV K T x H1 ∧ tl σ H1 fun xs H2 => r x xs H2 Q := rfl
theorem w_bm0 {T : String} {r : V → List V → Hp → VK → Prop} : tBM0 K T r te σ H Q = te σ H fun x H1 => tyV K T x H1 ∧ r x [] H1 Q := rfl
theorem w_append {a : Addr} {y : V} : rAppend (.ref a) [y] H Q = ∃ xs, H a = some (.lst xs) ∧ xs.length < sizeLine ∧ Q .non (upd H a (.lst (xs ++ [y]))) :=
  propext ⟨fun ⟨_, xs, _, e1, e2, h1, h2, q⟩ => by cases e1; cases e2; exact ⟨xs, h1, h2, q⟩, fun ⟨xs, h1, h2, q⟩ => ⟨a, xs, y, rfl, rfl, h1, h2, q⟩⟩
theorem w_pop {a : Addr} : rPop (.ref a) [] H Q = wPop a H Q :=
  propext ⟨fun ⟨_, xs, y, e1, _, h1, h2, q⟩ => by cases e1; exact ⟨xs, y, h1, h2, q⟩, fun ⟨xs, y, h1, h2, q⟩ => ⟨a, xs, y, rfl, rfl, h1, h2, q⟩⟩
theorem pop_snoc {a : Addr} {ys : List V} {y : V} (h : H a = some (.lst (ys ++ [y]))) (q : Q y (upd H a (.lst ys))) : wPop a H Q := ⟨ys ++ [y], y, h, by simp, by rw [List.dropLast_concat]; exact q⟩
theorem w_cat {a b : Addr} : rCat (.ref a) (.ref b) H Q = ∃ xs zs, H a = some (.lst xs) ∧ H b = some (.lst zs) ∧ xs.length + zs.length ≤ sizeLine ∧ ∀ p, H p = none → Q (.ref p) (upd H p (.lst (xs ++ zs))) :=
  propext ⟨fun ⟨_, _, xs, zs, e1, e2, h⟩ => by cases e1; cases e2; exact ⟨xs, zs, h⟩, fun ⟨xs, zs, h⟩ => ⟨a, b, xs, zs, rfl, rfl, h⟩⟩
theorem ty_list {a : Addr} {xs : List V} (h : SqL K H a xs) : tyV K "list" (.ref a) H := .inl ⟨rfl, xs, h⟩
theorem w_forR1 {g : TG} : tFor (iRng1 tl) g t D σ H = tl σ H fun vs H1 => fR1 vs g t D σ H1 := rfl
theorem w_forR2 {g : TG} : tFor (iRng2 tl) g t D σ H = tl σ H fun vs H1 => fR2 vs g t D σ H1 := rfl
theorem w_forL {g : TG} : tFor (iList K te) g t D σ H = te σ H fun x H1 => fL K x g t D σ H1 := rfl
theorem w_fR1 {g : TG} {j : Int} : fR1 [.int j] g t D σ H = (-(2 ^ 62) ≤ j ∧ j < 2 ^ 62 ∧ forR 0 j.toNat g t D σ H) := propext ⟨fun ⟨_, e, h⟩ => by cases e; exact h, fun h => ⟨j, rfl, h⟩⟩
theorem w_fR2 {g : TG} {i j : Int} : fR2 [.int i, .int j] g t D σ H = ((-(2 ^ 62) ≤ i ∧ i < 2 ^ 62 ∧ -(2 ^ 62) ≤ j ∧ j < 2 ^ 62) ∧ forR i (j - i).toNat g t D σ H) := propext ⟨fun ⟨_, _, e, h⟩ => by cases e; exact h, fun h => ⟨i, j, rfl, h⟩⟩
theorem w_fL {g : TG} {a : Addr} : fL K (.ref a) g t D σ H = ((∃ xs, SqL K H a xs) ∧ forL K a g t D σ H) := propext ⟨fun ⟨_, e, h⟩ => by cases e; exact h, fun h => ⟨a, rfl, h⟩⟩
theorem w_len {a : Addr} : rLen K [.ref a] H Q = ∃ ys, (SqL K H a ys ∨ SqT K H a ys) ∧ Q (.int ys.length) H := propext ⟨fun ⟨_, ys, e, h⟩ => by cases e; exact ⟨ys, h⟩, fun ⟨ys, h⟩ => ⟨a, ys, rfl, h⟩⟩
theorem w_max {i j : Int} : rMax2 [.int i, .int j] H Q = Q (.int (if j > i then j else i)) H := propext ⟨fun ⟨_, _, e, h⟩ => by cases e; exact h, fun h => ⟨i, j, rfl, h⟩⟩
theorem w_min {i j : Int} : rMin2 [.int i, .int j] H Q = Q (.int (if j < i then j else i)) H := propext ⟨fun ⟨_, _, e, h⟩ => by cases e; exact h, fun h => ⟨i, j, rfl, h⟩⟩
theorem w_abs {i : Int} : rAbs [.int i] H Q = Q (.int (if i < 0 then -i else i)) H := propext ⟨fun ⟨_, e, h⟩ => by cases e; exact h, fun h => ⟨i, rfl, h⟩⟩
theorem w_listOf {a : Addr} : rListOf K [.ref a] H Q = ∃ ys, (SqL K H a ys ∨ SqT K H a ys) ∧ ∀ l, H l = none → Q (.ref l) (upd H l (.lst ys)) := propext ⟨fun ⟨_, ys, e, h⟩ => by cases e; exact ⟨ys, h⟩, fun ⟨ys, h⟩ => ⟨a, ys, rfl, h⟩⟩
theorem w_tru : tTru K te σ H QB = te σ H fun x H' => wT K x H' QB := rfl
theorem w_truI {i : Int} : wT K (.int i) H QB = QB (i != 0) H := propext ⟨fun ⟨_, e, h⟩ => by cases (show _ = (i != 0) from e); exact h, fun h => ⟨_, rfl, h⟩⟩
theorem tru_list {a : Addr} {xs : List V} (h : SqL K H a xs) (q : QB (!xs.isEmpty) H) : wT K (.ref a) H QB := ⟨_, .inl ⟨xs, h, rfl⟩, q⟩
end
theorem range_by {lo : Int} {n : Nat} {g : TG} {tb : TS} {D : Ends} {σ : L2.St} {H : Hp} (Pv : Nat → L2.St → Hp → Prop) (h0 : Pv 0 σ H)
    (hs : ∀ i σ H, i < n → Pv i σ H → g (.int (lo + i)) σ H fun σ2 H2 => tb { D with nx := Pv (i + 1), ct := Pv (i + 1), bk := D.nx } σ2 H2) (hd : ∀ σ H, Pv n σ H → D.nx σ H) : forR lo n g tb D σ H := for_range Pv h0 hs hd
theorem list_by {K : PySem.W.Frag} {a : Addr} {xs : List V} {g : TG} {tb : TS} {D : Ends} {σ : L2.St} {H : Hp} (Pv : Nat → L2.St → Hp → Prop) (h0 : Pv 0 σ H) (hl : ∀ i σ H, i ≤ xs.length → Pv i σ H → SqL K H a xs)
    (hs : ∀ i x σ H, xs[i]? = some x → Pv i σ H → g x σ H fun σ2 H2 => tb { D with nx := Pv (i + 1), ct := Pv (i + 1), bk := D.nx } σ2 H2) (hd : ∀ σ H, Pv xs.length σ H → D.nx σ H) : forL K a g tb D σ H := for_list Pv h0 hl hs hd
theorem while_go {c : TT} {tb : TS} {D : Ends} {σ : L2.St} {H : Hp} (W : Nat → L2.St → Hp → Prop) (m : Nat) (h0 : W m σ H)
    (hs : ∀ m σ H, W m σ H → c σ H fun b H1 => if b = true then bodyW W m tb D σ H1 else D.nx σ H1) : tWhile c tb D σ H := ⟨W, ⟨m, h0⟩, hs⟩
theorem body_by {W : Nat → L2.St → Hp → Prop} {m : Nat} {tb : TS} {D : Ends} {σ : L2.St} {H : Hp}
    (h : tb { D with nx := fun σ' H' => ∃ m', m' < m ∧ W m' σ' H', ct := fun σ' H' => ∃ m', m' < m ∧ W m' σ' H', bk := D.nx } σ H) : bodyW W m tb D σ H := ⟨_, fun _ _ z => z, h⟩
end C47
namespace C47
open PySem PySem.Spec PyProof.Rows L2
def wDGet (x y : V) (H : Hp) (Q : VK) : Prop := ∃ a v, x = .ref a ∧ DGet H a y (some v) ∧ Q v H
def wDPut (x y v : V) (H : Hp) (QH : Hp → Prop) : Prop := ∃ a H4, x = .ref a ∧ DPut H a y v H4 ∧ QH H4
def wDIn (x y : V) (H : Hp) (Q : VK) : Prop := ∃ a o, x = .ref a ∧ DGet H a y o ∧ Q (.bl o.isSome) H
def wDNotIn (x y : V) (H : Hp) (Q : VK) : Prop := ∃ a o, x = .ref a ∧ DGet H a y o ∧ Q (.bl (!o.isSome)) H
section
variable {D : Ends} {σ : L2.St} {H : Hp} {Q : VK} {QB : Bool → Hp → Prop} {QS : L2.St → Hp → Prop} {QH : Hp → Prop} {te td ty tv : TE} {K : PySem.W.Frag}
theorem w_dget : tDGet td ty σ H Q = td σ H fun x H1 => ty σ H1 fun y H2 => wDGet x y H2 Q := rfl
theorem w_dput : sDPut td ty tv D σ H = tv σ H fun v H1 => td σ H1 fun x H2 => ty σ H2 fun y H3 => wDPut x y v H3 fun H4 => D.nx σ H4 := rfl
theorem w_din : tDIn ty td σ H Q = ty σ H fun y H1 => td σ H1 fun x H2 => wDIn x y H2 Q := rfl
theorem w_dnotin : tDNotIn ty td σ H Q = ty σ H fun y H1 => td σ H1 fun x H2 => wDNotIn x y H2 Q := rfl
theorem w_dnew : tDNewK σ H Q = ∀ p, H p = none → Q (.ref p) (upd H p (.dK [])) := rfl
theorem dget_i {a : Addr} {kvs : List (L2.Key × V)} {i : Int} {v : V} (e : H a = some (.dK kvs)) (h : valV kvs (Sum.inl i) = some v) (q : Q v H) : wDGet (.ref a) (.int i) H Q :=
  ⟨a, v, rfl, by rw [← h]; exact DGet.k (k := Sum.inl i) e, q⟩
theorem dput_i {a : Addr} {kvs : List (L2.Key × V)} {i : Int} {v : V} (e : H a = some (.dK kvs)) (hl : kvs.length < sizeLine) (q : QH (upd H a (.dK (putK kvs (Sum.inl i) v)))) : wDPut (.ref a) (.int i) v H QH :=
  ⟨a, _, rfl, DPut.k (k := Sum.inl i) e hl, q⟩
end
def lcR (lo : Int) (n : Nat) (g : TG) (tt : TT) (te : TE) (vs : List Nat) (σ : L2.St) (H1 : Hp) (Q : VK) : Prop := ∀ D, H1 D = none → ∃ W : Nat → Nat → Hp → Prop, (∃ m, W 0 m (upd H1 D (.lst []))) ∧ ∀ i m H, W i m H →
  ((Itr lo n).stop i H ∧ Q (.ref D) H) ∨ ((Itr lo n).go i H ∧ ∃ Nx : Hp → Prop, (∀ H', Nx H' → ∃ m', m' < m ∧ W (i + 1) m' H') ∧ ∀ x H', (Itr lo n).yld i H x H' → g x (wipe σ vs) H' fun σ2 H2 => wipe σ2 vs = wipe σ vs ∧ tt σ2 H2 fun b H3 =>
    if b = true then te σ2 H3 fun y H4 => ∃ acc, H4 D = some (.lst acc) ∧ acc.length < sizeLine ∧ Nx (upd H4 D (.lst (acc ++ [y]))) else Nx H3)
def lcL (K : PySem.W.Frag) (a : Addr) (g : TG) (tt : TT) (te : TE) (vs : List Nat) (σ : L2.St) (H1 : Hp) (Q : VK) : Prop := ∀ D, H1 D = none → ∃ W : Nat → Nat → Hp → Prop, (∃ m, W 0 m (upd H1 D (.lst []))) ∧ ∀ i m H, W i m H →
  ((Itl K a).stop i H ∧ Q (.ref D) H) ∨ ((Itl K a).go i H ∧ ∃ Nx : Hp → Prop, (∀ H', Nx H' → ∃ m', m' < m ∧ W (i + 1) m' H') ∧ ∀ x H', (Itl K a).yld i H x H' → g x (wipe σ vs) H' fun σ2 H2 => wipe σ2 vs = wipe σ vs ∧ tt σ2 H2 fun b H3 =>
    if b = true then te σ2 H3 fun y H4 => ∃ acc, H4 D = some (.lst acc) ∧ acc.length < sizeLine ∧ Nx (upd H4 D (.lst (acc ++ [y]))) else Nx H3)
def lcZ (K : PySem.W.Frag) (a b : Addr) (g : TG) (tt : TT) (te : TE) (vs : List Nat) (σ : L2.St) (H1 : Hp) (Q : VK) : Prop := ∀ D, H1 D = none → ∃ W : Nat → Nat → Hp → Prop, (∃ m, W 0 m (upd H1 D (.lst []))) ∧ ∀ i m H, W i m H →
  ((Itz K a b).stop i H ∧ Q (.ref D) H) ∨ ((Itz K a b).go i H ∧ ∃ Nx : Hp → Prop, (∀ H', Nx H' → ∃ m', m' < m ∧ W (i + 1) m' H') ∧ ∀ x H', (Itz K a b).yld i H x H' → g x (wipe σ vs) H' fun σ2 H2 => wipe σ2 vs = wipe σ vs ∧ tt σ2 H2 fun b H3 =>
    if b = true then te σ2 H3 fun y H4 => ∃ acc, H4 D = some (.lst acc) ∧ acc.length < sizeLine ∧ Nx (upd H4 D (.lst (acc ++ [y]))) else Nx H3)
def cR1 (xs : List V) (g : TG) (tt : TT) (te : TE) (vs : List Nat) (σ : L2.St) (H : Hp) (Q : VK) : Prop := ∃ j : Int, xs = [.int j] ∧ -(2 ^ 62) ≤ j ∧ j < 2 ^ 62 ∧ lcR 0 j.toNat g tt te vs σ H Q
def cL (K : PySem.W.Frag) (x : V) (g : TG) (tt : TT) (te : TE) (vs : List Nat) (σ : L2.St) (H : Hp) (Q : VK) : Prop := ∃ a, x = .ref a ∧ (∃ xs, SqL K H a xs) ∧ lcL K a g tt te vs σ H Q
def cZ (K : PySem.W.Frag) (zs : List V) (g : TG) (tt : TT) (te : TE) (vs : List Nat) (σ : L2.St) (H : Hp) (Q : VK) : Prop := ∃ a b xs ys, zs = [.ref a, .ref b] ∧ SqL K H a xs ∧ SqL K H b ys ∧ lcZ K a b g tt te vs σ H Q
section
variable {σ : L2.St} {H : Hp} {Q : VK} {QB : Bool → Hp → Prop} {QS : L2.St → Hp → Prop} {te tl : TE} {ta : TA} {tt : TT} {g : TG} {vs : List Nat} {K : PySem.W.Frag}
theorem w_lcR1 : tLc (iRng1 ta) g tt te vs σ H Q = ta σ H fun xs H1 => cR1 xs g tt te vs σ H1 Q := rfl
theorem w_lcL : tLc (iList K tl) g tt te vs σ H Q = tl σ H fun x H1 => cL K x g tt te vs σ H1 Q := rfl
theorem w_lcZ : tLc (iZip K ta) g tt te vs σ H Q = ta σ H fun xs H1 => cZ K xs g tt te vs σ H1 Q := rfl
theorem w_cR1 {j : Int} : cR1 [.int j] g tt te vs σ H Q = (-(2 ^ 62) ≤ j ∧ j < 2 ^ 62 ∧ lcR 0 j.toNat g tt te vs σ H Q) := propext ⟨fun ⟨_, e, h⟩ => by cases e; exact h, fun h => ⟨j, rfl, h⟩⟩
theorem w_cL {a : Addr} : cL K (.ref a) g tt te vs σ H Q = ((∃ xs, SqL K H a xs) ∧ lcL K a g tt te vs σ H Q) := propext ⟨fun ⟨_, e, h⟩ => by cases e; exact h, fun h => ⟨a, rfl, h⟩⟩
theorem w_cZ {a b : Addr} : cZ K [.ref a, .ref b] g tt te vs σ H Q = ∃ xs ys, SqL K H a xs ∧ SqL K H b ys ∧ lcZ K a b g tt te vs σ H Q := propext ⟨fun ⟨_, _, xs, ys, e, h⟩ => by cases e; exact ⟨xs, ys, h⟩, fun ⟨xs, ys, h⟩ => ⟨a, b, xs, ys, rfl, h⟩⟩
theorem w_yes : tYes σ H QB = QB true H := rfl
theorem w_wipe0 : wipe σ [] = σ := rfl
theorem w_wipeC {v : Nat} : wipe σ (v :: vs) = (wipe σ vs).set v none := rfl
theorem w_gtup {n : Nat} {t : TGs} {a : Addr} : gTup K n t (.ref a) σ H QS = ∃ xs, SqT K H a xs ∧ xs.length = n ∧ t xs σ H QS := propext ⟨fun ⟨_, xs, e, h⟩ => by cases e; exact ⟨xs, h⟩, fun ⟨xs, h⟩ => ⟨a, xs, rfl, h⟩⟩
theorem w_gnil : gNil [] σ H QS = QS σ H := propext ⟨fun ⟨_, h⟩ => h, fun h => ⟨rfl, h⟩⟩
theorem w_gcons {t : TG} {u : TGs} {x : V} {xs : List V} : gCons t u (x :: xs) σ H QS = t x σ H fun σ1 H1 => u xs σ1 H1 QS := propext ⟨fun ⟨_, _, e, h⟩ => by cases e; exact h, fun h => ⟨x, xs, rfl, h⟩⟩
end
theorem lcl_by {K : PySem.W.Frag} {a : Addr} {xs : List V} {g : TG} {tt : TT} {te : TE} {vs : List Nat} {σ : L2.St} {H1 : Hp} {Q : VK} (Pv : Addr → Nat → Hp → Prop) (h0 : ∀ D, H1 D = none → Pv D 0 (upd H1 D (.lst []))) (hl : ∀ D i H, H1 D = none → i ≤ xs.length → Pv D i H → SqL K H a xs)
    (hs : ∀ D i x H, H1 D = none → xs[i]? = some x → Pv D i H → g x (wipe σ vs) H fun σ2 H2 => wipe σ2 vs = wipe σ vs ∧ tt σ2 H2 fun b H3 => if b = true then te σ2 H3 fun y H4 => ∃ acc, H4 D = some (.lst acc) ∧ acc.length < sizeLine ∧ Pv D (i + 1) (upd H4 D (.lst (acc ++ [y]))) else Pv D (i + 1) H3)
    (hd : ∀ D H, H1 D = none → Pv D xs.length H → Q (.ref D) H) : lcL K a g tt te vs σ H1 Q := fun D hD => lc_list (Pv D) (h0 D hD) (fun i H hi p => hl D i H hD hi p) (fun i x H hx p => hs D i x H hD hx p) (fun H p => hd D H hD p)
theorem ix_listK {X : Cx} {K : PySem.W.Frag} (hK : X.K = K) : IxR X (rIxL K) := by subst hK; exact ix_list
theorem pg_tupK {X : Cx} {K : PySem.W.Frag} {pos : Pos} {es : List Expr} {k : Nat} {t : TGs} {n : Nat} (hK : X.K = K) (hc : X.calm = true) (h : PGs X es t) (hn : (assignEach es X.env).length = n := by rfl) (hst : (assignEach es X.env).findIdx? (·.1) = none := by rfl) : PG X (.Tuple es k pos) (gTup K n t) := by
  subst hK
  exact pg_tup hc h hn hst
end C47
namespace C47
open PySem PySem.Spec PyProof.Rows L2
def nh (k : List (List Int)) : Int := reduceHash (Builtin.Tuple.tupleHashOf (k.map fun q => reduceHash (Builtin.Tuple.tupleHashOf (q.map hashInt))))
def nEntry (x : List (List Int) × Addr × Value) : DictEntry := ⟨nh x.1, .ref x.2.1, x.2.2⟩
def nPhi (a : Addr) (xs : List (List (List Int) × Addr × Value)) : Heap → Prop := fun h => ∃ o es ep, h.get? a = some o ∧ o.ExactDict ∧ o.data = .dict es ep ∧ es.toList = xs.map nEntry
inductive PairsAt (H : Hp) : List Addr → List (List Int) → Prop
  | nil : PairsAt H [] []
  | cons {p : Addr} {q : List Int} {ps : List Addr} {qs : List (List Int)} : H p = some (.tup (q.map V.int)) → PairsAt H ps qs → PairsAt H (p :: ps) (q :: qs)
def NKey (H : Hp) (k : List (List Int)) (b : Addr) : Prop := ∃ ps : List Addr, H b = some (.tup (ps.map V.ref)) ∧ PairsAt H ps k
structure NDict (H : Hp) (a : Addr) (xs : List (List (List Int) × Addr × Value)) : Prop where
  at_ : H a = some (.ext (nPhi a xs))
  sys : (a == sysModules) = false
  len : xs.length ≤ sizeLine
  nd : (xs.map (·.1)).Nodup
  keys : ∀ x ∈ xs, NKey H x.1 x.2.1
theorem ref_of {ps : List Addr} {its : List Value} (r : Vals (ps.map V.ref) its) : its = ps.map Value.ref := by
  induction ps generalizing its with
  | nil => cases r; rfl
  | cons p ps ih =>
    cases r with
    | cons r1 r2 =>
      cases r1
      rw [ih r2]
      rfl
theorem ints_at {w : World} {P : Program} {q : List Int} {its : List Value} (r : Vals (q.map V.int) its) : ItemsAre (intKind P w) q its := by
  induction q generalizing its with
  | nil => cases r; exact .nil
  | cons p ps ih =>
    cases r with
    | cons r1 r2 =>
      obtain ⟨t, rfl⟩ := r1
      exact .cons (intKind_is _ _ _ _) (ih r2)
theorem pairs_its {P : Program} {w : World} {H : Hp} {h : Heap} (ok : HOk P w H h) {ps : List Addr} {k : List (List Int)} (x : PairsAt H ps k) : NK.Its (tupleKind (intKind P w)) h k (ps.map Value.ref) := by
  induction x with
  | nil => exact .nil
  | @cons p q ps qs e _ ih =>
    obtain ⟨_, its, r, o, h1, h2, n, h3⟩ := (show ObjOk P w H h p (.tup (q.map V.int)) from ok p _ e)
    exact .cons ⟨o, its.toArray, n, h1, h2, h3, by simpa using ints_at r⟩ ih
theorem key_nest {P : Program} {w : World} {H : Hp} {h : Heap} (ok : HOk P w H h) {k : List (List Int)} {b : Addr} (x : NKey H k b) : (NK.nestKind (intKind P w)).is h k b := by
  obtain ⟨ps, e, hp⟩ := x
  obtain ⟨_, its, r, o, h1, h2, n, h3⟩ := (show ObjOk P w H h b (.tup (ps.map V.ref)) from ok b _ e)
  have e2 := ref_of r
  subst e2
  exact ⟨o, _, n, h1, h2, h3, by simpa using pairs_its ok hp⟩
theorem dict_nest {P : Program} {w : World} {H : Hp} {h : Heap} (ok : HOk P w H h) {a : Addr} {xs : List (List (List Int) × Addr × Value)} (x : NDict H a xs) : h.DictOfH (NK.nestKind (intKind P w)) a xs := by
  obtain ⟨⟨o, es, ep, h1, h2, h3, h4⟩, _, _⟩ := (show ObjOk P w H h a (.ext (nPhi a xs)) from ok a _ x.at_)
  exact ⟨o, es, ep, h1, h2, h3, h4, fun y hy => key_nest ok (x.keys y hy), x.nd⟩
def wNNotIn (x y : V) (H : Hp) (Q : VK) : Prop := ∃ a b xs k, x = .ref a ∧ y = .ref b ∧ NDict H a xs ∧ NKey H k b ∧ Q (.bl (!(atKey xs k).isSome)) H
def wNGet (x y : V) (H : Hp) (Q : VK) : Prop := ∃ a b xs k c v n, x = .ref a ∧ y = .ref b ∧ NDict H a xs ∧ NKey H k b ∧ atKey xs k = some (c, v) ∧ RelV (.int n) v ∧ Q (.int n) H
def wNPut (x y v : V) (H : Hp) (QH : Hp → Prop) : Prop := ∃ a b xs k n, x = .ref a ∧ y = .ref b ∧ v = .int n ∧ NDict H a xs ∧ NKey H k b ∧ atKey xs k = none ∧ ∀ v' : Value, RelV (.int n) v' → QH (upd H a (.ext (nPhi a (xs ++ [(k, b, v')]))))
def tNNotIn (ty td : TE) : TE := fun σ H Q => ty σ H fun y H1 => td σ H1 fun x H2 => wNNotIn x y H2 Q
def tNGet (td ty : TE) : TE := fun σ H Q => td σ H fun x H1 => ty σ H1 fun y H2 => wNGet x y H2 Q
def sNPut (td ty tv : TE) : TS := fun D σ H => tv σ H fun v H1 => td σ H1 fun x H2 => ty σ H2 fun y H3 => wNPut x y v H3 fun H4 => D.nx σ H4
def tDNewN : TE := fun _ H Q => ∀ p, H p = none → (p == sysModules) = false → Q (.ref p) (upd H p (.ext (nPhi p [])))
section
variable {D : Ends} {σ : L2.St} {H : Hp} {Q : VK} {td ty tv : TE}
theorem w_nnotin : tNNotIn ty td σ H Q = ty σ H fun y H1 => td σ H1 fun x H2 => wNNotIn x y H2 Q := rfl
theorem w_nget : tNGet td ty σ H Q = td σ H fun x H1 => ty σ H1 fun y H2 => wNGet x y H2 Q := rfl
theorem w_nput : sNPut td ty tv D σ H = tv σ H fun v H1 => td σ H1 fun x H2 => ty σ H2 fun y H3 => wNPut x y v H3 fun H4 => D.nx σ H4 := rfl
theorem w_nnew : tDNewN σ H Q = ∀ p, H p = none → (p == sysModules) = false → Q (.ref p) (upd H p (.ext (nPhi p []))) := rfl
end
section
variable {X : Cx} {o i value : Expr} {pos pos' : Pos} {td ty tv : TE}
theorem room_nest {A : Around} (hu : A.units + 64 < cLine) {P : Program} {w : World} : (NK.nestKind (intKind P w)).room A.in1 := by
  show A.units + 1 + 3 < cLine
  omega
theorem pc_nnotin (hu : X.A.units + 64 < cLine) (hi : PE X i ty) (ho : PE X o td) : PC X .NotIn i o (tNNotIn ty td) := by
  intro pins s σ H Q I h
  refine thn (hi pins s σ H _ I h) fun iv s1 ⟨y, H1, I1, ry, q1⟩ => thn (ho pins s1 σ H1 _ I1 q1) fun u s2 ⟨x, H2, I2, rx, a, b, xs, k, ex, ey, hd, hk, q2⟩ => ?_
  subst ex ey
  cases rx
  cases ry
  exact wpAny_notIn_heap (room_nest hu) (key_nest I2.hok hk) hd.sys (dict_nest I2.hok hd) ⟨.bl _, H2, I2.tok _, rfl, q2⟩
theorem pe_nget (hu : X.A.units + 64 < cLine) (ho : PE X o td) (hi : PE X i ty) (hs : NoSl i) : PE X (.Subscript o i pos) (tNGet td ty) := by
  intro pins s σ H Q I h
  refine subD_of PySem.F.slot_dict_getitem.lookup hs (thn (ho pins s σ H _ I h) fun u s1 ⟨x, H1, I1, rx, q1⟩ => thn (hi pins s1 σ H1 _ I1 q1) fun iv s2 ⟨y, H2, I2, ry, a, b, xs, k, c, v, n, ex, ey, hd, hk, hat, rv, q2⟩ => ?_)
  subst ex ey
  cases rx
  cases ry
  exact ⟨(dict_nest I2.hok hd).typeIs, wpAny_getItem_heap (room_nest hu) (key_nest I2.hok hk) (dict_nest I2.hok hd) hat ⟨.int n, H2, I2.tok _, rv, q2⟩⟩
theorem ps_nput (hu : X.A.units + 64 < cLine) (ho : PE X o td) (hi : PE X i ty) (hv : PE X value tv) (hs : swapsWith value (some (.Subscript o i pos')) pos.line X.env = pure false) : PS X (.Assign [.Subscript o i pos'] value pos) (sNPut td ty tv) := by
  intro pins s σ H D I h
  refine wpAny_Assign_Subscript (thn (hv pins s σ H _ I h) fun r s1 ⟨v, H1, I1, rv, q1⟩ => thn (ho pins s1 σ H1 _ I1 q1) fun u s2 ⟨x, H2, I2, rx, q2⟩ => thn (hi pins s2 σ H2 _ I2 q2) fun iv s3 ⟨y, H3, I3, ry, a, b, xs, k, n, ex, ey, ev, hd, hk, hat, q3⟩ => ?_) hs
  subst ex ey ev
  cases rx
  cases ry
  refine wpAny_setItem_heap (hsz := hd.len) (room_nest hu) (key_nest I3.hok hk) (dict_nest I3.hok hd) fun h' dd' hsb => ?_
  rw [storedH_new hat] at dd'
  obtain ⟨q, es, ep, hq, h2, h3, h4, _, h5⟩ := dd'
  have I4 := d_write (t' := s3.toks + (NK.nestKind (intKind X.prog X.w)).draws k) (ob := .ext (nPhi a (xs ++ [(k, b, r)]))) I3 (by rw [hd.at_]; exact True.intro) hsb ⟨q, hq⟩ ⟨⟨q, es, ep, hq, h2, h3, h4⟩, ⟨q, hq⟩, fun g1 g2 ⟨o1, es1, ep1, e1, e2, e3, e4⟩ hk12 => ⟨o1, es1, ep1, hk12 _ e1, e2, e3, e4⟩⟩
  exact ⟨σ, _, I4, q3 r rv⟩
theorem pe_dnewN : PE X (.Dict [] [] pos) tDNewN := by
  intro pins s σ H Q I h
  have hb : (s.heap.objs.size == sysModules) = false := beq_eq_false_iff_ne.mpr (Ne.symm (Nat.ne_of_lt I.big))
  have hg : (s.heap.push { cls := .type "dict", data := .dict #[] }).get? s.heap.objs.size = some { cls := .type "dict", data := .dict #[] } := Heap.get?_push_size _ rfl
  have ok : ObjOk X.prog X.w (upd H s.heap.objs.size (.ext (nPhi s.heap.objs.size []))) (s.heap.push { cls := .type "dict", data := .dict #[] }) s.heap.objs.size (.ext (nPhi s.heap.objs.size [])) :=
    ⟨⟨_, #[], 0, hg, ⟨rfl, rfl, rfl⟩, rfl, rfl⟩, ⟨_, hg⟩, fun g1 g2 ⟨o1, es1, ep1, e1, e2, e3, e4⟩ hk12 => ⟨o1, es1, ep1, hk12 _ e1, e2, e3, e4⟩⟩
  exact wpAny_Dict_empty ⟨.ref s.heap.objs.size, _, I.laid (t' := s.toks) (fun _ _ q => Heap.get?_push_of_some _ q) (Nat.le_refl _) ok, rfl, h _ (I.hok.fresh (Nat.le_refl _)) hb⟩
end
end C47
namespace PySem
namespace RV
section
variable {prog : Program} {w : World} {A : Around} {E : Value → Shared → Prop} {s : Shared}
theorem hint_lrev {it l : Addr} {i : Int} {Q : Bool → Shared → Prop} (hit : s.heap.IsRevIter it l i) (h : ∀ (b : Bool) (tk : Nat), Q b { s with toks := tk }) : wpAny (model prog w) A (Builtin.List.listLengthHint (.ref it)) Q E s := by
  unfold Builtin.List.listLengthHint
  refine wpAny_bind (wpAny_specialOf hit.typeIs no_len_l ?_)
  refine wpAny_ite_split (fun hab => absurd hab (by decide +kernel)) (fun _ => ?_)
  refine wpAny_ite_split (fun hab => absurd hab (by decide)) (fun _ => ?_)
  refine wpAny_bind (wpAny_specialOf hit.typeIs slot_hint_l.lookup ?_)
  generalize hid : ("list_reverseiterator.__length_hint__" : String) = id0
  wp_delta
  rw [show splitId id0 = some ("list_reverseiterator", "__length_hint__") from by subst hid; decide +kernel]
  subst hid
  refine wpAny_bind (wpAny_isInstance (T := "list_reverseiterator") (b := true) hit.typeIs (by rw [isSubtype_type]; kernel_rfl) ?_)
  refine wpAny_ite_split (fun hab => absurd hab (by decide)) (fun _ => ?_)
  refine wpAny_ite_split (fun _ => ?_) (fun hab => absurd (by decide +kernel) hab)
  refine wpAny_ite_split (fun hab => absurd hab (by decide +kernel)) (fun _ => ?_)
  exact wpAny_pure (h false s.toks)
theorem collect_src {T : String} {a : Addr} {n : Nat} {P : Nat → Value → Prop} {OK : Heap → Prop} (G : PySem.W.KdlSrc prog w T a a n P OK) (hok : OK s.heap) (hn : n ≤ sizeLine) (hh : A.handled = none) {Q : List Value → Shared → Prop}
    (h : ∀ (acc : Array Value) (h' : Heap) (tk : Nat), ItemsOf P acc n → (∀ b o, s.heap.get? b = some o → h'.get? b = some o) → s.heap.objs.size < h'.objs.size → Q acc.toList { s with heap := h', toks := tk }) :
    wpAny (model prog w) A (collect (.ref a)) Q E s := by
  have hlt : a < s.heap.objs.size := (G.there _ hok).1
  unfold collect
  refine wpAny_bind (wpAny_runValue (codeAny_builtin F.entry_proto_collect ?_))
  rw [Around.under_plainId F.plain_proto_collect _]
  show wpAny _ A.in1 (newList [] >>= fun l => again (.builtin "list.__iadd__" ⟨[l, .ref a], []⟩)) _ _ s
  refine wpAny_bind (wpAny_newObj_type ?_)
  refine wpAny_pure ⟨plainId_quiet F.plain_list_iadd _, codeAny_builtin F.entry_list_iadd ?_⟩
  rw [Around.under_plainId F.plain_list_iadd _]
  generalize hS0 : s.heap.objs.size = S at *
  have hS1 : (s.heap.push { cls := .type "list", data := .seq ([] : List Value).toArray }).get? S = some { cls := .type "list", data := .seq #[] } := by rw [← hS0]; exact Heap.get?_push_size _ rfl
  have hsz1 : (s.heap.push { cls := .type "list", data := .seq ([] : List Value).toArray }).objs.size = S + 1 := by rw [Heap.size_push, hS0]
  show wpAny _ A.in1 (Builtin.List.listExtendWith (.ref S) (.ref a) (.ref S)) _ _ _
  have G1 : OK (s.heap.push { cls := .type "list", data := .seq ([] : List Value).toArray }) := G.keep _ _ hok fun b _ o e => Heap.get?_push_of_some _ e
  have keep1 : ∀ b o, s.heap.get? b = some o → (s.heap.push { cls := .type "list", data := .seq ([] : List Value).toArray }).get? b = some o := fun b o e => Heap.get?_push_of_some _ e
  generalize s.heap.push { cls := .type "list", data := .seq ([] : List Value).toArray } = h1 at hS1 hsz1 G1 keep1 ⊢
  unfold Builtin.List.listExtendWith
  refine wpAny_bind (wpAny_typeOf (T := T) (G.type { s with heap := h1 } G1) ?_)
  have e1 : Builtin.List.listSameRef (.ref S) (.ref a) = false := by
    have : S ≠ a := Nat.ne_of_gt hlt
    simp [Builtin.List.listSameRef, this]
  simp only [e1, G.notList, G.notTuple, Bool.or_false, Bool.false_eq_true, if_false]
  obtain ⟨oI, St, hit, W, hst⟩ := G.iter A.in1 { s with heap := h1 } hh G1
  refine wpAny_bind (hit _ _ ?_)
  have hI : S + 1 ≤ h1.objs.size := by rw [hsz1]; exact Nat.le_refl _
  have W' : Walks prog w A.in1 h1.objs.size [h1.objs.size, a] [h1.objs.size] n P St := W
  clear W
  have W := W'
  clear W'
  have keepI : ∀ b o, s.heap.get? b = some o → b < h1.objs.size := fun b o e => Heap.lt_size (keep1 b o e)
  show wpAny _ _ _ _ _ _
  generalize hI0 : h1.objs.size = I at hI W keepI ⊢
  have hk2 : ∀ b o, h1.get? b = some o → (h1.push oI).get? b = some o := fun b o e => Heap.get?_push_of_some _ e
  have hS2 := hk2 _ _ hS1
  have hSf : S ∉ [I, a] := by
    intro c
    rcases List.mem_cons.mp c with e | e
    · rw [← e] at hI
      exact Nat.not_succ_le_self _ hI
    · exact Nat.ne_of_gt hlt (List.mem_singleton.mp e)
  have G2 : OK (h1.push oI) := G.keep _ _ G1 fun b _ o e => Heap.get?_push_of_some _ e
  generalize h1.push oI = h2 at hk2 hS2 hst G2 ⊢
  refine wpAny_bind (wpAny_holding (G.hint _ _ _ _ G2 ?_))
  have key : ∀ (R : Result → Shared → Prop) (h3 : Heap) (c : Nat), St 0 h3 → (∀ (b : Addr) (o : Obj), b ≠ S → h2.get? b = some o → h3.get? b = some o) → h3.get? S = some { cls := .type "list", data := .seq #[] c } →
      (∀ (h4 : Heap) (tk : Nat) (acc : Array Value) (c' : Nat), (∀ b o, s.heap.get? b = some o → h4.get? b = some o) → h4.get? S = some { cls := .type "list", dict := none, data := .seq acc c', slots := #[] } → ItemsOf P acc n → R (.ok (.ret (.ref S))) { s with heap := h4, toks := tk }) →
      codeAny (model prog w) A (.builtin "list.extend.loop" ⟨[.ref S, .ref I, .ref S], []⟩) R { s with heap := h3 } := by
    intro R h3 c hst3 hk3 hS3 hR
    refine codeAny_extend_loopS W.toS hn S hSf (.ref S) n 0 _ #[] c rfl (Nat.zero_le _) hst3 hS3 (ItemsOf.nil _) fun s' acc' c' hm hS' hacc => ?_
    obtain ⟨h4, g4, d4, tk4, os4⟩ := s'
    have eg : g4 = s.gens := hm.gens
    have ed : d4 = s.drawn := hm.drawn
    have eo : os4 = s.os := hm.os
    subst eg ed eo
    refine hR h4 tk4 acc' c' (fun b o e => hm.heap b o (fun hmem => ?_) (hk3 b o (fun c => ?_) (hk2 _ _ (keep1 _ _ e)))) hS' ?_
    · rcases List.mem_cons.mp hmem with e' | hmem
      · have := Heap.lt_size e
        rw [hS0, e'] at this
        exact Nat.lt_irrefl _ this
      · have h5 := keepI _ _ e
        rw [List.mem_singleton.mp hmem] at h5
        exact Nat.lt_irrefl _ h5
    · have := Heap.lt_size e
      rw [hS0, c] at this
      exact Nat.lt_irrefl _ this
    · exact hacc
  have fin : ∀ (h4 : Heap) (tk : Nat) (acc : Array Value) (c' : Nat), (∀ b o, s.heap.get? b = some o → h4.get? b = some o) → h4.get? S = some { cls := .type "list", dict := none, data := .seq acc c', slots := #[] } → ItemsOf P acc n →
      wpAny (model prog w) A (load S >>= fun o => match o.data with | .seq xs _ => pure xs.toList | _ => unsupported "internal:collect") Q E { s with heap := h4, toks := tk } := by
    intro h4 tk acc c' hk hS4 hacc
    refine wpAny_bind (wpAny_load hS4 ?_)
    dsimp only
    refine wpAny_pure (h acc h4 tk hacc hk ?_)
    exact Heap.lt_size hS4
  refine wpAny_ite_split (fun _ => ?_) (fun _ => wpAny_pure ⟨plainId_quiet PySem.F.plain_extend_loop _, key _ h2 _ hst (fun _ _ _ e => e) hS2 fun h4 tk acc c' a1 a2 a3 => fin h4 tk acc c' a1 a2 a3⟩)
  refine wpAny_bind (wpAny_rule ?_)
  refine wpAny_bind ?_
  show wpAny _ _ (updateSeq S (·.push .none) >>= fun _ => updateSeq S (·.pop)) _ _ _
  refine wpAny_bind (wpAny_updateSeq hS2 rfl ?_)
  have hS3 := Heap.get?_update_self (Obj.mapSeq (·.push Value.none)) hS2 rfl
  refine wpAny_updateSeq (hz := by seq_fits) hS3 rfl ?_
  have hS4 := Heap.get?_update_self (Obj.mapSeq (·.pop)) hS3 rfl
  refine wpAny_pure ⟨plainId_quiet PySem.F.plain_extend_loop _, key _ _ _ ?_ (fun b o hb e => ?_) hS4 fun h4 tk acc c' a1 a2 a3 => fin h4 tk acc c' a1 a2 a3⟩
  · refine W.frame 0 _ _ hst fun b hb o e => ?_
    have hbS : b ≠ S := fun h => hSf (h ▸ hb)
    exact (Heap.get?_update_other _ _ (Ne.symm hbS)).trans ((Heap.get?_update_other _ _ (Ne.symm hbS)).trans e)
  · exact (Heap.get?_update_other _ _ (Ne.symm hb)).trans ((Heap.get?_update_other _ _ (Ne.symm hb)).trans e)
end
end RV
end PySem
namespace C47
open PySem PySem.Spec PyProof.Rows L2
def wLR (K : PySem.W.Frag) (x : V) (H1 : Hp) (Q : VK) : Prop := ∃ (a : Addr) (xs : List V), x = .ref a ∧ (SqL K H1 a xs ∨ SqT K H1 a xs) ∧ ∀ p, H1 p = none → Q (.ref p) (upd H1 p (.lst xs.reverse))
def tLR (K : PySem.W.Frag) (te : TE) : TE := fun σ H Q => te σ H fun x H1 => wLR K x H1 Q
theorem w_lr {σ : L2.St} {H : Hp} {Q : VK} {te : TE} {K : PySem.W.Frag} : tLR K te σ H Q = te σ H fun x H1 => wLR K x H1 Q := rfl
theorem lr_of {σ : L2.St} {H : Hp} {Q : VK} {K : PySem.W.Frag} {a : Addr} {xs : List V} (h : SqL K H a xs ∨ SqT K H a xs) (q : ∀ p, H p = none → Q (.ref p) (upd H p (.lst xs.reverse))) : wLR K (.ref a) H Q := ⟨a, xs, rfl, h, q⟩
theorem rev_items {its : Array Value} {acc : Array Value} (h : ItemsOf (fun i v => its[its.size - 1 - i]? = some v) acc its.size) : acc.toList = its.toList.reverse := by
  apply List.ext_getElem?
  intro i
  have hs : acc.size = its.size := h.1
  by_cases c : i < its.size
  · have h1 := h.2 i acc[i] (Array.getElem?_eq_getElem (by omega))
    rw [Array.getElem?_toList, Array.getElem?_eq_getElem (show i < acc.size by omega), ← h1, List.getElem?_reverse (by rw [Array.length_toList]; exact c), Array.length_toList, Array.getElem?_toList]
  · rw [List.getElem?_eq_none (by rw [Array.length_toList]; omega), List.getElem?_eq_none (by rw [List.length_reverse, Array.length_toList]; omega)]
theorem boot_list8 : bootBuiltins "list" = some (.type "list") := by decide +kernel
theorem boot_rev8 : bootBuiltins "reversed" = some (.type "reversed") := by decide +kernel
theorem pe_listRev {X : Cx} {e : Expr} {te : TE} {p1 p2 q1 q2 : Pos} (hc : X.calm = true) (hg1 : Gl X "list") (hm1 : X.mg "list" = none) (hg2 : Gl X "reversed") (hm2 : X.mg "reversed" = none) (he : PE X e te)
    (h1 : starEach [.Call (.Name "reversed" p2) [e] [] q2] X.env = [(false, eval (.Call (.Name "reversed" p2) [e] [] q2) X.env)] := by rfl) (h2 : starEach [e] X.env = [(false, eval e X.env)] := by rfl) :
    PE X (.Call (.Name "list" p1) [.Call (.Name "reversed" p2) [e] [] q2] [] q1) (tLR X.K te) := by
  intro pins s σ H Q I h
  refine wpAny_Call_Name_kw (ld_blt I hg1 hm1 boot_list8 ?_ (by decide) (by decide))
  refine PyProof.Rows.callWith_type1 ?_ h1 rfl
  rw [h1]
  show wpAny _ _ (spliced ((false, eval (.Call (.Name "reversed" p2) [e] [] q2) X.env) :: [])) _ _ s
  refine Calls.spliced_cons ?_
  refine wpAny_Call_Name_kw (ld_blt I hg2 hm2 boot_rev8 ?_ (by decide) (by decide))
  refine PyProof.Rows.callWith_type1 ?_ h2 rfl
  rw [h2]
  show wpAny _ _ (spliced ((false, eval e X.env) :: [])) _ _ s
  refine Calls.spliced_cons (thn (he pins s σ H _ I h) fun u s1 ⟨x, H1, I1, r1, q1⟩ => ?_)
  refine Calls.spliced_nil ?_
  obtain ⟨a, xs, rfl, hs, q⟩ := q1
  cases r1
  have hh : X.A.handled = none := I1.ok.hd hc
  have fin : ∀ (its : List Value) (s2 : Shared) (h' : Heap) (tk : Nat) (acc : Array Value) (c : Nat) (D : Addr), Vals xs its → its.length ≤ sizeLine → s1.heap.objs.size ≤ D → (∀ b o, s1.heap.get? b = some o → h'.get? b = some o) → h'.get? D = some { cls := .type "list", dict := none, data := .seq acc c, slots := #[] } →
      ItemsOf (fun i v => its.toArray[its.toArray.size - 1 - i]? = some v) acc its.toArray.size → EP X pins σ Q (.ref D) { s1 with heap := h', toks := tk } := by
    intro its s2 h' tk acc c D rv hle hD hk hg hacc
    have e := rev_items hacc
    have hle2 : xs.reverse.length ≤ sizeLine := by rw [List.length_reverse, rv.length]; exact hle
    have hv : Vals xs.reverse acc.toList := by rw [e]; exact rv.reverse
    exact ⟨.ref D, _, I1.laid (t' := tk) hk hD (o := .lst xs.reverse) ⟨hle2, acc.toList, c, hv, hg⟩, rfl, q D (I1.hok.fresh hD)⟩
  rcases hs with hs | hs
  · obtain ⟨its, rv, hl, hz⟩ := I1.list hs
    have hll := hl.isList
    have hle : its.length ≤ sizeLine := by rw [← rv.length]; exact hz
    have hlt : a < s1.heap.objs.size := by obtain ⟨o, ho, _⟩ := id hll; exact Heap.lt_size ho
    refine call_reversed_list hll ?_
    refine Calls.spliced_nil ?_
    have hsz : (s1.heap.push (revObj a ((its.toArray.size : Int) - 1))).objs.size = s1.heap.objs.size + 1 := Heap.size_push _ _
    have hst : (0 ≤ its.toArray.size ∧ (s1.heap.push (revObj a ((its.toArray.size : Int) - 1))).IsRevIter s1.heap.objs.size a ((its.toArray.size : Int) - 1 - ((0 : Nat) : Int)) ∧ (s1.heap.push (revObj a ((its.toArray.size : Int) - 1))).IsList a its.toArray) :=
      ⟨Nat.zero_le _, ⟨_, Heap.get?_push_size _ rfl, rfl, by simp [revObj]⟩, hll.push _⟩
    refine RV.list_walk (T := "list_reverseiterator") (Walks.listRev (prog := X.prog) (w := X.w) (A := X.A.in1.in1) hh s1.heap.objs.size a (Nat.ne_of_lt hlt) its.toArray) (fun s2 st => st.2.1.typeIs) (by decide) (by decide) (fun s2 Q2 st hq => RV.hint_lrev st.2.1 hq) hst ?_ (by simp) (by simpa using hle) fun h' tk acc c hk hg hacc => ?_
    · intro b hb
      show b < (s1.heap.push (revObj a ((its.toArray.size : Int) - 1))).objs.size
      rw [hsz]
      rcases List.mem_cons.mp hb with rfl | hb
      · exact Nat.lt_succ_self _
      · rw [List.mem_singleton.mp hb]; exact Nat.lt_succ_of_lt hlt
    · refine fin its s1 h' tk acc c _ rv hle ?_ (fun b o e => hk b o (Nat.ne_of_lt (Heap.lt_size e)) (Heap.get?_push_of_some _ e)) hg hacc
      show s1.heap.objs.size ≤ (s1.heap.push (revObj a ((its.toArray.size : Int) - 1))).objs.size
      rw [hsz]
      exact Nat.le_succ _
  · obtain ⟨its, rv, hl, hz⟩ := I1.tuple hs
    have hle : its.length ≤ sizeLine := by rw [← rv.length]; exact hz
    have hlt : a < s1.heap.objs.size := by obtain ⟨o, ho, _⟩ := id hl; exact Heap.lt_size ho
    refine RV.call_rev hl (by rw [sizeLine_eq] at hle; simp; omega) fun tk0 => ?_
    refine Calls.spliced_nil ?_
    have hsz : (s1.heap.push { cls := .type "reversed", data := .fields #[.ref a, rawInt ((its.toArray.size : Int) - 1)] }).objs.size = s1.heap.objs.size + 1 := Heap.size_push _ _
    have hst : (0 ≤ its.toArray.size ∧ RV.RevAt (s1.heap.push { cls := .type "reversed", data := .fields #[.ref a, rawInt ((its.toArray.size : Int) - 1)] }) s1.heap.objs.size a ((its.toArray.size : Int) - 1 - ((0 : Nat) : Int)) ∧ IsTup (s1.heap.push { cls := .type "reversed", data := .fields #[.ref a, rawInt ((its.toArray.size : Int) - 1)] }) a its.toArray) :=
      ⟨Nat.zero_le _, ⟨_, Heap.get?_push_size _ rfl, rfl, by simp [rawInt]⟩, RV.tup_at hl fun o e => Heap.get?_push_of_some _ e⟩
    refine RV.list_walk (T := "reversed") (RV.walk_rev (prog := X.prog) (w := X.w) (A := X.A.in1.in1) hh s1.heap.objs.size a (Nat.ne_of_lt hlt) its.toArray (by simpa using hle)) (fun s2 st => st.2.1.typeIs) (by decide) (by decide) (fun s2 Q2 st hq => RV.hint_rev (by simpa using st.2.1) st.2.2 (by simpa using hle) hq) hst ?_ (by simp) (by simpa using hle) fun h' tk acc c hk hg hacc => ?_
    · intro b hb
      show b < (s1.heap.push { cls := .type "reversed", data := .fields #[.ref a, rawInt ((its.toArray.size : Int) - 1)] }).objs.size
      rw [hsz]
      rcases List.mem_cons.mp hb with rfl | hb
      · exact Nat.lt_succ_self _
      · rw [List.mem_singleton.mp hb]; exact Nat.lt_succ_of_lt hlt
    · refine fin its s1 h' tk acc c _ rv hle ?_ (fun b o e => hk b o (Nat.ne_of_lt (Heap.lt_size e)) (Heap.get?_push_of_some _ e)) hg hacc
      show s1.heap.objs.size ≤ (s1.heap.push { cls := .type "reversed", data := .fields #[.ref a, rawInt ((its.toArray.size : Int) - 1)] }).objs.size
      rw [hsz]
      exact Nat.le_succ _
def rSortedD : List V → Hp → VK → Prop := fun vs H Q => ∃ (d : Addr) (kvs : List (L2.Key × V)) (ns : List Int), vs = [.ref d] ∧ H d = some (.dK kvs) ∧ kvs.map (·.1) = ns.map Sum.inl ∧
  ∀ (ns' : List Int) (p : Addr), ns'.Pairwise (· ≤ ·) → ns'.Perm ns → H p = none → Q (.ref p) (upd H p (.lst (ns'.map V.int)))
theorem ints_by {vs : List Value} {ns : List Int} (hl : vs.length = ns.length) (h : ∀ (j : Nat) (v : Value) (n : Int), vs[j]? = some v → ns[j]? = some n → ∃ t, v = .int n t) : IntsAre vs ns := by
  induction vs generalizing ns with
  | nil =>
    have : ns = [] := List.length_eq_zero_iff.mp hl.symm
    subst this
    exact .nil
  | cons v vs ih =>
    cases ns with
    | nil => simp at hl
    | cons n ns =>
      obtain ⟨t, rfl⟩ := h 0 v n rfl rfl
      exact .cons n t (ih (by simpa using hl) fun j v n hv hn => h (j + 1) v n hv hn)
theorem kv_keys {kvs : List (L2.Key × V)} {vs : List (L2.Key × Value)} (r : KV kvs vs) : vs.map (·.1) = kvs.map (·.1) := by
  induction r with
  | nil => rfl
  | cons h _ ih => rw [List.map_cons, List.map_cons, ih, h.1]
theorem mix_int {P : Program} {w : World} {n : Int} {v : Value} (h : (mixKind P w).is (Sum.inl n) v = true) : ∃ t, v = .int n t := by
  rcases keyIs_shape (show keyIs (Sum.inl n) v = true from h) with ⟨i, t, e, rfl⟩ | ⟨x, t, e, _⟩
  · cases e
    exact ⟨t, rfl⟩
  · cases e
theorem cr_sortedD {X : Cx} (hc : X.calm = true) : CallR X (.builtin "sorted") rSortedD := by
  intro pins s σ H vs us Q I r h
  obtain ⟨d, kvs, ns, rfl, hd, hk, q⟩ := h
  rw [Vals.ref1 r]
  obtain ⟨z, hsys, vs2, rel, dd⟩ := dk_rd I.hok (.inl hd)
  obtain ⟨ep, hat⟩ := dd.dictAt
  have hl2 : vs2.length = kvs.length := rel.length.symm
  have hln : kvs.length = ns.length := by
    have := congrArg List.length hk
    simpa using this
  refine Calls.call_function_entry PyProof.Rows.kind_sorted PyProof.Rows.plain_sorted PyProof.Rows.entry_sorted (PyProof.Rows.args_sorted1 _) ?_
  unfold Builtin.«sorted»
  refine wpAny_bind (m := checkCount "sorted" 1 1 _) (wpAny_pure ?_)
  refine wpAny_bind (RV.collect_src (A := X.A.in1) (PySem.W.kdl_dict (knd := mixKind X.prog X.w) (kvs := vs2) (ep := ep) hsys) hat (by rw [hl2]; exact z) (I.ok.hd hc) fun acc h1 tk hacc hk1 hsz0 => ?_)
  have hI : IntsAre acc.toList ns := by
    refine ints_by (by rw [Array.length_toList, hacc.1, hl2, hln]) fun j v n hv hn => ?_
    obtain ⟨k, x, hx, his⟩ := hacc.2 j v (by rw [← Array.getElem?_toList]; exact hv)
    have e1 : (vs2.map (·.1))[j]? = some k := by rw [List.getElem?_map, hx]; rfl
    have e2 : vs2.map (·.1) = kvs.map (·.1) := kv_keys rel
    rw [e2, hk, List.getElem?_map, hn] at e1
    have e3 : Sum.inl n = k := Option.some.inj e1
    subst e3
    exact mix_int his
  have hlen : acc.toList.length ≤ sizeLine := by rw [hI.length, ← hln]; exact z
  refine wpAny_bind (wpAny_newList ?_ hlen)
  have hoL : (h1.push (PyProof.Rows.seqObj "list" acc.toList.toArray 0)).get? h1.objs.size = some (PyProof.Rows.seqObj "list" acc.toList.toArray 0) := Heap.get?_push_size _ rfl
  refine wpAny_bind (wpAny_holding (wpAny_call_entry PyProof.Rows.slot_list_sort ⟨_, hoL, rfl⟩ PyProof.Rows.entry_list_sort (PyProof.Rows.list_sort_treeAny hoL hI hlen fun out ns' a1 a2 a3 => ⟨_, rfl, ?_⟩) (PyProof.Rows.args_list_sort _)))
  refine wpAny_pure ⟨_, rfl, ?_⟩
  obtain ⟨e, he⟩ := PyProof.Rows.sortedHeap_at (out := out) hoL
  have hsz : s.heap.objs.size ≤ h1.objs.size := Nat.le_of_lt hsz0
  have hle : (ns'.map V.int).length ≤ sizeLine := by rw [List.length_map, a2.length_eq, ← hln]; exact z
  refine ⟨.ref h1.objs.size, _, I.laid (t' := tk) (fun b o e => ?_) hsz (o := .lst (ns'.map V.int)) ⟨hle, out.toList, e, vals_of_ints a1, he⟩, rfl, q ns' _ a3 a2 (I.hok.fresh hsz)⟩
  have hb := hk1 _ _ e
  have hlt := Heap.lt_size hb
  rw [PyProof.Rows.sortedHeap_old (Nat.ne_of_lt hlt) (by rw [PyProof.Rows.size_push']; exact Nat.lt_succ_of_lt hlt)]
  exact Heap.get?_push_of_some _ hb
end C47
namespace C47
open PySem PySem.Spec PyProof.Rows L2
structure MCallee (P : Program) (w : World) (K : PySem.W.Frag) (mg : Str → Option Value) (base : Heap) (C : Addr) (m : Str) (k : Nat) (ps : List Str) (sp : Sp) : Prop where
  ex : ∃ f fd, FnOk P w K mg base CX0 k f fd ps sp ∧ Meth K C m f ∧ Binds K fd ps []
structure CCallee (P : Program) (w : World) (K : PySem.W.Frag) (mg : Str → Option Value) (base : Heap) (C : Addr) (k : Nat) (ps : List Str) (sp : Sp) : Prop where
  ex : ∃ f fd, FnOk P w K mg base CX0 k f fd ps sp ∧ Mk K C f ∧ Binds K fd ps []
structure MDefAt (K : PySem.W.Frag) (x qual : Str) (st : Stmt) (ps : List Str) (f : Addr) (fd : FuncData) : Prop where
  fn : Fun K x qual st f fd
  bd : Binds K fd ps []
section
variable {X : Cx} {x m : Str} {j k : Nat} {ps : List Str} {sp : Sp} {p pos apos : Pos} {o e : Expr} {es : List Expr} {t : TA} {ta : TE} {C : Addr}
theorem pe_mt {pl : Sem Bool} (M : MCallee X.prog X.w X.K X.mg X.base C m j ps sp) (hr : Room k X.A) (c : Cls X.K C) (he : PE X o ta) (ha : PA X (e :: es) t) (hj : j ≤ k := by decide)
    (hst : starEach (e :: es) X.env = (false, eval e X.env) :: starEach es X.env := by rfl) (hpl : (backTo pos (starEach es X.env)).any (·.1) = false := by rfl)
    (ht : eval (.Call (.Attribute o m apos) (e :: es) [] pos) X.env = (do
      let ov ← eval o X.env
      standAt apos.atName
      let (f, first) ← holding [ov] (getMethod ov m pl)
      callWith pos f first (backTo pos (starEach (e :: es) X.env)) (backToKw pos (keywordEach [] X.env))) := by rfl) : PE X (.Call (.Attribute o m apos) (e :: es) [] pos) (tMeth C m sp [] E0 ta t) := by
  obtain ⟨f, fd, F, hm, hb⟩ := M.ex
  exact pe_meth he c hm F (hr.mono hj) hb .nil pass0 ha hst hpl ht
theorem pe_mk (M : CCallee X.prog X.w X.K X.mg X.base C j ps sp) (hr : Room k X.A) (hg : Gl X x) (hm : X.mg x = some (.ref C)) (ha : PA X (e :: es) t) (hj : j + 1 ≤ k := by decide) (hdb : (x == ("__debug__" : Str)) = false := by decide)
    (he : starEach (e :: es) X.env = (false, eval e X.env) :: starEach es X.env := by rfl) (hpl : (backTo pos (starEach es X.env)).any (·.1) = false := by rfl) : PE X (.Call (.Name x p) (e :: es) [] pos) (tMake C sp [] E0 t) := by
  obtain ⟨f, fd, F, hk, hb⟩ := M.ex
  exact pe_make hk F (hr.mono hj) hg hm hb .nil pass0 ha hdb he hpl
theorem pe_mk0 (M : CCallee X.prog X.w X.K X.mg X.base C j ps sp) (hr : Room k X.A) (hg : Gl X x) (hm : X.mg x = some (.ref C)) (hj : j + 1 ≤ k := by decide) (hdb : (x == ("__debug__" : Str)) = false := by decide) : PE X (.Call (.Name x p) [] [] pos) (tMake C sp [] E0 tNil) := by
  obtain ⟨f, fd, F, hk, hb⟩ := M.ex
  exact pe_make0 hk F (hr.mono hj) hg hm hb .nil pass0 hdb
theorem pe_fldK {K : PySem.W.Frag} {f : Str} (hK : X.K = K) (he : PE X e ta) (hb : attributeBase e f X.env (eval e X.env) = eval e X.env) : PE X (.Attribute e f pos) (tFld K ta f) := by
  subst hK
  exact pe_fld he hb
end
def wFld (K : PySem.W.Frag) (f : Str) (x : V) (H : Hp) (Q : VK) : Prop := ∃ a C dx fs v, x = .ref a ∧ H a = some (.ins C dx fs) ∧ Cls K C ∧ NoAttr K C f ∧ fs.lookup f = some v ∧ Q v H
def wSF (K : PySem.W.Frag) (f : Str) (x y : V) (H : Hp) (QH : Hp → Prop) : Prop := ∃ a C dx fs, x = .ref a ∧ H a = some (.ins C dx fs) ∧ Cls K C ∧ NoAttr K C f ∧ fs.length < 1000 ∧ QH (upd H a (.ins C dx (putF f y fs)))
def wMt (C : Addr) (m : Str) (sp : Sp) (dvs : List V) (E : XK) (t : TA) (σ : L2.St) (x : V) (H : Hp) (Q : VK) : Prop := ∃ a dx fs, x = .ref a ∧ H a = some (.ins C dx fs) ∧ fs.lookup m = none ∧ t σ H fun vs H2 => sp (x :: (vs ++ dvs)) H2 Q E
def wTupOf (K : PySem.W.Frag) : List V → Hp → VK → Prop := fun xs H Q => ∃ p ys, xs = [.ref p] ∧ ((SqL K H p ys ∧ ∀ l, H l = none → Q (.ref l) (upd H l (.tup ys))) ∨ (SqT K H p ys ∧ Q (.ref p) H))
section
variable {D : Ends} {σ : L2.St} {H : Hp} {Q : VK} {QH : Hp → Prop} {ta tv : TE} {t : TA} {K : PySem.W.Frag} {f m : Str} {C : Addr} {sp : Sp} {dvs : List V} {E : XK}
theorem w_fld : tFld K ta f σ H Q = ta σ H fun x H1 => wFld K f x H1 Q := rfl
theorem w_sfld : sFld K ta tv f D σ H = tv σ H fun y H1 => ta σ H1 fun x H2 => wSF K f x y H2 fun H3 => D.nx σ H3 := rfl
theorem w_mt : tMeth C m sp dvs E ta t σ H Q = ta σ H fun x H1 => wMt C m sp dvs E t σ x H1 Q := rfl
theorem w_mk : tMake C sp dvs E t σ H Q = t σ H fun vs H1 => ∀ x dx, H1 x = none → H1 dx = none → dx ≠ x → sp (.ref x :: (vs ++ dvs)) (upd (upd H1 dx (.own x)) x (.ins C dx [])) (fun v H2 => v = .non ∧ Q (.ref x) H2) E := rfl
theorem fld_of {a C dx : Addr} {fs : List (Str × V)} {v : V} (h : H a = some (.ins C dx fs)) (c : Cls K C) (n : NoAttr K C f) (l : fs.lookup f = some v) (q : Q v H) : wFld K f (.ref a) H Q := ⟨a, C, dx, fs, v, rfl, h, c, n, l, q⟩
theorem sf_of {a C dx : Addr} {fs : List (Str × V)} {y : V} (h : H a = some (.ins C dx fs)) (c : Cls K C) (n : NoAttr K C f) (l : fs.length < 1000) (q : QH (upd H a (.ins C dx (putF f y fs)))) : wSF K f (.ref a) y H QH := ⟨a, C, dx, fs, rfl, h, c, n, l, q⟩
theorem c_tup {X : Cx} : CallR X (.type "tuple") (wTupOf X.K) := call_tuple_of
theorem w_tupL {p : Addr} {ys : List V} (h : SqL K H p ys) (q : ∀ l, H l = none → Q (.ref l) (upd H l (.tup ys))) : wTupOf K [.ref p] H Q := ⟨p, ys, rfl, .inl ⟨h, q⟩⟩
end
end C47
namespace C47
open PySem PySem.Spec PyProof.Rows L2 M47
open Sz47 (Rule Rules wide lengths sound)
open Sz47Neutral (rules handed)
open PySem.W (Codec)
abbrev vi (l : List Int) : List V := l.map V.int
theorem vi_get {l : List Int} {i : Nat} {z : Int} (h : l[i]? = some z) : (vi l)[i]? = some (V.int z) := by
  unfold vi
  rw [List.getElem?_map, h]
  rfl
theorem vi_len {l : List Int} : (vi l).length = l.length := by unfold vi; rw [List.length_map]
theorem vin_len {l : List Nat} : (vi (nums l)).length = l.length := by rw [vi_len, nums_len]
theorem cm2 {j : Int} : CMul 2 j := .inl ⟨by decide, by decide⟩
theorem max_of (x y : Nat) : ∃ mx : Int, (if ((y : Nat) : Int) > ((x : Nat) : Int) then ((y : Nat) : Int) else ((x : Nat) : Int)) = mx ∧ (x : Int) ≤ mx ∧ (y : Int) ≤ mx ∧ (mx = x ∨ mx = y) := by
  refine ⟨_, rfl, ?_⟩
  split
  · omega
  · omega
open B47 (Pr Blk)
theorem same_upd {H H' : Hp} {p : Addr} {o : HO} (s : Same H H') (hp : H p = none) : Same H (upd H' p o) := fun b o e => by rw [upd_ne (ne_of_none e hp)]; exact s b o e
theorem same_new {H : Hp} {p : Addr} {o : HO} (hp : H p = none) : Same H (upd H p o) := same_upd (Same.refl H) hp
inductive PrsAt (H : Hp) : List Addr → Blk → Prop
  | nil : PrsAt H [] []
  | cons {p : Addr} {n t : Nat} {ps : List Addr} {b : Blk} : H p = some (.tup [.int (n : Int), .int (t : Int)]) → PrsAt H ps b → PrsAt H (p :: ps) ((n, t) :: b)
def BlkAt (H : Hp) (a : Addr) (b : Blk) : Prop := ∃ ps : List Addr, H a = some (.lst (ps.map V.ref)) ∧ PrsAt H ps b
inductive BlksAt (H : Hp) : List Addr → List Blk → Prop
  | nil : BlksAt H [] []
  | cons {a : Addr} {b : Blk} {as : List Addr} {bs : List Blk} : BlkAt H a b → BlksAt H as bs → BlksAt H (a :: as) (b :: bs)
def RowsAt (H : Hp) (a : Addr) (bs : List Blk) : Prop := ∃ as : List Addr, H a = some (.lst (as.map V.ref)) ∧ BlksAt H as bs
theorem PrsAt.same {H H' : Hp} (s : Same H H') {ps : List Addr} {b : Blk} (h : PrsAt H ps b) : PrsAt H' ps b := by
  induction h with
  | nil => exact .nil
  | cons e _ ih => exact .cons (s _ _ e) ih
theorem BlkAt.same {H H' : Hp} (s : Same H H') {a : Addr} {b : Blk} (h : BlkAt H a b) : BlkAt H' a b := let ⟨ps, e, hp⟩ := h; ⟨ps, s _ _ e, hp.same s⟩
theorem BlksAt.same {H H' : Hp} (s : Same H H') {as : List Addr} {bs : List Blk} (h : BlksAt H as bs) : BlksAt H' as bs := by
  induction h with
  | nil => exact .nil
  | cons e _ ih => exact .cons (e.same s) ih
theorem RowsAt.same {H H' : Hp} (s : Same H H') {a : Addr} {bs : List Blk} (h : RowsAt H a bs) : RowsAt H' a bs := let ⟨as, e, hp⟩ := h; ⟨as, s _ _ e, hp.same s⟩
theorem PrsAt.len {H : Hp} {ps : List Addr} {b : Blk} (h : PrsAt H ps b) : ps.length = b.length := by
  induction h with
  | nil => rfl
  | cons _ _ ih => simp [ih]
theorem BlksAt.len {H : Hp} {as : List Addr} {bs : List Blk} (h : BlksAt H as bs) : as.length = bs.length := by
  induction h with
  | nil => rfl
  | cons _ _ ih => simp [ih]
theorem PrsAt.get {H : Hp} {ps : List Addr} {b : Blk} (h : PrsAt H ps b) : ∀ {i : Nat} {pr : Pr}, b[i]? = some pr → ∃ p, ps[i]? = some p ∧ H p = some (.tup [.int (pr.1 : Int), .int (pr.2 : Int)]) := by
  induction h with
  | nil => intro i pr e; simp at e
  | @cons p n t ps b e _ ih =>
    intro i pr h
    cases i with
    | zero => cases h; exact ⟨p, rfl, e⟩
    | succ i => exact ih h
theorem PrsAt.get2 {H : Hp} {ps : List Addr} {b : Blk} (h : PrsAt H ps b) {i : Nat} {p : Addr} (e : ps[i]? = some p) : ∃ pr : Pr, b[i]? = some pr ∧ H p = some (.tup [.int (pr.1 : Int), .int (pr.2 : Int)]) := by
  have hi : i < b.length := by rw [← h.len]; exact (List.getElem?_eq_some_iff.mp e).1
  have eb : b[i]? = some b[i] := List.getElem?_eq_getElem hi
  obtain ⟨p', e', hp⟩ := h.get eb
  rw [e] at e'
  have := Option.some.inj e'
  subst this
  exact ⟨_, eb, hp⟩
theorem BlksAt.get {H : Hp} {as : List Addr} {bs : List Blk} (h : BlksAt H as bs) : ∀ {i : Nat} {b : Blk}, bs[i]? = some b → ∃ a, as[i]? = some a ∧ BlkAt H a b := by
  induction h with
  | nil => intro i pr e; simp at e
  | @cons a b as bs e _ ih =>
    intro i pr h
    cases i with
    | zero => cases h; exact ⟨a, rfl, e⟩
    | succ i => exact ih h
theorem PrsAt.app {H : Hp} {ps qs : List Addr} {b c : Blk} (h : PrsAt H ps b) (h' : PrsAt H qs c) : PrsAt H (ps ++ qs) (b ++ c) := by
  induction h with
  | nil => exact h'
  | cons e _ ih => exact .cons e ih
theorem BlksAt.app {H : Hp} {ps qs : List Addr} {b c : List Blk} (h : BlksAt H ps b) (h' : BlksAt H qs c) : BlksAt H (ps ++ qs) (b ++ c) := by
  induction h with
  | nil => exact h'
  | cons e _ ih => exact .cons e ih
theorem PrsAt.rev {H : Hp} {ps : List Addr} {b : Blk} (h : PrsAt H ps b) : PrsAt H ps.reverse b.reverse := by
  induction h with
  | nil => exact .nil
  | cons e _ ih => rw [List.reverse_cons, List.reverse_cons]; exact ih.app (.cons e .nil)
theorem PrsAt.snoc {H : Hp} {ps : List Addr} {b : Blk} {pr : Pr} (h : PrsAt H ps (b ++ [pr])) : ∃ qs p, ps = qs ++ [p] ∧ PrsAt H qs b ∧ H p = some (.tup [.int (pr.1 : Int), .int (pr.2 : Int)]) := by
  induction b generalizing ps with
  | nil =>
    cases h with
    | @cons p n t ps _ e h2 =>
      cases h2
      exact ⟨[], p, rfl, .nil, e⟩
  | cons a b ih =>
    cases h with
    | @cons p n t ps _ e h2 =>
      obtain ⟨qs, q, rfl, h3, h4⟩ := ih h2
      exact ⟨p :: qs, q, rfl, .cons e h3, h4⟩
theorem BlksAt.snoc {H : Hp} {as : List Addr} {bs : List Blk} {b : Blk} (h : BlksAt H as (bs ++ [b])) : ∃ cs a, as = cs ++ [a] ∧ BlksAt H cs bs ∧ BlkAt H a b := by
  induction bs generalizing as with
  | nil =>
    cases h with
    | @cons a b as _ e h2 =>
      cases h2
      exact ⟨[], a, rfl, .nil, e⟩
  | cons c bs ih =>
    cases h with
    | @cons a b as _ e h2 =>
      obtain ⟨cs, q, rfl, h3, h4⟩ := ih h2
      exact ⟨a :: cs, q, rfl, .cons e h3, h4⟩
theorem refs_get {ps : List Addr} {i : Nat} {p : Addr} (h : ps[i]? = some p) : (ps.map V.ref)[i]? = some (V.ref p) := by rw [List.getElem?_map, h]; rfl
theorem atI_last {xs : List V} {x : V} : atI (xs ++ [x]) (-1) = some x := by
  have h : ixN (xs ++ [x]).length (-1) = some xs.length := by
    unfold ixN
    rw [if_neg (by decide), if_pos (by simp; omega)]
    congr 1
    simp
    omega
  unfold atI
  rw [h]
  simp
theorem ix_last {xs : List V} {x : V} : ixN (xs ++ [x]).length (-1) = some xs.length := by
  unfold ixN
  rw [if_neg (by decide), if_pos (by simp; omega)]
  congr 1
  simp
  omega
theorem small20 {n : Nat} (h : n < 2 ^ 20) : n < sizeLine := Nat.lt_trans h (by decide)
theorem PrsAt.upd {H : Hp} {a : Addr} {xs : List V} {o : HO} {ps : List Addr} {b : Blk} (h : PrsAt H ps b) (ha : H a = some (.lst xs)) : PrsAt (upd H a o) ps b := by
  induction h with
  | nil => exact .nil
  | @cons p n t ps b e _ ih =>
    refine .cons ?_ ih
    rw [upd_ne (by rintro rfl; rw [e] at ha; cases ha)]
    exact e
theorem BlkAt.upd {H : Hp} {a c : Addr} {xs : List V} {o : HO} {b : Blk} (h : BlkAt H c b) (ha : H a = some (.lst xs)) (hn : c ≠ a) : BlkAt (upd H a o) c b := by
  obtain ⟨ps, e, hp⟩ := h
  exact ⟨ps, by rw [upd_ne hn]; exact e, hp.upd ha⟩
theorem BlksAt.upd {H : Hp} {a : Addr} {xs : List V} {o : HO} {as : List Addr} {bs : List Blk} (h : BlksAt H as bs) (ha : H a = some (.lst xs)) (hn : a ∉ as) : BlksAt (upd H a o) as bs := by
  induction h with
  | nil => exact .nil
  | @cons c b as bs e _ ih => exact .cons (e.upd ha (by rintro rfl; exact hn (by simp))) (ih (fun h => hn (by simp [h])))
theorem BlksAt.mem {H : Hp} {as : List Addr} {bs : List Blk} (h : BlksAt H as bs) {a : Addr} (ha : a ∈ as) : ∃ b, BlkAt H a b := by
  induction h with
  | nil => cases ha
  | @cons c b as bs e _ ih =>
    rcases List.mem_cons.mp ha with rfl | h
    · exact ⟨b, e⟩
    · exact ih h
theorem BlksAt.fresh {H : Hp} {as : List Addr} {bs : List Blk} (h : BlksAt H as bs) {a : Addr} (ha : H a = none) : a ∉ as := fun hm => by
  obtain ⟨b, ps, e, _⟩ := h.mem hm
  rw [e] at ha
  cases ha
theorem refs_last {as : List Addr} {a : Addr} : (as ++ [a]).map V.ref = as.map V.ref ++ [V.ref a] := by simp
theorem refs_at {ps : List Addr} {i : Nat} {x : V} (h : (ps.map V.ref)[i]? = some x) : ∃ p, ps[i]? = some p ∧ x = V.ref p := by
  rw [List.getElem?_map] at h
  cases e : ps[i]? with
  | none => rw [e] at h; cases h
  | some p => rw [e] at h; exact ⟨p, rfl, (Option.some.inj h).symm⟩
theorem take_snoc {α : Type} {l : List α} {i : Nat} {x : α} (h : l[i]? = some x) : l.take (i + 1) = l.take i ++ [x] := by rw [List.take_add_one, h]; rfl
theorem one_new {H H' : Hp} {B t1 t2 : Addr} {cs : List Addr} {bs : List Blk} {n t : Nat} {xs : List V} (s1 : Same H H') (hB : H B = none) (hB1 : H' B = some (.lst xs)) (hcs : BlksAt H' cs bs) (hBn : B ∉ cs) (h1 : H' t1 = none) (h2 : upd H' t1 (.tup [.int (n : Int), .int (t : Int)]) t2 = none) :
    (upd (upd H' t1 (.tup [.int (n : Int), .int (t : Int)])) t2 (.lst [.ref t1])) B = some (.lst xs) ∧ ∀ o, Same H (upd (upd (upd H' t1 (.tup [.int (n : Int), .int (t : Int)])) t2 (.lst [.ref t1])) B o) ∧
      BlksAt (upd (upd (upd H' t1 (.tup [.int (n : Int), .int (t : Int)])) t2 (.lst [.ref t1])) B o) (cs ++ [t2]) (bs ++ [[(n, t)]]) ∧ B ∉ cs ++ [t2] := by
  have n1 : B ≠ t1 := ne_of_none hB1 h1
  have hB2 : (upd H' t1 (.tup [.int (n : Int), .int (t : Int)])) B = some (.lst xs) := by rw [upd_ne n1]; exact hB1
  have n2 : B ≠ t2 := ne_of_none hB2 h2
  have n3 : t1 ≠ t2 := ne_of_none upd_same h2
  have h2' : H' t2 = none := by rw [upd_ne (Ne.symm n3)] at h2; exact h2
  have sA : Same H' (upd (upd H' t1 (.tup [.int (n : Int), .int (t : Int)])) t2 (.lst [.ref t1])) := same_upd (same_new h1) h2'
  have hB3 := sA _ _ hB1
  have hb : BlkAt (upd (upd H' t1 (.tup [.int (n : Int), .int (t : Int)])) t2 (.lst [.ref t1])) t2 [(n, t)] := ⟨[t1], upd_same, .cons (by rw [upd_ne n3, upd_same]) .nil⟩
  refine ⟨hB3, fun o => ⟨same_upd (s1.trans sA) hB, ?_, ?_⟩⟩
  · exact ((hcs.same sA).app (.cons hb .nil)).upd hB3 (by simp [hBn, n2])
  · simp [hBn, n2]
theorem cmW {j : Int} {P : Prop} [Decidable P] : CMul j (if P then 1 else -1) := by
  split
  · exact .inr ⟨by decide, by decide⟩
  · exact .inr ⟨by decide, by decide⟩
theorem slope_of {L n y : Nat} (hL : L % 3 ≠ 0) (h : (0 : Int) < ((n : Int) - (y : Int)) * (if L % 3 = 1 then 1 else -1)) : B47.rl L y n = true := by
  unfold B47.rl
  rw [if_neg hL]
  split at h
  · next c => rw [if_pos c]; simp; omega
  · next c => rw [if_neg c]; simp; omega
theorem slope_not {L n y : Nat} (hL : L % 3 ≠ 0) (h : ¬ (0 : Int) < ((n : Int) - (y : Int)) * (if L % 3 = 1 then 1 else -1)) : ¬ B47.rl L y n = true := by
  unfold B47.rl
  rw [if_neg hL]
  split at h
  · next c => rw [if_pos c]; simp; omega
  · next c => rw [if_neg c]; simp; omega
def Sm (l : List Addr) (H H' : Hp) : Prop := ∀ b o, b ∉ l → H b = some o → H' b = some o
theorem Sm.trans {l : List Addr} {H H1 H2 : Hp} (a : Sm l H H1) (b : Sm l H1 H2) : Sm l H H2 := fun c o n h => b c o n (a c o n h)
theorem Sm.mono {l m : List Addr} {H H' : Hp} (s : Sm l H H') (h : ∀ x ∈ l, x ∈ m) : Sm m H H' := fun c o n e => s c o (fun hc => n (h c hc)) e
theorem Same.sm {l : List Addr} {H H' : Hp} (s : Same H H') : Sm l H H' := fun c o _ e => s c o e
theorem Sm.put {l : List Addr} {H H' : Hp} {a : Addr} {o : HO} (s : Sm l H H') (h : a ∈ l) : Sm l H (upd H' a o) := fun c o n e => by rw [upd_ne (by rintro rfl; exact n h)]; exact s c o n e
theorem Sm.new {l : List Addr} {H H' : Hp} {a : Addr} {o : HO} (s : Sm l H H') (h : H a = none) : Sm l H (upd H' a o) := fun c o n e => by rw [upd_ne (ne_of_none e h)]; exact s c o n e
theorem PrsAt.sm {l : List Addr} {H H' : Hp} (s : Sm l H H') (hl : ∀ a ∈ l, ∀ xs, H a ≠ some (.tup xs)) {ps : List Addr} {b : Blk} (h : PrsAt H ps b) : PrsAt H' ps b := by
  induction h with
  | nil => exact .nil
  | @cons p n t ps b e _ ih => exact .cons (s _ _ (fun hp => hl p hp _ e) e) ih
theorem BlkAt.sm {l : List Addr} {H H' : Hp} (s : Sm l H H') (hl : ∀ a ∈ l, ∀ xs, H a ≠ some (.tup xs)) {a : Addr} {b : Blk} (ha : a ∉ l) (h : BlkAt H a b) : BlkAt H' a b := let ⟨ps, e, hp⟩ := h; ⟨ps, s _ _ ha e, hp.sm s hl⟩
theorem blk_nt {H : Hp} {a : Addr} {b : Blk} (h : BlkAt H a b) : ∀ xs, H a ≠ some (.tup xs) := fun xs e => by
  obtain ⟨ps, e2, _⟩ := h
  rw [e] at e2
  cases e2
inductive KeysAt (H : Hp) : List Addr → List Blk → Prop
  | nil : KeysAt H [] []
  | cons {a : Addr} {b : Blk} {ps as : List Addr} {bs : List Blk} : H a = some (.tup (ps.map V.ref)) → PrsAt H ps b → KeysAt H as bs → KeysAt H (a :: as) (b :: bs)
theorem KeysAt.get {H : Hp} {as : List Addr} {bs : List Blk} (h : KeysAt H as bs) : ∀ {i : Nat} {b : Blk}, bs[i]? = some b → ∃ a, as[i]? = some a ∧ ∃ ps, H a = some (.tup (ps.map V.ref)) ∧ PrsAt H ps b := by
  induction h with
  | nil => intro i pr e; simp at e
  | @cons a b ps as bs e e2 _ ih =>
    intro i pr h
    cases i with
    | zero => cases h; exact ⟨a, rfl, ps, e, e2⟩
    | succ i => exact ih h
theorem KeysAt.len {H : Hp} {as : List Addr} {bs : List Blk} (h : KeysAt H as bs) : as.length = bs.length := by
  induction h with
  | nil => rfl
  | cons _ _ _ ih => simp [ih]
theorem KeysAt.sm {l : List Addr} {H H' : Hp} (s : Sm l H H') (hl : ∀ a ∈ l, ∀ xs, H a ≠ some (.tup xs)) {as : List Addr} {b : List Blk} (h : KeysAt H as b) : KeysAt H' as b := by
  induction h with
  | nil => exact .nil
  | @cons a b ps as bs e e2 _ ih => exact .cons (s _ _ (fun hp => hl a hp _ e) e) (e2.sm s hl) ih
theorem KeysAt.snoc {H : Hp} {as ps : List Addr} {bs : List Blk} {a : Addr} {b : Blk} (h : KeysAt H as bs) (e : H a = some (.tup (ps.map V.ref))) (e2 : PrsAt H ps b) : KeysAt H (as ++ [a]) (bs ++ [b]) := by
  induction h with
  | nil => exact .cons e e2 .nil
  | cons e1 e3 _ ih => exact .cons e1 e3 ih
def bk (b : Blk) : List (List Int) := b.map fun pr => [(pr.1 : Int), (pr.2 : Int)]
structure NamesAt (CN : Addr) (H : Hp) (o : Addr) (d p z : Addr) (tb : List Blk) : Prop where
  ins : ∃ dx, H o = some (.ins CN dx [("known", .ref d), ("parts", .ref p), ("sizes", .ref z)])
  ne : p ≠ z
  parts : ∃ e ks, H e = some (.tup []) ∧ H p = some (.lst (List.replicate 256 (.ref e) ++ ks.map V.ref)) ∧ KeysAt H ks tb
  sizes : H z = some (.lst (List.replicate 256 (.int 1) ++ (B47.exs tb).map fun t => V.int (t.length : Int)))
  known : ∃ xs, NDict H d xs ∧ xs.map (·.1) = tb.map bk ∧ ∀ i x, xs[i]? = some x → RelV (.int ((256 + i : Nat) : Int)) x.2.2
theorem pf_le (f : Str) (v : V) (fs : List (Str × V)) : (putF f v fs).length ≤ fs.length + 1 := by
  induction fs with
  | nil => exact Nat.le_refl _
  | cons a fs ih =>
    obtain ⟨g, x⟩ := a
    unfold putF
    split
    · simp
    · simp [ih]
theorem pf_len0 {f : Str} {v : V} : (putF f v []).length < 1000 := Nat.lt_of_le_of_lt (pf_le _ _ _) (by decide)
theorem pf_len1 {f g : Str} {v w : V} : (putF f v (putF g w [])).length < 1000 := Nat.lt_of_le_of_lt (pf_le _ _ _) (by have := pf_le g w []; simp at this; omega)
theorem rep_of {H : Hp} {Q : VK} {l : Addr} {x : V} (h : H l = some (.lst [x])) (q : ∀ p, H p = none → Q (.ref p) (upd H p (.lst (List.replicate 256 x)))) : rRep (.ref l) (.int 256) H Q :=
  ⟨l, 256, [x], rfl, rfl, h, by decide, by decide, by show 1 * 256 ≤ sizeLine; decide, fun p hp => by
    have e : (List.replicate (256 : Int).toNat [x]).flatten = List.replicate 256 x := by
      show (List.replicate 256 [x]).flatten = _
      generalize 256 = k
      induction k with
      | zero => rfl
      | succ k ih => rw [List.replicate_succ, List.replicate_succ, List.flatten_cons, ih]; rfl
    rw [e]
    exact q p hp⟩
def LaysAt (CL : Addr) (H : Hp) (o : Addr) (fr : List Blk) (mi : Blk) (ba : List Blk) : Prop := ∃ dx f m b, H o = some (.ins CL dx [("fronts", .ref f), ("middle", .ref m), ("backs", .ref b)]) ∧ RowsAt H f fr ∧ BlkAt H m mi ∧ RowsAt H b ba
theorem LaysAt.same {CL : Addr} {H H' : Hp} (s : Same H H') {o : Addr} {fr : List Blk} {mi : Blk} {ba : List Blk} (h : LaysAt CL H o fr mi ba) : LaysAt CL H' o fr mi ba := by
  obtain ⟨dx, f, m, b, h1, h2, h3, h4⟩ := h
  exact ⟨dx, f, m, b, s _ _ h1, h2.same s, h3.same s, h4.same s⟩
theorem ext_of {H : Hp} {a b : Addr} {xs ys : List V} {Q : VK} (h : H a = some (.lst xs)) (hb : H b = some (.lst ys)) (hl : xs.length + ys.length ≤ sizeLine) (q : Q .non (upd H a (.lst (xs ++ ys)))) : rExtend (.ref a) [.ref b] H Q := ⟨a, b, xs, ys, rfl, rfl, h, hb, hl, q⟩
theorem ext_rev {K : PySem.W.Frag} {H0 H' : Hp} {A c : Addr} {st b : Blk} {Q : VK} (s1 : Same H0 H') (hA0 : H0 A = none) (hA : BlkAt H' A st) (hc : BlkAt H' c b) (hl : st.length + b.length < 2 ^ 24) (q : ∀ H2, Same H0 H2 → BlkAt H2 A (st ++ b.reverse) → Q .non H2) :
    tyV K "list" (.ref A) H' ∧ wLR K (.ref c) H' fun x H1 => rExtend (.ref A) [x] H1 Q := by
  obtain ⟨ps1, ha1, hps1⟩ := hA
  obtain ⟨pc, hc3, hc4⟩ := hc
  refine ⟨ty_list (SqL.of ha1), lr_of (σ := []) (.inl (SqL.of hc3)) fun r hr1 => ?_⟩
  have har : A ≠ r := ne_of_none ha1 hr1
  have ha2 : (upd H' r (.lst (pc.map V.ref).reverse)) A = some (.lst (ps1.map V.ref)) := by rw [upd_ne har]; exact ha1
  refine ext_of ha2 upd_same ?_ ?_
  · rw [List.length_reverse, List.length_map, List.length_map, hps1.len, hc4.len]
    exact Nat.le_of_lt (Nat.lt_of_lt_of_le hl (by decide))
  refine q _ (same_upd (same_upd s1 (s1.free hr1)) hA0) ⟨ps1 ++ pc.reverse, by rw [upd_same, List.map_append, List.map_reverse], ?_⟩
  exact ((hps1.app hc4.rev).same (same_new hr1)).upd ha2
def forV (K : PySem.W.Frag) (a : Addr) (n : Nat) (g : TG) (tb : TS) (D : Ends) (σ : L2.St) (H : Hp) : Prop := ∃ W : Nat → Nat → L2.St → Hp → Prop, (∃ m, W 0 m σ H) ∧ ∀ i m σ H, W i m σ H →
  ((Itv K a n).stop i H ∧ D.nx σ H) ∨ ((Itv K a n).go i H ∧ ∃ N : L2.St → Hp → Prop, (∀ σ' H', N σ' H' → ∃ m', m' < m ∧ W (i + 1) m' σ' H') ∧ ∀ x H', (Itv K a n).yld i H x H' → g x σ H' fun σ2 H2 => tb { D with nx := N, ct := N, bk := D.nx } σ2 H2)
def fV (K : PySem.W.Frag) (vs : List V) (g : TG) (tb : TS) (D : Ends) (σ : L2.St) (H : Hp) : Prop := ∃ a xs, vs = [.ref a] ∧ SqL K H a xs ∧ forV K a xs.length g tb D σ H
theorem w_forV {K : PySem.W.Frag} {ta : TA} {g : TG} {t : TS} {D : Ends} {σ : L2.St} {H : Hp} : tFor (iRev K ta) g t D σ H = ta σ H fun vs H1 => fV K vs g t D σ H1 := rfl
theorem rev_by {K : PySem.W.Frag} {a : Addr} {xs : List V} {g : TG} {tb : TS} {D : Ends} {σ : L2.St} {H : Hp} (hx : SqL K H a xs) (Pv : Nat → L2.St → Hp → Prop) (h0 : Pv 0 σ H) (hl : ∀ i σ H, i ≤ xs.length → Pv i σ H → SqL K H a xs)
    (hs : ∀ i x σ H, i < xs.length → xs[xs.length - 1 - i]? = some x → Pv i σ H → g x σ H fun σ2 H2 => tb { D with nx := Pv (i + 1), ct := Pv (i + 1), bk := D.nx } σ2 H2) (hd : ∀ σ H, Pv xs.length σ H → D.nx σ H) : fV K [.ref a] g tb D σ H := by
  refine ⟨a, xs, rfl, hx, fun i m σ H => m = xs.length - i ∧ i ≤ xs.length ∧ Pv i σ H, ⟨xs.length, by simp, Nat.zero_le _, h0⟩, ?_⟩
  rintro i m σ H ⟨rfl, hi, p⟩
  have q := hl i σ H hi p
  by_cases hlt : i < xs.length
  · refine .inr ⟨⟨hlt, xs, xs[xs.length - 1 - i], q, List.getElem?_eq_getElem (by omega)⟩, Pv (i + 1), fun σ' H' p' => ⟨xs.length - (i + 1), by omega, rfl, hlt, p'⟩, fun x H' y => ?_⟩
    obtain ⟨e, y⟩ := y
    subst e
    exact hs i x σ _ hlt (y xs q) p
  · have e : i = xs.length := by omega
    subst e
    exact .inl ⟨Nat.le_refl _, hd σ H p⟩
theorem flat_take {bs : List Blk} {i : Nat} : (bs.take i).reverse.flatten.length ≤ bs.flatten.length := by
  have h : (bs.take i).reverse.flatten.length = (bs.take i).flatten.length := by simp [List.length_flatten, List.sum_reverse]
  rw [h]
  conv => rhs; rw [← List.take_append_drop i bs, List.flatten_append, List.length_append]
  omega
theorem flat_drop {bs : List Blk} {i : Nat} : (bs.drop i).flatten.length ≤ bs.flatten.length := by
  conv => rhs; rw [← List.take_append_drop i bs, List.flatten_append, List.length_append]
  omega
theorem BlksAt.get2 {H : Hp} {as : List Addr} {bs : List Blk} (h : BlksAt H as bs) {i : Nat} {a : Addr} (e : as[i]? = some a) : ∃ b, bs[i]? = some b ∧ BlkAt H a b := by
  have hi : i < bs.length := by rw [← h.len]; exact (List.getElem?_eq_some_iff.mp e).1
  have eb : bs[i]? = some bs[i] := List.getElem?_eq_getElem hi
  obtain ⟨p', e', hp⟩ := h.get eb
  rw [e] at e'
  have := Option.some.inj e'
  subst this
  exact ⟨_, eb, hp⟩
theorem prs_pairs {H : Hp} {ps : List Addr} {b : Blk} (h : PrsAt H ps b) : PairsAt H ps (bk b) := by
  induction h with
  | nil => exact .nil
  | cons e _ ih => exact .cons e ih
theorem bk_inj {a b : Blk} (h : bk a = bk b) : a = b := by
  induction a generalizing b with
  | nil => cases b with
    | nil => rfl
    | cons y b => cases h
  | cons x a ih => cases b with
    | nil => cases h
    | cons y b =>
      obtain ⟨n, t⟩ := x
      obtain ⟨m, u⟩ := y
      unfold bk at h
      rw [List.map_cons, List.map_cons] at h
      injection h with h1 h2
      have e1 : (n : Int) = m := by injection h1
      have e2 : (t : Int) = u := by injection h1 with _ h3; injection h3
      rw [ih h2, show n = m by omega, show t = u by omega]
theorem not_one {K : PySem.W.Frag} {H : Hp} {c : Addr} {ps : List Addr} {b : Blk} {X R : Hp → Prop} (hc : H c = some (.lst (ps.map V.ref))) (hps : PrsAt H ps b) (h : ¬ ∃ u, b = [(u, 1)]) (q : R H) :
    if ((b.length : Nat) : Int) = 1 then (∃ xs v, SqL K H c xs ∧ atI xs 0 = some v ∧ rIxT K v (.int 1) H fun x H1 => rEq x (.int 1) H1 fun x H' => wB x H' fun b H1 => if b = true then X H1 else R H1) else R H := by
  split
  · next h1 =>
    cases hps with
    | nil => simp at h1
    | @cons p n t ps b e e2 =>
      cases e2 with
      | nil =>
        refine ⟨_, _, SqL.of hc, at_of (j := 0) rfl rfl, ?_⟩
        rw [w_rIxT]
        refine ⟨_, _, SqT.of e, at_of (j := 1) rfl rfl, ?_⟩
        rw [w_rEq, w_bl, if_neg (by simp; rintro h9; exact h ⟨n, by rw [show t = 1 by omega]⟩)]
        exact q
      | cons _ _ => simp at h1; omega
  · exact q
theorem NKey.same {H H' : Hp} (s : Same H H') {k : List (List Int)} {b : Addr} (h : NKey H k b) : NKey H' k b := by
  obtain ⟨ps, e, h2⟩ := h
  refine ⟨ps, s _ _ e, ?_⟩
  clear e
  induction h2 with
  | nil => exact .nil
  | cons e _ ih => exact .cons (s _ _ e) ih
theorem NKey.sm {l : List Addr} {H H' : Hp} (s : Sm l H H') (hl : ∀ a ∈ l, ∀ xs, H a ≠ some (.tup xs)) {k : List (List Int)} {b : Addr} (h : NKey H k b) : NKey H' k b := by
  obtain ⟨ps, e, h2⟩ := h
  refine ⟨ps, s _ _ (fun hp => hl b hp _ e) e, ?_⟩
  clear e
  induction h2 with
  | nil => exact .nil
  | @cons p q ps qs e _ ih => exact .cons (s _ _ (fun hp => hl p hp _ e) e) ih
theorem NamesAt.sm {CN : Addr} {l : List Addr} {H H' : Hp} (s : Sm l H H') (hl : ∀ a ∈ l, ∀ xs, H a ≠ some (.tup xs)) {o d p z : Addr} {tb : List Blk} (ho : o ∉ l) (hd : d ∉ l) (hp : p ∉ l) (hz : z ∉ l) (h : NamesAt CN H o d p z tb) : NamesAt CN H' o d p z tb := by
  obtain ⟨dx, e1⟩ := h.ins
  obtain ⟨e, ks, e2, e3, e4⟩ := h.parts
  obtain ⟨xs, e5, e6, e7⟩ := h.known
  exact ⟨⟨dx, s _ _ ho e1⟩, h.ne, ⟨e, ks, s _ _ (fun hp => hl e hp _ e2) e2, s _ _ hp e3, e4.sm s hl⟩, s _ _ hz h.sizes, ⟨xs, ⟨s _ _ hd e5.at_, e5.sys, e5.len, e5.nd, fun x hx => (e5.keys x hx).sm s hl⟩, e6, e7⟩⟩
theorem NamesAt.same {CN : Addr} {H H' : Hp} (s : Same H H') {o d p z : Addr} {tb : List Blk} (h : NamesAt CN H o d p z tb) : NamesAt CN H' o d p z tb := h.sm (l := []) (Same.sm s) (by simp) (by simp) (by simp) (by simp) (by simp)
theorem NamesAt.blkNe {CN : Addr} {H : Hp} {o d p z : Addr} {tb : List Blk} (h : NamesAt CN H o d p z tb) {c : Addr} {ps : List Addr} (hc : H c = some (.lst (ps.map V.ref))) (hps : ∀ a ∈ ps, H a ≠ some (.tup [])) : c ∉ [d, p, z] := by
  obtain ⟨e, ks, e2, e3, e4⟩ := h.parts
  obtain ⟨xs, e5, e6, e7⟩ := h.known
  intro hm
  rcases List.mem_cons.mp hm with rfl | hm
  · rw [e5.at_] at hc; cases hc
  rcases List.mem_cons.mp hm with rfl | hm
  · rw [e3] at hc
    have hx := Option.some.inj hc
    injection hx with hx
    cases ps with
    | nil => have := congrArg List.length hx; simp at this
    | cons a ps =>
      have h0 := congrArg List.head? hx
      rw [show List.replicate 256 (V.ref e) = V.ref e :: List.replicate 255 (V.ref e) from rfl] at h0
      simp at h0
      subst h0
      exact hps e (by simp) e2
  rcases List.mem_cons.mp hm with rfl | hm
  · rw [h.sizes] at hc
    have hx := Option.some.inj hc
    injection hx with hx
    cases ps with
    | nil => have := congrArg List.length hx; simp at this
    | cons a ps =>
      have h0 := congrArg List.head? hx
      rw [show List.replicate 256 (V.int 1) = V.int 1 :: List.replicate 255 (V.int 1) from rfl] at h0
      simp at h0
  cases hm
theorem NamesAt.nt {CN : Addr} {H : Hp} {o d p z : Addr} {tb : List Blk} (h : NamesAt CN H o d p z tb) : ∀ a ∈ [d, p, z], ∀ xs, H a ≠ some (.tup xs) := by
  obtain ⟨e, ks, e2, e3, e4⟩ := h.parts
  obtain ⟨xs, e5, e6, e7⟩ := h.known
  intro a hm xs hc
  rcases List.mem_cons.mp hm with rfl | hm
  · rw [e5.at_] at hc; cases hc
  rcases List.mem_cons.mp hm with rfl | hm
  · rw [e3] at hc; cases hc
  rcases List.mem_cons.mp hm with rfl | hm
  · rw [h.sizes] at hc; cases hc
  cases hm
theorem PrsAt.ne0 {H : Hp} {ps : List Addr} {b : Blk} (h : PrsAt H ps b) : ∀ a ∈ ps, H a ≠ some (.tup []) := by
  induction h with
  | nil => intro a ha; cases ha
  | cons e _ ih =>
    intro a ha
    rcases List.mem_cons.mp ha with rfl | ha
    · rw [e]; simp
    · exact ih a ha
theorem NamesAt.blk {CN : Addr} {H H' : Hp} {o d p z : Addr} {tb : List Blk} (h : NamesAt CN H o d p z tb) (s : Sm [d, p, z] H H') {c : Addr} {b : Blk} (hc : BlkAt H c b) : BlkAt H' c b := by
  obtain ⟨ps, e, hp⟩ := id hc
  exact hc.sm s h.nt (h.blkNe e hp.ne0)
theorem NamesAt.blks {CN : Addr} {H H' : Hp} {o d p z : Addr} {tb : List Blk} (h : NamesAt CN H o d p z tb) (s : Sm [d, p, z] H H') {as : List Addr} {bs : List Blk} (hc : BlksAt H as bs) : BlksAt H' as bs := by
  induction hc with
  | nil => exact .nil
  | cons e _ ih => exact .cons (h.blk s e) ih
theorem NamesAt.rows {CN : Addr} {H H' : Hp} {o d p z : Addr} {tb : List Blk} (h : NamesAt CN H o d p z tb) (s : Sm [d, p, z] H H') {a : Addr} {bs : List Blk} (hc : RowsAt H a bs) : RowsAt H' a bs := by
  obtain ⟨as, e, hp⟩ := hc
  refine ⟨as, s _ _ (h.blkNe e fun c hc hn => ?_) e, h.blks s hp⟩
  obtain ⟨b, ps, e2, _⟩ := hp.mem hc
  rw [e2] at hn
  cases hn
theorem NamesAt.insNe {CN : Addr} {H : Hp} {o d p z : Addr} {tb : List Blk} (h : NamesAt CN H o d p z tb) {c C dx : Addr} {fs : List (Str × V)} (hc : H c = some (.ins C dx fs)) : c ∉ [d, p, z] := by
  obtain ⟨e, ks, e2, e3, e4⟩ := h.parts
  obtain ⟨xs, e5, e6, e7⟩ := h.known
  intro hm
  rcases List.mem_cons.mp hm with rfl | hm
  · rw [e5.at_] at hc; cases hc
  rcases List.mem_cons.mp hm with rfl | hm
  · rw [e3] at hc; cases hc
  rcases List.mem_cons.mp hm with rfl | hm
  · rw [h.sizes] at hc; cases hc
  cases hm
theorem NamesAt.lays {CN CL : Addr} {H H' : Hp} {o d p z : Addr} {tb : List Blk} (h : NamesAt CN H o d p z tb) (s : Sm [d, p, z] H H') {a : Addr} {fr : List Blk} {mi : Blk} {ba : List Blk} (hc : LaysAt CL H a fr mi ba) : LaysAt CL H' a fr mi ba := by
  obtain ⟨dx, f, m, b, h1, h2, h3, h4⟩ := hc
  exact ⟨dx, f, m, b, s _ _ (h.insNe h1) h1, h.rows s h2, h.blk s h3, h.rows s h4⟩
def szs (tb : List Blk) (b : Blk) : List Int := b.map fun pr => ((B47.ex tb pr.1).length : Int) * (pr.2 : Int)
theorem szs_sum (tb : List Blk) : ∀ b : Blk, (szs tb b).sum = ((B47.btx tb b).length : Int)
  | [] => rfl
  | pr :: b => by
    show (_ + (szs tb b).sum : Int) = _
    rw [szs_sum tb b, B47.btx_cons, List.length_append, B47.rep_len, Nat.mul_comm]
    simp
theorem sizes_at {tb : List Blk} {n : Nat} (h : n < 256 + tb.length) : (List.replicate 256 (V.int 1) ++ (B47.exs tb).map fun t => V.int (t.length : Int))[n]? = some (V.int ((B47.ex tb n).length : Int)) := by
  by_cases c : n < 256
  · rw [List.getElem?_append_left (by simp [c]), B47.ex_byte c, List.getElem?_replicate, if_pos c]
    rfl
  · have hl := B47.exs_len tb
    rw [List.getElem?_append_right (by simp; omega), List.length_replicate, List.getElem?_map]
    have h2 : n - 256 < (B47.exs tb).length := by omega
    rw [List.getElem?_eq_getElem h2]
    unfold B47.ex Sz47.made
    rw [if_neg c, List.getD_eq_getElem?_getD, List.getElem?_eq_getElem h2]
    rfl
theorem key_none {xs : List (List (List Int) × Addr × Value)} {k : List (List Int)} (h : k ∉ xs.map (·.1)) : atKey xs k = none := by
  unfold atKey
  rw [List.find?_eq_none.mpr]
  · rfl
  · intro x hx c
    exact h (List.mem_map.mpr ⟨x, hx, by simpa using c⟩)
theorem key_some {xs : List (List (List Int) × Addr × Value)} {k : List (List Int)} (hn : (xs.map (·.1)).Nodup) {i : Nat} {x : List (List Int) × Addr × Value} (h : xs[i]? = some x) (hk : x.1 = k) : atKey xs k = some x.2 := by
  unfold atKey
  have hm : x ∈ xs := List.mem_of_getElem? h
  have : xs.find? (fun y => decide (y.1 = k)) = some x := by
    clear h
    induction xs with
    | nil => cases hm
    | cons y xs ih =>
      rw [List.map_cons, List.nodup_cons] at hn
      rw [List.find?_cons]
      by_cases c : y.1 = k
      · rw [decide_eq_true c]
        rcases List.mem_cons.mp hm with e | e
        · rw [e]
        · exact absurd (List.mem_map.mpr ⟨x, e, by rw [hk, c]⟩) hn.1
      · rw [decide_eq_false c]
        rcases List.mem_cons.mp hm with e | e
        · subst e; exact absurd hk c
        · exact ih hn.2 e
  rw [this]
  rfl
theorem idx_new {tb : List Blk} {b : Blk} (h : b ∉ tb) : (tb ++ [b]).idxOf b = tb.length := by
  rw [List.idxOf_append, if_neg h]
  simp
structure AheadOk (tb : List Blk) (P0 B M0 : Nat) (st : Blk) : Prop where
  ok : B47.PrOk tb st
  sb : B47.SB tb P0 B M0 st
  len : (B47.stx tb st).length < 2 ^ 60
theorem com_nil1 {y : List Nat} : Sz47.common [] y = 0 := by cases y <;> rfl
theorem com_nil2 {y : List Nat} : Sz47.common y [] = 0 := by cases y <;> rfl
theorem AheadOk.less {tb : List Blk} {P0 B M0 : Nat} {st : Blk} {n t m : Nat} (h : AheadOk tb P0 B M0 (st ++ [(n, t)])) (h1 : 1 ≤ m) (h2 : m ≤ t) : AheadOk tb P0 B M0 (B47.less st n t m) := by
  refine ⟨h.ok.less h1, B47.less_sb h.sb, ?_⟩
  have h3 := h.len
  rw [B47.less_tx h2, List.length_append] at h3
  omega
theorem AheadOk.opn {tb : List Blk} {P0 B M0 : Nat} {st b : Blk} {i t : Nat} (hT : B47.TabC tb) (hb : tb[i]? = some b) (hlen : b.length ≤ B) (h : AheadOk tb P0 B M0 (st ++ [(256 + i, t)])) (ht : 1 ≤ t) : AheadOk tb P0 B M0 (B47.less st (256 + i) t 1 ++ b.reverse) := by
  have hne : b ≠ [] := by
    rintro rfl
    rcases hT.two _ (List.mem_of_getElem? hb) with h | ⟨n, t, h, _⟩
    · simp at h
    · cases h
  refine ⟨B47.PrOk.open_ hT hb h.ok, B47.open_sb hT.ok hb hne hlen h.sb, ?_⟩
  rw [B47.open_tx hT.ok hb ht]
  exact h.len
theorem AheadOk.size {tb : List Blk} {P0 B M0 : Nat} {st : Blk} {n t : Nat} (h : AheadOk tb P0 B M0 (st ++ [(n, t)])) : (B47.ex tb n).length < 2 ^ 60 := by
  have h1 : (B47.rep t (B47.ex tb n) ++ B47.stx tb st).length < 2 ^ 60 := by rw [← B47.stx_snoc tb st (n, t)]; exact h.len
  have h2 : 1 ≤ t := (h.ok (n, t) (by simp)).1
  rw [List.length_append, B47.rep_len] at h1
  have h3 : 1 * (B47.ex tb n).length ≤ t * (B47.ex tb n).length := Nat.mul_le_mul_right _ h2
  omega
theorem two_if {a b : Prop} [Decidable a] [Decidable b] {X R : Prop} (h : ¬ (a ∧ b)) (q : R) : if a then (if b then X else R) else R := by
  split
  · split
    · exact absurd ⟨‹a›, ‹b›⟩ h
    · exact q
  · exact q
structure JIn (tb : List Blk) (tx ty : List Nat) (fr1 : List Blk) (mi1 : Blk) (ba1 : List Blk) (fr2 : List Blk) (mi2 : Blk) (ba2 : List Blk) : Prop where
  tab : B47.TabC tb
  l1 : B47.Lay tb tx fr1 mi1 ba1
  l2 : B47.Lay tb ty fr2 mi2 ba2
  bytes : ∀ c ∈ tx ++ ty, c < 256
  len : (tx ++ ty).length < 2 ^ 60
  room : tb.length + 310 * 23 < 2 ^ 22
  s1 : ∀ b ∈ fr1 ++ ba1 ++ [mi1], b.length ≤ 2 ^ 16
  s2 : ∀ b ∈ fr2 ++ ba2 ++ [mi2], b.length ≤ 2 ^ 16
structure JOut (tb : List Blk) (tx ty : List Nat) (e : List Blk) (bf : Nat → List Nat) (fr : List Blk) (mi : Blk) (ba : List Blk) : Prop where
  tab : B47.TabC (tb ++ e)
  few : e.length ≤ 310 * 23
  lay : B47.Lay (tb ++ e) (tx ++ ty) fr mi ba
  short : ∀ L, (bf L).length ≤ 23
  rows : ∀ L, B47.rw_ (tb ++ e) (tx ++ ty) L = B47.rw_ (tb ++ e) tx L ++ bf L ++ B47.rw_ (tb ++ e) ty L
  new : ∀ b ∈ e, ∃ L s, b = B47.blkOf L s ∧ (∀ n ∈ s, n ∈ B47.rw_ (tb ++ e) (tx ++ ty) L) ∧ B47.Chain (B47.rl L) s
theorem three_if {a b c : Prop} [Decidable a] [Decidable b] [Decidable c] {X R : Prop} (h : ¬ (a ∧ b ∧ c)) (q : R) : if a then (if b then (if c then X else R) else R) else R := by
  split
  · split
    · split
      · exact absurd ⟨‹a›, ‹b›, ‹c›⟩ h
      · exact q
    · exact q
  · exact q
theorem NamesAt.some {CN : Addr} {H : Hp} {o d p z : Addr} {tb : List Blk} (h : NamesAt CN H o d p z tb) : ∀ a ∈ [d, p, z], ∃ x, H a = Option.some x := by
  obtain ⟨_, _, _, e3, _⟩ := h.parts
  obtain ⟨_, e5, _⟩ := h.known
  intro a hm
  rcases List.mem_cons.mp hm with rfl | hm
  · exact ⟨_, e5.at_⟩
  rcases List.mem_cons.mp hm with rfl | hm
  · exact ⟨_, e3⟩
  rcases List.mem_cons.mp hm with rfl | hm
  · exact ⟨_, h.sizes⟩
  cases hm
theorem popat_of {H : Hp} {B a : Addr} {as : List Addr} {Q : VK} (h : H B = some (.lst ((a :: as).map V.ref))) (q : Q (.ref a) (upd H B (.lst (as.map V.ref)))) : rPopAt (.ref B) [.int 0] H Q :=
  ⟨B, _, 0, 0, .ref a, rfl, rfl, h, by decide, by decide, (ixN_seq (n := ((a :: as).map V.ref).length) (i := 0) (j := 0) (by unfold ixN; rw [if_pos (by decide), if_pos (by simp)]; rfl)).1, rfl, q⟩
structure ReachOk (ns : List Int) (n : Nat) (ws : List Nat) : Prop where
  up : ws.Pairwise (· < ·)
  top : 255 + n ∈ ws
  low : ∀ x ∈ ws, x < 256 + n
  shut : ∀ (i : Nat) (y : Sz47.Rule), 256 + i ∈ ws → (Sz47Neutral.rules ns)[i]? = some y → y.1 ∈ ws ∧ y.2 ∈ ws
  len : ∀ x ∈ ws, (Sz47.made (Sz47.each (Sz47Neutral.rules ns)) x).length ≤ (Sz47.text (Sz47Neutral.rules ns)).length
def top (i : Nat) : Stmt := PySem.Challenge.pw_ruletexts_s05_same.main.body.getD i (.Pass ⟨0, 0, 0, 0⟩)
abbrev s_Names___init__ : Stmt := inClass (top 2) 0
theorem sc_Names___init__ : FnScope ["self"] ["self"] (defScope s_Names___init__) := ⟨rfl, rfl, rfl, by decide +kernel, rfl, by decide +kernel, by decide +kernel⟩
abbrev s_Names_name_of : Stmt := inClass (top 2) 1
theorem sc_Names_name_of : FnScope ["self", "block", "key", "name", "times"] ["self", "block"] (defScope s_Names_name_of) := ⟨rfl, rfl, rfl, by decide +kernel, rfl, by decide +kernel, by decide +kernel⟩
abbrev s_Layers___init__ : Stmt := inClass (top 3) 0
theorem sc_Layers___init__ : FnScope ["self", "fronts", "middle", "backs"] ["self", "fronts", "middle", "backs"] (defScope s_Layers___init__) := ⟨rfl, rfl, rfl, by decide +kernel, rfl, by decide +kernel, by decide +kernel⟩
abbrev s_text_layers : Stmt := top 4
theorem sc_text_layers : FnScope ["k", "r", "names", "made", "thing", "place"] ["k", "r", "names"] (defScope s_text_layers) := ⟨rfl, rfl, rfl, by decide +kernel, rfl, by decide +kernel, by decide +kernel⟩
abbrev s_things_reached : Stmt := top 5
theorem sc_things_reached : FnScope ["k", "r", "reached", "j"] ["k", "r"] (defScope s_things_reached) := ⟨rfl, rfl, rfl, by decide +kernel, rfl, by decide +kernel, by decide +kernel⟩
abbrev s_joined_layers : Stmt := top 6
theorem sc_joined_layers : FnScope ["left", "right", "names", "fronts", "backs", "between", "level", "row", "blocks", "left_goes_on", "right_goes_on", "block"] ["left", "right", "names"] (defScope s_joined_layers) := ⟨rfl, rfl, rfl, by decide +kernel, rfl, by decide +kernel, by decide +kernel⟩
abbrev s_edge : Stmt := top 7
theorem sc_edge : FnScope ["blocks", "middle", "level"] ["blocks", "middle", "level"] (defScope s_edge) := ⟨rfl, rfl, rfl, by decide +kernel, rfl, by decide +kernel, by decide +kernel⟩
abbrev s_cut : Stmt := top 8
theorem sc_cut : FnScope ["row", "level", "turn"] ["row", "level"] (defScope s_cut) := ⟨rfl, rfl, rfl, by decide +kernel, rfl, by decide +kernel, by decide +kernel⟩
abbrev s_cut_alike : Stmt := top 9
theorem sc_cut_alike : FnScope ["row", "blocks", "name", "times"] ["row"] (defScope s_cut_alike) := ⟨rfl, rfl, rfl, by decide +kernel, rfl, by decide +kernel, by decide +kernel⟩
abbrev s_cut_slopes : Stmt := top 10
theorem sc_cut_slopes : FnScope ["row", "way", "blocks", "pair"] ["row", "way"] (defScope s_cut_slopes) := ⟨rfl, rfl, rfl, by decide +kernel, rfl, by decide +kernel, by decide +kernel⟩
abbrev s_letters_alike : Stmt := top 11
theorem sc_letters_alike : FnScope ["one", "other", "names", "first", "second", "letters", "size", "other_size"] ["one", "other", "names"] (defScope s_letters_alike) := ⟨rfl, rfl, rfl, by decide +kernel, rfl, by decide +kernel, by decide +kernel⟩
abbrev s_pairs_ahead : Stmt := top 12
theorem sc_pairs_ahead : FnScope ["text", "ahead", "block"] ["text"] (defScope s_pairs_ahead) := ⟨rfl, rfl, rfl, by decide +kernel, rfl, by decide +kernel, by decide +kernel⟩
abbrev s_pass_alike : Stmt := top 13
theorem sc_pass_alike : FnScope ["first", "second", "times"] ["first", "second"] (defScope s_pass_alike) := ⟨rfl, rfl, rfl, by decide +kernel, rfl, by decide +kernel, by decide +kernel⟩
abbrev s_take : Stmt := top 14
theorem sc_take : FnScope ["ahead", "times", "pair"] ["ahead", "times"] (defScope s_take) := ⟨rfl, rfl, rfl, by decide +kernel, rfl, by decide +kernel, by decide +kernel⟩
abbrev s_open_block : Stmt := top 15
theorem sc_open_block : FnScope ["ahead", "names", "name"] ["ahead", "names"] (defScope s_open_block) := ⟨rfl, rfl, rfl, by decide +kernel, rfl, by decide +kernel, by decide +kernel⟩
abbrev s_same : Stmt := top 21
theorem sc_same : FnScope ["k", "r", "j", "s", "refusal", "names"] ["k", "r", "j", "s"] (defScope s_same) := ⟨rfl, rfl, rfl, by decide +kernel, rfl, by decide +kernel, by decide +kernel⟩
abbrev s_list_refusal : Stmt := top 22
theorem sc_list_refusal : FnScope ["k", "r"] ["k", "r"] (defScope s_list_refusal) := ⟨rfl, rfl, rfl, by decide +kernel, rfl, by decide +kernel, by decide +kernel⟩
abbrev s_names_allowed : Stmt := top 23
theorem sc_names_allowed : FnScope ["k", "r", "j"] ["k", "r"] (defScope s_names_allowed) := ⟨rfl, rfl, rfl, by decide +kernel, rfl, by decide +kernel, by decide +kernel⟩
abbrev s_text_length : Stmt := top 24
theorem sc_text_length : FnScope ["k", "r"] ["k", "r"] (defScope s_text_length) := ⟨rfl, rfl, rfl, by decide +kernel, rfl, by decide +kernel, by decide +kernel⟩
abbrev s_rule_lengths : Stmt := top 25
theorem sc_rule_lengths : FnScope ["k", "r", "lengths", "j", "first", "second"] ["k", "r"] (defScope s_rule_lengths) := ⟨rfl, rfl, rfl, by decide +kernel, rfl, by decide +kernel, by decide +kernel⟩
abbrev s_thing_length : Stmt := top 26
theorem sc_thing_length : FnScope ["thing", "lengths"] ["thing", "lengths"] (defScope s_thing_length) := ⟨rfl, rfl, rfl, by decide +kernel, rfl, by decide +kernel, by decide +kernel⟩
structure Txt (K : PySem.W.Frag) (mg : Str → Option Value) (C_Names : Addr) (C_Layers : Addr) : Prop where
  c_Names : mg "Names" = some (.ref C_Names)
  cl_Names : Cls K C_Names
  n_known : NoAttr K C_Names "known"
  n_parts : NoAttr K C_Names "parts"
  n_sizes : NoAttr K C_Names "sizes"
  c_Layers : mg "Layers" = some (.ref C_Layers)
  cl_Layers : Cls K C_Layers
  n_backs : NoAttr K C_Layers "backs"
  n_fronts : NoAttr K C_Layers "fronts"
  n_middle : NoAttr K C_Layers "middle"
  bytes : ∃ t, mg "BYTES" = some (.int 256 t)
  most_rules : ∃ t, mg "MOST_RULES" = some (.int 256 t)
  too_long : ∃ t, mg "TOO_LONG" = some (.int 1152921504606846976 t)
  bad_list : ∃ t, mg "BAD_LIST" = some (.int (-1) t)
  long_text : ∃ t, mg "LONG_TEXT" = some (.int (-2) t)
  b_len : mg "len" = none
  b_list : mg "list" = none
  b_max : mg "max" = none
  b_min : mg "min" = none
  b_range : mg "range" = none
  b_reversed : mg "reversed" = none
  b_sorted : mg "sorted" = none
  b_sum : mg "sum" = none
  b_tuple : mg "tuple" = none
def sp_Names___init__ (K : PySem.W.Frag) (C_Names C_Layers : Addr) : Sp := fun vs H Q _ => ∃ (x dx : Addr), vs = [.ref x] ∧ H x = some (.ins C_Names dx []) ∧ ∀ H' : Hp, Sm [x] H H' → (∀ d p z, NamesAt C_Names H' x d p z [] → H d = none → H p = none → H z = none → Q .non H')
def sp_Names_name_of (K : PySem.W.Frag) (C_Names C_Layers : Addr) : Sp := fun vs H Q _ => ∃ (o c d p z : Addr) (tb : List Blk) (b : Blk), vs = [.ref o, .ref c] ∧ NamesAt C_Names H o d p z tb ∧ BlkAt H c b ∧ b ≠ [] ∧ (∀ pr ∈ b, pr.1 < 256 + tb.length) ∧ (∀ pr ∈ b, pr.2 < 2 ^ 64) ∧ tb.length < 2 ^ 23 ∧ b.length < 2 ^ 23 ∧ ∀ (H' : Hp) (e : List Blk), Sm [d, p, z] H H' → NamesAt C_Names H' o d p z (tb ++ e) → (e = [] ∨ e = [b] ∧ b ∉ tb ∧ ∀ u, b ≠ [(u, 1)]) → ((∃ u, b = [(u, 1)]) ∨ b ∈ tb ++ e) → Q (.int ((B47.nm (tb ++ e) b : Nat) : Int)) H'
def sp_Layers___init__ (K : PySem.W.Frag) (C_Names C_Layers : Addr) : Sp := fun vs H Q _ => ∃ (x dx f m b : Addr), vs = [.ref x, .ref f, .ref m, .ref b] ∧ H x = some (.ins C_Layers dx []) ∧ ∀ H' : Hp, Sm [x] H H' → H' x = some (.ins C_Layers dx [("fronts", .ref f), ("middle", .ref m), ("backs", .ref b)]) → Q .non H'
def forC (lo c : Int) (n : Nat) (g : TG) (tb : TS) (D : Ends) (σ : L2.St) (H : Hp) : Prop := ∃ W : Nat → Nat → L2.St → Hp → Prop, (∃ m, W 0 m σ H) ∧ ∀ i m σ H, W i m σ H →
      ((Itc lo c n).stop i H ∧ D.nx σ H) ∨ ((Itc lo c n).go i H ∧ ∃ N : L2.St → Hp → Prop, (∀ σ' H', N σ' H' → ∃ m', m' < m ∧ W (i + 1) m' σ' H') ∧ ∀ x H', (Itc lo c n).yld i H x H' → g x σ H' fun σ2 H2 => tb { D with nx := N, ct := N, bk := D.nx } σ2 H2)
def fC (vs : List V) (g : TG) (tb : TS) (D : Ends) (σ : L2.St) (H : Hp) : Prop := ∃ (i j c : Int) (n : Nat), vs = [.int i, .int j, .int c] ∧ RgC i j c n ∧ forC i c n g tb D σ H
theorem w_forC {ta : TA} {g : TG} {t : TS} {D : Ends} {σ : L2.St} {H : Hp} : tFor (iRng3 ta) g t D σ H = ta σ H fun vs H1 => fC vs g t D σ H1 := rfl
def kvTr (ws : List Nat) : List (L2.Key × V) := ws.map fun (x : Nat) => ((Sum.inl (x : Int) : L2.Key), V.bl true)
def insW (ws : List Nat) (x : Nat) : List Nat := if x ∈ ws then ws else ws ++ [x]
theorem insW_len (ws : List Nat) (x : Nat) : (insW ws x).length ≤ ws.length + 1 := by unfold insW; split <;> simp
theorem insW_mem {ws : List Nat} {x y : Nat} : y ∈ insW ws x ↔ y ∈ ws ∨ y = x := by
  unfold insW
  split
  · next h => exact ⟨.inl, fun h2 => h2.elim id (fun e => e ▸ h)⟩
  · simp
theorem insW_nd {ws : List Nat} {x : Nat} (h : ws.Nodup) : (insW ws x).Nodup := by
  unfold insW
  split
  · exact h
  · next hx =>
    rw [List.nodup_append]
    exact ⟨h, by simp, fun a ha b hb e => by rw [List.mem_singleton] at hb; subst hb; subst e; exact hx ha⟩
theorem key_ne {a b : Nat} : ((Sum.inl (a : Int) : L2.Key) = Sum.inl (b : Int)) ↔ a = b := by
  constructor
  · intro h
    injection h with h
    omega
  · intro h
    rw [h]
theorem kvTr_put (ws : List Nat) (x : Nat) : putK (kvTr ws) (Sum.inl (x : Int)) (.bl true) = kvTr (insW ws x) := by
  unfold putK insW
  have e : ((kvTr ws).any fun kv => decide (kv.1 = Sum.inl (x : Int))) = decide (x ∈ ws) := by
    unfold kvTr
    rw [List.any_map]
    induction ws with
    | nil => rfl
    | cons a ws ih =>
      rw [List.any_cons, ih]
      have : (((fun kv : L2.Key × V => decide (kv.1 = Sum.inl (x : Int))) ∘ fun x : Nat => ((Sum.inl (x : Int) : L2.Key), V.bl true)) a) = decide (a = x) := by
        simp only [Function.comp_def]
        exact decide_eq_decide.mpr key_ne
      rw [this]
      by_cases c : a = x
      · subst c; simp
      · have c2 : ¬ x = a := fun h => c h.symm
        simp [c, c2]
  rw [e]
  by_cases h : x ∈ ws
  · rw [if_pos (decide_eq_true h), if_pos h]
    unfold kvTr
    rw [List.map_map]
    apply List.map_congr_left
    intro a _
    simp only [Function.comp_def]
    split <;> rfl
  · rw [if_neg (by simp [h]), if_neg h]
    unfold kvTr
    rw [List.map_append]
    rfl
theorem kvTr_val (ws : List Nat) (x : Nat) : valV (kvTr ws) (Sum.inl (x : Int)) = if x ∈ ws then some (V.bl true) else none := by
  induction ws with
  | nil => rfl
  | cons a ws ih =>
    show valV ((Sum.inl (a : Int), V.bl true) :: kvTr ws) _ = _
    by_cases c : a = x
    · rw [valV_pos (by rw [c]), if_pos (by simp [c])]
    · have : valV ((Sum.inl (a : Int), V.bl true) :: kvTr ws) (Sum.inl (x : Int)) = valV (kvTr ws) (Sum.inl (x : Int)) := by
        unfold valV
        rw [List.find?_cons, decide_eq_false (by show ¬ (Sum.inl (a : Int) : L2.Key) = _; rw [key_ne]; exact c)]
      rw [this, ih]
      have c2 : ¬ x = a := fun h => c h.symm
      simp [c2]
structure ReachI (ns : List Int) (n i : Nat) (ws : List Nat) : Prop where
  nd : ws.Nodup
  top : 255 + n ∈ ws
  low : ∀ x ∈ ws, x < 256 + n
  shut : ∀ (j : Nat) (y : Sz47.Rule), n ≤ i + j → 256 + j ∈ ws → (Sz47Neutral.rules ns)[j]? = some y → y.1 ∈ ws ∧ y.2 ∈ ws
  len : ∀ x ∈ ws, (Sz47.made (Sz47.each (Sz47Neutral.rules ns)) x).length ≤ (Sz47.text (Sz47Neutral.rules ns)).length
  len1 : ws.length ≤ 1 + 2 * i
theorem reach_zero {ns : List Int} {n : Nat} (hF : Fit (n : Int) ns n) (hN : NamesOk (Sz47Neutral.rules ns)) : ReachI ns n 0 [255 + n] := by
  have hn1 := hF.pos
  refine ⟨by simp, by simp, ?_, ?_, ?_, by simp⟩
  · intro x hx
    rw [List.mem_singleton] at hx
    omega
  · intro j y h1 h2 h3
    rw [List.mem_singleton] at h2
    omega
  · intro x hx
    rw [List.mem_singleton] at hx
    subst hx
    rw [text_last hF.rl hn1]
    exact Nat.le_refl _
theorem ReachI.skip {ns : List Int} {n i : Nat} {ws : List Nat} (h : ReachI ns n i ws) (hi : i < n) (hin : 256 + (n - 1 - i) ∉ ws) : ReachI ns n (i + 1) ws := by
  refine ⟨h.nd, h.top, h.low, fun j y h1 h2 h3 => ?_, h.len, by have := h.len1; omega⟩
  by_cases c : n ≤ i + j
  · exact h.shut j y c h2 h3
  · have : j = n - 1 - i := by omega
    subst this
    exact absurd h2 hin
theorem ReachI.put {ns : List Int} {n i x y : Nat} {ws : List Nat} (h : ReachI ns n i ws) (hN : NamesOk (Sz47Neutral.rules ns)) (hrl : (Sz47Neutral.rules ns).length = n) (hi : i < n) (hxy : (Sz47Neutral.rules ns)[n - 1 - i]? = some (x, y)) (hin : 256 + (n - 1 - i) ∈ ws) : ReachI ns n (i + 1) (insW (insW ws x) y) := by
  have hnm : x < 256 + (n - 1 - i) ∧ y < 256 + (n - 1 - i) := hN (n - 1 - i) _ hxy
  have hm := made_rule hN hxy
  have hl := h.len _ hin
  rw [hm, List.length_append] at hl
  refine ⟨insW_nd (insW_nd h.nd), insW_mem.mpr (.inl (insW_mem.mpr (.inl h.top))), fun z hz => ?_, fun j r h1 h2 h3 => ?_, fun z hz => ?_, ?_⟩
  · rcases insW_mem.mp hz with hz | rfl
    · rcases insW_mem.mp hz with hz | rfl
      · exact h.low z hz
      · omega
    · omega
  · by_cases c : j = n - 1 - i
    · subst c
      rw [hxy] at h3
      cases h3
      exact ⟨insW_mem.mpr (.inl (insW_mem.mpr (.inr rfl))), insW_mem.mpr (.inr rfl)⟩
    · have h4 : 256 + j ∈ ws := by
        rcases insW_mem.mp h2 with hz | hz
        · rcases insW_mem.mp hz with hz | hz
          · exact hz
          · omega
        · omega
      obtain ⟨g1, g2⟩ := h.shut j r (by omega) h4 h3
      exact ⟨insW_mem.mpr (.inl (insW_mem.mpr (.inl g1))), insW_mem.mpr (.inl (insW_mem.mpr (.inl g2)))⟩
  · rcases insW_mem.mp hz with hz | rfl
    · rcases insW_mem.mp hz with hz | rfl
      · exact h.len z hz
      · show (Sz47.made _ z).length ≤ _
        have : (Sz47.made (Sz47.each (Sz47Neutral.rules ns)) (z, y).1).length = (Sz47.made (Sz47.each (Sz47Neutral.rules ns)) z).length := rfl
        omega
    · have : (Sz47.made (Sz47.each (Sz47Neutral.rules ns)) (x, z).2).length = (Sz47.made (Sz47.each (Sz47Neutral.rules ns)) z).length := rfl
      omega
  · have h5 := insW_len (insW ws x) y
    have h6 := insW_len ws x
    have h7 := h.len1
    omega
theorem reach_sorted {ns : List Int} {n : Nat} {ws : List Nat} (h : ReachI ns n n ws) {ns' : List Int} (hs : ns'.Pairwise (· ≤ ·)) (hp : ns'.Perm (nums ws)) : ∃ ws', ns' = nums ws' ∧ ReachOk ns n ws' := by
  have e : ns' = nums (ns'.map Int.toNat) := by
    unfold nums
    rw [List.map_map]
    conv => lhs; rw [← List.map_id ns']
    apply List.map_congr_left
    intro z hz
    have hz2 := hp.mem_iff.mp hz
    unfold nums at hz2
    obtain ⟨x, _, rfl⟩ := List.mem_map.mp hz2
    rfl
  have hm : ∀ x, x ∈ ns'.map Int.toNat ↔ x ∈ ws := by
    intro x
    constructor
    · intro hx
      obtain ⟨z, hz, rfl⟩ := List.mem_map.mp hx
      have hz2 := hp.mem_iff.mp hz
      unfold nums at hz2
      obtain ⟨y, hy, rfl⟩ := List.mem_map.mp hz2
      exact hy
    · intro hx
      refine List.mem_map.mpr ⟨(x : Int), hp.mem_iff.mpr ?_, rfl⟩
      unfold nums
      exact List.mem_map.mpr ⟨x, hx, rfl⟩
  have hnd : ns'.Nodup := by
    rw [hp.nodup_iff]
    unfold nums
    have := h.nd
    rw [List.nodup_iff_pairwise_ne] at this ⊢
    rw [List.pairwise_map]
    exact this.imp fun hne c => hne (by omega)
  refine ⟨ns'.map Int.toNat, e, ?_, (hm _).mpr h.top, fun x hx => h.low x ((hm x).mp hx), fun i y h1 h2 => ?_, fun x hx => h.len x ((hm x).mp hx)⟩
  · have h2 : ns'.Pairwise (fun a b => a ≤ b ∧ a ≠ b) := hs.and hnd
    rw [List.pairwise_map]
    refine List.Pairwise.imp_of_mem ?_ h2
    intro a b ha hb hab
    have ga : 0 ≤ a := by
      have hz2 := hp.mem_iff.mp ha
      unfold nums at hz2
      obtain ⟨x, _, rfl⟩ := List.mem_map.mp hz2
      omega
    omega
  · obtain ⟨g1, g2⟩ := h.shut i y (by omega) ((hm _).mp h1) h2
    exact ⟨(hm _).mpr g1, (hm _).mpr g2⟩
def sp_things_reached (K : PySem.W.Frag) (C_Names C_Layers : Addr) : Sp := fun vs H Q _ => ∃ (ar : Addr) (ns : List Int) (n : Nat), vs = [.int (n : Int), .ref ar] ∧ SqL K H ar (vi ns) ∧ Fit (n : Int) ns n ∧ NamesOk (rules ns) ∧ ∀ (H' : Hp) (a : Addr) (ws : List Nat), Same H H' → H a = none → H' a = some (.lst (vi (nums ws))) → ReachOk ns n ws → Q (.ref a) H'
def sp_edge (K : PySem.W.Frag) (C_Names C_Layers : Addr) : Sp := fun vs H Q _ => ∃ (a m : Addr) (bs : List Blk) (mi r : Blk) (L : Nat), vs = [.ref a, .ref m, .int (L : Int)] ∧ RowsAt H a bs ∧ BlkAt H m mi ∧ (if L < bs.length then bs[L]? else some (if L = bs.length then mi else [])) = some r ∧ ∀ (H' : Hp) (e : Addr), Same H H' → BlkAt H' e r → Q (.ref e) H'
def sp_cut_alike (K : PySem.W.Frag) (C_Names C_Layers : Addr) : Sp := fun vs H Q _ => ∃ (a : Addr) (r : Blk), vs = [.ref a] ∧ BlkAt H a r ∧ (∀ pr ∈ r, 1 ≤ pr.2) ∧ r.length < 2 ^ 20 ∧ ∀ (H' : Hp) (e : Addr), Same H H' → H e = none → RowsAt H' e ((B47.seg (B47.rl 0) (B47.xp r)).map (B47.blkOf 0)) → Q (.ref e) H'
def sp_cut_slopes (K : PySem.W.Frag) (C_Names C_Layers : Addr) : Sp := fun vs H Q _ => ∃ (a : Addr) (w : List Nat) (L : Nat), vs = [.ref a, .int (if L % 3 = 1 then 1 else -1)] ∧ L % 3 ≠ 0 ∧ BlkAt H a (w.map fun n => (n, 1)) ∧ w.length < 2 ^ 20 ∧ ∀ (H' : Hp) (e : Addr), Same H H' → H e = none → RowsAt H' e ((B47.seg (B47.rl L) w).map (B47.blkOf L)) → Q (.ref e) H'
def sp_pairs_ahead (K : PySem.W.Frag) (C_Names C_Layers : Addr) : Sp := fun vs H Q _ => ∃ (o : Addr) (fr : List Blk) (mi : Blk) (ba : List Blk), vs = [.ref o] ∧ LaysAt C_Layers H o fr mi ba ∧ fr.flatten.length + mi.length + ba.flatten.length < 2 ^ 24 ∧ ∀ (H' : Hp) (a : Addr), Same H H' → H a = none → BlkAt H' a (fr.flatten ++ mi ++ ba.reverse.flatten).reverse → Q (.ref a) H'
def sp_take (K : PySem.W.Frag) (C_Names C_Layers : Addr) : Sp := fun vs H Q _ => ∃ (a : Addr) (st : Blk) (n t m : Nat), vs = [.ref a, .int (m : Int)] ∧ BlkAt H a (st ++ [(n, t)]) ∧ st.length < 2 ^ 24 ∧ ∀ H' : Hp, Sm [a] H H' → BlkAt H' a (B47.less st n t m) → Q .non H'
def sp_names_allowed (K : PySem.W.Frag) (C_Names C_Layers : Addr) : Sp := fun vs H Q _ => ∃ (a : Addr) (ns : List Int) (n : Nat), vs = [.int (n : Int), .ref a] ∧ SqL K H a (vi ns) ∧ Fit (n : Int) ns n ∧ Q (.bl (namesB (rules ns))) H
def sp_thing_length (K : PySem.W.Frag) (C_Names C_Layers : Addr) : Sp := fun vs H Q _ => ∃ (x : Nat) (a : Addr) (ls : List Nat), vs = [.int (x : Int), .ref a] ∧ SqL K H a (vi (nums ls)) ∧ x < 256 + ls.length ∧ Q (.int ((wide ls x : Nat) : Int)) H
def sp_cut (K : PySem.W.Frag) (C_Names C_Layers : Addr) : Sp := fun vs H Q _ => ∃ (a : Addr) (r : Blk) (L : Nat), vs = [.ref a, .int (L : Int)] ∧ BlkAt H a r ∧ (∀ pr ∈ r, 1 ≤ pr.2) ∧ (L % 3 ≠ 0 → ∀ pr ∈ r, pr.2 = 1) ∧ r.length < 2 ^ 20 ∧ ∀ (H' : Hp) (e : Addr), Same H H' → H e = none → RowsAt H' e ((B47.seg (B47.rl L) (B47.xp r)).map (B47.blkOf L)) → Q (.ref e) H'
def sp_pass_alike (K : PySem.W.Frag) (C_Names C_Layers : Addr) : Sp := fun vs H Q _ => ∃ (a c : Addr) (s1 s2 : Blk) (n1 t1 n2 t2 : Nat), vs = [.ref a, .ref c] ∧ a ≠ c ∧ BlkAt H a (s1 ++ [(n1, t1)]) ∧ BlkAt H c (s2 ++ [(n2, t2)]) ∧ s1.length < 2 ^ 24 ∧ s2.length < 2 ^ 24 ∧ ∀ H' : Hp, Sm [a, c] H H' → BlkAt H' a (B47.less s1 n1 t1 (min t1 t2)) → BlkAt H' c (B47.less s2 n2 t2 (min t1 t2)) → Q (.int ((min t1 t2 : Nat) : Int)) H'
def sp_open_block (K : PySem.W.Frag) (C_Names C_Layers : Addr) : Sp := fun vs H Q _ => ∃ (a o d p z : Addr) (tb : List Blk) (st b : Blk) (i t : Nat), vs = [.ref a, .ref o] ∧ BlkAt H a (st ++ [(256 + i, t)]) ∧ NamesAt C_Names H o d p z tb ∧ a ≠ o ∧ a ≠ p ∧ a ≠ z ∧ tb[i]? = some b ∧ (B47.less st (256 + i) t 1).length + b.length < 2 ^ 24 ∧ st.length < 2 ^ 24 ∧ ∀ H' : Hp, Sm [a] H H' → BlkAt H' a (B47.less st (256 + i) t 1 ++ b.reverse) → Q .non H'
def sp_rule_lengths (K : PySem.W.Frag) (C_Names C_Layers : Addr) : Sp := fun vs H Q _ => ∃ (a : Addr) (ns : List Int) (n : Nat), vs = [.int (n : Int), .ref a] ∧ SqL K H a (vi ns) ∧ Fit (n : Int) ns n ∧ NamesOk (rules ns) ∧
  ∀ (H' : Hp) (p : Addr), Same H H' → H p = none → H' p = some (.lst (vi (nums (lengths (rules ns))))) → Q (.ref p) H'
theorem lst_notin {H : Hp} {X : Addr} {xas as : List Addr} {xbs cs : List Blk} (hX : H X = some (.lst (xas.map V.ref))) (hb : BlksAt H xas xbs) (hc : BlksAt H as cs) (hn : ∀ c ∈ cs, c ≠ []) : X ∉ as := by
  intro hm
  obtain ⟨i, hi⟩ := List.mem_iff_getElem?.mp hm
  obtain ⟨b, hbi, ps, e, hps⟩ := hc.get2 hi
  have hne := hn b (List.mem_of_getElem? hbi)
  rw [hX] at e
  have e2 := Option.some.inj e
  injection e2 with e2
  cases hps with
  | nil => exact hne rfl
  | @cons p n t ps b e1 _ =>
    cases hb with
    | nil => cases e2
    | @cons a b' as' bs' hab _ =>
      rw [List.map_cons, List.map_cons] at e2
      injection e2 with e3 _
      injection e3 with e3
      subst e3
      obtain ⟨_, e4, _⟩ := hab
      rw [e1] at e4
      cases e4
theorem lst_self {H : Hp} {X : Addr} {xas : List Addr} {xbs : List Blk} (hX : H X = some (.lst (xas.map V.ref))) (hb : BlksAt H xas xbs) (hn : ∀ c ∈ xbs, c ≠ []) : X ∉ xas := lst_notin hX hb hb hn
structure St3 (CN : Addr) (H0 H : Hp) (o d p z : Addr) (tb : List Blk) (F G B : Addr) (fs bs : List Blk) (as : List Addr) (cs : List Blk) : Prop where
  sm : Sm [d, p, z] H0 H
  nm : NamesAt CN H o d p z tb
  f : RowsAt H F fs
  g : RowsAt H G bs
  b : H B = some (.lst (as.map V.ref))
  bb : BlksAt H as cs
  f0 : H0 F = none
  g0 : H0 G = none
  fg : F ≠ G
  fb : F ≠ B
  gb : G ≠ B
  fn : ∀ x ∈ fs, x ≠ []
  gn : ∀ x ∈ bs, x ≠ []
  bn : ∀ x ∈ cs, x ≠ []
theorem names_put {CN : Addr} {H : Hp} {o d p z X : Addr} {tb : List Blk} {xas : List Addr} {xbs : List Blk} {y : HO} (h : NamesAt CN H o d p z tb) (hX : H X = some (.lst (xas.map V.ref))) (hb : BlksAt H xas xbs) : NamesAt CN (upd H X y) o d p z tb := by
  have hn := h.blkNe hX fun c hc hn => by
    obtain ⟨b, ps, e2, _⟩ := hb.mem hc
    rw [e2] at hn
    cases hn
  simp only [List.mem_cons, not_or] at hn
  refine h.sm (l := [X]) (Sm.put (Same.sm (Same.refl _)) (by simp)) ?_ ?_ ?_ ?_ ?_
  · intro a ha xs
    rw [List.mem_singleton] at ha
    subst ha
    rw [hX]
    simp
  · obtain ⟨_, e⟩ := h.ins
    rw [List.mem_singleton]
    rintro rfl
    rw [e] at hX
    cases hX
  · rw [List.mem_singleton]; exact Ne.symm hn.1
  · rw [List.mem_singleton]; exact Ne.symm hn.2.1
  · rw [List.mem_singleton]; exact Ne.symm hn.2.2.1
theorem St3.pushF {CN : Addr} {H0 H : Hp} {o d p z : Addr} {tb : List Blk} {F G B : Addr} {fs bs : List Blk} {as : List Addr} {cs : List Blk} (S : St3 CN H0 H o d p z tb F G B fs bs as cs) {c : Addr} {b : Blk} (hc : BlkAt H c b) (hb : b ≠ []) :
    ∃ fas, H F = some (.lst fas) ∧ fas.length = fs.length ∧ St3 CN H0 (upd H F (.lst (fas ++ [.ref c]))) o d p z tb F G B (fs ++ [b]) bs as cs := by
  obtain ⟨fas, hF, hfs⟩ := id S.f
  obtain ⟨gas, hG, hgs⟩ := id S.g
  have n1 : F ∉ fas := lst_self hF hfs S.fn
  have n2 : F ∉ gas := lst_notin hF hfs hgs S.gn
  have n3 : F ∉ as := lst_notin hF hfs S.bb S.bn
  have n4 : F ∉ [c] := lst_notin hF hfs (.cons hc .nil) (by simp [hb])
  refine ⟨fas.map V.ref, hF, by rw [List.length_map, hfs.len], S.sm.new S.f0, names_put S.nm hF hfs, ⟨fas ++ [c], by rw [upd_same]; simp, ?_⟩, ⟨gas, by rw [upd_ne (Ne.symm S.fg)]; exact hG, hgs.upd hF n2⟩, by rw [upd_ne (Ne.symm S.fb)]; exact S.b, S.bb.upd hF n3, S.f0, S.g0, S.fg, S.fb, S.gb, ?_, S.gn, S.bn⟩
  · exact (hfs.app (.cons hc .nil)).upd hF (by simp only [List.mem_append, not_or]; exact ⟨n1, n4⟩)
  · intro x hx
    rcases List.mem_append.mp hx with h | h
    · exact S.fn x h
    · rw [List.mem_singleton] at h
      rw [h]
      exact hb
theorem St3.pushG {CN : Addr} {H0 H : Hp} {o d p z : Addr} {tb : List Blk} {F G B : Addr} {fs bs : List Blk} {as : List Addr} {cs : List Blk} (S : St3 CN H0 H o d p z tb F G B fs bs as cs) {c : Addr} {b : Blk} (hc : BlkAt H c b) (hb : b ≠ []) :
    ∃ gas, H G = some (.lst gas) ∧ gas.length = bs.length ∧ St3 CN H0 (upd H G (.lst (gas ++ [.ref c]))) o d p z tb F G B fs (bs ++ [b]) as cs := by
  obtain ⟨fas, hF, hfs⟩ := id S.f
  obtain ⟨gas, hG, hgs⟩ := id S.g
  have n1 : G ∉ gas := lst_self hG hgs S.gn
  have n2 : G ∉ fas := lst_notin hG hgs hfs S.fn
  have n3 : G ∉ as := lst_notin hG hgs S.bb S.bn
  have n4 : G ∉ [c] := lst_notin hG hgs (.cons hc .nil) (by simp [hb])
  refine ⟨gas.map V.ref, hG, by rw [List.length_map, hgs.len], S.sm.new S.g0, names_put S.nm hG hgs, ⟨fas, by rw [upd_ne S.fg]; exact hF, hfs.upd hG n2⟩, ⟨gas ++ [c], by rw [upd_same]; simp, ?_⟩, by rw [upd_ne (Ne.symm S.gb)]; exact S.b, S.bb.upd hG n3, S.f0, S.g0, S.fg, S.fb, S.gb, S.fn, ?_, S.bn⟩
  · exact (hgs.app (.cons hc .nil)).upd hG (by simp only [List.mem_append, not_or]; exact ⟨n1, n4⟩)
  · intro x hx
    rcases List.mem_append.mp hx with h | h
    · exact S.gn x h
    · rw [List.mem_singleton] at h
      rw [h]
      exact hb
theorem St3.setB {CN : Addr} {H0 H : Hp} {o d p z : Addr} {tb : List Blk} {F G B : Addr} {fs bs : List Blk} {as as' : List Addr} {cs cs' : List Blk} (S : St3 CN H0 H o d p z tb F G B fs bs as cs) (hB0 : H0 B = none) (h : BlksAt H as' cs') (hn : ∀ x ∈ cs', x ≠ []) :
    St3 CN H0 (upd H B (.lst (as'.map V.ref))) o d p z tb F G B fs bs as' cs' ∧ ∀ c b, BlkAt H c b → b ≠ [] → BlkAt (upd H B (.lst (as'.map V.ref))) c b := by
  obtain ⟨fas, hF, hfs⟩ := id S.f
  obtain ⟨gas, hG, hgs⟩ := id S.g
  have n1 : B ∉ gas := lst_notin S.b S.bb hgs S.gn
  have n2 : B ∉ fas := lst_notin S.b S.bb hfs S.fn
  have n3 : B ∉ as' := lst_notin S.b S.bb h hn
  refine ⟨⟨S.sm.new hB0, names_put S.nm S.b S.bb, ⟨fas, by rw [upd_ne S.fb]; exact hF, hfs.upd S.b n2⟩, ⟨gas, by rw [upd_ne S.gb]; exact hG, hgs.upd S.b n1⟩, upd_same, h.upd S.b n3, S.f0, S.g0, S.fg, S.fb, S.gb, S.fn, S.gn, hn⟩, fun c b hc hb => ?_⟩
  have n4 : B ∉ [c] := lst_notin S.b S.bb (.cons hc .nil) (by simp [hb])
  exact hc.upd S.b (by rw [List.mem_singleton] at n4; exact Ne.symm n4)
theorem St3.blk {CN : Addr} {H0 H : Hp} {o d p z : Addr} {tb : List Blk} {F G B : Addr} {fs bs : List Blk} {as : List Addr} {cs : List Blk} (S : St3 CN H0 H o d p z tb F G B fs bs as cs) {c : Addr} {b : Blk} {y : HO} (hc : BlkAt H c b) (hb : b ≠ []) : BlkAt (upd H F y) c b := by
  obtain ⟨fas, hF, hfs⟩ := id S.f
  have n4 : F ∉ [c] := lst_notin hF hfs (.cons hc .nil) (by simp [hb])
  exact hc.upd hF (by rw [List.mem_singleton] at n4; exact Ne.symm n4)
def jInv (C_Names : Addr) (H : Hp) (a1 a2 o d p z F G : Addr) (tb : List Blk) (tx ty : List Nat) (m : Nat) (σ : L2.St) (H' : Hp) : Prop :=
  ∃ (L : Nat) (e : List Blk) (bf : Nat → List Nat) (fs bs : List Blk) (Xa : Addr) (v7 v8 v9 v10 v11 : Option V), σ = [some (.ref a1), some (.ref a2), some (.ref o), some (.ref F), some (.ref G), some (.ref Xa), some (.int (L : Int)), v7, v8, v9, v10, v11] ∧ Sm [d, p, z] H H' ∧ NamesAt C_Names H' o d p z (tb ++ e) ∧ B47.TabC (tb ++ e) ∧ e.length ≤ L * 23 ∧ L ≤ 309 ∧
  RowsAt H' F fs ∧ RowsAt H' G bs ∧ BlkAt H' Xa ((bf L).map fun n => (n, 1)) ∧ B47.JSt (tb ++ e) tx ty L bf fs bs ∧ (∀ b ∈ e, ∃ l s, b = B47.blkOf l s ∧ l < L ∧ (∀ n ∈ s, n ∈ B47.rw_ (tb ++ e) (tx ++ ty) l) ∧ B47.Chain (B47.rl l) s) ∧ m = 310 - L
theorem between_by {K : PySem.W.Frag} {C_Names C_Layers : Addr} {H6 : Hp} {B o d p z : Addr} {tb : List Blk} {L : Nat} {rest : List (List Nat)} {as : List Addr} {w0 w1 w3 w4 w5 w6 w7 w8 w9 w10 w11 : Option V} {Q : VK}
    (hN : NamesAt C_Names H6 o d p z tb) (hT : B47.TabC tb) (hB : H6 B = some (.lst (as.map V.ref))) (hBs : BlksAt H6 as (rest.map (B47.blkOf L)))
    (h1 : ∀ s ∈ rest, s ≠ [] ∧ B47.Chain (B47.rl L) s ∧ (∀ n ∈ s, n < 256 + tb.length) ∧ s.length < 2 ^ 60 ∧ (B47.blkOf L s).length < 2 ^ 20) (h2 : rest.length ≤ 23) (h3 : tb.length < 2 ^ 22)
    (q : ∀ (H' : Hp) (D : Addr) (e : List Blk), Sm [d, p, z] H6 H' → NamesAt C_Names H' o d p z (tb ++ e) → B47.TabC (tb ++ e) → e.length ≤ rest.length → BlkAt H' D (rest.map fun s => (B47.nm (tb ++ e) (B47.blkOf L s), 1)) → (∀ s ∈ rest, s.length = 1 ∨ B47.blkOf L s ∈ tb ++ e) → (∀ b ∈ e, ∃ s ∈ rest, b = B47.blkOf L s) → Q (.ref D) H') :
    lcL K B (gName 11) tYes (tTup (tCons (tMeth C_Names "name_of" (sp_Names_name_of K C_Names C_Layers) [] E0 (tVar 2) (tCons (tVar 11) tNil)) (tCons (tC (V.int 1)) tNil))) [11] [w0, w1, some (.ref o), w3, w4, w5, w6, w7, w8, w9, w10, w11] H6 Q := by
  have hasl := hBs.len
  rw [List.length_map] at hasl
  have hBn : B ∉ [d, p, z] := hN.blkNe hB fun c hc hn => by
    obtain ⟨b, ps, e2, _⟩ := hBs.mem hc
    rw [e2] at hn
    cases hn
  refine lcl_by (xs := as.map V.ref) (fun D i H' => ∃ e, Sm [d, p, z] H6 H' ∧ NamesAt C_Names H' o d p z (tb ++ e) ∧ B47.TabC (tb ++ e) ∧ e.length ≤ i ∧ BlkAt H' D ((rest.take i).map fun s => (B47.nm (tb ++ e) (B47.blkOf L s), 1)) ∧ (∀ s ∈ rest.take i, s.length = 1 ∨ B47.blkOf L s ∈ tb ++ e) ∧ (∀ b ∈ e, ∃ s ∈ rest, b = B47.blkOf L s)) ?_ ?_ ?_ ?_
  · intro D hD
    exact ⟨[], Same.sm (same_new hD), by rw [List.append_nil]; exact hN.same (same_new hD), by rw [List.append_nil]; exact hT, Nat.zero_le _, ⟨[], upd_same, .nil⟩, by simp, by simp⟩
  · rintro D i H' hD hi ⟨e, sm, -⟩
    exact SqL.of (sm _ _ hBn hB)
  · rintro D i x H' hD hx ⟨e, sm, hN', hT', hel, hDb, hk, hnew⟩
    obtain ⟨c, hc, rfl⟩ := refs_at hx
    obtain ⟨b, hb, hcb⟩ := hBs.get2 hc
    rw [List.getElem?_map] at hb
    cases hs : rest[i]? with
    | none => rw [hs] at hb; cases hb
    | some s =>
    rw [hs] at hb
    cases hb
    have hi : i < rest.length := (List.getElem?_eq_some_iff.mp hs).1
    have hsm := List.mem_of_getElem? hs
    obtain ⟨g1, g2, g3, g4, g5⟩ := h1 s hsm
    have hcb' := hN.blk sm hcb
    obtain ⟨dx, hins⟩ := hN'.ins
    have hnames : ∀ pr ∈ B47.blkOf L s, pr.1 < 256 + (tb ++ e).length := fun pr hp => by
      have := g3 _ (B47.blk_names g2 g1 pr hp)
      rw [List.length_append]
      omega
    have et := take_snoc hs
    simp only [↓w_gname, ↓w_yes, ↓w_wipe0, ↓w_wipeC, ↓w_tup, ↓w_cons, ↓w_nil, ↓w_mt, ↓w_var0, ↓w_varS, ↓w_c, List.set_cons_zero, List.set_cons_succ, List.cons_append, List.nil_append, List.append_nil, if_true]
    refine ⟨trivial, o, dx, _, rfl, hins, rfl, ?_⟩
    simp only [↓w_cons, ↓w_nil, ↓w_var0, ↓w_varS, List.cons_append, List.nil_append, List.append_nil]
    refine ⟨o, c, d, p, z, tb ++ e, B47.blkOf L s, rfl, hN', hcb', B47.blk_ne g1, hnames, ?_, ?_, Nat.lt_trans g5 (by decide), fun H2 e2 sm2 hN2 hcase hin => ?_⟩
    · intro pr hp
      rcases B47.blk_time pr hp with h | h
      · rw [h]; decide
      · rw [h]; exact Nat.lt_trans g4 (by decide)
    · rw [List.length_append]
      exact Nat.lt_of_lt_of_le (show tb.length + e.length < 2 ^ 22 + 23 by omega) (by decide)
    refine ⟨by show 2 ≤ sizeLine; decide, fun t ht => ?_⟩
    have hD2 := hN'.blk sm2 hDb
    obtain ⟨qs, hDq, hqs⟩ := id hD2
    have hDt : D ≠ t := ne_of_none hDq ht
    have st : Same H2 (upd H2 t (.tup [.int ((B47.nm (tb ++ e ++ e2) (B47.blkOf L s) : Nat) : Int), .int 1])) := same_new ht
    have hql := hqs.len
    rw [List.length_map, List.length_take] at hql
    refine ⟨_, st _ _ hDq, by rw [List.length_map, hql]; exact small1000 (by omega), e ++ e2, ?_, ?_, ?_, ?_, ?_, ?_, ?_⟩
    · refine Sm.new ?_ hD
      exact (sm.trans sm2).trans (Same.sm st)
    · rw [← List.append_assoc]
      refine NamesAt.sm (l := [D]) (H := upd H2 t (.tup [.int ((B47.nm (tb ++ e ++ e2) (B47.blkOf L s) : Nat) : Int), .int 1])) (Sm.put (Same.sm (Same.refl _)) (by simp)) ?_ ?_ ?_ ?_ ?_ (hN2.same st)
      · intro a ha xs
        rw [List.mem_singleton] at ha
        subst ha
        rw [st _ _ hDq]
        simp
      · obtain ⟨_, h⟩ := hN.ins
        simp
        exact ne_of_none h hD
      · obtain ⟨_, h, _⟩ := hN.known
        simp
        exact ne_of_none h.at_ hD
      · obtain ⟨_, _, _, h, _⟩ := hN.parts
        simp
        exact ne_of_none h hD
      · simp
        exact ne_of_none hN.sizes hD
    · rw [← List.append_assoc]
      rcases hcase with rfl | ⟨rfl, hnin, hnone⟩
      · rw [List.append_nil]; exact hT'
      · exact B47.tabc_ext hT' g1 hnin hnone hnames
    · rw [List.length_append]
      rcases hcase with rfl | ⟨rfl, _, _⟩
      · simp; omega
      · simp; omega
    · refine ⟨qs ++ [t], by rw [upd_same]; simp, ?_⟩
      rw [et, List.map_append, ← List.append_assoc]
      have e7 : (rest.take i).map (fun s => (B47.nm (tb ++ e ++ e2) (B47.blkOf L s), 1)) = (rest.take i).map (fun s => (B47.nm (tb ++ e) (B47.blkOf L s), 1)) := by
        apply List.map_congr_left
        intro s' hs'
        rw [B47.nm_grow (hk s' hs')]
      rw [e7]
      exact ((hqs.same st).app (.cons upd_same .nil)).upd (st _ _ hDq)
    · intro s' hs'
      rw [← List.append_assoc]
      rw [et] at hs'
      rcases List.mem_append.mp hs' with h | h
      · rcases hk s' h with h | h
        · exact .inl h
        · exact .inr (by simp only [List.mem_append] at h ⊢; exact .inl h)
      · rw [List.mem_singleton] at h
        subst h
        rcases hin with ⟨u, hu⟩ | h
        · exact .inl (B47.one_len g1 hu)
        · exact .inr h
    · intro b hb
      rcases List.mem_append.mp hb with h | h
      · exact hnew b h
      · rcases hcase with rfl | ⟨rfl, _, _⟩
        · cases h
        · rw [List.mem_singleton] at h
          exact ⟨s, hsm, h⟩
  · rintro D H' hD ⟨e, sm, hN', hT', hel, hDb, hk, hnew⟩
    rw [List.length_map, hasl] at hel hDb hk
    rw [List.take_length] at hDb hk
    exact q H' D e sm hN' hT' hel hDb hk hnew
def jRest (K : PySem.W.Frag) (C_Names C_Layers : Addr) (H : Hp) (a1 a2 o d p z F G B Xa c2 : Addr) (tb : List Blk) (tx ty : List Nat) (L n1 n2 : Nat) (v11 : Option V) (H6 : Hp) : Prop :=
  (∃ xs, SqL K H6 B xs) ∧ lcL K B (gName 11) tYes (tTup (tCons (tMeth C_Names "name_of" (sp_Names_name_of K C_Names C_Layers) [] E0 (tVar 2) (tCons (tVar 11) tNil)) (tCons (tC (V.int 1)) tNil))) [11] [some (V.ref a1), some (V.ref a2), some (V.ref o), some (V.ref F), some (V.ref G), some (V.ref Xa), some (V.int (L : Int)), some (V.ref c2), some (V.ref B), some (V.bl (decide ((L : Int) < (n1 : Int)))), some (V.bl (decide ((L : Int) < (n2 : Int)))), v11] H6
      fun x H1 => ∃ m', m' < 310 - L ∧ jInv C_Names H a1 a2 o d p z F G tb tx ty m' [some (V.ref a1), some (V.ref a2), some (V.ref o), some (V.ref F), some (V.ref G), some x, some (V.int ((L : Int) + 1)), some (V.ref c2), some (V.ref B), some (V.bl (decide ((L : Int) < (n1 : Int)))), some (V.bl (decide ((L : Int) < (n2 : Int)))), v11] H1
theorem j_next {C_Names : Addr} {H H6 H7 : Hp} {a1 a2 o d p z F G D : Addr} {tb e e2 : List Blk} {tx ty : List Nat} {L : Nat} {bf : Nat → List Nat} {fs bs fr1 ba1 fr2 ba2 : List Blk} {mi1 mi2 : Blk} {v7 v8 v9 v10 v11 : Option V}
    (hJ : JIn tb tx ty fr1 mi1 ba1 fr2 mi2 ba2) (hst : B47.JSt (tb ++ e) tx ty L bf fs bs) (hel : e.length ≤ L * 23) (hL : L < 309) (hnew : ∀ b ∈ e, ∃ l s, b = B47.blkOf l s ∧ l < L ∧ (∀ n ∈ s, n ∈ B47.rw_ (tb ++ e) (tx ++ ty) l) ∧ B47.Chain (B47.rl l) s)
    (hmore : 2 ≤ (B47.sg (tb ++ e) (tx ++ ty) L).length) (hrl : (B47.goesOn (B47.sg (tb ++ e) tx L) (B47.sg (tb ++ e) ty L) (B47.mids (tb ++ e) tx ty (bf L) L)).length ≤ 23) (sm6 : Sm [d, p, z] H H6) (hN6 : NamesAt C_Names H6 o d p z (tb ++ e))
    (hF : RowsAt H6 F (fs ++ [B47.blkOf L (B47.firstP (B47.sg (tb ++ e) (tx ++ ty) L))])) (hG : RowsAt H6 G (bs ++ [B47.blkOf L (B47.lastP (B47.sg (tb ++ e) (tx ++ ty) L))]))
    (sm7 : Sm [d, p, z] H6 H7) (hN7 : NamesAt C_Names H7 o d p z (tb ++ e ++ e2)) (hT7 : B47.TabC (tb ++ e ++ e2)) (he2 : e2.length ≤ (B47.goesOn (B47.sg (tb ++ e) tx L) (B47.sg (tb ++ e) ty L) (B47.mids (tb ++ e) tx ty (bf L) L)).length)
    (hD : BlkAt H7 D ((B47.goesOn (B47.sg (tb ++ e) tx L) (B47.sg (tb ++ e) ty L) (B47.mids (tb ++ e) tx ty (bf L) L)).map fun s => (B47.nm (tb ++ e ++ e2) (B47.blkOf L s), 1)))
    (hk : ∀ s ∈ B47.goesOn (B47.sg (tb ++ e) tx L) (B47.sg (tb ++ e) ty L) (B47.mids (tb ++ e) tx ty (bf L) L), s.length = 1 ∨ B47.blkOf L s ∈ tb ++ e ++ e2) (hnew2 : ∀ b ∈ e2, ∃ s ∈ B47.goesOn (B47.sg (tb ++ e) tx L) (B47.sg (tb ++ e) ty L) (B47.mids (tb ++ e) tx ty (bf L) L), b = B47.blkOf L s) :
    ∃ m', m' < 310 - L ∧ jInv C_Names H a1 a2 o d p z F G tb tx ty m' [some (.ref a1), some (.ref a2), some (.ref o), some (.ref F), some (.ref G), some (.ref D), some (.int ((L : Int) + 1)), v7, v8, v9, v10, v11] H7 := by
  have hx : ∀ N, B47.Known (tb ++ e) tx N := (hJ.l1.ext e).known
  have hy : ∀ N, B47.Known (tb ++ e) ty N := (hJ.l2.ext e).known
  have hst2 := hst.next hT7.ok hJ.bytes hx hy hk hmore
  have hNr : ∀ {a : Addr} {bs : List Blk}, RowsAt H6 a bs → RowsAt H7 a bs := fun h => hN6.rows sm7 h
  refine ⟨310 - (L + 1), by omega, L + 1, e ++ e2, _, _, _, D, _, _, _, _, _, by rw [Int.natCast_add]; rfl, sm6.trans sm7, by rw [← List.append_assoc]; exact hN7, by rw [← List.append_assoc]; exact hT7, by rw [List.length_append]; omega, by omega, hNr hF, hNr hG, ?_, by rw [← List.append_assoc]; exact hst2, ?_, rfl⟩
  · simp only [if_true, List.map_map]
    exact hD
  · have er : ∀ l, l ≤ L → B47.rw_ (tb ++ e ++ e2) (tx ++ ty) l = B47.rw_ (tb ++ e) (tx ++ ty) l := fun l hl => B47.rw_ext hst.known l hl
    intro b hb
    rw [← List.append_assoc]
    rcases List.mem_append.mp hb with h | h
    · obtain ⟨l, s, g1, g2, g3, g4⟩ := hnew b h
      exact ⟨l, s, g1, by omega, fun n hn => by rw [er l (by omega)]; exact g3 n hn, g4⟩
    · obtain ⟨s, hs, rfl⟩ := hnew2 b h
      obtain ⟨g1, g2, g3, g4⟩ := B47.part_row (hst.mid (B47.goes_mem hs))
      exact ⟨L, s, rfl, by omega, fun n hn => by rw [er L (Nat.le_refl _)]; exact g3 n hn, g2⟩
def sp_joined_layers (K : PySem.W.Frag) (C_Names C_Layers : Addr) : Sp := fun vs H Q _ => ∃ (a1 a2 o d p z : Addr) (tb : List Blk) (tx ty : List Nat) (fr1 : List Blk) (mi1 : Blk) (ba1 : List Blk) (fr2 : List Blk) (mi2 : Blk) (ba2 : List Blk), vs = [.ref a1, .ref a2, .ref o] ∧ NamesAt C_Names H o d p z tb ∧ LaysAt C_Layers H a1 fr1 mi1 ba1 ∧ LaysAt C_Layers H a2 fr2 mi2 ba2 ∧ JIn tb tx ty fr1 mi1 ba1 fr2 mi2 ba2 ∧
  ∀ (H' : Hp) (res : Addr) (e : List Blk) (bf : Nat → List Nat) (fr : List Blk) (mi : Blk) (ba : List Blk), Sm [d, p, z] H H' → NamesAt C_Names H' o d p z (tb ++ e) → LaysAt C_Layers H' res fr mi ba → JOut tb tx ty e bf fr mi ba → Q (.ref res) H'
def sp_letters_alike (K : PySem.W.Frag) (C_Names C_Layers : Addr) : Sp := fun vs H Q _ => ∃ (o1 o2 o d p z : Addr) (tb : List Blk) (fr1 : List Blk) (mi1 : Blk) (ba1 : List Blk) (fr2 : List Blk) (mi2 : Blk) (ba2 : List Blk) (P0 B M0 : Nat), vs = [.ref o1, .ref o2, .ref o] ∧ NamesAt C_Names H o d p z tb ∧ LaysAt C_Layers H o1 fr1 mi1 ba1 ∧ LaysAt C_Layers H o2 fr2 mi2 ba2 ∧ B47.TabC tb ∧ (∀ b ∈ tb, b.length ≤ B) ∧ P0 + M0 * B + B < 2 ^ 24 ∧
  fr1.flatten.length + mi1.length + ba1.flatten.length < 2 ^ 24 ∧ fr2.flatten.length + mi2.length + ba2.flatten.length < 2 ^ 24 ∧
  AheadOk tb P0 B M0 (fr1.flatten ++ mi1 ++ ba1.reverse.flatten).reverse ∧ AheadOk tb P0 B M0 (fr2.flatten ++ mi2 ++ ba2.reverse.flatten).reverse ∧
  ∀ H' : Hp, Same H H' → Q (.int ((Sz47.common (B47.btx tb (fr1.flatten ++ mi1 ++ ba1.reverse.flatten)) (B47.btx tb (fr2.flatten ++ mi2 ++ ba2.reverse.flatten)) : Nat) : Int)) H'
def sp_text_length (K : PySem.W.Frag) (C_Names C_Layers : Addr) : Sp := fun vs H Q _ => ∃ (a : Addr) (ns : List Int) (n : Nat), vs = [.int (n : Int), .ref a] ∧ SqL K H a (vi ns) ∧ Fit (n : Int) ns n ∧ NamesOk (rules ns) ∧ ∀ H' : Hp, Same H H' → Q (.int ((Sz47.length (rules ns) : Nat) : Int)) H'
theorem reach_len {ns : List Int} {n : Nat} {ws : List Nat} (h : ReachOk ns n ws) : ws.length ≤ 256 + n := by
  have hnd : ws.Nodup := h.up.imp fun hab => by omega
  have := B47.nodup_len (m := List.range (256 + n)) hnd fun x hx => by rw [List.mem_range]; exact h.low x hx
  rw [List.length_range] at this
  exact this
theorem reach_after {ws : List Nat} (h : ws.Pairwise (· < ·)) {i x : Nat} (hx : ws[i]? = some x) {y : Nat} (hy : y ∈ ws.drop (i + 1)) : y ∈ ws.drop i ∧ x < y := by
  have hi := (List.getElem?_eq_some_iff.mp hx).1
  have e : ws.drop i = x :: ws.drop (i + 1) := by
    rw [List.drop_eq_getElem_cons hi]
    congr 1
    have := List.getElem?_eq_getElem hi
    rw [hx] at this
    exact (Option.some.inj this).symm
  refine ⟨by rw [e]; exact List.mem_cons_of_mem _ hy, ?_⟩
  have hp := h.drop (i := i)
  rw [e, List.pairwise_cons] at hp
  exact hp.1 y hy
theorem reach_before {ws : List Nat} (h : ws.Pairwise (· < ·)) {i x : Nat} (hx : ws[i]? = some x) {y : Nat} (hy : y ∈ ws) (hlt : y < x) : y ∈ ws.take i := by
  rw [← List.take_append_drop i ws] at hy
  rcases List.mem_append.mp hy with hy | hy
  · exact hy
  · exfalso
    have hi := (List.getElem?_eq_some_iff.mp hx).1
    have e : ws.drop i = x :: ws.drop (i + 1) := by
      rw [List.drop_eq_getElem_cons hi]
      congr 1
      have := List.getElem?_eq_getElem hi
      rw [hx] at this
      exact (Option.some.inj this).symm
    rw [e] at hy
    rcases List.mem_cons.mp hy with rfl | hy
    · omega
    · have := (reach_after h hx hy).2
      omega
theorem blk_dk {H : Hp} {M : Addr} {kvs : List (L2.Key × V)} {o : HO} (hM : H M = some (.dK kvs)) {a : Addr} {b : Blk} (h : BlkAt H a b) : BlkAt (upd H M o) a b := by
  obtain ⟨ps, e, hp⟩ := id h
  refine h.sm (l := [M]) (Sm.put (Same.sm (Same.refl _)) (by simp)) ?_ ?_
  · intro c hc xs h9
    rw [List.mem_singleton] at hc
    subst hc
    rw [hM] at h9
    cases h9
  · rw [List.mem_singleton]
    rintro rfl
    rw [hM] at e
    cases e
theorem blks_dk {H : Hp} {M : Addr} {kvs : List (L2.Key × V)} {o : HO} (hM : H M = some (.dK kvs)) {as : List Addr} {bs : List Blk} (h : BlksAt H as bs) : BlksAt (upd H M o) as bs := by
  induction h with
  | nil => exact .nil
  | cons e _ ih => exact .cons (blk_dk hM e) ih
theorem rows_dk {H : Hp} {M : Addr} {kvs : List (L2.Key × V)} {o : HO} (hM : H M = some (.dK kvs)) {a : Addr} {bs : List Blk} (h : RowsAt H a bs) : RowsAt (upd H M o) a bs := by
  obtain ⟨as, e, hp⟩ := h
  exact ⟨as, by rw [upd_ne (by rintro rfl; rw [hM] at e; cases e)]; exact e, blks_dk hM hp⟩
theorem lays_dk {CL : Addr} {H : Hp} {M : Addr} {kvs : List (L2.Key × V)} {o : HO} {a : Addr} {fr : List Blk} {mi : Blk} {ba : List Blk} (h : LaysAt CL H a fr mi ba) (hM : H M = some (.dK kvs)) : LaysAt CL (upd H M o) a fr mi ba := by
  obtain ⟨dx, f, m, b, h1, h2, h3, h4⟩ := h
  exact ⟨dx, f, m, b, by rw [upd_ne (by rintro rfl; rw [hM] at h1; cases h1)]; exact h1, rows_dk hM h2, blk_dk hM h3, rows_dk hM h4⟩
theorem names_dk {CN : Addr} {H : Hp} {M : Addr} {kvs : List (L2.Key × V)} {y : HO} {o d p z : Addr} {tb : List Blk} (h : NamesAt CN H o d p z tb) (hM : H M = some (.dK kvs)) : NamesAt CN (upd H M y) o d p z tb := by
  obtain ⟨_, e1⟩ := h.ins
  obtain ⟨e, ks, e2, e3, e4⟩ := h.parts
  obtain ⟨xs, e5, e6, e7⟩ := h.known
  refine h.sm (l := [M]) (Sm.put (Same.sm (Same.refl _)) (by simp)) ?_ ?_ ?_ ?_ ?_
  · intro c hc xs h9
    rw [List.mem_singleton] at hc
    subst hc
    rw [hM] at h9
    cases h9
  · rw [List.mem_singleton]; rintro rfl; rw [hM] at e1; cases e1
  · rw [List.mem_singleton]; rintro rfl; have := e5.at_; rw [hM] at this; cases this
  · rw [List.mem_singleton]; rintro rfl; rw [hM] at e3; cases e3
  · rw [List.mem_singleton]; rintro rfl; have := h.sizes; rw [hM] at this; cases this
structure US (tb : List Blk) (ts : List (List Nat)) (u : Nat → List Nat) (j : Nat) : Prop where
  tab : B47.TabC tb
  uni : B47.Uni tb ts u j
  known : ∀ t ∈ ts, ∀ N, B47.Known tb t N
  blk : ∀ b ∈ tb, b.length ≤ 256 + 23 * j
  len : tb.length ≤ 7130 * j
  bytes : ∀ c, c < 256 → [c] ∈ ts
theorem US.join {tb : List Blk} {ts : List (List Nat)} {u : Nat → List Nat} {j : Nat} (h : US tb ts u j) {tx ty : List Nat} (hx : tx ∈ ts) (hy : ty ∈ ts) {e : List Blk} {bf : Nat → List Nat} {fr : List Blk} {mi : Blk} {ba : List Blk} (ho : JOut tb tx ty e bf fr mi ba) :
    US (tb ++ e) ((tx ++ ty) :: ts) (fun L => u L ++ bf L) (j + 1) := by
  have hu := (h.uni.ext e h.known).join hx hy ho.short ho.rows
  refine ⟨ho.tab, hu, ?_, ?_, ?_, fun c hc => List.mem_cons_of_mem _ (h.bytes c hc)⟩
  · intro t ht
    rcases List.mem_cons.mp ht with rfl | ht
    · exact ho.lay.known
    · exact fun N => B47.known_ext (h.known t ht N)
  · intro b hb
    rcases List.mem_append.mp hb with hb | hb
    · have := h.blk b hb; omega
    · obtain ⟨L, s, rfl, h2, h3⟩ := ho.new b hb
      exact B47.blk_short hu (List.mem_cons_self ..) h2 h3
  · have h1 := h.len
    have h2 := ho.few
    rw [List.length_append]
    omega
theorem dk_ne {CN : Addr} {H : Hp} {o d p z : Addr} {tb : List Blk} (h : NamesAt CN H o d p z tb) {c : Addr} {kvs : List (L2.Key × V)} (hc : H c = some (.dK kvs)) : c ∉ [d, p, z] := by
  obtain ⟨e, ks, e2, e3, e4⟩ := h.parts
  obtain ⟨xs, e5, e6, e7⟩ := h.known
  intro hm
  rcases List.mem_cons.mp hm with rfl | hm
  · rw [e5.at_] at hc; cases hc
  rcases List.mem_cons.mp hm with rfl | hm
  · rw [e3] at hc; cases hc
  rcases List.mem_cons.mp hm with rfl | hm
  · rw [h.sizes] at hc; cases hc
  cases hm
def HasLay (CL : Addr) (H : Hp) (kvs : List (L2.Key × V)) (tb : List Blk) (ts : List (List Nat)) (x : Nat) (t : List Nat) : Prop := t ∈ ts ∧ ∃ a fr mi ba, valV kvs (Sum.inl (x : Int)) = some (.ref a) ∧ LaysAt CL H a fr mi ba ∧ B47.Lay tb t fr mi ba
def tlInv (CN CL : Addr) (H : Hp) (ar o d p z M lw : Addr) (ns : List Int) (n : Nat) (ws : List Nat) (tb : List Blk) (ts : List (List Nat)) (j : Nat) (i : Nat) (σ : L2.St) (H' : Hp) : Prop :=
  ∃ (e : List Blk) (ts' : List (List Nat)) (u' : Nat → List Nat) (j' : Nat) (kvs : List (L2.Key × V)) (v4 v5 : Option V), σ = [some (.int (n : Int)), some (.ref ar), some (.ref o), some (.ref M), v4, v5] ∧ Sm [d, p, z] H H' ∧ NamesAt CN H' o d p z (tb ++ e) ∧ US (tb ++ e) ts' u' j' ∧ H' M = some (.dK kvs) ∧ kvs.length ≤ i ∧ H' lw = some (.lst (vi (nums ws))) ∧
    (∀ t ∈ ts, t ∈ ts') ∧ j' ≤ j + n ∧ (∀ x ∈ ws.drop i, 256 ≤ x → j' + 256 ≤ j + x) ∧ ∀ x ∈ ws.take i, HasLay CL H' kvs (tb ++ e) ts' x (Sz47.made (Sz47.each (Sz47Neutral.rules ns)) x)
def sp_text_layers (K : PySem.W.Frag) (C_Names C_Layers : Addr) : Sp := fun vs H Q _ => ∃ (H0 : Hp) (ar o d p z : Addr) (ns : List Int) (n : Nat) (tb : List Blk) (ts : List (List Nat)) (u : Nat → List Nat) (j : Nat), vs = [.int (n : Int), .ref ar, .ref o] ∧ SqL K H0 ar (vi ns) ∧ Same H0 H ∧ H0 d = none ∧ H0 p = none ∧ H0 z = none ∧ Fit (n : Int) ns n ∧ NamesOk (rules ns) ∧ (Sz47.text (rules ns)).length < 2 ^ 60 ∧ NamesAt C_Names H o d p z tb ∧ US tb ts u j ∧ j ≤ 256 ∧
  ∀ (H' : Hp) (res : Addr) (e : List Blk) (ts' : List (List Nat)) (u' : Nat → List Nat) (j' : Nat) (fr : List Blk) (mi : Blk) (ba : List Blk), Sm [d, p, z] H H' → NamesAt C_Names H' o d p z (tb ++ e) → US (tb ++ e) ts' u' j' → j' ≤ j + n → (∀ t ∈ ts, t ∈ ts') → Sz47.text (rules ns) ∈ ts' → B47.Lay (tb ++ e) (Sz47.text (rules ns)) fr mi ba → LaysAt C_Layers H' res fr mi ba → Q (.ref res) H'
def sp_list_refusal (K : PySem.W.Frag) (C_Names C_Layers : Addr) : Sp := fun vs H Q _ => ∃ (a : Addr) (ns : List Int) (k : Int), vs = [.int k, .ref a] ∧ SqL K H a (vi ns) ∧ Ask k ns ∧ ∀ H' : Hp, Same H H' → Q (.int (sound (handed k ns))) H'
theorem none_made {H : Hp} {x dx d : Addr} {o1 o2 : HO} (h : (upd (upd H dx o1) x o2) d = none) : H d = none := by
  have n1 : d ≠ x := by rintro rfl; rw [upd_same] at h; cases h
  rw [upd_ne n1] at h
  have n2 : d ≠ dx := by rintro rfl; rw [upd_same] at h; cases h
  rw [upd_ne n2] at h
  exact h
theorem us_zero : US [] ((List.range 256).map fun c => [c]) (fun _ => List.range 256) 0 := by
  have hb : ∀ t ∈ (List.range 256).map (fun c => [c]), ∃ c, c < 256 ∧ t = [c] := fun t ht => by
    obtain ⟨c, hc, rfl⟩ := List.mem_map.mp ht
    exact ⟨c, List.mem_range.mp hc, rfl⟩
  refine ⟨⟨B47.tab_nil, by simp, by simp⟩, B47.uni_zero [] _ hb, fun t ht N => ?_, by simp, by simp, fun c hc => List.mem_map.mpr ⟨c, List.mem_range.mpr hc, rfl⟩⟩
  obtain ⟨c, hc, rfl⟩ := hb t ht
  exact (B47.lay_byte [] hc).known N
theorem lay_ahead {tb : List Blk} {ts : List (List Nat)} {u : Nat → List Nat} {j : Nat} (hU : US tb ts u j) (hj : j ≤ 512) {t : List Nat} (ht : ∀ c ∈ t, c < 256) (hlen : t.length < 2 ^ 60) (hin : t ∈ ts) {fr : List Blk} {mi : Blk} {ba : List Blk} (hl : B47.Lay tb t fr mi ba) :
    AheadOk tb (619 * 12032) 12032 310 (fr.flatten ++ mi ++ ba.reverse.flatten).reverse ∧ fr.flatten.length + mi.length + ba.flatten.length < 2 ^ 24 ∧ B47.btx tb (fr.flatten ++ mi ++ ba.reverse.flatten) = t := by
  have hf := B47.lay_levels hU.tab.ok ht hlen hl
  have hp := B47.lay_pairs hU.tab.ok ht hl hf
  obtain ⟨s1, s2, s3⟩ := B47.lay_short hU.uni hin hl
  have htx := B47.lay_btx hU.tab.ok ht hl
  have l1 := B47.flat_len (n := 12032) (bs := fr) fun b hb => by have := s1 b hb; omega
  have l2 := B47.flat_len (n := 12032) (bs := ba) fun b hb => by have := s3 b hb; omega
  have l3 : fr.length * 12032 ≤ 309 * 12032 := Nat.mul_le_mul_right _ hf
  have l4 : ba.length * 12032 ≤ 309 * 12032 := by rw [hl.len]; exact l3
  have hrev : ba.reverse.flatten.length = ba.flatten.length := by simp [List.length_flatten, List.sum_reverse]
  refine ⟨⟨fun pr hpr => ?_, ⟨310, .base ?_ fun pr hpr => ?_⟩, ?_⟩, by omega, htx⟩
  · rw [List.mem_reverse] at hpr
    have := hp pr hpr
    exact ⟨this.1, this.2.1⟩
  · rw [List.length_reverse, List.length_append, List.length_append, hrev]
    omega
  · rw [List.mem_reverse] at hpr
    exact (hp pr hpr).2.2
  · unfold B47.stx
    rw [List.reverse_reverse, htx]
    exact hlen
def sp_same0 (K : PySem.W.Frag) : Sp := fun vs H Q _ => ∃ (ar as : Addr) (ns ms : List Int) (k j : Int), vs = [.int k, .ref ar, .int j, .ref as] ∧ SqL K H ar (vi ns) ∧ SqL K H as (vi ms) ∧ Ask k ns ∧ Ask j ms ∧ ∀ (H' : Hp) (p : Addr), H' p = some (.lst (vi (PySz47.same k ns j ms))) → Q (.ref p) H'
abbrev sp_same (K : PySem.W.Frag) (C_Names C_Layers : Addr) : Sp := sp_same0 K
local macro_rules | `(tactic| walk_at "s47") => `(tactic| try simp only [↓w_seq, ↓w_next, ↓w_break, ↓w_cont, ↓w_drop, ↓w_ret, ↓w_if, ↓w_asg, ↓w_gname, ↓w_gsub, ↓w_aug, ↓w_var0, ↓w_varS, ↓w_c, ↓w_op, ↓w_un, ↓w_rI0, ↓w_rI, ↓w_rU, ↓w_ipI, ↓w_rEq, ↓w_rNe, ↓w_rIxL, ↓w_rIxT, ↓w_rSetL, ↓w_test, ↓w_tB, ↓w_bl, ↓w_and, ↓w_or, ↓w_not, ↓w_ifx, ↓w_nil, ↓w_cons, ↓w_lst, ↓w_tup, ↓w_call, ↓w_cb, ↓w_bm, ↓w_bm0, ↓w_append, ↓w_pop, ↓w_cat, ↓w_forR1, ↓w_forR2, ↓w_forL, ↓w_fR1, ↓w_fR2, ↓w_fL, ↓w_len, ↓w_max, ↓w_min, ↓w_abs, ↓w_listOf, ↓w_tru, ↓w_truI, ↓w_dget, ↓w_dput, ↓w_din, ↓w_dnotin, ↓w_dnew, ↓w_lcR1, ↓w_lcL, ↓w_lcZ, ↓w_cR1, ↓w_cL, ↓w_cZ, ↓w_yes, ↓w_wipe0, ↓w_wipeC, ↓w_gtup, ↓w_gnil, ↓w_gcons, ↓w_nnotin, ↓w_nget, ↓w_nput, ↓w_nnew, ↓w_lr, ↓w_fld, ↓w_sfld, ↓w_mt, ↓w_mk, cx_K, List.cons_append, List.nil_append, List.append_nil, List.set_cons_zero, List.set_cons_succ, decide_eq_true_eq, Bool.not_eq_true', decide_eq_false_iff_not, Bool.true_eq_false, Bool.false_eq_true, if_true, if_false, ite_true, ite_false, Nat.reduceAdd, Nat.reduceSub])
section
variable {P : Program} {w : World} {K : PySem.W.Frag} {mg : Str → Option Value} {base : Heap}
theorem ok_Names___init__ {f : Addr} {fd : FuncData} (Df : MDefAt K "__init__" "Names.__init__" s_Names___init__ ["self"] f fd) (T : Txt K mg C_Names C_Layers)  : FnOk P w K mg base CX0 1 f fd ["self"] (sp_Names___init__ K C_Names C_Layers) := by
  refine Df.fn.ok sc_Names___init__ (fun vs H Q E h => ?_) (fun cdv A outer s H vs Q E hr h => ?_)
  · obtain ⟨x, dx, rfl, hx, q⟩ := h
    rfl
  · obtain ⟨x, dx, rfl, hx, q⟩ := h
    refine ⟨_, (pss_cons (ps_fld (pv 0) pe_dnewN rfl)
      (pss_cons (ps_fld (pv 0) (pe_op op_rep (pe_lst (pa_cons (pe_tup pa_nil) pa_nil)) (pe_gi rfl T.bytes)) rfl)
      (pss_one (ps_fld (pv 0) (pe_op op_rep (pe_lst (pa_cons pe_int pa_nil)) (pe_gi rfl T.bytes)) rfl)))), ?_⟩
    simp only [L2.start, List.map_cons, List.map_nil, List.length_cons, List.length_nil, List.reduceReplicate, List.replicate_zero, List.cons_append, List.nil_append, List.append_nil, Nat.reduceAdd, Nat.reduceSub, cx_K]
    walk_at "s47"
    intro d hd hsys
    have n1 : x ≠ d := ne_of_none hx hd
    refine sf_of (by rw [upd_ne n1]; exact hx) T.cl_Names T.n_known (by decide) ?_
    refine ⟨Nat.zero_le _, fun e he => ⟨by show 1 ≤ sizeLine; decide, fun l1 hl1 => rep_of upd_same fun p hp => ?_⟩⟩
    have n2 : x ≠ e := fun c => by subst c; rw [upd_same] at he; cases he
    rw [upd_ne (Ne.symm n2)] at he
    have n3 : d ≠ e := fun c => by subst c; rw [upd_same] at he; cases he
    rw [upd_ne (Ne.symm n3)] at he
    have n4 : e ≠ l1 := fun c => by subst c; rw [upd_same] at hl1; cases hl1
    rw [upd_ne (Ne.symm n4)] at hl1
    have n5 : x ≠ l1 := fun c => by subst c; rw [upd_same] at hl1; cases hl1
    rw [upd_ne (Ne.symm n5)] at hl1
    have n6 : d ≠ l1 := fun c => by subst c; rw [upd_same] at hl1; cases hl1
    rw [upd_ne (Ne.symm n6)] at hl1
    have n7 : l1 ≠ p := fun c => by subst c; rw [upd_same] at hp; cases hp
    rw [upd_ne (Ne.symm n7)] at hp
    have n8 : e ≠ p := fun c => by subst c; rw [upd_same] at hp; cases hp
    rw [upd_ne (Ne.symm n8)] at hp
    have n9 : x ≠ p := fun c => by subst c; rw [upd_same] at hp; cases hp
    rw [upd_ne (Ne.symm n9)] at hp
    have n10 : d ≠ p := fun c => by subst c; rw [upd_same] at hp; cases hp
    rw [upd_ne (Ne.symm n10)] at hp
    refine sf_of (by rw [upd_ne n9, upd_ne n5, upd_ne n2, upd_same]) T.cl_Names T.n_parts pf_len0 ?_
    refine ⟨by show 1 ≤ sizeLine; decide, fun l2 hl2 => rep_of upd_same fun z hz => ?_⟩
    have m1 : x ≠ l2 := fun c => by subst c; rw [upd_same] at hl2; cases hl2
    rw [upd_ne (Ne.symm m1)] at hl2
    have m2 : p ≠ l2 := fun c => by subst c; rw [upd_same] at hl2; cases hl2
    rw [upd_ne (Ne.symm m2)] at hl2
    have m3 : l1 ≠ l2 := fun c => by subst c; rw [upd_same] at hl2; cases hl2
    rw [upd_ne (Ne.symm m3)] at hl2
    have m4 : e ≠ l2 := fun c => by subst c; rw [upd_same] at hl2; cases hl2
    rw [upd_ne (Ne.symm m4), upd_ne (Ne.symm m1)] at hl2
    have m5 : d ≠ l2 := fun c => by subst c; rw [upd_same] at hl2; cases hl2
    rw [upd_ne (Ne.symm m5)] at hl2
    have k0 : l2 ≠ z := fun c => by subst c; rw [upd_same] at hz; cases hz
    rw [upd_ne (Ne.symm k0)] at hz
    have k1 : x ≠ z := fun c => by subst c; rw [upd_same] at hz; cases hz
    rw [upd_ne (Ne.symm k1)] at hz
    have k2 : p ≠ z := fun c => by subst c; rw [upd_same] at hz; cases hz
    rw [upd_ne (Ne.symm k2)] at hz
    have k3 : l1 ≠ z := fun c => by subst c; rw [upd_same] at hz; cases hz
    rw [upd_ne (Ne.symm k3)] at hz
    have k4 : e ≠ z := fun c => by subst c; rw [upd_same] at hz; cases hz
    rw [upd_ne (Ne.symm k4), upd_ne (Ne.symm k1)] at hz
    have k5 : d ≠ z := fun c => by subst c; rw [upd_same] at hz; cases hz
    rw [upd_ne (Ne.symm k5)] at hz
    refine sf_of (by rw [upd_ne k1, upd_ne m1, upd_same]) T.cl_Names T.n_sizes pf_len1 ?_
    refine q _ ?_ d p z ⟨⟨dx, by rw [upd_same]; rfl⟩, k2, ⟨e, [], ?_, ?_, .nil⟩, ?_, ⟨[], ⟨?_, hsys, Nat.zero_le _, by simp, by simp⟩, rfl, by simp⟩⟩ hd hp hz
    · refine Sm.put ?_ (by simp)
      refine Sm.new ?_ hz
      refine Sm.new ?_ hl2
      refine Sm.put ?_ (by simp)
      refine Sm.new ?_ hp
      refine Sm.new ?_ hl1
      refine Sm.new ?_ he
      refine Sm.put ?_ (by simp)
      exact Same.sm (same_new hd)
    · rw [upd_ne (Ne.symm n2), upd_ne k4, upd_ne m4, upd_ne (Ne.symm n2), upd_ne n8, upd_ne n4, upd_same]
    · rw [upd_ne (Ne.symm n9), upd_ne k2, upd_ne m2, upd_ne (Ne.symm n9), upd_same, List.map_nil, List.append_nil]
    · rw [upd_ne (Ne.symm k1), upd_same]
      show _ = some (HO.lst (List.replicate 256 (V.int 1) ++ []))
      rw [List.append_nil]
    · rw [upd_ne (Ne.symm n1), upd_ne k5, upd_ne m5, upd_ne (Ne.symm n1), upd_ne n10, upd_ne n6, upd_ne n3, upd_ne (Ne.symm n1), upd_same]
theorem ok_Names_name_of {f : Addr} {fd : FuncData} (Df : MDefAt K "name_of" "Names.name_of" s_Names_name_of ["self", "block"] f fd) (T : Txt K mg C_Names C_Layers)  : FnOk P w K mg base CX0 1 f fd ["self", "block"] (sp_Names_name_of K C_Names C_Layers) := by
  refine Df.fn.ok sc_Names_name_of (fun vs H Q E h => ?_) (fun cdv A outer s H vs Q E hr h => ?_)
  · obtain ⟨o, c, d, p, z, tb, b, rfl, hN, hC, hb0, hb1, hb2, htb, hbl, q⟩ := h
    rfl
  · obtain ⟨o, c, d, p, z, tb, b, rfl, hN, hC, hb0, hb1, hb2, htb, hbl, q⟩ := h
    refine ⟨_, (pss_cons (ps_if (PW.pt (pw_and (pt_cmpR op_eq (pe_callB c_len (by rfl) T.b_len PySem.boot_len (pa_cons (pv 1) pa_nil)) pe_int (nomark _)) (pw_and1 (pt_cmpR op_eq (pe_ix ix_tup (pe_ix ix_list (pv 1) pe_int (fun _ _ => rfl)) pe_int (fun _ _ => rfl)) pe_int (nomark _))))) (pss_one (ps_ret (pe_ix ix_tup (pe_ix ix_list (pv 1) pe_int (fun _ _ => rfl)) pe_int (fun _ _ => rfl)))) pss_nil)
      (pss_cons (ps_set (i := 2) sc_Names_name_of.nd rfl (Or.inl rfl) (pe_callTy c_tup (by rfl) T.b_tuple (by decide +kernel) (pa_cons (pv 1) pa_nil)))
      (pss_cons (ps_if (pt_cmp (pc_nnotin hr.units (pv 2) (pe_fld (pv 0) rfl))) (pss_cons (ps_nput hr.units (pe_fld (pv 0) rfl) (pv 2) (pe_callB c_len (by rfl) T.b_len PySem.boot_len (pa_cons (pe_fld (pv 0) rfl) pa_nil)) rfl)
      (pss_cons (ps_expr (pe_bm PySem.F.plainAttrs_list PySem.F.slot_list_append PySem.F.type_list_append mt_append (pe_fld (pv 0) rfl) (pa_cons (pv 2) pa_nil)))
      (pss_one (ps_expr (pe_bm PySem.F.plainAttrs_list PySem.F.slot_list_append PySem.F.type_list_append mt_append (pe_fld (pv 0) rfl) (pa_cons (pe_callB (cr_sum rfl) (by rfl) T.b_sum (by decide +kernel) (pa_cons (pe_lc (own := [("name", 3), ("times", 4)]) rfl sc_Names_name_of.nd (pi_list (pv 1)) (blkOk_by rfl) (fun _ _ _ _ _ => (pg_tupK (K := K) (n := 2) rfl rfl (pgs_cons (pg_name (i := 3) sc_Names_name_of.nd rfl (Or.inl rfl)) (pgs_cons (pg_name (i := 4) sc_Names_name_of.nd rfl (Or.inl rfl)) pgs_nil)))) (fun _ _ _ _ _ => pts_nil) (fun _ _ _ _ _ => (pe_op op_mul (pe_ix (ix_listK (K := K) rfl) (pe_fldK (K := K) rfl (pv 0) rfl) (pv 3) (fun _ _ => rfl)) (pv 4)))) pa_nil)) pa_nil)))))) pss_nil)
      (pss_one (ps_ret (pe_nget hr.units (pe_fld (pv 0) rfl) (pv 2) (fun _ _ => rfl))))))), ?_⟩
    simp only [L2.start, List.map_cons, List.map_nil, List.length_cons, List.length_nil, List.reduceReplicate, List.replicate_zero, List.cons_append, List.nil_append, List.append_nil, Nat.reduceAdd, Nat.reduceSub, cx_K]
    obtain ⟨ps, hc, hps⟩ := id hC
    have hpl := hps.len
    walk_at "s47"
    refine ⟨_, .inl (SqL.of hc), ?_⟩
    rw [List.length_map, hpl]
    walk_at "s47"
    by_cases hone : ∃ u, b = [(u, 1)]
    · obtain ⟨u, rfl⟩ := hone
      cases hps with
      | @cons p0 _ _ ps0 _ e e2 =>
      cases e2
      rw [if_pos (by rfl)]
      refine ⟨_, _, SqL.of hc, at_of (j := 0) rfl rfl, ?_⟩
      walk_at "s47"
      refine ⟨_, _, SqT.of e, at_of (j := 1) rfl rfl, ?_⟩
      walk_at "s47"
      rw [if_pos (by rfl)]
      refine ⟨_, _, SqL.of hc, at_of (j := 0) rfl rfl, ?_⟩
      walk_at "s47"
      refine ⟨_, _, SqT.of e, at_of (j := 0) rfl rfl, ?_⟩
      exact q H [] (Same.sm (Same.refl H)) (by rw [List.append_nil]; exact hN) (.inl rfl) (.inl ⟨u, rfl⟩)
    have hnm : ∀ e, B47.nm (tb ++ e) b = 256 + (tb ++ e).idxOf b := fun e => B47.nm_more fun u hu => hone ⟨u, hu⟩
    refine not_one hc hps hone ?_
    refine w_tupL (SqL.of hc) fun k hk => ?_
    have sk : Same H (upd H k (.tup (ps.map V.ref))) := same_new hk
    have hN1 := hN.same sk
    have hps1 := hps.same sk
    have hkey : NKey (upd H k (.tup (ps.map V.ref))) (bk b) k := ⟨ps, upd_same, prs_pairs hps1⟩
    obtain ⟨dx, hins⟩ := hN1.ins
    obtain ⟨e0, ks, he0, hp, hks⟩ := hN1.parts
    obtain ⟨xs, hD, hxs, hval⟩ := hN1.known
    have hz := hN1.sizes
    have hxl : xs.length = tb.length := by
      have := congrArg List.length hxs
      simpa using this
    refine fld_of hins T.cl_Names T.n_known rfl ?_
    by_cases hin : b ∈ tb
    · have hi := B47.idx_at hin
      obtain ⟨x, hx⟩ : ∃ x, xs[tb.idxOf b]? = some x := ⟨_, List.getElem?_eq_getElem (by rw [hxl]; exact (List.getElem?_eq_some_iff.mp hi).1)⟩
      have hx1 : x.1 = bk b := by
        have h1 := congrArg (fun l => l[tb.idxOf b]?) hxs
        simp only [List.getElem?_map, hx, hi] at h1
        exact Option.some.inj h1
      have hk1 := key_some hD.nd hx hx1
      refine ⟨d, k, xs, bk b, rfl, rfl, hD, hkey, ?_⟩
      rw [hk1]
      walk_at "s47"
      rw [if_neg (by simp)]
      refine fld_of hins T.cl_Names T.n_known rfl ?_
      refine ⟨d, k, xs, bk b, x.2.1, x.2.2, _, rfl, rfl, hD, hkey, hk1, hval _ _ hx, ?_⟩
      have h9 := q _ [] (Same.sm sk) (by rw [List.append_nil]; exact hN1) (.inl rfl) (.inr (by rw [List.append_nil]; exact hin))
      rw [hnm, List.append_nil] at h9
      exact h9
    · have hk1 : atKey xs (bk b) = none := key_none (by
        rw [hxs]
        intro h
        obtain ⟨b', h1, h2⟩ := List.mem_map.mp h
        exact hin (by rw [← bk_inj h2]; exact h1))
      refine ⟨d, k, xs, bk b, rfl, rfl, hD, hkey, ?_⟩
      rw [hk1]
      walk_at "s47"
      rw [if_pos (by rfl)]
      refine fld_of hins T.cl_Names T.n_parts rfl ?_
      walk_at "s47"
      refine ⟨_, .inl (SqL.of hp), ?_⟩
      refine fld_of hins T.cl_Names T.n_known rfl ?_
      refine ⟨d, k, xs, bk b, _, rfl, rfl, rfl, hD, hkey, hk1, fun v' hv' => ?_⟩
      have hkl := hks.len
      have eplen : (((List.replicate 256 (V.ref e0) ++ ks.map V.ref).length : Nat) : Int) = ((256 + tb.length : Nat) : Int) := by rw [List.length_append, List.length_replicate, List.length_map, hkl]
      rw [eplen] at hv'
      have ndp : d ≠ p := by rintro rfl; rw [hD.at_] at hp; cases hp
      have ndz : d ≠ z := by rintro rfl; rw [hD.at_] at hz; cases hz
      have npz := hN.ne
      have nod : o ≠ d := by rintro rfl; rw [hD.at_] at hins; cases hins
      have nop : o ≠ p := by rintro rfl; rw [hp] at hins; cases hins
      have noz : o ≠ z := by rintro rfl; rw [hz] at hins; cases hins
      have hc1 := sk _ _ hc
      have hcn := hN1.blkNe hc1 hps1.ne0
      have hcd : c ≠ d := fun h => hcn (by simp [h])
      have hcp : c ≠ p := fun h => hcn (by simp [h])
      have hcz : c ≠ z := fun h => hcn (by simp [h])
      generalize hH2 : upd (upd H k (.tup (ps.map V.ref))) d (.ext (nPhi d (xs ++ [(bk b, k, v')]))) = H2
      have sm2 : Sm [d, p, z] (upd H k (.tup (ps.map V.ref))) H2 := by
        rw [← hH2]
        exact Sm.put (Same.sm (Same.refl _)) (by simp)
      have hins2 : H2 o = _ := sm2 _ _ (by simp [nod, nop, noz]) hins
      have hp2 : H2 p = some (.lst (List.replicate 256 (V.ref e0) ++ ks.map V.ref)) := by rw [← hH2, upd_ne (Ne.symm ndp)]; exact hp
      refine fld_of hins2 T.cl_Names T.n_parts rfl ?_
      refine ⟨ty_list (SqL.of hp2), ?_⟩
      walk_at "s47"
      refine ⟨_, hp2, by have e9 : (List.replicate 256 (V.ref e0) ++ ks.map V.ref).length = 256 + tb.length := by rw [List.length_append, List.length_replicate, List.length_map, hkl]
                         rw [e9]
                         exact Nat.lt_of_lt_of_le (show 256 + tb.length < 256 + 2 ^ 23 by omega) (by decide), ?_⟩
      generalize hH3 : upd H2 p (.lst ((List.replicate 256 (V.ref e0) ++ ks.map V.ref) ++ [V.ref k])) = H3
      have sm3 : Sm [d, p, z] (upd H k (.tup (ps.map V.ref))) H3 := by
        rw [← hH3]
        exact sm2.put (by simp)
      have hins3 := sm3 _ _ (by simp [nod, nop, noz]) hins
      have hz3 : H3 z = some (.lst (List.replicate 256 (.int 1) ++ (B47.exs tb).map fun t => V.int (t.length : Int))) := by rw [← hH3, upd_ne (Ne.symm npz), ← hH2, upd_ne (Ne.symm ndz)]; exact hz
      have hc3 := sm3 _ _ hcn hc1
      have hps3 := hps1.sm sm3 hN1.nt
      refine fld_of hins3 T.cl_Names T.n_sizes rfl ?_
      refine ⟨ty_list (SqL.of hz3), ⟨_, SqL.of hc3⟩, ?_⟩
      refine lcl_by (xs := ps.map V.ref) (fun D i H' => Same H3 H' ∧ H' D = some (.lst ((szs tb (b.take i)).map V.int))) (fun D hD => ⟨same_new hD, upd_same⟩) (fun D i H' hD hi h => SqL.of (h.1 _ _ hc3)) ?_ ?_
      · rintro D i x H' hDn hx ⟨s4, hD4⟩
        obtain ⟨pp, hpp, rfl⟩ := refs_at hx
        obtain ⟨pr, hbi, hpe⟩ := hps3.get2 hpp
        have hpr := List.mem_of_getElem? hbi
        walk_at "s47"
        refine ⟨_, SqT.of (s4 _ _ hpe), rfl, ?_⟩
        walk_at "s47"
        refine ⟨trivial, ?_⟩
        refine fld_of (s4 _ _ hins3) T.cl_Names T.n_sizes rfl ?_
        walk_at "s47"
        refine ⟨_, _, SqL.of (s4 _ _ hz3), at_of (j := pr.1) rfl (sizes_at (hb1 pr hpr)), ?_⟩
        walk_at "s47"
        refine ⟨.inr ⟨by omega, by have := hb2 pr hpr; omega⟩, _, hD4, ?_, ?_, ?_⟩
        · unfold szs
          rw [List.length_map, List.length_map, List.length_take]
          exact Nat.lt_of_le_of_lt (Nat.min_le_right _ _) (Nat.lt_trans hbl (by decide))
        · exact same_upd s4 hDn
        · rw [upd_same, take_snoc hbi]
          unfold szs
          rw [List.map_append, List.map_append]
          rfl
      rintro D H' hDn ⟨s4, hD4⟩
      rw [List.length_map, hpl, List.take_length] at hD4
      walk_at "s47"
      refine ⟨D, szs tb b, rfl, SqL.of hD4, ?_⟩
      rw [szs_sum]
      walk_at "s47"
      refine ⟨_, s4 _ _ hz3, by have e9 : (List.replicate 256 (V.int 1) ++ (B47.exs tb).map fun t => V.int (t.length : Int)).length = 256 + tb.length := by rw [List.length_append, List.length_replicate, List.length_map, B47.exs_len]
                                rw [e9]
                                exact Nat.lt_of_lt_of_le (show 256 + tb.length < 256 + 2 ^ 23 by omega) (by decide), ?_⟩
      generalize hH5 : upd H' z (.lst ((List.replicate 256 (V.int 1) ++ (B47.exs tb).map fun t => V.int (t.length : Int)) ++ [V.int ((B47.btx tb b).length : Int)])) = H5
      have sm5 : Sm [d, p, z] (upd H k (.tup (ps.map V.ref))) H5 := by
        rw [← hH5]
        exact (sm3.trans (Same.sm s4)).put (by simp)
      have hins5 := sm5 _ _ (by simp [nod, nop, noz]) hins
      have hd5 : H5 d = some (.ext (nPhi d (xs ++ [(bk b, k, v')]))) := by
        rw [← hH5, upd_ne ndz]
        refine s4 _ _ ?_
        rw [← hH3, upd_ne ndp, ← hH2, upd_same]
      have hp5 : H5 p = some (.lst (List.replicate 256 (V.ref e0) ++ (ks ++ [k]).map V.ref)) := by
        rw [← hH5, upd_ne npz]
        refine s4 _ _ ?_
        rw [← hH3, upd_same]
        simp
      have hz5 : H5 z = some (.lst (List.replicate 256 (.int 1) ++ (B47.exs (tb ++ [b])).map fun t => V.int (t.length : Int))) := by
        have e8 : B47.exs (tb ++ [b]) = B47.exs tb ++ [B47.btx tb b] := by
          unfold B47.exs
          rw [List.foldl_append]
          rfl
        rw [← hH5, upd_same, e8]
        simp
      have hD5 : NDict H5 d (xs ++ [(bk b, k, v')]) := by
        refine ⟨hd5, hD.sys, ?_, ?_, ?_⟩
        · rw [List.length_append, hxl]
          exact Nat.le_of_lt (Nat.lt_of_le_of_lt (show tb.length + 1 ≤ 2 ^ 23 by omega) (by decide))
        · rw [List.map_append, List.nodup_append]
          refine ⟨hD.nd, by simp, ?_⟩
          intro x hx y hy e
          simp at hy
          rw [hxs] at hx
          obtain ⟨b', h1, h2⟩ := List.mem_map.mp hx
          exact hin (by rw [← bk_inj (h2.trans (e.trans hy))]; exact h1)
        · intro x hx
          rcases List.mem_append.mp hx with h | h
          · exact (hD.keys x h).sm sm5 hN1.nt
          · simp at h
            subst h
            exact hkey.sm sm5 hN1.nt
      have hN5 : NamesAt C_Names H5 o d p z (tb ++ [b]) := by
        refine ⟨⟨dx, hins5⟩, npz, ⟨e0, ks ++ [k], sm5 _ _ (fun h => hN1.nt _ h _ he0) he0, hp5, (hks.sm sm5 hN1.nt).snoc (sm5 _ _ (fun h => hN1.nt _ h _ upd_same) upd_same) (hps1.sm sm5 hN1.nt)⟩, hz5, ⟨_, hD5, by rw [List.map_append, List.map_append, hxs]; rfl, ?_⟩⟩
        intro i x hx
        rw [List.getElem?_append] at hx
        split at hx
        · exact hval _ _ hx
        · next h =>
          have h0 : i - xs.length = 0 := by
            have := (List.getElem?_eq_some_iff.mp hx).1
            simp at this
            omega
          rw [h0] at hx
          cases hx
          rw [show i = tb.length by omega]
          exact hv'
      have hkey5 : NKey H5 (bk b) k := hkey.sm sm5 hN1.nt
      refine fld_of hins5 T.cl_Names T.n_known rfl ?_
      refine ⟨d, k, _, bk b, k, v', _, rfl, rfl, hD5, hkey5, key_some (i := xs.length) (x := (bk b, k, v')) hD5.nd (by simp) rfl, hv', ?_⟩
      have h9 := q H5 [b] ((Same.sm sk).trans sm5) hN5 (.inr ⟨rfl, hin, fun u hu => hone ⟨u, hu⟩⟩) (.inr (by simp))
      rw [hnm, idx_new hin] at h9
      exact h9
theorem ok_Layers___init__ {f : Addr} {fd : FuncData} (Df : MDefAt K "__init__" "Layers.__init__" s_Layers___init__ ["self", "fronts", "middle", "backs"] f fd) (T : Txt K mg C_Names C_Layers)  : FnOk P w K mg base CX0 1 f fd ["self", "fronts", "middle", "backs"] (sp_Layers___init__ K C_Names C_Layers) := by
  refine Df.fn.ok sc_Layers___init__ (fun vs H Q E h => ?_) (fun cdv A outer s H vs Q E hr h => ?_)
  · obtain ⟨x, dx, fa, ma, ba, rfl, hx, q⟩ := h
    rfl
  · obtain ⟨x, dx, fa, ma, ba, rfl, hx, q⟩ := h
    refine ⟨_, (pss_cons (ps_fld (pv 0) (pv 1) rfl)
      (pss_cons (ps_fld (pv 0) (pv 2) rfl)
      (pss_one (ps_fld (pv 0) (pv 3) rfl)))), ?_⟩
    simp only [L2.start, List.map_cons, List.map_nil, List.length_cons, List.length_nil, List.reduceReplicate, List.replicate_zero, List.cons_append, List.nil_append, List.append_nil, Nat.reduceAdd, Nat.reduceSub, cx_K]
    walk_at "s47"
    refine sf_of hx T.cl_Layers T.n_fronts (by decide) ?_
    walk_at "s47"
    refine sf_of upd_same T.cl_Layers T.n_middle pf_len0 ?_
    walk_at "s47"
    refine sf_of upd_same T.cl_Layers T.n_backs pf_len1 ?_
    refine q _ (((Sm.put (Same.sm (Same.refl H)) (by simp)).put (by simp)).put (by simp)) ?_
    rw [upd_same]
    rfl
theorem ok_things_reached {f : Addr} {fd : FuncData} (Df : DefAt K mg "things_reached" s_things_reached ["k", "r"] f fd) (T : Txt K mg C_Names C_Layers)  : FnOk P w K mg base CX0 1 f fd ["k", "r"] (sp_things_reached K C_Names C_Layers) := by
  refine Df.fn.ok sc_things_reached (fun vs H Q E h => ?_) (fun cdv A outer s H vs Q E hr h => ?_)
  · obtain ⟨ar, ns, n, rfl, hS, hF, hN, q⟩ := h
    rfl
  · obtain ⟨ar, ns, n, rfl, hS, hF, hN, q⟩ := h
    have hu := hu_of hr
    refine ⟨_, (pss_cons (ps_set (i := 2) sc_things_reached.nd rfl (Or.inl rfl) (pe_disp (pps_cons (pe_op op_sub (pe_op op_add (pe_gi rfl T.bytes) (pv 0)) pe_int) pe_bl pps_nil) rfl rfl (by simp) (by decide)))
      (pss_cons (ps_for PassesOwn.never rfl (pi_range3 rfl T.b_range (pa_cons (pe_op op_sub (pv 0) pe_int) (pa_cons (pe_un un_neg pe_int) (pa_cons (pe_un un_neg pe_int) pa_nil)))) (pg_name (i := 3) sc_things_reached.nd rfl (Or.inl rfl)) (pss_one (ps_if (pt_cmp (pc_din hu (pe_op op_add (pe_gi rfl T.bytes) (pv 3)) (pv 2))) (pss_cons (ps_dput hu (pv 2) (pe_ix ix_list (pv 1) (pe_op op_mul pe_int (pv 3)) (fun _ _ => rfl)) pe_bl rfl)
      (pss_one (ps_dput hu (pv 2) (pe_ix ix_list (pv 1) (pe_op op_add (pe_op op_mul pe_int (pv 3)) pe_int) (fun _ _ => rfl)) pe_bl rfl))) pss_nil)))
      (pss_one (ps_ret (pe_callB (cr_sortedD rfl) (by rfl) T.b_sorted (by decide +kernel) (pa_cons (pv 2) pa_nil)))))), ?_⟩
    simp only [L2.start, List.map_cons, List.map_nil, List.length_cons, List.length_nil, List.reduceReplicate, List.replicate_zero, List.cons_append, List.nil_append, List.append_nil, Nat.reduceAdd, Nat.reduceSub, cx_K]
    have hn := hF.most
    have hn1 := hF.pos
    have hrl := hF.rl
    walk_at "s47"
    intro dd hdd
    have sd : Same H (upd H dd (.dK [])) := same_new hdd
    unfold tPairs
    walk_at "s47"
    unfold tPairs
    refine ⟨upd_same, [(Sum.inl ((256 : Int) + (n : Int) - 1), .bl true)], rfl, by show 1 ≤ 15; decide, ?_⟩
    have e0 : mergeK [] [((Sum.inl ((256 : Int) + (n : Int) - 1) : L2.Key), V.bl true)] = kvTr [255 + n] := by
      show [((Sum.inl ((256 : Int) + (n : Int) - 1) : L2.Key), V.bl true)] = _
      unfold kvTr
      rw [show (256 : Int) + (n : Int) - 1 = ((255 + n : Nat) : Int) by omega]
      rfl
    rw [e0]
    try simp only [↓w_seq, ↓w_next, ↓w_break, ↓w_cont, ↓w_drop, ↓w_ret, ↓w_if, ↓w_asg, ↓w_gname, ↓w_gsub, ↓w_aug, ↓w_var0, ↓w_varS, ↓w_c, ↓w_op, ↓w_un, ↓w_rI0, ↓w_rI, ↓w_rU, ↓w_ipI, ↓w_rEq, ↓w_rNe, ↓w_rIxL, ↓w_rIxT, ↓w_rSetL, ↓w_test, ↓w_tB, ↓w_bl, ↓w_and, ↓w_or, ↓w_not, ↓w_ifx, ↓w_nil, ↓w_cons, ↓w_lst, ↓w_tup, ↓w_call, ↓w_cb, ↓w_bm, ↓w_bm0, ↓w_append, ↓w_pop, ↓w_cat, ↓w_forR1, ↓w_forR2, ↓w_forL, ↓w_fR1, ↓w_fR2, ↓w_fL, ↓w_len, ↓w_max, ↓w_min, ↓w_abs, ↓w_listOf, ↓w_tru, ↓w_truI, ↓w_dget, ↓w_dput, ↓w_din, ↓w_dnotin, ↓w_dnew, ↓w_lcR1, ↓w_lcL, ↓w_lcZ, ↓w_cR1, ↓w_cL, ↓w_cZ, ↓w_yes, ↓w_wipe0, ↓w_wipeC, ↓w_gtup, ↓w_gnil, ↓w_gcons, ↓w_nnotin, ↓w_nget, ↓w_nput, ↓w_nnew, ↓w_lr, ↓w_fld, ↓w_sfld, ↓w_mt, ↓w_mk, cx_K, List.cons_append, List.nil_append, List.append_nil, List.set_cons_zero, List.set_cons_succ, decide_eq_true_eq, Bool.not_eq_true', decide_eq_false_iff_not, Bool.true_eq_false, Bool.false_eq_true, if_true, if_false, ite_true, ite_false, Nat.reduceAdd, Nat.reduceSub, ↓w_forC]
    refine ⟨_, _, _, _, rfl, RgC.neg (by omega) (by omega) (by omega) (by omega), ?_⟩
    have en : ((n : Int) - 1 - -1).toNat = n := by omega
    rw [en]
    refine for_rangeC (fun i σ H' => ∃ (ws : List Nat) (v3 : Option V), σ = [some (.int (n : Int)), some (.ref ar), some (.ref dd), v3] ∧ Same H H' ∧ H' dd = some (.dK (kvTr ws)) ∧ ReachI ns n i ws) ⟨[255 + n], none, rfl, same_upd sd hdd, upd_same, reach_zero hF hN⟩ ?_ ?_
    · rintro i σ H' hi ⟨ws, v3, rfl, s1, hd1, hI⟩
      have ej : (n : Int) - 1 + (i : Int) * -1 = ((n - 1 - i : Nat) : Int) := by omega
      rw [ej]
      obtain ⟨x, y, ex, ey, exy⟩ := hF.at_ (i := n - 1 - i) (by omega)
      have hnm := hN (n - 1 - i) _ exy
      walk_at "s47"
      have ek : (256 : Int) + ((n - 1 - i : Nat) : Int) = ((256 + (n - 1 - i) : Nat) : Int) := by omega
      rw [ek]
      refine ⟨dd, _, rfl, DGet.k (k := Sum.inl ((256 + (n - 1 - i) : Nat) : Int)) hd1, ?_⟩
      rw [kvTr_val]
      walk_at "s47"
      by_cases hin : 256 + (n - 1 - i) ∈ ws
      · rw [if_pos hin]
        rw [if_pos (by rfl)]
        walk_at "s47"
        refine ⟨cm2, _, _, s1.seq hS, at_of (j := 2 * (n - 1 - i)) (by omega) (vi_get ex), ?_⟩
        have hl := hI.len1
        refine dput_i hd1 (by unfold kvTr; rw [List.length_map]; exact small1000 (by omega)) ?_
        rw [kvTr_put]
        walk_at "s47"
        refine ⟨cm2, _, _, (same_upd s1 hdd).seq hS, at_of (j := 2 * (n - 1 - i) + 1) (by omega) (vi_get ey), ?_⟩
        have hl2 := insW_len ws x
        refine dput_i upd_same (by unfold kvTr; rw [List.length_map]; exact small1000 (by omega)) ?_
        rw [kvTr_put]
        exact ⟨_, _, rfl, same_upd (same_upd s1 hdd) hdd, upd_same, hI.put hN hrl (by omega) exy hin⟩
      · rw [if_neg hin]
        rw [if_neg (by simp)]
        exact ⟨ws, _, rfl, s1, hd1, hI.skip (by omega) hin⟩
    · rintro σ H' ⟨ws, v3, rfl, s1, hd1, hI⟩
      walk_at "s47"
      refine ⟨dd, _, nums ws, rfl, hd1, by unfold kvTr nums; rw [List.map_map, List.map_map]; rfl, fun ns' a hsort hperm ha => ?_⟩
      obtain ⟨ws', e1, hr⟩ := reach_sorted hI hsort hperm
      exact q _ a ws' (same_upd s1 (s1.free ha)) (s1.free ha) (by rw [upd_same, e1]; first | done | rfl) hr
theorem ok_edge {f : Addr} {fd : FuncData} (Df : DefAt K mg "edge" s_edge ["blocks", "middle", "level"] f fd) (T : Txt K mg C_Names C_Layers)  : FnOk P w K mg base CX0 1 f fd ["blocks", "middle", "level"] (sp_edge K C_Names C_Layers) := by
  refine Df.fn.ok sc_edge (fun vs H Q E h => ?_) (fun cdv A outer s H vs Q E hr h => ?_)
  · obtain ⟨a, m, bs, mi, r, L, rfl, hR, hM, hr2, q⟩ := h
    rfl
  · obtain ⟨a, m, bs, mi, r, L, rfl, hR, hM, hr2, q⟩ := h
    refine ⟨_, (pss_cons (ps_if (pt_cmpR op_lt (pv 2) (pe_callB c_len (by rfl) T.b_len PySem.boot_len (pa_cons (pv 0) pa_nil)) (nomark _)) (pss_one (ps_ret (pe_ix ix_list (pv 0) (pv 2) (fun _ _ => rfl)))) pss_nil)
      (pss_one (ps_ret (pe_ifExp (pt_cmpR op_eq (pv 2) (pe_callB c_len (by rfl) T.b_len PySem.boot_len (pa_cons (pv 0) pa_nil)) (nomark _)) (pv 1) (pe_lst pa_nil))))), ?_⟩
    simp only [L2.start, List.map_cons, List.map_nil, List.length_cons, List.length_nil, List.reduceReplicate, List.replicate_zero, List.cons_append, List.nil_append, List.append_nil, Nat.reduceAdd, Nat.reduceSub, cx_K]
    obtain ⟨as, ha, hbs⟩ := id hR
    have hl := hbs.len
    walk_at "s47"
    refine ⟨_, .inl (SqL.of ha), ?_⟩
    rw [List.length_map, hl]
    walk_at "s47"
    split
    · next h =>
      rw [if_pos (by omega)] at hr2
      obtain ⟨e, he, hb⟩ := hbs.get hr2
      exact ⟨_, _, SqL.of ha, at_of (j := L) rfl (refs_get he), q H e (Same.refl H) hb⟩
    · next h =>
      rw [if_neg (by omega)] at hr2
      have hr3 := Option.some.inj hr2
      refine ⟨_, .inl (SqL.of ha), ?_⟩
      rw [List.length_map, hl]
      walk_at "s47"
      split
      · next h2 =>
        rw [if_pos (by omega)] at hr3
        subst hr3
        exact q H m (Same.refl H) hM
      · next h2 =>
        rw [if_neg (by omega)] at hr3
        subst hr3
        refine ⟨Nat.zero_le _, fun p hp => q _ p (same_new hp) ⟨[], upd_same, .nil⟩⟩
theorem ok_cut_alike {f : Addr} {fd : FuncData} (Df : DefAt K mg "cut_alike" s_cut_alike ["row"] f fd) (T : Txt K mg C_Names C_Layers)  : FnOk P w K mg base CX0 1 f fd ["row"] (sp_cut_alike K C_Names C_Layers) := by
  refine Df.fn.ok sc_cut_alike (fun vs H Q E h => ?_) (fun cdv A outer s H vs Q E hr h => ?_)
  · obtain ⟨a, r, rfl, ⟨ps, ha, hps⟩, hr1, hrl, q⟩ := h
    rfl
  · obtain ⟨a, r, rfl, ⟨ps, ha, hps⟩, hr1, hrl, q⟩ := h
    refine ⟨_, (pss_cons (ps_set (i := 1) sc_cut_alike.nd rfl (Or.inl rfl) (pe_lst pa_nil))
      (pss_cons (ps_for PassesOwn.never rfl (pi_list (pv 0)) (pg_tup rfl (pgs_cons (pg_name (i := 2) sc_cut_alike.nd rfl (Or.inl rfl)) (pgs_cons (pg_name (i := 3) sc_cut_alike.nd rfl (Or.inl rfl)) pgs_nil))) (pss_one (ps_if (PW.pt (pw_and (pt_tru (pv 1) (by intro _; rfl)) (pw_and1 (pt_cmpR op_eq (pe_ix ix_tup (pe_ix ix_list (pe_ix ix_list (pv 1) (pe_un un_neg pe_int) (fun _ _ => rfl)) pe_int (fun _ _ => rfl)) pe_int (fun _ _ => rfl)) (pv 2) (nomark _))))) (pss_one (ps_asg (pe_lst (pa_cons (pe_tup (pa_cons (pv 2) (pa_cons (pe_op op_add (pe_ix ix_tup (pe_ix ix_list (pe_ix ix_list (pv 1) (pe_un un_neg pe_int) (fun _ _ => rfl)) pe_int (fun _ _ => rfl)) pe_int (fun _ _ => rfl)) (pv 3)) pa_nil))) pa_nil)) (pg_sub (pv 1) (pe_un un_neg pe_int) set_list))) (pss_one (ps_expr (pe_bm PySem.F.plainAttrs_list PySem.F.slot_list_append PySem.F.type_list_append mt_append (pv 1) (pa_cons (pe_lst (pa_cons (pe_tup (pa_cons (pv 2) (pa_cons (pv 3) pa_nil))) pa_nil)) pa_nil)))))))
      (pss_one (ps_ret (pv 1))))), ?_⟩
    simp only [L2.start, List.map_cons, List.map_nil, List.length_cons, List.length_nil, List.reduceReplicate, List.replicate_zero, List.cons_append, List.nil_append, List.append_nil, Nat.reduceAdd, Nat.reduceSub, cx_K]
    have hpl := hps.len
    walk_at "s47"
    refine ⟨Nat.zero_le _, fun B hB => ?_⟩
    have s0 : Same H (upd H B (.lst [])) := same_new hB
    refine ⟨⟨_, SqL.of (s0 _ _ ha)⟩, list_by (xs := ps.map V.ref) (fun i σ H' => ∃ (as : List Addr) (v2 v3 : Option V), σ = [some (.ref a), some (.ref B), v2, v3] ∧ Same H H' ∧ H' B = some (.lst (as.map V.ref)) ∧ BlksAt H' as ((B47.seg (B47.rl 0) (B47.xp (r.take i))).map (B47.blkOf 0)) ∧ as.length ≤ i ∧ B ∉ as) ⟨[], none, none, rfl, s0, upd_same, .nil, Nat.le_refl _, by simp⟩ ?_ ?_ ?_⟩
    · rintro i σ H' - ⟨as, v2, v3, rfl, s1, -⟩
      exact SqL.of (s1 _ _ ha)
    · rintro i x σ H' hx ⟨as, v2, v3, rfl, s1, hB1, hbs, hal, hBn⟩
      obtain ⟨p, hp, rfl⟩ := refs_at hx
      obtain ⟨⟨n, t⟩, hri, hpe⟩ := hps.get2 hp
      have hi : i < ps.length := (List.getElem?_eq_some_iff.mp hp).1
      have ht : 1 ≤ t := hr1 _ (List.mem_of_getElem? hri)
      have et := take_snoc hri
      walk_at "s47"
      refine ⟨_, SqT.of (s1 _ _ hpe), rfl, ?_⟩
      walk_at "s47"
      refine tru_list (SqL.of hB1) ?_
      rw [et, B47.xp_app, B47.xp_one]
      have hst := B47.alike_step (x := B47.xp (r.take i)) (n := n) ht
      rcases B47.last_cases (B47.seg (B47.rl 0) (B47.xp (r.take i))) with e0 | ⟨q0, sl, e0⟩
      · rw [e0] at hbs
        cases hbs
        walk_at "s47"
        simp only [List.map_nil, List.isEmpty_nil, Bool.not_true]
        walk_at "s47"
        refine ⟨ty_list (SqL.of hB1), by show 2 ≤ sizeLine; decide, fun t1 ht1 => ⟨by show 1 ≤ sizeLine; decide, fun t2 ht2 => ?_⟩⟩
        obtain ⟨hB3, hN⟩ := one_new s1 hB hB1 (.nil) hBn ht1 ht2
        refine ⟨_, hB3, by decide, [t2], _, _, rfl, (hN _).1, upd_same, ?_, by simp, (hN (.lst [])).2.2⟩
        rw [hst.1 e0, List.map_cons, B47.blk_rep ht]
        exact (hN _).2.1
      · rw [e0, List.map_append] at hbs
        obtain ⟨cs, al, rfl, hcs, hbl⟩ := hbs.snoc
        obtain ⟨pl, hal1, hpl1⟩ := id hbl
        have hBc : B ∉ cs := fun h => hBn (by simp [h])
        have e1 : (!(List.map V.ref (cs ++ [al])).isEmpty) = true := by rw [refs_last]; simp
        rw [e1]
        have hB0 := hB1
        rw [refs_last] at hB1
        rw [B47.blkA] at hpl1
        cases hpl1 with
        | @cons pp _ _ _ _ hpp hnil =>
        cases hnil
        walk_at "s47"
        refine ⟨_, _, SqL.of hB1, atI_last, ?_⟩
        walk_at "s47"
        refine ⟨_, _, SqL.of hal1, at_of (j := 0) rfl rfl, ?_⟩
        walk_at "s47"
        refine ⟨_, _, SqT.of hpp, at_of (j := 0) rfl rfl, ?_⟩
        walk_at "s47"
        split
        · next hn =>
          obtain ⟨s', hs1, hs2⟩ := (hst.2 q0 sl e0).1 (by omega)
          refine ⟨_, _, SqL.of hB1, atI_last, ?_⟩
          walk_at "s47"
          refine ⟨_, _, SqL.of hal1, at_of (j := 0) rfl rfl, ?_⟩
          walk_at "s47"
          refine ⟨_, _, SqT.of hpp, at_of (j := 1) rfl rfl, ?_⟩
          walk_at "s47"
          refine ⟨by show 2 ≤ sizeLine; decide, fun t1 ht1 => ⟨by show 1 ≤ sizeLine; decide, fun t2 ht2 => ?_⟩⟩
          have ei : ((sl.length : Nat) : Int) + (t : Int) = ((sl.length + t : Nat) : Int) := by omega
          rw [ei] at ht2 ⊢
          obtain ⟨hB3, hN⟩ := one_new s1 hB hB1 hcs hBc ht1 ht2
          refine ⟨_, _, hB3, ix_last, cs ++ [t2], _, _, rfl, (hN _).1, ?_, ?_, by simp at hal ⊢; omega, (hN (.lst [])).2.2⟩
          · rw [upd_same, refs_last]
            simp
          · rw [hs1, List.map_append, List.map_cons, hs2]
            exact (hN _).2.1
        · next hn =>
          have hs1 := (hst.2 q0 sl e0).2 (by omega)
          walk_at "s47"
          refine ⟨ty_list (SqL.of hB1), by show 2 ≤ sizeLine; decide, fun t1 ht1 => ⟨by show 1 ≤ sizeLine; decide, fun t2 ht2 => ?_⟩⟩
          obtain ⟨hB3, hN⟩ := one_new s1 hB hB0 (hcs.app (.cons hbl .nil)) hBn ht1 ht2
          refine ⟨_, hB3, by rw [List.length_map]; exact small20 (by omega), cs ++ [al] ++ [t2], _, _, rfl, (hN _).1, by rw [upd_same]; simp, ?_, by simp at hal ⊢; omega, (hN (.lst [])).2.2⟩
          have e9 : List.map (B47.blkOf 0) (q0 ++ [sl] ++ [List.replicate t n]) = List.map (B47.blkOf 0) q0 ++ [B47.blkOf 0 sl] ++ [[(n, t)]] := by rw [List.map_append, List.map_append, List.map_singleton, List.map_singleton, B47.blk_rep ht]
          rw [hs1, e9]
          exact (hN _).2.1
    · rintro σ H' ⟨as, v2, v3, rfl, s1, hB1, hbs, hal, hBn⟩
      walk_at "s47"
      rw [List.length_map, hpl, List.take_length] at hbs
      exact q H' B s1 hB ⟨as, hB1, hbs⟩
theorem ok_cut_slopes {f : Addr} {fd : FuncData} (Df : DefAt K mg "cut_slopes" s_cut_slopes ["row", "way"] f fd) (T : Txt K mg C_Names C_Layers)  : FnOk P w K mg base CX0 1 f fd ["row", "way"] (sp_cut_slopes K C_Names C_Layers) := by
  refine Df.fn.ok sc_cut_slopes (fun vs H Q E h => ?_) (fun cdv A outer s H vs Q E hr h => ?_)
  · obtain ⟨a, r, L, rfl, hL, ⟨ps, ha, hps⟩, hrl, q⟩ := h
    rfl
  · obtain ⟨a, r, L, rfl, hL, ⟨ps, ha, hps⟩, hrl, q⟩ := h
    refine ⟨_, (pss_cons (ps_set (i := 2) sc_cut_slopes.nd rfl (Or.inl rfl) (pe_lst pa_nil))
      (pss_cons (ps_for PassesOwn.never rfl (pi_list (pv 0)) (pg_name (i := 3) sc_cut_slopes.nd rfl (Or.inl rfl)) (pss_one (ps_if (PW.pt (pw_and (pt_tru (pv 2) (by intro _; rfl)) (pw_and1 (pt_cmpR op_gt (pe_op op_mul (pe_op op_sub (pe_ix ix_tup (pv 3) pe_int (fun _ _ => rfl)) (pe_ix ix_tup (pe_ix ix_list (pe_ix ix_list (pv 2) (pe_un un_neg pe_int) (fun _ _ => rfl)) (pe_un un_neg pe_int) (fun _ _ => rfl)) pe_int (fun _ _ => rfl))) (pv 1)) pe_int (nomark _))))) (pss_one (ps_expr (pe_bm PySem.F.plainAttrs_list PySem.F.slot_list_append PySem.F.type_list_append mt_append (pe_ix ix_list (pv 2) (pe_un un_neg pe_int) (fun _ _ => rfl)) (pa_cons (pv 3) pa_nil)))) (pss_one (ps_expr (pe_bm PySem.F.plainAttrs_list PySem.F.slot_list_append PySem.F.type_list_append mt_append (pv 2) (pa_cons (pe_lst (pa_cons (pv 3) pa_nil)) pa_nil)))))))
      (pss_one (ps_ret (pv 2))))), ?_⟩
    simp only [L2.start, List.map_cons, List.map_nil, List.length_cons, List.length_nil, List.reduceReplicate, List.replicate_zero, List.cons_append, List.nil_append, List.append_nil, Nat.reduceAdd, Nat.reduceSub, cx_K]
    have hpl := hps.len
    rw [List.length_map] at hpl
    walk_at "s47"
    refine ⟨Nat.zero_le _, fun B hB => ?_⟩
    have s0 : Same H (upd H B (.lst [])) := same_new hB
    refine ⟨⟨_, SqL.of (s0 _ _ ha)⟩, list_by (xs := ps.map V.ref) (fun i σ H' => ∃ (as : List Addr) (v3 : Option V), σ = [some (.ref a), some (.int (if L % 3 = 1 then 1 else -1)), some (.ref B), v3] ∧ Same H H' ∧ H' B = some (.lst (as.map V.ref)) ∧ BlksAt H' as ((B47.seg (B47.rl L) (r.take i)).map (B47.blkOf L)) ∧ as.length ≤ i ∧ (∀ c ∈ as, H c = none ∧ c ≠ B) ∧ as.Nodup) ⟨[], none, rfl, s0, upd_same, .nil, Nat.le_refl _, by simp, List.nodup_nil⟩ ?_ ?_ ?_⟩
    · rintro i σ H' - ⟨as, v3, rfl, s1, -⟩
      exact SqL.of (s1 _ _ ha)
    · rintro i x σ H' hx ⟨as, v3, rfl, s1, hB1, hbs, hal, hfr, hnd⟩
      obtain ⟨p, hp, rfl⟩ := refs_at hx
      obtain ⟨⟨n, t⟩, hri, hpe⟩ := hps.get2 hp
      have hi : i < ps.length := (List.getElem?_eq_some_iff.mp hp).1
      rw [List.getElem?_map] at hri
      cases en : r[i]? with
      | none => rw [en] at hri; cases hri
      | some n' =>
      rw [en] at hri
      cases hri
      have et := take_snoc en
      have hBn : B ∉ as := fun h => (hfr B h).2 rfl
      have hpe1 := s1 _ _ hpe
      have hst := B47.slope_step (L := L) (x := r.take i) (n := n)
      have newb : ∀ t2, H' t2 = none → (∀ o, BlksAt (upd (upd H' t2 (.lst [.ref p])) B o) (as ++ [t2]) ((B47.seg (B47.rl L) (r.take i)).map (B47.blkOf L) ++ [[(n, 1)]])) ∧ (∀ c ∈ as ++ [t2], H c = none ∧ c ≠ B) ∧ (as ++ [t2]).Nodup ∧ (upd H' t2 (.lst [.ref p])) B = some (.lst (as.map V.ref)) := by
        intro t2 ht2
        have n2 : B ≠ t2 := ne_of_none hB1 ht2
        have hta : t2 ∉ as := hbs.fresh ht2
        have sA : Same H' (upd H' t2 (.lst [.ref p])) := same_new ht2
        have hB3 := sA _ _ hB1
        refine ⟨?_, ?_, ?_, hB3⟩
        · refine fun o => ((hbs.same sA).app (.cons ⟨[p], upd_same, .cons (sA _ _ hpe1) .nil⟩ .nil)).upd hB3 (by simp [hBn, n2])
        · intro c hc
          rcases List.mem_append.mp hc with h | h
          · exact hfr c h
          · rw [List.mem_singleton] at h
            subst h
            exact ⟨s1.free ht2, Ne.symm n2⟩
        · rw [List.nodup_append]
          refine ⟨hnd, by simp, ?_⟩
          intro x hx y hy e
          rw [List.mem_singleton] at hy
          subst hy
          subst e
          exact hta hx
      walk_at "s47"
      refine tru_list (SqL.of hB1) ?_
      rw [et]
      rcases B47.last_cases (B47.seg (B47.rl L) (r.take i)) with e0 | ⟨q0, sl, e0⟩
      · rw [e0] at hbs newb
        cases hbs
        simp only [List.map_nil, List.isEmpty_nil, Bool.not_true]
        walk_at "s47"
        refine ⟨ty_list (SqL.of hB1), by show 1 ≤ sizeLine; decide, fun t2 ht2 => ?_⟩
        obtain ⟨h1, h2, h3, h4⟩ := newb t2 ht2
        refine ⟨_, h4, by decide, [t2], _, rfl, same_upd (same_upd s1 (s1.free ht2)) hB, upd_same, ?_, by simp, h2, h3⟩
        rw [hst.1 e0, List.map_cons, B47.blkS hL]
        exact h1 _
      · have hsl : sl ≠ [] := B47.seg_ne _ sl (by rw [e0]; simp)
        obtain ⟨s0', y, rfl⟩ := snoc_of hsl
        have hst2 := hst.2 q0 s0' y e0
        rw [e0, List.map_append] at hbs
        obtain ⟨cs, al, rfl, hcs, hbl⟩ := hbs.snoc
        obtain ⟨pl, hal1, hpl1⟩ := id hbl
        have e1 : (!(List.map V.ref (cs ++ [al])).isEmpty) = true := by rw [refs_last]; simp
        rw [e1]
        have hB0 := hB1
        rw [refs_last] at hB1
        rw [B47.blkS hL, List.map_append] at hpl1
        obtain ⟨qs, pp, rfl, hqs, hpp⟩ := hpl1.snoc
        have hal2 := hal1
        rw [refs_last] at hal1
        walk_at "s47"
        refine ⟨_, _, SqT.of hpe1, at_of (j := 0) rfl rfl, ?_⟩
        walk_at "s47"
        refine ⟨_, _, SqL.of hB1, atI_last, ?_⟩
        walk_at "s47"
        refine ⟨_, _, SqL.of hal1, atI_last, ?_⟩
        walk_at "s47"
        refine ⟨_, _, SqT.of hpp, at_of (j := 0) rfl rfl, ?_⟩
        walk_at "s47"
        refine ⟨cmW, ?_⟩
        have hlast : al ∉ cs := fun h => by
          rw [List.nodup_append] at hnd
          exact hnd.2.2 al h al (by simp) rfl
        by_cases hc : (0 : Int) < ((n : Int) - (y : Int)) * (if L % 3 = 1 then 1 else -1)
        · rw [if_pos (slope_of hL hc)] at hst2
          rw [if_pos hc]
          refine ⟨_, _, SqL.of hB1, atI_last, ?_⟩
          walk_at "s47"
          have hlen : (s0' ++ [y]).length ≤ r.length := by
            have h1 := B47.seg_flat (p := B47.rl L) (r.take i)
            have h2 := congrArg List.length h1
            rw [e0, List.flatten_append, List.length_append, List.flatten_singleton, List.length_take] at h2
            omega
          have hq2 := hqs.len
          rw [List.length_map] at hq2
          rw [List.length_append] at hlen
          refine ⟨ty_list (SqL.of hal1), _, hal1, by rw [List.length_append, List.length_map, hq2]; exact small20 (by simp at hlen ⊢; omega), cs ++ [al], _, rfl, same_upd s1 (hfr al (by simp)).1, ?_, ?_, by simp at hal ⊢; omega, hfr, hnd⟩
          · rw [upd_ne (Ne.symm (hfr al (by simp)).2)]
            exact hB0
          · rw [hst2, List.map_append, List.map_singleton]
            refine (hcs.upd hal1 hlast).app (.cons ⟨qs ++ [pp] ++ [p], ?_, ?_⟩ .nil)
            · rw [upd_same]
              simp
            · rw [B47.blkS hL, List.map_append, List.map_append]
              exact ((hqs.app (.cons hpp .nil)).app (.cons hpe1 .nil)).upd hal1
        · rw [if_neg (slope_not hL hc)] at hst2
          rw [if_neg hc]
          walk_at "s47"
          refine ⟨ty_list (SqL.of hB1), by show 1 ≤ sizeLine; decide, fun t2 ht2 => ?_⟩
          obtain ⟨h1, h2, h3, h4⟩ := newb t2 ht2
          refine ⟨_, h4, by rw [List.length_map]; exact small20 (by omega), cs ++ [al] ++ [t2], _, rfl, same_upd (same_upd s1 (s1.free ht2)) hB, by rw [upd_same]; simp, ?_, by simp at hal ⊢; omega, h2, h3⟩
          rw [hst2, List.map_append (l₂ := [[n]]), List.map_singleton, ← e0, B47.blkS hL]
          exact h1 _
    · rintro σ H' ⟨as, v3, rfl, s1, hB1, hbs, hal, hBn, hnd⟩
      walk_at "s47"
      rw [List.length_map, hpl, List.take_length] at hbs
      exact q H' B s1 hB ⟨as, hB1, hbs⟩
theorem ok_pairs_ahead {f : Addr} {fd : FuncData} (Df : DefAt K mg "pairs_ahead" s_pairs_ahead ["text"] f fd) (T : Txt K mg C_Names C_Layers)  : FnOk P w K mg base CX0 1 f fd ["text"] (sp_pairs_ahead K C_Names C_Layers) := by
  refine Df.fn.ok sc_pairs_ahead (fun vs H Q E h => ?_) (fun cdv A outer s H vs Q E hr h => ?_)
  · obtain ⟨o, fr, mi, ba, rfl, ⟨dx, fa, ma, bb, hins, ⟨fas, hfa, hfs⟩, hM, ⟨bas, hba, hbs⟩⟩, hlen, q⟩ := h
    rfl
  · obtain ⟨o, fr, mi, ba, rfl, ⟨dx, fa, ma, bb, hins, ⟨fas, hfa, hfs⟩, hM, ⟨bas, hba, hbs⟩⟩, hlen, q⟩ := h
    refine ⟨_, (pss_cons (ps_set (i := 1) sc_pairs_ahead.nd rfl (Or.inl rfl) (pe_lst pa_nil))
      (pss_cons (ps_for PassesOwn.never rfl (pi_list (pe_fld (pv 0) rfl)) (pg_name (i := 2) sc_pairs_ahead.nd rfl (Or.inl rfl)) (pss_one (ps_expr (pe_bm PySem.F.plainAttrs_list PySem.F.slot_list_extend PySem.F.type_list_extend mt_extend (pv 1) (pa_cons (pe_listRev rfl rfl T.b_list rfl T.b_reversed (pv 2)) pa_nil)))))
      (pss_cons (ps_expr (pe_bm PySem.F.plainAttrs_list PySem.F.slot_list_extend PySem.F.type_list_extend mt_extend (pv 1) (pa_cons (pe_listRev rfl rfl T.b_list rfl T.b_reversed (pe_fld (pv 0) rfl)) pa_nil)))
      (pss_cons (ps_for PassesOwn.never rfl (pi_reversed rfl T.b_reversed (pa_cons (pe_fld (pv 0) rfl) pa_nil)) (pg_name (i := 2) sc_pairs_ahead.nd rfl (Or.inl rfl)) (pss_one (ps_expr (pe_bm PySem.F.plainAttrs_list PySem.F.slot_list_extend PySem.F.type_list_extend mt_extend (pv 1) (pa_cons (pe_listRev rfl rfl T.b_list rfl T.b_reversed (pv 2)) pa_nil)))))
      (pss_one (ps_ret (pv 1))))))), ?_⟩
    simp only [L2.start, List.map_cons, List.map_nil, List.length_cons, List.length_nil, List.reduceReplicate, List.replicate_zero, List.cons_append, List.nil_append, List.append_nil, Nat.reduceAdd, Nat.reduceSub, cx_K]
    obtain ⟨pm, hma, hpm⟩ := id hM
    walk_at "s47"
    refine ⟨Nat.zero_le _, fun A hA => ?_⟩
    have s0 : Same H (upd H A (.lst [])) := same_new hA
    refine fld_of (s0 _ _ hins) T.cl_Layers T.n_backs rfl ?_
    walk_at "s47"
    refine ⟨⟨_, SqL.of (s0 _ _ hba)⟩, list_by (xs := bas.map V.ref) (fun i σ H' => ∃ v2 : Option V, σ = [some (.ref o), some (.ref A), v2] ∧ Same H H' ∧ BlkAt H' A ((ba.take i).reverse.flatten).reverse) ⟨none, rfl, s0, [], upd_same, .nil⟩ ?_ ?_ ?_⟩
    · rintro i σ H' - ⟨v2, rfl, s1, -⟩
      exact SqL.of (s1 _ _ hba)
    · rintro i x σ H' hx ⟨v2, rfl, s1, hA1⟩
      obtain ⟨c, hc, rfl⟩ := refs_at hx
      obtain ⟨b, hb, hcb⟩ := hbs.get2 hc
      have et := take_snoc hb
      walk_at "s47"
      refine ext_rev s1 hA hA1 (hcb.same s1) ?_ fun H2 s2 h2 => ⟨_, rfl, s2, ?_⟩
      · have h3 := @flat_take ba (i + 1)
        rw [et, List.reverse_append, List.flatten_append, List.length_append] at h3
        have h4 : ([b].reverse.flatten).length = b.length := by simp
        rw [List.length_reverse]
        omega
      · rw [et, List.reverse_append]
        simpa using h2
    rintro σ H' ⟨v2, rfl, s1, hA1⟩
    rw [List.length_map, hbs.len, List.take_length] at hA1
    walk_at "s47"
    have hl1 : ba.reverse.flatten.length = ba.flatten.length := by simp [List.length_flatten, List.sum_reverse]
    have tyA : tyV K "list" (.ref A) H' := by
      obtain ⟨_, h, _⟩ := id hA1
      exact ty_list (SqL.of h)
    refine ⟨tyA, fld_of (s1 _ _ hins) T.cl_Layers T.n_middle rfl (ext_rev (K := K) s1 hA hA1 (hM.same s1) ?_ fun H2 s2 h2 => ?_).2⟩
    · rw [List.length_reverse, hl1]
      omega
    try simp only [↓w_seq, ↓w_next, ↓w_break, ↓w_cont, ↓w_drop, ↓w_ret, ↓w_if, ↓w_asg, ↓w_gname, ↓w_gsub, ↓w_aug, ↓w_var0, ↓w_varS, ↓w_c, ↓w_op, ↓w_un, ↓w_rI0, ↓w_rI, ↓w_rU, ↓w_ipI, ↓w_rEq, ↓w_rNe, ↓w_rIxL, ↓w_rIxT, ↓w_rSetL, ↓w_test, ↓w_tB, ↓w_bl, ↓w_and, ↓w_or, ↓w_not, ↓w_ifx, ↓w_nil, ↓w_cons, ↓w_lst, ↓w_tup, ↓w_call, ↓w_cb, ↓w_bm, ↓w_bm0, ↓w_append, ↓w_pop, ↓w_cat, ↓w_forR1, ↓w_forR2, ↓w_forL, ↓w_fR1, ↓w_fR2, ↓w_fL, ↓w_len, ↓w_max, ↓w_min, ↓w_abs, ↓w_listOf, ↓w_tru, ↓w_truI, ↓w_dget, ↓w_dput, ↓w_din, ↓w_dnotin, ↓w_dnew, ↓w_lcR1, ↓w_lcL, ↓w_lcZ, ↓w_cR1, ↓w_cL, ↓w_cZ, ↓w_yes, ↓w_wipe0, ↓w_wipeC, ↓w_gtup, ↓w_gnil, ↓w_gcons, ↓w_nnotin, ↓w_nget, ↓w_nput, ↓w_nnew, ↓w_lr, ↓w_fld, ↓w_sfld, ↓w_mt, ↓w_mk, cx_K, List.cons_append, List.nil_append, List.append_nil, List.set_cons_zero, List.set_cons_succ, decide_eq_true_eq, Bool.not_eq_true', decide_eq_false_iff_not, Bool.true_eq_false, Bool.false_eq_true, if_true, if_false, ite_true, ite_false, Nat.reduceAdd, Nat.reduceSub, ↓w_forV]
    refine fld_of (s2 _ _ hins) T.cl_Layers T.n_fronts rfl ?_
    walk_at "s47"
    refine rev_by (xs := fas.map V.ref) (SqL.of (s2 _ _ hfa)) (fun i σ H' => ∃ v2 : Option V, σ = [some (.ref o), some (.ref A), v2] ∧ Same H H' ∧ BlkAt H' A ((fr.drop (fr.length - i)).flatten ++ mi ++ ba.reverse.flatten).reverse) ⟨_, rfl, s2, ?_⟩ ?_ ?_ ?_
    · rw [Nat.sub_zero, List.drop_length]
      simpa using h2
    · rintro i σ H' - ⟨v2, rfl, s1, -⟩
      exact SqL.of (s1 _ _ hfa)
    · rintro i x σ H' hi hx ⟨v2, rfl, s1, hA1⟩
      rw [List.length_map] at hi hx
      obtain ⟨c, hc, rfl⟩ := refs_at hx
      obtain ⟨b, hb, hcb⟩ := hfs.get2 hc
      rw [hfs.len] at hb hi
      have et : fr.drop (fr.length - (i + 1)) = b :: fr.drop (fr.length - i) := by
        have h9 : fr.length - 1 - i = fr.length - (i + 1) := by omega
        rw [h9] at hb
        rw [List.drop_eq_getElem_cons (by omega : fr.length - (i + 1) < fr.length)]
        have h8 := List.getElem?_eq_getElem (l := fr) (i := fr.length - (i + 1)) (by omega)
        rw [hb] at h8
        rw [← Option.some.inj h8]
        congr 2
        omega
      walk_at "s47"
      refine ext_rev s1 hA hA1 (hcb.same s1) ?_ fun H2 s2 h2 => ⟨_, rfl, s2, ?_⟩
      · have h3 := @flat_drop fr (fr.length - (i + 1))
        rw [et, List.flatten_cons, List.length_append] at h3
        rw [List.length_reverse, List.length_append, List.length_append, hl1]
        omega
      · rw [et]
        simpa using h2
    rintro σ H' ⟨v2, rfl, s1, hA1⟩
    rw [List.length_map, hfs.len, Nat.sub_self, List.drop_zero] at hA1
    walk_at "s47"
    exact q H' A s1 hA hA1
theorem ok_take {f : Addr} {fd : FuncData} (Df : DefAt K mg "take" s_take ["ahead", "times"] f fd) (T : Txt K mg C_Names C_Layers)  : FnOk P w K mg base CX0 1 f fd ["ahead", "times"] (sp_take K C_Names C_Layers) := by
  refine Df.fn.ok sc_take (fun vs H Q E h => ?_) (fun cdv A outer s H vs Q E hr h => ?_)
  · obtain ⟨a, st, n, t, m, rfl, ⟨ps, ha, hps⟩, hl, q⟩ := h
    rfl
  · obtain ⟨a, st, n, t, m, rfl, ⟨ps, ha, hps⟩, hl, q⟩ := h
    refine ⟨_, (pss_cons (ps_set (i := 2) sc_take.nd rfl (Or.inl rfl) (pe_bm0 PySem.F.plainAttrs_list PySem.F.slot_list_pop PySem.F.type_list_pop mt_pop (pv 0)))
      (pss_one (ps_if (pt_cmpR op_gt (pe_ix ix_tup (pv 2) pe_int (fun _ _ => rfl)) (pv 1) (nomark _)) (pss_one (ps_expr (pe_bm PySem.F.plainAttrs_list PySem.F.slot_list_append PySem.F.type_list_append mt_append (pv 0) (pa_cons (pe_tup (pa_cons (pe_ix ix_tup (pv 2) pe_int (fun _ _ => rfl)) (pa_cons (pe_op op_sub (pe_ix ix_tup (pv 2) pe_int (fun _ _ => rfl)) (pv 1)) pa_nil))) pa_nil)))) pss_nil))), ?_⟩
    simp only [L2.start, List.map_cons, List.map_nil, List.length_cons, List.length_nil, List.reduceReplicate, List.replicate_zero, List.cons_append, List.nil_append, List.append_nil, Nat.reduceAdd, Nat.reduceSub, cx_K]
    obtain ⟨qs, p, rfl, hqs, hp⟩ := hps.snoc
    rw [refs_last] at ha
    have hne : p ≠ a := by rintro rfl; rw [ha] at hp; cases hp
    walk_at "s47"
    refine ⟨ty_list (SqL.of ha), pop_snoc ha ?_⟩
    have hp2 : (upd H a (.lst (qs.map V.ref))) p = some (.tup [.int (n : Int), .int (t : Int)]) := by rw [upd_ne hne]; exact hp
    have ha2 : (upd H a (.lst (qs.map V.ref))) a = some (.lst (qs.map V.ref)) := upd_same
    have hs0 : Sm [a] H (upd H a (.lst (qs.map V.ref))) := Sm.put (Same.sm (Same.refl H)) (by simp)
    have hq2 : PrsAt (upd H a (.lst (qs.map V.ref))) qs st := hqs.upd ha
    have hql := hqs.len
    walk_at "s47"
    refine ⟨_, _, SqT.of hp2, at_of (j := 1) rfl rfl, ?_⟩
    walk_at "s47"
    split
    · next h =>
      walk_at "s47"
      refine ⟨ty_list (SqL.of ha2), _, _, SqT.of hp2, at_of (j := 0) rfl rfl, ?_⟩
      walk_at "s47"
      refine ⟨_, _, SqT.of hp2, at_of (j := 1) rfl rfl, ?_⟩
      walk_at "s47"
      refine ⟨by show 2 ≤ sizeLine; decide, fun p2 hp3 => ?_⟩
      have en : (t : Int) - (m : Int) = ((t - m : Nat) : Int) := by omega
      rw [en] at *
      have hne2 : a ≠ p2 := ne_of_none ha2 hp3
      have ha3 : (upd (upd H a (.lst (qs.map V.ref))) p2 (.tup [.int (n : Int), .int ((t - m : Nat) : Int)])) a = some (.lst (qs.map V.ref)) := by rw [upd_ne hne2]; exact ha2
      refine ⟨_, ha3, by rw [List.length_map, hql]; exact Nat.lt_of_lt_of_le hl (by decide), ?_⟩
      have hH2 : H p2 = none := by rw [upd_ne (Ne.symm hne2)] at hp3; exact hp3
      refine q _ ((hs0.new hH2).put (by simp)) ⟨qs ++ [p2], by rw [upd_same]; simp, ?_⟩
      have hless : B47.less st n t m = st ++ [(n, t - m)] := by
        unfold B47.less
        rw [if_pos (by omega)]
      rw [hless]
      exact ((hq2.same (same_new hp3)).app (.cons upd_same .nil)).upd ha3
    · next h =>
      walk_at "s47"
      have hless : B47.less st n t m = st := by
        unfold B47.less
        rw [if_neg (by omega)]
      rw [hless] at q
      exact q _ hs0 ⟨qs, ha2, hq2⟩
theorem ok_names_allowed {f : Addr} {fd : FuncData} (Df : DefAt K mg "names_allowed" s_names_allowed ["k", "r"] f fd) (T : Txt K mg C_Names C_Layers)  : FnOk P w K mg base CX0 1 f fd ["k", "r"] (sp_names_allowed K C_Names C_Layers) := by
  refine Df.fn.ok sc_names_allowed (fun vs H Q E h => ?_) (fun cdv A outer s H vs Q E hr h => ?_)
  · obtain ⟨a, ns, n, rfl, hS, hF, k⟩ := h
    rfl
  · obtain ⟨a, ns, n, rfl, hS, hF, k⟩ := h
    refine ⟨_, (pss_cons (ps_for PassesOwn.never rfl (pi_range1 rfl T.b_range (pa_cons (pv 0) pa_nil)) (pg_name (i := 2) sc_names_allowed.nd rfl (Or.inl rfl)) (pss_one (ps_if (pt_cmpR op_ge (pe_callB (c_max rfl) (by rfl) T.b_max (by decide +kernel) (pa_cons (pe_ix ix_list (pv 1) (pe_op op_mul pe_int (pv 2)) (fun _ _ => rfl)) (pa_cons (pe_ix ix_list (pv 1) (pe_op op_add (pe_op op_mul pe_int (pv 2)) pe_int) (fun _ _ => rfl)) pa_nil))) (pe_op op_add (pe_gi rfl T.bytes) (pv 2)) (nomark _)) (pss_one (ps_ret pe_bl)) pss_nil)))
      (pss_one (ps_ret pe_bl))), ?_⟩
    simp only [L2.start, List.map_cons, List.map_nil, List.length_cons, List.length_nil, List.reduceReplicate, List.replicate_zero, List.cons_append, List.nil_append, List.append_nil, Nat.reduceAdd, Nat.reduceSub, cx_K]
    have hn := hF.most
    have hrl := hF.rl
    walk_at "s47"
    refine ⟨by omega, by omega, range_by (fun i σ H' => ∃ v2 : Option V, σ = [some (.int (n : Int)), some (.ref a), v2] ∧ H' = H ∧ ∀ (j : Nat) (z : Rule), j < i → (rules ns)[j]? = some z → z.1 < 256 + j ∧ z.2 < 256 + j)
      ⟨none, rfl, rfl, fun j z c _ => absurd c (Nat.not_lt_zero j)⟩ ?_ ?_⟩
    · rintro i σ H' hi ⟨v2, rfl, rfl, hd⟩
      obtain ⟨x, y, ex, ey, exy⟩ := hF.at_ hi
      walk_at "s47"
      refine ⟨cm2, _, _, hS, at_of (j := 2 * i) (by omega) (vi_get ex), ?_⟩
      walk_at "s47"
      refine ⟨cm2, _, _, hS, at_of (j := 2 * i + 1) (by omega) (vi_get ey), ?_⟩
      walk_at "s47"
      obtain ⟨mx, emx, hmx1, hmx2, hmx3⟩ := max_of x y
      rw [emx]
      split
      · next h1 =>
        have e : namesB (rules ns) = false := by
          rw [Bool.eq_false_iff]
          intro c
          have c2 := (namesB_iff _).mp c i _ exy
          have c3 : x < 256 + i := c2.1
          have c4 : y < 256 + i := c2.2
          omega
        rw [e] at k
        exact k
      · next h1 =>
        refine ⟨_, rfl, trivial, fun j z hj hz => ?_⟩
        by_cases c : j < i
        · exact hd j z c hz
        · have c2 : j = i := by omega
          subst c2
          rw [exy] at hz
          have hz2 := Option.some.inj hz
          subst hz2
          show x < 256 + j ∧ y < 256 + j
          omega
    · rintro σ H' ⟨v2, rfl, rfl, hd⟩
      have e : namesB (rules ns) = true := (namesB_iff _).mpr fun i z hz => hd i z (by have := (List.getElem?_eq_some_iff.mp hz).1; omega) hz
      rw [e] at k
      walk_at "s47"
      exact k
theorem ok_thing_length {f : Addr} {fd : FuncData} (Df : DefAt K mg "thing_length" s_thing_length ["thing", "lengths"] f fd) (T : Txt K mg C_Names C_Layers)  : FnOk P w K mg base CX0 1 f fd ["thing", "lengths"] (sp_thing_length K C_Names C_Layers) := by
  refine Df.fn.ok sc_thing_length (fun vs H Q E h => ?_) (fun cdv A outer s H vs Q E hr h => ?_)
  · obtain ⟨x, a, ls, rfl, hS, hx, k⟩ := h
    rfl
  · obtain ⟨x, a, ls, rfl, hS, hx, k⟩ := h
    refine ⟨_, (pss_cons (ps_if (pt_cmpR op_lt (pv 0) (pe_gi rfl T.bytes) (nomark _)) (pss_one (ps_ret pe_int)) pss_nil)
      (pss_one (ps_ret (pe_ix ix_list (pv 1) (pe_op op_sub (pv 0) (pe_gi rfl T.bytes)) (fun _ _ => rfl))))), ?_⟩
    simp only [L2.start, List.map_cons, List.map_nil, List.length_cons, List.length_nil, List.reduceReplicate, List.replicate_zero, List.cons_append, List.nil_append, List.append_nil, Nat.reduceAdd, Nat.reduceSub, cx_K]
    walk_at "s47"
    split
    · next h =>
      have e : ((wide ls x : Nat) : Int) = 1 := by rw [wide_byte (by omega)]; rfl
      rw [e] at k
      exact k
    · next h =>
      have h2 := wide_rule (l := ls) (x := x) (by omega) hx
      exact ⟨_, _, hS, at_of (j := x - 256) (by omega) (vi_get (nums_get h2)), k⟩
theorem ok_cut {f : Addr} {fd : FuncData} (Df : DefAt K mg "cut" s_cut ["row", "level"] f fd) (T : Txt K mg C_Names C_Layers) (C_cut_alike : Callee P w K mg base "cut_alike" 1 ["row"] (sp_cut_alike K C_Names C_Layers)) (C_cut_slopes : Callee P w K mg base "cut_slopes" 1 ["row", "way"] (sp_cut_slopes K C_Names C_Layers)) : FnOk P w K mg base CX0 2 f fd ["row", "level"] (sp_cut K C_Names C_Layers) := by
  refine Df.fn.ok sc_cut (fun vs H Q E h => ?_) (fun cdv A outer s H vs Q E hr h => ?_)
  · obtain ⟨a, r, L, rfl, hbr, hr1, hr2, hrl, q⟩ := h
    rfl
  · obtain ⟨a, r, L, rfl, hbr, hr1, hr2, hrl, q⟩ := h
    refine ⟨_, (pss_cons (ps_set (i := 2) sc_cut.nd rfl (Or.inl rfl) (pe_op op_mod (pv 1) pe_int))
      (pss_cons (ps_if (pt_cmpR op_eq (pv 2) pe_int (nomark _)) (pss_one (ps_ret (pe_fn C_cut_alike hr rfl (pa_cons (pv 0) pa_nil)))) pss_nil)
      (pss_one (ps_ret (pe_fn C_cut_slopes hr rfl (pa_cons (pv 0) (pa_cons (pe_ifExp (pt_cmpR op_eq (pv 2) pe_int (nomark _)) pe_int (pe_un un_neg pe_int)) pa_nil))))))), ?_⟩
    simp only [L2.start, List.map_cons, List.map_nil, List.length_cons, List.length_nil, List.reduceReplicate, List.replicate_zero, List.cons_append, List.nil_append, List.append_nil, Nat.reduceAdd, Nat.reduceSub, cx_K]
    walk_at "s47"
    refine ⟨by decide, ?_⟩
    have em : (L : Int) % 3 = ((L % 3 : Nat) : Int) := by omega
    split
    · next h =>
      have h0 : L % 3 = 0 := by omega
      refine ⟨a, r, rfl, hbr, hr1, hrl, fun H' e s1 he hR => ?_⟩
      rw [B47.rl0 h0, B47.blk0 h0] at q
      exact q H' e s1 he hR
    · next h =>
      have h0 : L % 3 ≠ 0 := by omega
      have er : r = (r.map (·.1)).map fun n => (n, 1) := by
        rw [List.map_map]
        conv => lhs; rw [← List.map_id r]
        apply List.map_congr_left
        intro pr hp
        show pr = (pr.1, 1)
        rw [← hr2 h0 pr hp]
      have e2 : B47.xp r = r.map (·.1) := by
        rw [er, B47.xp_ones, ← er]
      rw [er] at hbr
      rw [e2] at q
      have hw := hrl
      rw [← List.length_map (f := fun pr : Pr => pr.1)] at hw
      split
      · next h2 => exact ⟨a, _, L, by rw [if_pos (by omega)], h0, hbr, hw, q⟩
      · next h2 => exact ⟨a, _, L, by rw [if_neg (by omega)], h0, hbr, hw, q⟩
theorem ok_pass_alike {f : Addr} {fd : FuncData} (Df : DefAt K mg "pass_alike" s_pass_alike ["first", "second"] f fd) (T : Txt K mg C_Names C_Layers) (C_take : Callee P w K mg base "take" 1 ["ahead", "times"] (sp_take K C_Names C_Layers)) : FnOk P w K mg base CX0 2 f fd ["first", "second"] (sp_pass_alike K C_Names C_Layers) := by
  refine Df.fn.ok sc_pass_alike (fun vs H Q E h => ?_) (fun cdv A outer s H vs Q E hr h => ?_)
  · obtain ⟨a, c, s1, s2, n1, t1, n2, t2, rfl, hac, hA, hC, hl1, hl2, q⟩ := h
    rfl
  · obtain ⟨a, c, s1, s2, n1, t1, n2, t2, rfl, hac, hA, hC, hl1, hl2, q⟩ := h
    refine ⟨_, (pss_cons (ps_set (i := 2) sc_pass_alike.nd rfl (Or.inl rfl) (pe_callB (c_min rfl) (by rfl) T.b_min (by decide +kernel) (pa_cons (pe_ix ix_tup (pe_ix ix_list (pv 0) (pe_un un_neg pe_int) (fun _ _ => rfl)) pe_int (fun _ _ => rfl)) (pa_cons (pe_ix ix_tup (pe_ix ix_list (pv 1) (pe_un un_neg pe_int) (fun _ _ => rfl)) pe_int (fun _ _ => rfl)) pa_nil))))
      (pss_cons (ps_expr (pe_fn C_take hr rfl (pa_cons (pv 0) (pa_cons (pv 2) pa_nil))))
      (pss_cons (ps_expr (pe_fn C_take hr rfl (pa_cons (pv 1) (pa_cons (pv 2) pa_nil))))
      (pss_one (ps_ret (pv 2)))))), ?_⟩
    simp only [L2.start, List.map_cons, List.map_nil, List.length_cons, List.length_nil, List.reduceReplicate, List.replicate_zero, List.cons_append, List.nil_append, List.append_nil, Nat.reduceAdd, Nat.reduceSub, cx_K]
    obtain ⟨ps, ha, hps⟩ := id hA
    obtain ⟨ps2, hc, hps2⟩ := id hC
    obtain ⟨qs, p, rfl, hqs, hp⟩ := hps.snoc
    obtain ⟨qs2, p2, rfl, hqs2, hp2⟩ := hps2.snoc
    rw [refs_last] at ha hc
    walk_at "s47"
    refine ⟨_, _, SqL.of ha, atI_last, ?_⟩
    walk_at "s47"
    refine ⟨_, _, SqT.of hp, at_of (j := 1) rfl rfl, ?_⟩
    walk_at "s47"
    refine ⟨_, _, SqL.of hc, atI_last, ?_⟩
    walk_at "s47"
    refine ⟨_, _, SqT.of hp2, at_of (j := 1) rfl rfl, ?_⟩
    walk_at "s47"
    have em : (if (t2 : Int) < (t1 : Int) then (t2 : Int) else (t1 : Int)) = ((min t1 t2 : Nat) : Int) := by
      split <;> omega
    rw [em]
    refine ⟨a, s1, n1, t1, min t1 t2, rfl, hA, hl1, fun H1 sm1 hA1 => ?_⟩
    walk_at "s47"
    refine ⟨c, s2, n2, t2, min t1 t2, rfl, hC.sm sm1 (by simp; exact blk_nt hA) (by simp; exact Ne.symm hac), hl2, fun H2 sm2 hC2 => ?_⟩
    walk_at "s47"
    exact q H2 ((sm1.mono (by simp)).trans (sm2.mono (by simp))) (hA1.sm sm2 (by simp; exact fun xs => blk_nt (hC.sm sm1 (by simp; exact blk_nt hA) (by simp; exact Ne.symm hac)) xs) (by simp; exact hac)) hC2
theorem ok_open_block {f : Addr} {fd : FuncData} (Df : DefAt K mg "open_block" s_open_block ["ahead", "names"] f fd) (T : Txt K mg C_Names C_Layers) (C_take : Callee P w K mg base "take" 1 ["ahead", "times"] (sp_take K C_Names C_Layers)) : FnOk P w K mg base CX0 2 f fd ["ahead", "names"] (sp_open_block K C_Names C_Layers) := by
  refine Df.fn.ok sc_open_block (fun vs H Q E h => ?_) (fun cdv A outer s H vs Q E hr h => ?_)
  · obtain ⟨a, o, d, p, z, tb, st, b, i, t, rfl, hA, hN, hao, hap, haz, hb, hlen, hl1, q⟩ := h
    rfl
  · obtain ⟨a, o, d, p, z, tb, st, b, i, t, rfl, hA, hN, hao, hap, haz, hb, hlen, hl1, q⟩ := h
    refine ⟨_, (pss_cons (ps_set (i := 2) sc_open_block.nd rfl (Or.inl rfl) (pe_ix ix_tup (pe_ix ix_list (pv 0) (pe_un un_neg pe_int) (fun _ _ => rfl)) pe_int (fun _ _ => rfl)))
      (pss_cons (ps_expr (pe_fn C_take hr rfl (pa_cons (pv 0) (pa_cons pe_int pa_nil))))
      (pss_one (ps_expr (pe_bm PySem.F.plainAttrs_list PySem.F.slot_list_extend PySem.F.type_list_extend mt_extend (pv 0) (pa_cons (pe_listRev rfl rfl T.b_list rfl T.b_reversed (pe_ix ix_list (pe_fld (pv 1) rfl) (pv 2) (fun _ _ => rfl))) pa_nil)))))), ?_⟩
    simp only [L2.start, List.map_cons, List.map_nil, List.length_cons, List.length_nil, List.reduceReplicate, List.replicate_zero, List.cons_append, List.nil_append, List.append_nil, Nat.reduceAdd, Nat.reduceSub, cx_K]
    obtain ⟨ps, ha, hps⟩ := id hA
    obtain ⟨qs, pp, rfl, hqs, hpp⟩ := hps.snoc
    rw [refs_last] at ha
    walk_at "s47"
    refine ⟨_, _, SqL.of ha, atI_last, ?_⟩
    walk_at "s47"
    refine ⟨_, _, SqT.of hpp, at_of (j := 0) rfl rfl, ?_⟩
    walk_at "s47"
    refine ⟨a, st, 256 + i, t, 1, rfl, hA, hl1, fun H1 sm1 hA1 => ?_⟩
    obtain ⟨ps1, ha1, hps1⟩ := id hA1
    obtain ⟨dx, hins⟩ := hN.ins
    obtain ⟨e, ks, he, hp, hks⟩ := hN.parts
    have hins1 := sm1 _ _ (by simp; exact Ne.symm hao) hins
    have hp1 := sm1 _ _ (by simp; exact Ne.symm hap) hp
    obtain ⟨c, hc, pc, hc1, hc2⟩ := hks.get hb
    have hca : c ≠ a := by rintro rfl; rw [ha] at hc1; cases hc1
    have hc3 := sm1 _ _ (by simp; exact hca) hc1
    have hc4 : PrsAt H1 pc b := hc2.sm sm1 (by simp; exact blk_nt hA)
    walk_at "s47"
    refine ⟨ty_list (SqL.of ha1), fld_of hins1 T.cl_Names T.n_parts rfl ?_⟩
    walk_at "s47"
    refine ⟨_, _, SqL.of hp1, at_of (j := 256 + i) rfl (by rw [List.getElem?_append_right (by simp), List.length_replicate, Nat.add_sub_cancel_left, List.getElem?_map, hc]; rfl), ?_⟩
    refine lr_of (σ := []) (.inr (SqT.of hc3)) fun r hr1 => ?_
    have har : a ≠ r := ne_of_none ha1 hr1
    have ha2 : (upd H1 r (.lst (pc.map V.ref).reverse)) a = some (.lst (ps1.map V.ref)) := by rw [upd_ne har]; exact ha1
    walk_at "s47"
    refine ext_of ha2 upd_same ?_ ?_
    · rw [List.length_reverse, List.length_map, List.length_map, hps1.len, hc4.len]
      exact Nat.le_of_lt (Nat.lt_of_lt_of_le hlen (by decide))
    have hr0 : H r = none := by
      cases e9 : H r with
      | none => rfl
      | some o9 =>
        have := sm1 _ _ (by simp; exact Ne.symm har) e9
        rw [hr1] at this
        cases this
    refine q _ ((sm1.new hr0).put (by simp)) ⟨ps1 ++ pc.reverse, by rw [upd_same, List.map_append, List.map_reverse], ?_⟩
    exact ((hps1.app hc4.rev).same (same_new hr1)).upd ha2
theorem ok_rule_lengths {f : Addr} {fd : FuncData} (Df : DefAt K mg "rule_lengths" s_rule_lengths ["k", "r"] f fd) (T : Txt K mg C_Names C_Layers) (C_thing_length : Callee P w K mg base "thing_length" 1 ["thing", "lengths"] (sp_thing_length K C_Names C_Layers)) : FnOk P w K mg base CX0 2 f fd ["k", "r"] (sp_rule_lengths K C_Names C_Layers) := by
  refine Df.fn.ok sc_rule_lengths (fun vs H Q E h => ?_) (fun cdv A outer s H vs Q E hr h => ?_)
  · obtain ⟨a, ns, n, rfl, hS, hF, hN, k⟩ := h
    rfl
  · obtain ⟨a, ns, n, rfl, hS, hF, hN, k⟩ := h
    refine ⟨_, (pss_cons (ps_set (i := 2) sc_rule_lengths.nd rfl (Or.inl rfl) (pe_lst pa_nil))
      (pss_cons (ps_for PassesOwn.never rfl (pi_range1 rfl T.b_range (pa_cons (pv 0) pa_nil)) (pg_name (i := 3) sc_rule_lengths.nd rfl (Or.inl rfl)) (pss_cons (ps_set (i := 4) sc_rule_lengths.nd rfl (Or.inl rfl) (pe_fn C_thing_length hr rfl (pa_cons (pe_ix ix_list (pv 1) (pe_op op_mul pe_int (pv 3)) (fun _ _ => rfl)) (pa_cons (pv 2) pa_nil))))
      (pss_cons (ps_set (i := 5) sc_rule_lengths.nd rfl (Or.inl rfl) (pe_fn C_thing_length hr rfl (pa_cons (pe_ix ix_list (pv 1) (pe_op op_add (pe_op op_mul pe_int (pv 3)) pe_int) (fun _ _ => rfl)) (pa_cons (pv 2) pa_nil))))
      (pss_one (ps_expr (pe_bm PySem.F.plainAttrs_list PySem.F.slot_list_append PySem.F.type_list_append mt_append (pv 2) (pa_cons (pe_op op_add (pv 4) (pv 5)) pa_nil)))))))
      (pss_one (ps_ret (pv 2))))), ?_⟩
    simp only [L2.start, List.map_cons, List.map_nil, List.length_cons, List.length_nil, List.reduceReplicate, List.replicate_zero, List.cons_append, List.nil_append, List.append_nil, Nat.reduceAdd, Nat.reduceSub, cx_K]
    walk_at "s47"
    refine ⟨Nat.zero_le _, fun p hp => ?_⟩
    have hn := hF.most
    have hrl := hF.rl
    refine ⟨by omega, by omega, range_by (fun i σ H' => ∃ v3 v4 v5 : Option V, σ = [some (.int (n : Int)), some (.ref a), some (.ref p), v3, v4, v5] ∧ Same H H' ∧ H' p = some (.lst (vi (nums (lengths ((rules ns).take i))))))
      ⟨none, none, none, rfl, fun b o e => by rw [upd_ne (ne_of_none e hp)]; exact e, upd_same⟩ ?_ ?_⟩
    · rintro i σ H' hi ⟨v3, v4, v5, rfl, s1, hp'⟩
      obtain ⟨x, y, ex, ey, exy⟩ := hF.at_ hi
      have hnm := hN i _ exy
      have hll : (lengths ((rules ns).take i)).length = i := by rw [lengths_len, List.length_take]; omega
      walk_at "s47"
      refine ⟨cm2, _, _, s1.seq hS, at_of (j := 2 * i) (by omega) (vi_get ex), ?_⟩
      walk_at "s47"
      refine ⟨x, p, _, rfl, SqL.of hp', by omega, ?_⟩
      walk_at "s47"
      refine ⟨cm2, _, _, s1.seq hS, at_of (j := 2 * i + 1) (by omega) (vi_get ey), ?_⟩
      walk_at "s47"
      refine ⟨y, p, _, rfl, SqL.of hp', by omega, ?_⟩
      walk_at "s47"
      refine ⟨ty_list (SqL.of hp'), _, hp', (by rw [List.length_map, nums_len, hll]; exact small1000 (by omega)), ?_⟩
      refine ⟨_, _, _, rfl, fun b o e => by rw [upd_ne (ne_of_none e hp)]; exact s1 b o e, ?_⟩
      rw [upd_same, take_snoc exy, lengths_snoc, nums_snoc]
      unfold vi
      rw [List.map_append]
      rfl
    · rintro σ H' ⟨v3, v4, v5, rfl, s1, hp'⟩
      change _ = some (HO.lst (vi (nums (lengths ((rules ns).take n))))) at hp'
      rw [← hrl, List.take_length] at hp'
      walk_at "s47"
      exact k H' p s1 hp hp'
theorem ok_joined_layers {f : Addr} {fd : FuncData} (Df : DefAt K mg "joined_layers" s_joined_layers ["left", "right", "names"] f fd) (T : Txt K mg C_Names C_Layers) (M_Names_name_of : MCallee P w K mg base C_Names "name_of" 1 ["self", "block"] (sp_Names_name_of K C_Names C_Layers)) (M_Layers___init__ : CCallee P w K mg base C_Layers 1 ["self", "fronts", "middle", "backs"] (sp_Layers___init__ K C_Names C_Layers)) (C_edge : Callee P w K mg base "edge" 1 ["blocks", "middle", "level"] (sp_edge K C_Names C_Layers)) (C_cut : Callee P w K mg base "cut" 2 ["row", "level"] (sp_cut K C_Names C_Layers)) : FnOk P w K mg base CX0 3 f fd ["left", "right", "names"] (sp_joined_layers K C_Names C_Layers) := by
  refine Df.fn.ok sc_joined_layers (fun vs H Q E h => ?_) (fun cdv A outer s H vs Q E hr h => ?_)
  · obtain ⟨a1, a2, o, d, p, z, tb, tx, ty, fr1, mi1, ba1, fr2, mi2, ba2, rfl, hN, hL1, hL2, hJ, q⟩ := h
    rfl
  · obtain ⟨a1, a2, o, d, p, z, tb, tx, ty, fr1, mi1, ba1, fr2, mi2, ba2, rfl, hN, hL1, hL2, hJ, q⟩ := h
    refine ⟨_, (pss_cons (ps_set (i := 3) sc_joined_layers.nd rfl (Or.inl rfl) (pe_lst pa_nil))
      (pss_cons (ps_set (i := 4) sc_joined_layers.nd rfl (Or.inl rfl) (pe_lst pa_nil))
      (pss_cons (ps_set (i := 5) sc_joined_layers.nd rfl (Or.inl rfl) (pe_lst pa_nil))
      (pss_cons (ps_set (i := 6) sc_joined_layers.nd rfl (Or.inl rfl) pe_int)
      (pss_one (ps_while PassesOwn.never (pt_val pe_bl) (pss_cons (ps_set (i := 7) sc_joined_layers.nd rfl (Or.inl rfl) (pe_op op_cat (pe_op op_cat (pe_fn C_edge hr rfl (pa_cons (pe_fld (pv 0) rfl) (pa_cons (pe_fld (pv 0) rfl) (pa_cons (pv 6) pa_nil)))) (pv 5)) (pe_fn C_edge hr rfl (pa_cons (pe_fld (pv 1) rfl) (pa_cons (pe_fld (pv 1) rfl) (pa_cons (pv 6) pa_nil))))))
      (pss_cons (ps_set (i := 8) sc_joined_layers.nd rfl (Or.inl rfl) (pe_fn C_cut hr rfl (pa_cons (pv 7) (pa_cons (pv 6) pa_nil))))
      (pss_cons (ps_set (i := 9) sc_joined_layers.nd rfl (Or.inl rfl) (pe_cmpR op_lt (pv 6) (pe_callB c_len (by rfl) T.b_len PySem.boot_len (pa_cons (pe_fld (pv 0) rfl) pa_nil)) (nomark _)))
      (pss_cons (ps_set (i := 10) sc_joined_layers.nd rfl (Or.inl rfl) (pe_cmpR op_lt (pv 6) (pe_callB c_len (by rfl) T.b_len PySem.boot_len (pa_cons (pe_fld (pv 1) rfl) pa_nil)) (nomark _)))
      (pss_cons (ps_if (PW.pt (pw_and (pt_cmpR op_lt (pe_callB c_len (by rfl) T.b_len PySem.boot_len (pa_cons (pv 8) pa_nil)) pe_int (nomark _)) (pw_and (pt_not (pt_val (pv 9))) (pw_and1 (pt_not (pt_val (pv 10))))))) (pss_one (ps_ret (pe_mk M_Layers___init__ hr rfl T.c_Layers (pa_cons (pv 3) (pa_cons (pe_ifExp (pt_tru (pv 8) (by intro _; rfl)) (pe_ix ix_list (pv 8) pe_int (fun _ _ => rfl)) (pe_lst pa_nil)) (pa_cons (pv 4) pa_nil)))))) pss_nil)
      (pss_cons (ps_expr (pe_bm PySem.F.plainAttrs_list PySem.F.slot_list_append PySem.F.type_list_append mt_append (pv 3) (pa_cons (pe_ifExp (pt_val (pv 9)) (pe_ix ix_list (pe_fld (pv 0) rfl) (pv 6) (fun _ _ => rfl)) (pe_bm PySem.F.plainAttrs_list PySem.F.slot_list_pop PySem.F.type_list_pop mt_popAt (pv 8) (pa_cons pe_int pa_nil))) pa_nil)))
      (pss_cons (ps_expr (pe_bm PySem.F.plainAttrs_list PySem.F.slot_list_append PySem.F.type_list_append mt_append (pv 4) (pa_cons (pe_ifExp (pt_val (pv 10)) (pe_ix ix_list (pe_fld (pv 1) rfl) (pv 6) (fun _ _ => rfl)) (pe_bm0 PySem.F.plainAttrs_list PySem.F.slot_list_pop PySem.F.type_list_pop mt_pop (pv 8))) pa_nil)))
      (pss_cons (ps_setLc (i := 5) (own := [("block", 11)]) rfl sc_joined_layers.nd rfl rfl (sw_true rfl rfl rfl rfl) (pi_list (pv 8)) (blkOk_by rfl) (fun _ _ _ _ _ => (pg_name (i := 11) sc_joined_layers.nd rfl (Or.inl rfl))) (fun _ _ _ _ _ => pts_nil) (fun _ _ _ _ _ => (pe_tup (pa_cons (pe_mt M_Names_name_of hr T.cl_Names (pv 2) (pa_cons (pv 11) pa_nil)) (pa_cons pe_int pa_nil)))))
      (pss_one (ps_aug (i := 6) sc_joined_layers.nd rfl (Or.inl rfl) pe_int ip_add)))))))))))))))), ?_⟩
    simp only [L2.start, List.map_cons, List.map_nil, List.length_cons, List.length_nil, List.reduceReplicate, List.replicate_zero, List.cons_append, List.nil_append, List.append_nil, Nat.reduceAdd, Nat.reduceSub, cx_K]
    walk_at "s47"
    refine ⟨Nat.zero_le _, fun F hF => ⟨Nat.zero_le _, fun G hG => ⟨Nat.zero_le _, fun X hX => ?_⟩⟩⟩
    have s0 : Same H (upd H F (.lst [])) := same_new hF
    have hG0 := s0.free hG
    have s00 : Same H (upd (upd H F (.lst [])) G (.lst [])) := same_upd s0 hG0
    have hX0 := s00.free hX
    have s000 : Same H (upd (upd (upd H F (.lst [])) G (.lst [])) X (.lst [])) := same_upd s00 hX0
    have hFG : F ≠ G := ne_of_none upd_same hG
    have hFX : F ≠ X := ne_of_none (by rw [upd_ne hFG]; exact upd_same) hX
    have hGX : G ≠ X := ne_of_none upd_same hX
    have hbx : ∀ c ∈ tx, c < 256 := fun c hc => hJ.bytes c (by simp [hc])
    have hby : ∀ c ∈ ty, c < 256 := fun c hc => hJ.bytes c (by simp [hc])
    walk_at "s47"
    refine while_go (jInv C_Names H a1 a2 o d p z F G tb tx ty) 310 ⟨0, [], fun _ => [], [], [], X, none, none, none, none, none, rfl, Same.sm s000, ?_, ?_, by simp, by omega, ?_, ?_, ?_, ?_, by simp, rfl⟩ ?_
    · rw [List.append_nil]; exact hN.same s000
    · rw [List.append_nil]; exact hJ.tab
    · exact ⟨[], by rw [upd_ne hFX, upd_ne hFG, upd_same]; rfl, .nil⟩
    · exact ⟨[], by rw [upd_ne hGX, upd_same]; rfl, .nil⟩
    · exact ⟨[], upd_same, .nil⟩
    · exact B47.jst_zero _ _ _
    rintro m σ H' ⟨L, e, bf, fs, bs, Xa, v7, v8, v9, v10, v11, rfl, sm, hN', hT', hel, hL309, hFs, hGs, hXb, hst, hnew, rfl⟩
    have hLA1 := hN.lays sm hL1
    have hLA2 := hN.lays sm hL2
    have lay1 := hJ.l1.ext e
    have lay2 := hJ.l2.ext e
    obtain ⟨dx1, f1, m1, b1, hi1, hf1, hm1, hb1⟩ := id hLA1
    obtain ⟨dx2, f2, m2, b2, hi2, hf2, hm2, hb2⟩ := id hLA2
    walk_at "s47"
    refine body_by ?_
    walk_at "s47"
    refine fld_of hi1 T.cl_Layers T.n_backs rfl ?_
    walk_at "s47"
    refine fld_of hi1 T.cl_Layers T.n_middle rfl ?_
    walk_at "s47"
    refine ⟨b1, m1, ba1, mi1, _, L, rfl, hb1, hm1, lay1.backE L, fun H1 ea s1 hea => ?_⟩
    walk_at "s47"
    obtain ⟨pa, hpa, hpa2⟩ := id hea
    obtain ⟨px, hpx, hpx2⟩ := id (hXb.same s1)
    have hle1 : (B47.blkE L (B47.lastP (B47.sg (tb ++ e) tx L))).length ≤ 2 ^ 16 := B47.edge_le (lay1.backE L) (fun b hb => hJ.s1 b (by simp [hb])) (hJ.s1 mi1 (by simp))
    have hle2 : (B47.blkE L (B47.firstP (B47.sg (tb ++ e) ty L))).length ≤ 2 ^ 16 := B47.edge_le (lay2.frontE L) (fun b hb => hJ.s2 b (by simp [hb])) (hJ.s2 mi2 (by simp))
    have hlb := (hst.short L (Nat.le_refl _)).le
    have hla := hpa2.len
    have hlx := hpx2.len
    rw [List.length_map] at hlx
    refine ⟨_, _, hpa, hpx, by rw [List.length_map, List.length_map, hla, hlx]; exact Nat.le_of_lt (small20 (by omega)), fun c1 hc1 => ?_⟩
    have s2 : Same H1 (upd H1 c1 (.lst (pa.map V.ref ++ px.map V.ref))) := same_new hc1
    have hc1b : (upd H1 c1 (.lst (pa.map V.ref ++ px.map V.ref))) c1 = some (.lst ((pa ++ px).map V.ref)) := by rw [upd_same, List.map_append]
    have hpr1 := (hpa2.app hpx2).same s2
    generalize upd H1 c1 (.lst (pa.map V.ref ++ px.map V.ref)) = H2 at *
    have s12 := s1.trans s2
    refine fld_of (s12 _ _ hi2) T.cl_Layers T.n_fronts rfl ?_
    walk_at "s47"
    refine fld_of (s12 _ _ hi2) T.cl_Layers T.n_middle rfl ?_
    walk_at "s47"
    refine ⟨f2, m2, fr2, mi2, _, L, rfl, hf2.same s12, hm2.same s12, lay2.frontE L, fun H3 eb s3 heb => ?_⟩
    walk_at "s47"
    obtain ⟨pb, hpb, hpb2⟩ := id heb
    have hlb2 := hpb2.len
    refine ⟨_, _, s3 _ _ hc1b, hpb, by rw [List.length_map, List.length_map, List.length_append, hla, hlx, hlb2]; exact Nat.le_of_lt (small20 (by omega)), fun c2 hc2 => ?_⟩
    have s4 : Same H3 (upd H3 c2 (.lst ((pa ++ px).map V.ref ++ pb.map V.ref))) := same_new hc2
    have hrow : BlkAt (upd H3 c2 (.lst ((pa ++ px).map V.ref ++ pb.map V.ref))) c2 (B47.jrow L (B47.lastP (B47.sg (tb ++ e) tx L)) (bf L) (B47.firstP (B47.sg (tb ++ e) ty L))) := ⟨pa ++ px ++ pb, by rw [upd_same]; simp, ((hpr1.same s3).app hpb2).same s4⟩
    generalize upd H3 c2 (.lst ((pa ++ px).map V.ref ++ pb.map V.ref)) = H4 at *
    have s14 := (s12.trans s3).trans s4
    refine ⟨c2, _, L, rfl, hrow, B47.jrow_pos, B47.jrow_one, by rw [B47.jrow_len]; omega, fun H5 B s5 hB hR => ?_⟩
    rw [B47.jrow_xp (B47.edge_chain1 _) (B47.edge_chain2 _)] at hR
    have hR : RowsAt H5 B ((B47.mids (tb ++ e) tx ty (bf L) L).map (B47.blkOf L)) := hR
    have s15 := s14.trans s5
    have hFs5 := hFs.same s15
    have hGs5 := hGs.same s15
    have hN5 := hN'.same s15
    have sm5 : Sm [d, p, z] H H5 := sm.trans (Same.sm s15)
    have hf15 := hf1.same s15
    have hb25 := hb2.same s15
    have hi15 := s15 _ _ hi1
    have hi25 := s15 _ _ hi2
    have hB1 : H' B = none := s14.free hB
    have hFB : F ≠ B := by
      obtain ⟨_, e9, _⟩ := id hFs
      exact ne_of_none e9 hB1
    have hGB : G ≠ B := by
      obtain ⟨_, e9, _⟩ := id hGs
      exact ne_of_none e9 hB1
    have hNn := hN'.some
    clear hrow hpr1 hc1b hpx hpx2 hpa hpa2 hpb hpb2 hea heb hFs hGs hN' hXb hi1 hi2 hf1 hf2 hb1 hb2 hm1 hm2 hLA1 hLA2
    obtain ⟨fas, hfa, hfs⟩ := id hf15
    obtain ⟨bas, hba, hbs⟩ := id hb25
    obtain ⟨as, hBa, hBs⟩ := id hR
    have hasl := hBs.len
    rw [List.length_map] at hasl
    have hfl := hfs.len
    have hbl := hbs.len
    walk_at "s47"
    refine fld_of hi15 T.cl_Layers T.n_fronts rfl ?_
    walk_at "s47"
    refine ⟨_, .inl (SqL.of hfa), ?_⟩
    rw [List.length_map, hfl]
    walk_at "s47"
    refine fld_of hi25 T.cl_Layers T.n_backs rfl ?_
    walk_at "s47"
    refine ⟨_, .inl (SqL.of hba), ?_⟩
    rw [List.length_map, hbl]
    walk_at "s47"
    refine ⟨_, .inl (SqL.of hBa), ?_⟩
    rw [List.length_map, hasl]
    walk_at "s47"
    have g1 := lay1.goes L
    have g2 := lay2.goes L
    rw [← lay2.len] at g2
    by_cases hfin : ((B47.mids (tb ++ e) tx ty (bf L) L).length : Int) < 2 ∧ ¬ (L : Int) < (fr1.length : Int) ∧ ¬ (L : Int) < (ba2.length : Int)
    · rw [if_pos hfin.1, if_pos hfin.2.1, if_pos hfin.2.2]
      obtain ⟨hlay, hrows⟩ := hst.done lay1 lay2 (by omega) (g1.mpr (by omega)) (g2.mpr (by omega))
      have hout : ∀ mi : Blk, B47.Lay (tb ++ e) (tx ++ ty) fs mi bs → JOut tb tx ty e (fun l => if l ≤ L then bf l else []) fs mi bs := fun mi hl => ⟨hT', by omega, hl, fun l => by
          by_cases c : l ≤ L
          · simp only [if_pos c]; exact (hst.short l c).le
          · simp only [if_neg c]; exact Nat.zero_le _, hrows, fun b hb => by
          obtain ⟨l, s, q1, _, q3, q4⟩ := hnew b hb
          exact ⟨l, s, q1, q3, q4⟩⟩
      have fin2 : ∀ (H6 : Hp) (mm : Addr) (mi : Blk), Same H5 H6 → BlkAt H6 mm mi → B47.Lay (tb ++ e) (tx ++ ty) fs mi bs → ∀ (x dx : Addr), H6 x = none → H6 dx = none → dx ≠ x → sp_Layers___init__ K C_Names C_Layers [V.ref x, V.ref F, V.ref mm, V.ref G] (upd (upd H6 dx (HO.own x)) x (HO.ins C_Layers dx [])) (fun v H2 => v = V.non ∧ Q (V.ref x) H2) E0 := by
        intro H6 mm mi s6 hmm hl x dx hx hdx hne
        refine ⟨x, dx, F, mm, G, rfl, upd_same, fun H7 sm7 h7 => ⟨rfl, ?_⟩⟩
        have s7 : Same H6 H7 := fun b o9 e9 => sm7 b o9 (by simp; exact ne_of_none e9 hx) (by rw [upd_ne (ne_of_none e9 hx), upd_ne (ne_of_none e9 hdx)]; exact e9)
        have s57 := s6.trans s7
        exact q H7 x e _ fs mi bs (sm5.trans (Same.sm s57)) (hN5.same s57) ⟨dx, F, mm, G, h7, hFs5.same s57, hmm.same s7, hGs5.same s57⟩ (hout mi hl)
      refine tru_list (SqL.of hBa) ?_
      cases hmm : B47.mids (tb ++ e) tx ty (bf L) L with
      | nil =>
        rw [hmm] at hBs hlay
        cases hBs
        simp only [List.map_nil, List.isEmpty_nil, Bool.not_true]
        walk_at "s47"
        refine ⟨Nat.zero_le _, fun p9 hp9 => ?_⟩
        exact fin2 _ p9 [] (same_new hp9) ⟨[], upd_same, .nil⟩ hlay
      | cons s m =>
        rw [hmm] at hBs hlay
        cases hBs with
        | @cons a9 _ as9 _ hb9 hr9 =>
        have e1 : (!(List.map V.ref (a9 :: as9)).isEmpty) = true := rfl
        rw [e1]
        walk_at "s47"
        refine ⟨_, _, SqL.of hBa, at_of (j := 0) rfl rfl, ?_⟩
        exact fin2 H5 a9 _ (Same.refl _) hb9 hlay
    refine three_if hfin ?_
    have hmore := hst.more (fun h => hfin ⟨by omega, by rw [g1] at h; omega, by rw [g2] at h; omega⟩)
    have hL : L < 309 := by
      by_cases c : L < 309
      · exact c
      · have e9 : L = 309 := by omega
        have hz := B47.row_end hT'.ok hJ.bytes (B47.known_le hst.known (by omega)) hJ.len
        rw [← e9] at hz
        unfold B47.sg at hmore
        rw [hz] at hmore
        exact absurd hmore (by rw [B47.seg_nil]; decide)
    have fne := hst.ne
    have mne : ∀ x ∈ (B47.mids (tb ++ e) tx ty (bf L) L).map (B47.blkOf L), x ≠ [] := by
      intro x hx
      obtain ⟨s, hs, rfl⟩ := List.mem_map.mp hx
      exact B47.blk_ne (B47.seg_ne _ s hs)
    have hFh : H F = none := hF
    have S0 : St3 C_Names H H5 o d p z (tb ++ e) F G B fs bs as ((B47.mids (tb ++ e) tx ty (bf L) L).map (B47.blkOf L)) := ⟨sm5, hN5, hFs5, hGs5, hBa, hBs, hF, hG0, hFG, hFB, hGB, fne.1, fne.2, mne⟩
    have hrl : (B47.goesOn (B47.sg (tb ++ e) tx L) (B47.sg (tb ++ e) ty L) (B47.mids (tb ++ e) tx ty (bf L) L)).length ≤ 23 := by
      have h1 := B47.goesOn_len (B47.sg (tb ++ e) tx L) (B47.sg (tb ++ e) ty L) (B47.mids (tb ++ e) tx ty (bf L) L)
      have h2 := (B47.short_next hT'.ok hJ.bytes hst.known (hst.rows L (Nat.le_refl _)) (hst.short L (Nat.le_refl _))).1
      exact Nat.le_trans h1 h2
    have fin : ∀ (H6 : Hp) (as6 : List Addr), St3 C_Names H H6 o d p z (tb ++ e) F G B (fs ++ [B47.blkOf L (B47.firstP (B47.sg (tb ++ e) (tx ++ ty) L))]) (bs ++ [B47.blkOf L (B47.lastP (B47.sg (tb ++ e) (tx ++ ty) L))]) as6 ((B47.goesOn (B47.sg (tb ++ e) tx L) (B47.sg (tb ++ e) ty L) (B47.mids (tb ++ e) tx ty (bf L) L)).map (B47.blkOf L)) →
        jRest K C_Names C_Layers H a1 a2 o d p z F G B Xa c2 tb tx ty L fr1.length ba2.length v11 H6 := by
      intro H6 as6 S6
      refine ⟨⟨_, SqL.of S6.b⟩, between_by S6.nm hT' S6.b S6.bb ?_ hrl (by rw [List.length_append]; have := hJ.room; omega) fun H7 D e2 sm7 hN7 hT7 he2 hD7 hk7 hnew7 => ?_⟩
      · intro s9 hs9
        have hm9 := B47.goes_mem hs9
        obtain ⟨q1, q2, q3, q4⟩ := B47.part_row (hst.mid hm9)
        have q5 := B47.mid_blk hle1 hle2 hm9
        have hlen9 := hJ.len
        refine ⟨q1, q2, fun n hn => B47.row_lt hJ.bytes hst.known L (Nat.le_refl _) n (q3 n hn), by omega, by omega⟩
      · exact j_next hJ hst hel hL hnew hmore hrl S6.sm S6.nm S6.f S6.g sm7 hN7 hT7 he2 hD7 hk7 hnew7
    have tyF : tyV K "list" (V.ref F) H5 := by
      obtain ⟨_, h9, _⟩ := id hFs5
      exact ty_list (SqL.of h9)
    have firstne := B47.blk_ne (L := L) (B47.part_ne (tb := tb ++ e) (t := tx ++ ty) (L := L) (by intro c; rw [c] at hmore; simp at hmore)).1
    have lastne := B47.blk_ne (L := L) (B47.part_ne (tb := tb ++ e) (t := tx ++ ty) (L := L) (by intro c; rw [c] at hmore; simp at hmore)).2
    have hBH : H B = none := by
      cases e9 : H B with
      | none => rfl
      | some o9 =>
        by_cases c9 : B ∈ [d, p, z]
        · obtain ⟨o8, e8⟩ := hN5.some B c9
          have h8 : H' B = none := hB1
          obtain ⟨o7, e7⟩ := hNn B c9
          rw [h8] at e7
          cases e7
        · have := sm B o9 c9 e9
          rw [hB1] at this
          cases this
    have backs : ∀ (H6 : Hp) (as6 : List Addr), St3 C_Names H H6 o d p z (tb ++ e) F G B (fs ++ [B47.blkOf L (B47.firstP (B47.sg (tb ++ e) (tx ++ ty) L))]) bs as6 ((if (B47.sg (tb ++ e) tx L).length < 2 then (B47.mids (tb ++ e) tx ty (bf L) L).tail else B47.mids (tb ++ e) tx ty (bf L) L).map (B47.blkOf L)) →
        tyV K "list" (V.ref G) H6 ∧ if (L : Int) < (ba2.length : Int) then wFld K "backs" (V.ref a2) H6 fun x H1 => rIxL K x (V.int (L : Int)) H1 fun x H1 => ∃ xs, H1 G = some (.lst xs) ∧ xs.length < sizeLine ∧ jRest K C_Names C_Layers H a1 a2 o d p z F G B Xa c2 tb tx ty L fr1.length ba2.length v11 (upd H1 G (.lst (xs ++ [x])))
          else tyV K "list" (V.ref B) H6 ∧ wPop B H6 fun x H1 => ∃ xs, H1 G = some (.lst xs) ∧ xs.length < sizeLine ∧ jRest K C_Names C_Layers H a1 a2 o d p z F G B Xa c2 tb tx ty L fr1.length ba2.length v11 (upd H1 G (.lst (xs ++ [x]))) := by
      intro H6 as6 S6
      have tyG : tyV K "list" (V.ref G) H6 := by
        obtain ⟨_, h9, _⟩ := id S6.g
        exact ty_list (SqL.of h9)
      refine ⟨tyG, ?_⟩
      by_cases cr : (L : Int) < (ba2.length : Int)
      · rw [if_pos cr]
        have hy2 : ¬ (B47.sg (tb ++ e) ty L).length < 2 := fun h => g2.mp h (by omega)
        obtain ⟨dx6, f6, m6, b6, hi6, _, _, ⟨bas6, hb6, hbs6⟩⟩ := hN.lays S6.sm hL2
        obtain ⟨cb, hcb, hcbb⟩ := hbs6.get (lay2.bas L (by rw [← lay2.len]; omega))
        refine fld_of hi6 T.cl_Layers T.n_backs rfl ?_
        walk_at "s47"
        refine ⟨_, _, SqL.of hb6, at_of (j := L) rfl (refs_get hcb), ?_⟩
        rw [← hst.last1 (by omega)] at hcbb
        obtain ⟨gas, hG6, hgl, S7⟩ := S6.pushG hcbb lastne
        refine ⟨_, hG6, by rw [hgl, hst.bl]; exact small1000 (by omega), ?_⟩
        exact fin _ as6 (by rw [B47.goes_all hy2]; exact S7)
      · rw [if_neg cr]
        have hy2 : (B47.sg (tb ++ e) ty L).length < 2 := g2.mpr (by omega)
        have hM : ∃ q9 s9 m9, (if (B47.sg (tb ++ e) tx L).length < 2 then (B47.mids (tb ++ e) tx ty (bf L) L).tail else B47.mids (tb ++ e) tx ty (bf L) L) = q9 ++ [s9] ∧ B47.mids (tb ++ e) tx ty (bf L) L = m9 ++ [s9] := by
          by_cases cx : (B47.sg (tb ++ e) tx L).length < 2
          · rw [if_pos cx]
            have h2 : 2 ≤ (B47.mids (tb ++ e) tx ty (bf L) L).length := by
              by_cases h : 2 ≤ (B47.mids (tb ++ e) tx ty (bf L) L).length
              · exact h
              · exact absurd ⟨by omega, by have := g1.mp cx; omega, cr⟩ hfin
            cases hm : B47.mids (tb ++ e) tx ty (bf L) L with
            | nil => rw [hm] at h2; simp at h2
            | cons a9 r9 =>
              rw [hm] at h2
              obtain ⟨q9, s9, rfl⟩ := snoc_of (ws := r9) (by rintro rfl; simp at h2)
              exact ⟨q9, s9, a9 :: q9, rfl, rfl⟩
          · rw [if_neg cx]
            obtain ⟨q9, s9, h9⟩ := snoc_of (B47.mids_ne (tb := tb ++ e) (tx := tx) (ty := ty) (b := bf L) (L := L) (.inl (by omega)))
            exact ⟨q9, s9, q9, h9, h9⟩
        obtain ⟨q9, s9, m9, hM9, hm9⟩ := hM
        have hbb := S6.bb
        have hbn := S6.bn
        rw [hM9, List.map_append] at hbb hbn
        obtain ⟨cs6, al6, rfl, hcs6, hal6⟩ := hbb.snoc
        have hB6 := S6.b
        rw [refs_last] at hB6
        refine ⟨ty_list (SqL.of hB6), pop_snoc hB6 ?_⟩
        obtain ⟨S7, hkeep⟩ := S6.setB hBH hcs6 (fun x hx => hbn x (by simp only [List.mem_append]; exact .inl hx))
        have hal7 := hkeep al6 _ hal6 (hbn _ (by simp))
        rw [← hst.last2 hy2 hm9] at hal7
        obtain ⟨gas, hG6, hgl, S8⟩ := S7.pushG hal7 lastne
        refine ⟨_, hG6, by rw [hgl, hst.bl]; exact small1000 (by omega), ?_⟩
        exact fin _ cs6 (by rw [B47.goes_cut hy2, hM9, List.dropLast_concat]; exact S8)
    refine ⟨tyF, ?_⟩
    by_cases cl : (L : Int) < (fr1.length : Int)
    · rw [if_pos cl]
      have hx2 : ¬ (B47.sg (tb ++ e) tx L).length < 2 := fun h => g1.mp h (by omega)
      refine fld_of hi15 T.cl_Layers T.n_fronts rfl ?_
      obtain ⟨cf, hcf, hcfb⟩ := hfs.get (lay1.frs L (by omega))
      walk_at "s47"
      refine ⟨_, _, SqL.of hfa, at_of (j := L) rfl (refs_get hcf), ?_⟩
      rw [← hst.first1 (by omega)] at hcfb
      obtain ⟨fas5, hF5, hfl5, S1⟩ := S0.pushF hcfb firstne
      refine ⟨_, hF5, by rw [hfl5, hst.fl]; exact small1000 (by omega), ?_⟩
      exact backs _ as (by rw [if_neg hx2]; exact S1)
    · rw [if_neg cl]
      have hx2 : (B47.sg (tb ++ e) tx L).length < 2 := g1.mpr (by omega)
      have hmne : B47.mids (tb ++ e) tx ty (bf L) L ≠ [] := by
        intro h0
        by_cases cr : (L : Int) < (ba2.length : Int)
        · exact B47.mids_ne (tb := tb ++ e) (tx := tx) (ty := ty) (b := bf L) (L := L) (.inr (by have := fun h => g2.mp h; omega)) h0
        · exact hfin ⟨by rw [h0]; simp, cl, cr⟩
      cases hm : B47.mids (tb ++ e) tx ty (bf L) L with
      | nil => exact absurd hm hmne
      | cons s9 r9 =>
      have hbb := S0.bb
      have hbn := S0.bn
      rw [hm, List.map_cons] at hbb hbn
      cases hbb with
      | @cons a9 _ as9 _ hb9 hr9 =>
      refine ⟨ty_list (SqL.of hBa), ?_⟩
      refine popat_of hBa ?_
      obtain ⟨S7, hkeep⟩ := S0.setB hBH hr9 (fun x hx => hbn x (List.mem_cons_of_mem _ hx))
      have hal7 := hkeep a9 _ hb9 (hbn _ (by simp))
      rw [← hst.first2 hx2 hm] at hal7
      obtain ⟨fas5, hF5, hfl5, S1⟩ := S7.pushF hal7 firstne
      refine ⟨_, hF5, by rw [hfl5, hst.fl]; exact small1000 (by omega), ?_⟩
      exact backs _ as9 (by rw [if_pos hx2, hm, List.tail_cons]; exact S1)
theorem ok_letters_alike {f : Addr} {fd : FuncData} (Df : DefAt K mg "letters_alike" s_letters_alike ["one", "other", "names"] f fd) (T : Txt K mg C_Names C_Layers) (C_pairs_ahead : Callee P w K mg base "pairs_ahead" 1 ["text"] (sp_pairs_ahead K C_Names C_Layers)) (C_pass_alike : Callee P w K mg base "pass_alike" 2 ["first", "second"] (sp_pass_alike K C_Names C_Layers)) (C_open_block : Callee P w K mg base "open_block" 2 ["ahead", "names"] (sp_open_block K C_Names C_Layers)) : FnOk P w K mg base CX0 3 f fd ["one", "other", "names"] (sp_letters_alike K C_Names C_Layers) := by
  refine Df.fn.ok sc_letters_alike (fun vs H Q E h => ?_) (fun cdv A outer s H vs Q E hr h => ?_)
  · obtain ⟨o1, o2, o, d, p, z, tb, fr1, mi1, ba1, fr2, mi2, ba2, P0, B, M0, rfl, hN, hL1, hL2, hT, hB, hbnd, hl1, hl2, hA1, hA2, q⟩ := h
    rfl
  · obtain ⟨o1, o2, o, d, p, z, tb, fr1, mi1, ba1, fr2, mi2, ba2, P0, B, M0, rfl, hN, hL1, hL2, hT, hB, hbnd, hl1, hl2, hA1, hA2, q⟩ := h
    refine ⟨_, (pss_cons (ps_set (i := 3) sc_letters_alike.nd rfl (Or.inl rfl) (pe_fn C_pairs_ahead hr rfl (pa_cons (pv 0) pa_nil)))
      (pss_cons (ps_set (i := 4) sc_letters_alike.nd rfl (Or.inl rfl) (pe_fn C_pairs_ahead hr rfl (pa_cons (pv 1) pa_nil)))
      (pss_cons (ps_set (i := 5) sc_letters_alike.nd rfl (Or.inl rfl) pe_int)
      (pss_cons (ps_while PassesOwn.never (PW.pt (pw_and (pt_tru (pv 3) (by intro _; rfl)) (pw_and1 (pt_tru (pv 4) (by intro _; rfl))))) (pss_cons (ps_set (i := 6) sc_letters_alike.nd rfl (Or.inl rfl) (pe_ix ix_list (pe_fld (pv 2) rfl) (pe_ix ix_tup (pe_ix ix_list (pv 3) (pe_un un_neg pe_int) (fun _ _ => rfl)) pe_int (fun _ _ => rfl)) (fun _ _ => rfl)))
      (pss_cons (ps_set (i := 7) sc_letters_alike.nd rfl (Or.inl rfl) (pe_ix ix_list (pe_fld (pv 2) rfl) (pe_ix ix_tup (pe_ix ix_list (pv 4) (pe_un un_neg pe_int) (fun _ _ => rfl)) pe_int (fun _ _ => rfl)) (fun _ _ => rfl)))
      (pss_one (ps_if (pt_cmpR op_eq (pe_ix ix_tup (pe_ix ix_list (pv 3) (pe_un un_neg pe_int) (fun _ _ => rfl)) pe_int (fun _ _ => rfl)) (pe_ix ix_tup (pe_ix ix_list (pv 4) (pe_un un_neg pe_int) (fun _ _ => rfl)) pe_int (fun _ _ => rfl)) (nomark _)) (pss_one (ps_aug (i := 5) sc_letters_alike.nd rfl (Or.inl rfl) (pe_op op_mul (pv 6) (pe_fn C_pass_alike hr rfl (pa_cons (pv 3) (pa_cons (pv 4) pa_nil)))) ip_add)) (pss_one (ps_if (PW.pt (pw_and (pt_cmpR op_eq (pv 6) pe_int (nomark _)) (pw_and1 (pt_cmpR op_eq (pv 7) pe_int (nomark _))))) (pss_one (ps_ret (pv 5))) (pss_one (ps_if (pt_cmpR op_ge (pv 6) (pv 7) (nomark _)) (pss_one (ps_expr (pe_fn C_open_block hr rfl (pa_cons (pv 3) (pa_cons (pv 2) pa_nil))))) (pss_one (ps_expr (pe_fn C_open_block hr rfl (pa_cons (pv 4) (pa_cons (pv 2) pa_nil))))))))))))))
      (pss_one (ps_ret (pv 5))))))), ?_⟩
    simp only [L2.start, List.map_cons, List.map_nil, List.length_cons, List.length_nil, List.reduceReplicate, List.replicate_zero, List.cons_append, List.nil_append, List.append_nil, Nat.reduceAdd, Nat.reduceSub, cx_K]
    walk_at "s47"
    refine ⟨o1, fr1, mi1, ba1, rfl, hL1, hl1, fun H1 A s1 hA0 hbA => ?_⟩
    walk_at "s47"
    refine ⟨o2, fr2, mi2, ba2, rfl, hL2.same s1, hl2, fun H2 C s2 hC0 hbC => ?_⟩
    walk_at "s47"
    have hAC : A ≠ C := by
      obtain ⟨_, e, _⟩ := id hbA
      exact ne_of_none e hC0
    have hbA2 := hbA.same s2
    have hC00 := s1.free hC0
    refine while_go (fun m σ H' => ∃ (st1 st2 : Blk) (l : Nat) (v6 v7 : Option V), σ = [some (.ref o1), some (.ref o2), some (.ref o), some (.ref A), some (.ref C), some (.int (l : Int)), v6, v7] ∧ Same H H' ∧ BlkAt H' A st1 ∧ BlkAt H' C st2 ∧ AheadOk tb P0 B M0 st1 ∧ AheadOk tb P0 B M0 st2 ∧
      Sz47.common (B47.btx tb (fr1.flatten ++ mi1 ++ ba1.reverse.flatten)) (B47.btx tb (fr2.flatten ++ mi2 ++ ba2.reverse.flatten)) = l + Sz47.common (B47.stx tb st1) (B47.stx tb st2) ∧ m = B47.mst tb st1 + B47.mst tb st2) _ ⟨_, _, 0, none, none, rfl, s1.trans s2, hbA2, hbC, hA1, hA2, ?_, rfl⟩ ?_
    · unfold B47.stx
      rw [List.reverse_reverse, List.reverse_reverse, Nat.zero_add]
    rintro m σ H' ⟨st1, st2, l, v6, v7, rfl, s3, hA, hC, hk1, hk2, hcom, rfl⟩
    obtain ⟨psA, haA, hpA⟩ := id hA
    obtain ⟨psC, haC, hpC⟩ := id hC
    walk_at "s47"
    refine tru_list (SqL.of haA) ?_
    by_cases hne1 : st1 = []
    · subst hne1
      cases hpA
      simp only [List.map_nil, List.isEmpty_nil, Bool.not_true]
      walk_at "s47"
      have h9 := q H' s3
      rw [hcom, show Sz47.common (B47.stx tb []) (B47.stx tb st2) = 0 from com_nil1, Nat.add_zero] at h9
      exact h9
    obtain ⟨u1, ⟨n1, t1⟩, rfl⟩ := snoc_of hne1
    obtain ⟨qA, a1, rfl, hqA, ha1⟩ := hpA.snoc
    have e1 : (!(List.map V.ref (qA ++ [a1])).isEmpty) = true := by rw [refs_last]; simp
    rw [e1]
    walk_at "s47"
    refine tru_list (SqL.of haC) ?_
    by_cases hne2 : st2 = []
    · subst hne2
      cases hpC
      simp only [List.map_nil, List.isEmpty_nil, Bool.not_true]
      walk_at "s47"
      have h9 := q H' s3
      rw [hcom, show Sz47.common (B47.stx tb (u1 ++ [(n1, t1)])) (B47.stx tb []) = 0 from com_nil2, Nat.add_zero] at h9
      exact h9
    obtain ⟨u2, ⟨n2, t2⟩, rfl⟩ := snoc_of hne2
    obtain ⟨qC, a2, rfl, hqC, ha2⟩ := hpC.snoc
    have e2 : (!(List.map V.ref (qC ++ [a2])).isEmpty) = true := by rw [refs_last]; simp
    rw [e2]
    rw [refs_last] at haA haC
    obtain ⟨ht1, hn1⟩ : 1 ≤ t1 ∧ n1 < 256 + tb.length := hk1.ok (n1, t1) (by simp)
    obtain ⟨ht2, hn2⟩ : 1 ≤ t2 ∧ n2 < 256 + tb.length := hk2.ok (n2, t2) (by simp)
    have hp1 := B47.ex_pos hT n1 hn1
    have hp2 := B47.ex_pos hT n2 hn2
    have hsz1 := hk1.sb.len
    have hsz2 := hk2.sb.len
    rw [List.length_append] at hsz1 hsz2
    simp only [List.length_singleton] at hsz1 hsz2
    have hN3 := hN.same s3
    obtain ⟨dx, hins⟩ := hN3.ins
    have hz := hN3.sizes
    have hAo : A ≠ o := by
      obtain ⟨_, e⟩ := hN.ins
      exact Ne.symm (ne_of_none e hA0)
    have hAp : A ≠ p := by
      obtain ⟨_, _, _, e, _⟩ := hN.parts
      exact Ne.symm (ne_of_none e hA0)
    have hAz : A ≠ z := Ne.symm (ne_of_none hN.sizes hA0)
    have hCo : C ≠ o := by
      obtain ⟨_, e⟩ := hN.ins
      exact Ne.symm (ne_of_none e hC00)
    have hCp : C ≠ p := by
      obtain ⟨_, _, _, e, _⟩ := hN.parts
      exact Ne.symm (ne_of_none e hC00)
    have hCz : C ≠ z := Ne.symm (ne_of_none hN.sizes hC00)
    have keep : ∀ (l : List Addr) (H4 : Hp), (∀ x ∈ l, H x = none) → Sm l H' H4 → Same H H4 := fun l H4 hl sm b o e => sm b o (fun hb => by rw [hl b hb] at e; cases e) (s3 b o e)
    walk_at "s47"
    refine body_by ?_
    walk_at "s47"
    refine fld_of hins T.cl_Names T.n_sizes rfl ?_
    walk_at "s47"
    refine ⟨_, _, SqL.of haA, atI_last, ?_⟩
    walk_at "s47"
    refine ⟨_, _, SqT.of ha1, at_of (j := 0) rfl rfl, ?_⟩
    walk_at "s47"
    refine ⟨_, _, SqL.of hz, at_of (j := n1) rfl (sizes_at hn1), ?_⟩
    walk_at "s47"
    refine fld_of hins T.cl_Names T.n_sizes rfl ?_
    walk_at "s47"
    refine ⟨_, _, SqL.of haC, atI_last, ?_⟩
    walk_at "s47"
    refine ⟨_, _, SqT.of ha2, at_of (j := 0) rfl rfl, ?_⟩
    walk_at "s47"
    refine ⟨_, _, SqL.of hz, at_of (j := n2) rfl (sizes_at hn2), ?_⟩
    walk_at "s47"
    refine ⟨_, _, SqL.of haA, atI_last, ?_⟩
    walk_at "s47"
    refine ⟨_, _, SqT.of ha1, at_of (j := 0) rfl rfl, ?_⟩
    walk_at "s47"
    refine ⟨_, _, SqL.of haC, atI_last, ?_⟩
    walk_at "s47"
    refine ⟨_, _, SqT.of ha2, at_of (j := 0) rfl rfl, ?_⟩
    walk_at "s47"
    split
    · next hnn =>
      have hnn : n1 = n2 := by omega
      subst hnn
      refine ⟨A, C, u1, u2, n1, t1, n1, t2, rfl, hAC, hA, hC, by omega, by omega, fun H4 sm4 hA4 hC4 => ?_⟩
      walk_at "s47"
      have hs := hk1.size
      refine ⟨.inl ⟨by omega, by omega⟩, _, ?_, _, _, l + (B47.ex tb n1).length * (min t1 t2), _, _, by rw [Int.natCast_add, Int.natCast_mul], keep [A, C] H4 (by simp [hA0, hC00]) sm4, hA4, hC4, hk1.less (by omega) (by omega), hk2.less (by omega) (by omega), ?_, rfl⟩
      · have h1 := B47.less_mst (tb := tb) (st := u1) (n := n1) (t := t1) (m := min t1 t2) (by omega)
        have h2 := B47.less_mst (tb := tb) (st := u2) (n := n1) (t := t2) (m := min t1 t2) (by omega)
        have h3 := B47.nd_pos hT.ok hn1
        have h4 : 1 ≤ min t1 t2 * B47.nd tb n1 := Nat.mul_pos (by omega) (by omega)
        omega
      · rw [hcom, B47.pass_common]
        omega
    · next hnn =>
      have hnn : n1 ≠ n2 := by omega
      have bound : ∀ (u : Blk) (n t : Nat), B47.SB tb P0 B M0 (u ++ [(n, t)]) → (B47.less u n t 1).length ≤ P0 + M0 * B := fun u n t h => (B47.less_sb h).len
      walk_at "s47"
      by_cases hone : ((B47.ex tb n1).length : Int) = 1 ∧ ((B47.ex tb n2).length : Int) = 1
      · rw [if_pos hone.1, if_pos hone.2]
        have c1 : n1 < 256 := by
          by_cases c : n1 < 256
          · exact c
          · have := hp1.2 c; omega
        have c2 : n2 < 256 := by
          by_cases c : n2 < 256
          · exact c
          · have := hp2.2 c; omega
        have h9 := q H' s3
        rw [hcom, B47.part_common c1 c2 hnn ht1 ht2, Nat.add_zero] at h9
        exact h9
      refine two_if hone ?_
      split
      · next hle =>
        have c1 : ¬ n1 < 256 := fun c => by
          have e := congrArg List.length (B47.ex_byte (tb := tb) c)
          simp only [List.length_singleton] at e
          omega
        obtain ⟨i, rfl⟩ : ∃ i, n1 = 256 + i := ⟨n1 - 256, by omega⟩
        obtain ⟨b, hb⟩ : ∃ b, tb[i]? = some b := ⟨_, List.getElem?_eq_getElem (by omega)⟩
        have hbl := hB b (List.mem_of_getElem? hb)
        have hbd := bound u1 _ _ hk1.sb
        refine ⟨A, o, d, p, z, tb, u1, b, i, t1, rfl, hA, hN3, hAo, hAp, hAz, hb, by omega, by omega, fun H4 sm4 hA4 => ?_⟩
        refine ⟨_, ?_, _, _, l, _, _, rfl, keep [A] H4 (by simp [hA0]) sm4, hA4, hC.sm sm4 (by simp; exact blk_nt hA) (by simp; exact Ne.symm hAC), hk1.opn hT hb hbl ht1, hk2, ?_, rfl⟩
        · have := B47.open_mst hT.ok hb ht1 (st := u1)
          omega
        · rw [hcom, B47.open_tx hT.ok hb ht1]
      · next hle =>
        have c1 : ¬ n2 < 256 := fun c => by
          have e := congrArg List.length (B47.ex_byte (tb := tb) c)
          simp only [List.length_singleton] at e
          omega
        obtain ⟨i, rfl⟩ : ∃ i, n2 = 256 + i := ⟨n2 - 256, by omega⟩
        obtain ⟨b, hb⟩ : ∃ b, tb[i]? = some b := ⟨_, List.getElem?_eq_getElem (by omega)⟩
        have hbl := hB b (List.mem_of_getElem? hb)
        have hbd := bound u2 _ _ hk2.sb
        refine ⟨C, o, d, p, z, tb, u2, b, i, t2, rfl, hC, hN3, hCo, hCp, hCz, hb, by omega, by omega, fun H4 sm4 hA4 => ?_⟩
        refine ⟨_, ?_, _, _, l, _, _, rfl, keep [C] H4 (by simp [hC00]) sm4, hA.sm sm4 (by simp; exact blk_nt hC) (by simp; exact hAC), hA4, hk1, hk2.opn hT hb hbl ht2, ?_, rfl⟩
        · have := B47.open_mst hT.ok hb ht2 (st := u2)
          omega
        · rw [hcom, B47.open_tx hT.ok hb ht2]
theorem ok_text_length {f : Addr} {fd : FuncData} (Df : DefAt K mg "text_length" s_text_length ["k", "r"] f fd) (T : Txt K mg C_Names C_Layers) (C_rule_lengths : Callee P w K mg base "rule_lengths" 2 ["k", "r"] (sp_rule_lengths K C_Names C_Layers)) : FnOk P w K mg base CX0 3 f fd ["k", "r"] (sp_text_length K C_Names C_Layers) := by
  refine Df.fn.ok sc_text_length (fun vs H Q E h => ?_) (fun cdv A outer s H vs Q E hr h => ?_)
  · obtain ⟨a, ns, n, rfl, hS, hF, hN, k⟩ := h
    rfl
  · obtain ⟨a, ns, n, rfl, hS, hF, hN, k⟩ := h
    refine ⟨_, (pss_one (ps_ret (pe_ix ix_list (pe_fn C_rule_lengths hr rfl (pa_cons (pv 0) (pa_cons (pv 1) pa_nil))) (pe_op op_sub (pv 0) pe_int) (fun _ _ => rfl)))), ?_⟩
    simp only [L2.start, List.map_cons, List.map_nil, List.length_cons, List.length_nil, List.reduceReplicate, List.replicate_zero, List.cons_append, List.nil_append, List.append_nil, Nat.reduceAdd, Nat.reduceSub, cx_K]
    have h1 := hF.pos
    walk_at "s47"
    refine ⟨a, ns, n, rfl, hS, hF, hN, fun H' p s1 hp0 hp => ?_⟩
    walk_at "s47"
    exact ⟨_, _, SqL.of hp, at_of (j := n - 1) (by show ((n : Nat) : Int) - 1 = ((n - 1 : Nat) : Int); omega) (vi_get (nums_get (length_last hF.rl h1))), k H' s1⟩
theorem ok_text_layers {f : Addr} {fd : FuncData} (Df : DefAt K mg "text_layers" s_text_layers ["k", "r", "names"] f fd) (T : Txt K mg C_Names C_Layers) (M_Layers___init__ : CCallee P w K mg base C_Layers 1 ["self", "fronts", "middle", "backs"] (sp_Layers___init__ K C_Names C_Layers)) (C_things_reached : Callee P w K mg base "things_reached" 1 ["k", "r"] (sp_things_reached K C_Names C_Layers)) (C_joined_layers : Callee P w K mg base "joined_layers" 3 ["left", "right", "names"] (sp_joined_layers K C_Names C_Layers)) : FnOk P w K mg base CX0 4 f fd ["k", "r", "names"] (sp_text_layers K C_Names C_Layers) := by
  refine Df.fn.ok sc_text_layers (fun vs H Q E h => ?_) (fun cdv A outer s H vs Q E hr h => ?_)
  · obtain ⟨H0, ar, o, d, p, z, ns, n, tb, ts, u, j, rfl, hS, sH0, hd0, hp0, hz0, hF, hN, hlen, hNm, hU, hj, q⟩ := h
    rfl
  · obtain ⟨H0, ar, o, d, p, z, ns, n, tb, ts, u, j, rfl, hS, sH0, hd0, hp0, hz0, hF, hN, hlen, hNm, hU, hj, q⟩ := h
    have hu := hu_of hr
    refine ⟨_, (pss_cons (ps_set (i := 3) sc_text_layers.nd rfl (Or.inl rfl) pe_dnewK)
      (pss_cons (ps_for PassesOwn.never rfl (pi_list (pe_fn C_things_reached hr rfl (pa_cons (pv 0) (pa_cons (pv 1) pa_nil)))) (pg_name (i := 4) sc_text_layers.nd rfl (Or.inl rfl)) (pss_one (ps_if (pt_cmpR op_lt (pv 4) (pe_gi rfl T.bytes) (nomark _)) (pss_one (ps_dput hu (pv 3) (pv 4) (pe_mk M_Layers___init__ hr rfl T.c_Layers (pa_cons (pe_lst pa_nil) (pa_cons (pe_lst (pa_cons (pe_tup (pa_cons (pv 4) (pa_cons pe_int pa_nil))) pa_nil)) (pa_cons (pe_lst pa_nil) pa_nil)))) rfl)) (pss_cons (ps_set (i := 5) sc_text_layers.nd rfl (Or.inl rfl) (pe_op op_mul pe_int (pe_op op_sub (pv 4) (pe_gi rfl T.bytes))))
      (pss_one (ps_dput hu (pv 3) (pv 4) (pe_fn C_joined_layers hr rfl (pa_cons (pe_dget hu (pv 3) (pe_ix ix_list (pv 1) (pv 5) (fun _ _ => rfl)) (fun _ _ => rfl)) (pa_cons (pe_dget hu (pv 3) (pe_ix ix_list (pv 1) (pe_op op_add (pv 5) pe_int) (fun _ _ => rfl)) (fun _ _ => rfl)) (pa_cons (pv 2) pa_nil)))) rfl))))))
      (pss_one (ps_ret (pe_dget hu (pv 3) (pe_op op_sub (pe_op op_add (pe_gi rfl T.bytes) (pv 0)) pe_int) (fun _ _ => rfl)))))), ?_⟩
    simp only [L2.start, List.map_cons, List.map_nil, List.length_cons, List.length_nil, List.reduceReplicate, List.replicate_zero, List.cons_append, List.nil_append, List.append_nil, Nat.reduceAdd, Nat.reduceSub, cx_K]
    have hn := hF.most
    have hn1 := hF.pos
    have hrl := hF.rl
    walk_at "s47"
    intro M hM
    have sM : Same H (upd H M (.dK [])) := same_new hM
    walk_at "s47"
    refine ⟨ar, ns, n, rfl, (sH0.trans sM).seq hS, hF, hN, fun H1 lw ws9 s1 hlw0 hlw hR => ?_⟩
    have sH1 := sM.trans s1
    have hMlw : M ≠ lw := ne_of_none upd_same hlw0
    walk_at "s47"
    refine ⟨⟨_, SqL.of hlw⟩, list_by (xs := vi (nums ws9)) (tlInv C_Names C_Layers H ar o d p z M lw ns n ws9 tb ts j) ?_ ?_ ?_ ?_⟩
    · refine ⟨[], ts, u, j, [], none, none, rfl, Same.sm sH1, by rw [List.append_nil]; exact hNm.same sH1, by rw [List.append_nil]; exact hU, s1 _ _ upd_same, Nat.le_refl _, hlw, fun t ht => ht, by omega, fun x _ hx => by omega, by simp⟩
    · rintro i σ H' - ⟨e, ts', u', j', kvs, v4, v5, rfl, sm, hN', hU', hM', hkl, hlw', -⟩
      exact SqL.of hlw'
    · rintro i x9 σ H' hx9 ⟨e, ts', u', j', kvs, v4, v5, rfl, sm, hN', hU', hM', hkl, hlw', hts, hjn, hjx, hhas⟩
      obtain ⟨x, hx, rfl⟩ : ∃ x : Nat, ws9[i]? = some x ∧ x9 = .int (x : Int) := by
        unfold vi nums at hx9
        rw [List.map_map, List.getElem?_map] at hx9
        cases e9 : ws9[i]? with
        | none => rw [e9] at hx9; cases hx9
        | some x => rw [e9] at hx9; exact ⟨x, rfl, (Option.some.inj hx9).symm⟩
      have hxm := List.mem_of_getElem? hx
      have hxlow := hR.low x hxm
      have hxlen := hR.len x hxm
      have hi512 : i < ws9.length := (List.getElem?_eq_some_iff.mp hx).1
      have hwl := reach_len hR
      have et := take_snoc hx
      have ed : ∀ y ∈ ws9.drop (i + 1), y ∈ ws9.drop i ∧ x < y := fun y hy => reach_after hR.up hx hy
      have s0' : Same H0 H' := fun b o9 e9 => sm b o9 (by
        simp only [List.mem_cons, List.not_mem_nil, or_false, not_or]
        exact ⟨ne_of_none e9 hd0, ne_of_none e9 hp0, ne_of_none e9 hz0⟩) (sH0 b o9 e9)
      have put : ∀ (H2 : Hp) (res : Addr) (e2 : List Blk) (ts2 : List (List Nat)) (u2 : Nat → List Nat) (j2 : Nat) (fr : List Blk) (mi : Blk) (ba : List Blk) (w5 : Option V), Sm [d, p, z] H' H2 → NamesAt C_Names H2 o d p z (tb ++ e ++ e2) → US (tb ++ e ++ e2) ts2 u2 j2 → (∀ t ∈ ts', t ∈ ts2) → j2 ≤ j + n → (∀ y ∈ ws9.drop (i + 1), 256 ≤ y → j2 + 256 ≤ j + y) → Sz47.made (Sz47.each (rules ns)) x ∈ ts2 → B47.Lay (tb ++ e ++ e2) (Sz47.made (Sz47.each (rules ns)) x) fr mi ba → LaysAt C_Layers H2 res fr mi ba →
          tlInv C_Names C_Layers H ar o d p z M lw ns n ws9 tb ts j (i + 1) [some (.int (n : Int)), some (.ref ar), some (.ref o), some (.ref M), some (.int (x : Int)), w5] (upd H2 M (.dK (putK kvs (Sum.inl (x : Int)) (.ref res)))) := by
        intro H2 res e2 ts2 u2 j2 fr mi ba w5 sm2 hN2 hU2 hts2 hj2 hjx2 hin2 hlay2 hla2
        have hM2 : H2 M = some (.dK kvs) := sm2 _ _ (dk_ne hN' hM') hM'
        have keep : ∀ {a : Addr} {fr : List Blk} {mi : Blk} {ba : List Blk}, LaysAt C_Layers H2 a fr mi ba → LaysAt C_Layers (upd H2 M (.dK (putK kvs (Sum.inl (x : Int)) (.ref res)))) a fr mi ba := fun h => lays_dk h hM2
        have hlw2 : H2 lw = some (.lst (vi (nums ws9))) := sm2 _ _ (fun hm => by
          have hlwH : H lw = none := sM.free hlw0
          obtain ⟨o8, e8⟩ := hNm.some lw hm
          rw [hlwH] at e8
          cases e8) hlw'
        refine ⟨e ++ e2, ts2, u2, j2, _, _, _, rfl, Sm.new (sm.trans sm2) hM, ?_, by rw [← List.append_assoc]; exact hU2, upd_same, ?_, by rw [upd_ne (Ne.symm hMlw)]; exact hlw2, fun t ht => hts2 t (hts t ht), hj2, hjx2, ?_⟩
        · rw [← List.append_assoc]
          exact names_dk hN2 hM2
        · have := length_putK kvs (Sum.inl (x : Int)) (V.ref res)
          omega
        · intro y hy
          rw [← List.append_assoc]
          by_cases c : y = x
          · subst c
            exact ⟨hin2, res, fr, mi, ba, by rw [valV_put, if_pos rfl], keep hla2, hlay2⟩
          · rw [et] at hy
            have hy2 : y ∈ ws9.take i := by
              rcases List.mem_append.mp hy with h | h
              · exact h
              · rw [List.mem_singleton] at h; exact absurd h c
            obtain ⟨g1, a, fr', mi', ba', g2, g3, g4⟩ := hhas y hy2
            exact ⟨hts2 _ g1, a, fr', mi', ba', by rw [valV_put, if_neg (fun h => c (key_ne.mp h))]; exact g2, keep (hN'.lays sm2 g3), g4.ext e2⟩
      walk_at "s47"
      split
      · next hb =>
        have hxb : x < 256 := by omega
        refine ⟨Nat.zero_le _, fun F hFn => ⟨by show 2 ≤ sizeLine; decide, fun T9 hT9 => ⟨by show 1 ≤ sizeLine; decide, fun m9 hm9 => ⟨Nat.zero_le _, fun G hGn => fun r9 dx hr9 hdx hne => ?_⟩⟩⟩⟩
        refine ⟨r9, dx, F, m9, G, rfl, upd_same, fun H7 sm7 h7 => ⟨rfl, ?_⟩⟩
        have hFT : F ≠ T9 := ne_of_none upd_same hT9
        have q1 := same_new (o := .lst []) hFn
        have q2 := same_new (o := .tup [.int (x : Int), .int 1]) hT9
        have q3 := same_new (o := .lst [.ref T9]) hm9
        have q4 := same_new (o := .lst []) hGn
        have q14 := ((q1.trans q2).trans q3).trans q4
        have q5 := Same.made (H1 := H7) hr9 hdx (fun b o9 e9 hb9 => sm7 b o9 (by simp; exact hb9) e9)
        have q15 := q14.trans q5
        have hla : LaysAt C_Layers H7 r9 [] [(x, 1)] [] := ⟨dx, F, m9, G, h7, ⟨[], (((q2.trans q3).trans q4).trans q5) _ _ upd_same, .nil⟩, ⟨[T9], (q4.trans q5) _ _ upd_same, .cons (((q3.trans q4).trans q5) _ _ upd_same) .nil⟩, ⟨[], q5 _ _ upd_same, .nil⟩⟩
        have em : Sz47.made (Sz47.each (rules ns)) x = [x] := made_byte hxb
        refine dput_i (q15 _ _ hM') (small1000 (by omega)) ?_
        refine put H7 r9 [] ts' u' j' [] [(x, 1)] [] _ (Same.sm q15) (by rw [List.append_nil]; exact hN'.same q15) (by rw [List.append_nil]; exact hU') (fun t ht => ht) hjn (fun y hy hy2 => hjx y (ed y hy).1 hy2) (by rw [em]; exact hU'.bytes x hxb) ?_ hla
        rw [em, List.append_nil]
        exact B47.lay_byte _ hxb
      · next hb =>
        obtain ⟨x1, y1, i1, rfl, hi1, ex, ey, exy⟩ := rule_at (x := x) hF (by omega) (by omega)
        have hnm : x1 < 256 + i1 ∧ y1 < 256 + i1 := hN i1 _ exy
        have hm := made_rule hN exy
        obtain ⟨hs1, hs2⟩ := hR.shut i1 _ hxm exy
        have before : ∀ y ∈ ws9, y < 256 + i1 → y ∈ ws9.take i := fun y hy hlt => reach_before hR.up hx hy hlt
        obtain ⟨g1, b1, fr1, mi1, ba1, g2, g3, g4⟩ := hhas x1 (before x1 hs1 hnm.1)
        obtain ⟨k1, b2, fr2, mi2, ba2, k2, k3, k4⟩ := hhas y1 (before y1 hs2 hnm.2)
        have hbx := made_bytes hN x1 (by omega)
        have hby := made_bytes hN y1 (by omega)
        rw [hm] at hxlen
        have hjj := hjx (256 + i1) (List.mem_iff_getElem?.mpr ⟨0, by rw [List.getElem?_drop]; exact hx⟩) (by omega)
        have hul := hU'.len
        have hu2 := hU'.uni
        have sh1 := B47.lay_short hu2 g1 g4
        have sh2 := B47.lay_short hu2 k1 k4
        have ep : (2 : Int) * (((256 + i1 : Nat) : Int) - 256) = ((2 * i1 : Nat) : Int) := by omega
        walk_at "s47"
        refine ⟨cm2, ?_⟩
        rw [ep]
        refine ⟨_, _, s0'.seq hS, at_of (j := 2 * i1) rfl (vi_get ex), ?_⟩
        refine dget_i hM' g2 ?_
        walk_at "s47"
        refine ⟨_, _, s0'.seq hS, at_of (j := 2 * i1 + 1) (by omega) (vi_get ey), ?_⟩
        refine dget_i hM' k2 ?_
        walk_at "s47"
        refine ⟨b1, b2, o, d, p, z, tb ++ e, _, _, fr1, mi1, ba1, fr2, mi2, ba2, rfl, hN', g3, k3, ⟨hU'.tab, g4, k4, ?_, ?_, by omega, ?_, ?_⟩, fun H2 res e2 bf fr mi ba sm2 hN2 hla2 hout => ?_⟩
        · intro c hc
          rcases List.mem_append.mp hc with h | h
          · exact hbx c h
          · exact hby c h
        · exact Nat.lt_of_le_of_lt hxlen hlen
        · intro b hb9
          rcases List.mem_append.mp hb9 with h | h
          · rcases List.mem_append.mp h with h | h
            · have := sh1.1 b h; omega
            · have := sh1.2.2 b h; omega
          · rw [List.mem_singleton] at h
            have := sh1.2.1
            rw [h]
            omega
        · intro b hb9
          rcases List.mem_append.mp hb9 with h | h
          · rcases List.mem_append.mp h with h | h
            · have := sh2.1 b h; omega
            · have := sh2.2.2 b h; omega
          · rw [List.mem_singleton] at h
            have := sh2.2.1
            rw [h]
            omega
        walk_at "s47"
        refine dput_i (sm2 _ _ (dk_ne hN' hM') hM') (small1000 (by omega)) ?_
        refine put H2 res e2 _ _ _ fr mi ba _ sm2 hN2 (hU'.join g1 k1 hout) (fun t ht => List.mem_cons_of_mem _ ht) (by omega) (fun y hy hy2 => by have := (ed y hy).2; omega) ?_ ?_ hla2
        · rw [hm]; exact List.mem_cons_self ..
        · rw [hm]; exact hout.lay
    · rintro σ H' ⟨e, ts', u', j', kvs, v4, v5, rfl, sm, hN', hU', hM', hkl, hlw', hts, hjn, hjx, hhas⟩
      have e8 : (vi (nums ws9)).length = ws9.length := vin_len
      rw [e8, List.take_length] at hhas
      obtain ⟨g1, a, fr, mi, ba, g2, g3, g4⟩ := hhas (255 + n) hR.top
      rw [← text_last hrl hn1] at g1 g4
      walk_at "s47"
      have ek : (256 : Int) + (n : Int) - 1 = ((255 + n : Nat) : Int) := by omega
      rw [ek]
      refine dget_i hM' g2 ?_
      exact q H' a e ts' u' j' fr mi ba sm hN' hU' hjn hts g1 g4 g3
theorem ok_list_refusal {f : Addr} {fd : FuncData} (Df : DefAt K mg "list_refusal" s_list_refusal ["k", "r"] f fd) (T : Txt K mg C_Names C_Layers) (C_names_allowed : Callee P w K mg base "names_allowed" 1 ["k", "r"] (sp_names_allowed K C_Names C_Layers)) (C_text_length : Callee P w K mg base "text_length" 3 ["k", "r"] (sp_text_length K C_Names C_Layers)) : FnOk P w K mg base CX0 4 f fd ["k", "r"] (sp_list_refusal K C_Names C_Layers) := by
  refine Df.fn.ok sc_list_refusal (fun vs H Q E h => ?_) (fun cdv A outer s H vs Q E hr h => ?_)
  · obtain ⟨a, ns, k, rfl, hS, hA, q⟩ := h
    rfl
  · obtain ⟨a, ns, k, rfl, hS, hA, q⟩ := h
    refine ⟨_, (pss_cons (ps_if (PW.pt (pw_or (pt_cmpR op_lt (pv 0) pe_int (nomark _)) (pw_or (pt_cmpR op_gt (pv 0) (pe_gi rfl T.most_rules) (nomark _)) (pw_or1 (pt_not (pt_val (pe_fn C_names_allowed hr rfl (pa_cons (pv 0) (pa_cons (pv 1) pa_nil))))))))) (pss_one (ps_ret (pe_gi rfl T.bad_list))) pss_nil)
      (pss_cons (ps_if (pt_cmpR op_ge (pe_fn C_text_length hr rfl (pa_cons (pv 0) (pa_cons (pv 1) pa_nil))) (pe_gi rfl T.too_long) (nomark _)) (pss_one (ps_ret (pe_gi rfl T.long_text))) pss_nil)
      (pss_one (ps_ret pe_int)))), ?_⟩
    simp only [L2.start, List.map_cons, List.map_nil, List.length_cons, List.length_nil, List.reduceReplicate, List.replicate_zero, List.cons_append, List.nil_append, List.append_nil, Nat.reduceAdd, Nat.reduceSub, cx_K]
    have s0 : Same H H := Same.refl H
    walk_at "s47"
    split
    · next h1 =>
      have e := q H s0
      rw [sound_count (by omega)] at e
      exact e
    · next h1 =>
      split
      · next h3 =>
        have e := q H s0
        rw [sound_count (by omega)] at e
        exact e
      · next h3 =>
        obtain ⟨n, hF⟩ := hA.fit ⟨by omega, by omega⟩
        have hk := hF.k
        subst hk
        refine ⟨a, ns, n, rfl, hS, hF, ?_⟩
        walk_at "s47"
        cases hB : namesB (rules ns) with
        | false =>
          have e := q H s0
          rw [sound_names hB] at e
          exact e
        | true =>
          have hN := (namesB_iff _).mp hB
          walk_at "s47"
          refine ⟨a, ns, n, rfl, hS, hF, hN, fun H' s1 => ?_⟩
          walk_at "s47"
          split
          · next h5 =>
            have e := q H' s1
            rw [sound_rest ⟨by omega, by omega⟩ hB, if_pos h5] at e
            exact e
          · next h5 =>
            have e := q H' s1
            rw [sound_rest ⟨by omega, by omega⟩ hB, if_neg h5] at e
            exact e
theorem ok_same {f : Addr} {fd : FuncData} (Df : DefAt K mg "same" s_same ["k", "r", "j", "s"] f fd) (T : Txt K mg C_Names C_Layers) (M_Names___init__ : CCallee P w K mg base C_Names 1 ["self"] (sp_Names___init__ K C_Names C_Layers)) (C_text_layers : Callee P w K mg base "text_layers" 4 ["k", "r", "names"] (sp_text_layers K C_Names C_Layers)) (C_letters_alike : Callee P w K mg base "letters_alike" 3 ["one", "other", "names"] (sp_letters_alike K C_Names C_Layers)) (C_list_refusal : Callee P w K mg base "list_refusal" 4 ["k", "r"] (sp_list_refusal K C_Names C_Layers)) : FnOk P w K mg base CX0 5 f fd ["k", "r", "j", "s"] (sp_same K C_Names C_Layers) := by
  refine Df.fn.ok sc_same (fun vs H Q E h => ?_) (fun cdv A outer s H vs Q E hr h => ?_)
  · obtain ⟨ar, as, ns, ms, k, j, rfl, hS, hS2, hA, hA2, q⟩ := h
    rfl
  · obtain ⟨ar, as, ns, ms, k, j, rfl, hS, hS2, hA, hA2, q⟩ := h
    refine ⟨_, (pss_cons (ps_set (i := 4) sc_same.nd rfl (Or.inl rfl) (pe_fn C_list_refusal hr rfl (pa_cons (pv 0) (pa_cons (pv 1) pa_nil))))
      (pss_cons (ps_if (pt_cmpR op_eq (pv 4) pe_int (nomark _)) (pss_one (ps_set (i := 4) sc_same.nd rfl (Or.inl rfl) (pe_fn C_list_refusal hr rfl (pa_cons (pv 2) (pa_cons (pv 3) pa_nil))))) pss_nil)
      (pss_cons (ps_if (pt_cmpR op_lt (pv 4) pe_int (nomark _)) (pss_one (ps_ret (pe_lst (pa_cons (pv 4) pa_nil)))) pss_nil)
      (pss_cons (ps_set (i := 5) sc_same.nd rfl (Or.inl rfl) (pe_mk0 M_Names___init__ hr rfl T.c_Names))
      (pss_one (ps_ret (pe_lst (pa_cons (pe_fn C_letters_alike hr rfl (pa_cons (pe_fn C_text_layers hr rfl (pa_cons (pv 0) (pa_cons (pv 1) (pa_cons (pv 5) pa_nil)))) (pa_cons (pe_fn C_text_layers hr rfl (pa_cons (pv 2) (pa_cons (pv 3) (pa_cons (pv 5) pa_nil)))) (pa_cons (pv 5) pa_nil)))) pa_nil)))))))), ?_⟩
    simp only [L2.start, List.map_cons, List.map_nil, List.length_cons, List.length_nil, List.reduceReplicate, List.replicate_zero, List.cons_append, List.nil_append, List.append_nil, Nat.reduceAdd, Nat.reduceSub, cx_K]
    walk_at "s47"
    refine ⟨ar, ns, k, rfl, hS, hA, fun H1 s1 => ?_⟩
    walk_at "s47"
    split
    · next h0 =>
      refine ⟨as, ms, j, rfl, s1.seq hS2, hA2, fun H2 s2 => ?_⟩
      walk_at "s47"
      split
      · next h =>
        refine ⟨by show 1 ≤ sizeLine; decide, fun p hp => q _ p ?_⟩
        rw [upd_same, B47.same_eq, if_pos h0, if_neg (by omega)]
        rfl
      · next h =>
        have h1 : sound (handed j ms) = 0 := by have := sound_neg (handed j ms); omega
        obtain ⟨n, hF, hN, hL, hlt⟩ := sound_zero hA h0
        obtain ⟨m, hF2, hN2, hL2, hlt2⟩ := sound_zero hA2 h1
        have e := hF.k
        subst e
        have e := hF2.k
        subst e
        have hn := hF.most
        have hm := hF2.most
        intro x dx hx hdx hne
        refine ⟨x, dx, rfl, upd_same, fun H3 sm3 d p z hNm hd hp hz => ⟨rfl, ?_⟩⟩
        have s3 : Same H2 H3 := Same.made hx hdx (fun b o9 e9 hb9 => sm3 b o9 (by simp; exact hb9) e9)
        have hd2 := none_made hd
        have hp2 := none_made hp
        have hz2 := none_made hz
        have hbT : ∀ c ∈ Sz47.text (rules ns), c < 256 := by
          rw [text_last hF.rl hF.pos]
          exact made_bytes hN (255 + n) (by have := hF.rl; have := hF.pos; omega)
        have hbT2 : ∀ c ∈ Sz47.text (rules ms), c < 256 := by
          rw [text_last hF2.rl hF2.pos]
          exact made_bytes hN2 (255 + m) (by have := hF2.rl; have := hF2.pos; omega)
        have hlenT : (Sz47.text (rules ns)).length < 2 ^ 60 := by
          rw [text_len hN (by have := hF.rl; have := hF.pos; omega)]
          exact hlt
        have hlenT2 : (Sz47.text (rules ms)).length < 2 ^ 60 := by
          rw [text_len hN2 (by have := hF2.rl; have := hF2.pos; omega)]
          exact hlt2
        refine ⟨H2, ar, x, d, p, z, ns, n, [], _, _, 0, rfl, (s1.trans s2).seq hS, s3, hd2, hp2, hz2, hF, hN, hlenT, hNm, us_zero, by omega, fun H4 r1 e1 ts1 u1 j1 fr1 mi1 ba1 sm4 hN4 hU4 hj1 hts1 hin1 hlay1 hla1 => ?_⟩
        have s4 : Same H2 H4 := fun b o9 e9 => sm4 b o9 (by
          simp only [List.mem_cons, List.not_mem_nil, or_false, not_or]
          exact ⟨ne_of_none e9 hd2, ne_of_none e9 hp2, ne_of_none e9 hz2⟩) (s3 b o9 e9)
        rw [List.nil_append] at hN4 hU4 hlay1
        refine ⟨H2, as, x, d, p, z, ms, m, e1, ts1, u1, j1, rfl, ((s1.trans s2).seq hS2), s4, hd2, hp2, hz2, hF2, hN2, hlenT2, hN4, hU4, by omega, fun H5 r2 e2 ts2 u2 j2 fr2 mi2 ba2 sm5 hN5 hU5 hj2 hts2 hin2 hlay2 hla2 => ?_⟩
        have hl1 := hlay1.ext e2
        have hla1' := hN4.lays sm5 hla1
        have hB : ∀ b ∈ e1 ++ e2, b.length ≤ 12032 := fun b hb => by have := hU5.blk b hb; omega
        obtain ⟨o1, g1, t1⟩ := lay_ahead hU5 (by omega) hbT hlenT (hts2 _ hin1) hl1
        obtain ⟨o2, g2, t2⟩ := lay_ahead hU5 (by omega) hbT2 hlenT2 hin2 hlay2
        refine ⟨r1, r2, x, d, p, z, e1 ++ e2, fr1, mi1, ba1, fr2, mi2, ba2, 619 * 12032, 12032, 310, rfl, hN5, hla1', hla2, hU5.tab, hB, by decide, g1, g2, o1, o2, fun H6 s6 => ?_⟩
        refine ⟨by show 1 ≤ sizeLine; decide, fun p9 hp9 => q _ p9 ?_⟩
        rw [upd_same, B47.same_eq, if_pos h0, if_pos h1, t1, t2]
        rfl
    · next h0 =>
      have hneg := sound_neg (handed k ns)
      rw [if_pos (by omega)]
      refine ⟨by show 1 ≤ sizeLine; decide, fun p hp => q _ p ?_⟩
      rw [upd_same, B47.same_eq, if_neg h0]
      rfl
end
theorem all_mk {P : Program} {w : World} {K : PySem.W.Frag} {h : Heap} {mg : Str → Option Value} {fa f1 f2 f3 f4 f5 f6 f7 f8 f9 f10 f11 f12 f13 f14 f15 f16 f17 f18 f19 f20 f21 C_Names C_Layers : Addr} (X : K.In h) (G : h.Ns mainGlobals mg) (hfa : mg "same" = some (.ref fa))
    {od1 an1 od2 an2 od3 an3 od4 an4 od5 an5 od6 an6 od7 an7 od8 an8 od9 an9 od10 an10 od11 an11 od12 an12 od13 an13 od14 an14 od15 an15 od16 an16 od17 an17 od18 an18 od19 an19 od20 an20 od21 an21 : Option Addr} {sl1 sl2 sl3 sl4 sl5 sl6 sl7 sl8 sl9 sl10 sl11 sl12 sl13 sl14 sl15 sl16 sl17 sl18 sl19 sl20 sl21 : Array (Option Value)} {oc1 kV1 dc1 pm1 cd1 ct1 oc2 kV2 dc2 pm2 cd2 ct2 oc3 kV3 dc3 pm3 cd3 ct3 oc4 kV4 dc4 pm4 cd4 ct4 oc5 kV5 dc5 pm5 cd5 ct5 oc6 kV6 dc6 pm6 cd6 ct6 oc7 kV7 dc7 pm7 cd7 ct7 oc8 kV8 dc8 pm8 cd8 ct8 oc9 kV9 dc9 pm9 cd9 ct9 oc10 kV10 dc10 pm10 cd10 ct10 oc11 kV11 dc11 pm11 cd11 ct11 oc12 kV12 dc12 pm12 cd12 ct12 oc13 kV13 dc13 pm13 cd13 ct13 oc14 kV14 dc14 pm14 cd14 ct14 oc15 kV15 dc15 pm15 cd15 ct15 oc16 kV16 dc16 pm16 cd16 ct16 oc17 kV17 dc17 pm17 cd17 ct17 oc18 kV18 dc18 pm18 cd18 ct18 oc19 kV19 dc19 pm19 cd19 ct19 oc20 kV20 dc20 pm20 cd20 ct20 oc21 kV21 dc21 pm21 cd21 ct21 : Value} {t1 t2 t3 t4 t5 : Tok}
    (aCNames : PySem.W.nsIn K mainGlobals "Names" = some (some (.ref C_Names))) (pgNames : PySem.W.plainGet K C_Names Str.empty = true) (hdNames : PySem.W.hasDictIn K C_Names = true) (poNames : PySem.W.plainOver K C_Names = true) (saNames : PySem.W.findIn K (.ref C_Names) "__setattr__" = some (some (.builtin "object.__setattr__"))) (mkNames : PySem.W.makesIn K C_Names = true) (kcNames : PySem.W.keepIn K (.ref C_Names) = true)
    (naknown : PySem.W.findIn K (.ref C_Names) "known" = some none)
    (naparts : PySem.W.findIn K (.ref C_Names) "parts" = some none)
    (nasizes : PySem.W.findIn K (.ref C_Names) "sizes" = some none)
    (aCLayers : PySem.W.nsIn K mainGlobals "Layers" = some (some (.ref C_Layers))) (pgLayers : PySem.W.plainGet K C_Layers Str.empty = true) (hdLayers : PySem.W.hasDictIn K C_Layers = true) (poLayers : PySem.W.plainOver K C_Layers = true) (saLayers : PySem.W.findIn K (.ref C_Layers) "__setattr__" = some (some (.builtin "object.__setattr__"))) (mkLayers : PySem.W.makesIn K C_Layers = true) (kcLayers : PySem.W.keepIn K (.ref C_Layers) = true)
    (nabacks : PySem.W.findIn K (.ref C_Layers) "backs" = some none)
    (nafronts : PySem.W.findIn K (.ref C_Layers) "fronts" = some none)
    (namiddle : PySem.W.findIn K (.ref C_Layers) "middle" = some none)
    (a1 : PySem.W.findIn K (.ref C_Names) "__init__" = some (some (.ref f1))) (i1 : PySem.W.isFn K (.ref f1) = true) (l1 : K.lookup f1 = some ⟨oc1, od1, .func (PySem.W.fnOf "__init__" "Names.__init__" (defArgs s_Names___init__) (defBody s_Names___init__) (defScope s_Names___init__) .none kV1 dc1 pm1 an1 cd1 ct1), sl1⟩) (c1 : PySem.W.codeIn K cd1 "Names.__init__" = true) (k1 : PySem.W.keepIn K (.ref f1) = true)
    (a2 : PySem.W.findIn K (.ref C_Names) "name_of" = some (some (.ref f2))) (i2 : PySem.W.isFn K (.ref f2) = true) (l2 : K.lookup f2 = some ⟨oc2, od2, .func (PySem.W.fnOf "name_of" "Names.name_of" (defArgs s_Names_name_of) (defBody s_Names_name_of) (defScope s_Names_name_of) .none kV2 dc2 pm2 an2 cd2 ct2), sl2⟩) (c2 : PySem.W.codeIn K cd2 "Names.name_of" = true) (k2 : PySem.W.keepIn K (.ref f2) = true)
    (a3 : PySem.W.findIn K (.ref C_Layers) "__init__" = some (some (.ref f3))) (i3 : PySem.W.isFn K (.ref f3) = true) (l3 : K.lookup f3 = some ⟨oc3, od3, .func (PySem.W.fnOf "__init__" "Layers.__init__" (defArgs s_Layers___init__) (defBody s_Layers___init__) (defScope s_Layers___init__) .none kV3 dc3 pm3 an3 cd3 ct3), sl3⟩) (c3 : PySem.W.codeIn K cd3 "Layers.__init__" = true) (k3 : PySem.W.keepIn K (.ref f3) = true)
    (a4 : PySem.W.nsIn K mainGlobals "text_layers" = some (some (.ref f4))) (l4 : K.lookup f4 = some ⟨oc4, od4, .func (PySem.W.fnOf "text_layers" "text_layers" (defArgs s_text_layers) (defBody s_text_layers) (defScope s_text_layers) .none kV4 dc4 pm4 an4 cd4 ct4), sl4⟩) (c4 : PySem.W.codeIn K cd4 "text_layers" = true) (k4 : PySem.W.keepIn K (.ref f4) = true)
    (a5 : PySem.W.nsIn K mainGlobals "things_reached" = some (some (.ref f5))) (l5 : K.lookup f5 = some ⟨oc5, od5, .func (PySem.W.fnOf "things_reached" "things_reached" (defArgs s_things_reached) (defBody s_things_reached) (defScope s_things_reached) .none kV5 dc5 pm5 an5 cd5 ct5), sl5⟩) (c5 : PySem.W.codeIn K cd5 "things_reached" = true) (k5 : PySem.W.keepIn K (.ref f5) = true)
    (a6 : PySem.W.nsIn K mainGlobals "joined_layers" = some (some (.ref f6))) (l6 : K.lookup f6 = some ⟨oc6, od6, .func (PySem.W.fnOf "joined_layers" "joined_layers" (defArgs s_joined_layers) (defBody s_joined_layers) (defScope s_joined_layers) .none kV6 dc6 pm6 an6 cd6 ct6), sl6⟩) (c6 : PySem.W.codeIn K cd6 "joined_layers" = true) (k6 : PySem.W.keepIn K (.ref f6) = true)
    (a7 : PySem.W.nsIn K mainGlobals "edge" = some (some (.ref f7))) (l7 : K.lookup f7 = some ⟨oc7, od7, .func (PySem.W.fnOf "edge" "edge" (defArgs s_edge) (defBody s_edge) (defScope s_edge) .none kV7 dc7 pm7 an7 cd7 ct7), sl7⟩) (c7 : PySem.W.codeIn K cd7 "edge" = true) (k7 : PySem.W.keepIn K (.ref f7) = true)
    (a8 : PySem.W.nsIn K mainGlobals "cut" = some (some (.ref f8))) (l8 : K.lookup f8 = some ⟨oc8, od8, .func (PySem.W.fnOf "cut" "cut" (defArgs s_cut) (defBody s_cut) (defScope s_cut) .none kV8 dc8 pm8 an8 cd8 ct8), sl8⟩) (c8 : PySem.W.codeIn K cd8 "cut" = true) (k8 : PySem.W.keepIn K (.ref f8) = true)
    (a9 : PySem.W.nsIn K mainGlobals "cut_alike" = some (some (.ref f9))) (l9 : K.lookup f9 = some ⟨oc9, od9, .func (PySem.W.fnOf "cut_alike" "cut_alike" (defArgs s_cut_alike) (defBody s_cut_alike) (defScope s_cut_alike) .none kV9 dc9 pm9 an9 cd9 ct9), sl9⟩) (c9 : PySem.W.codeIn K cd9 "cut_alike" = true) (k9 : PySem.W.keepIn K (.ref f9) = true)
    (a10 : PySem.W.nsIn K mainGlobals "cut_slopes" = some (some (.ref f10))) (l10 : K.lookup f10 = some ⟨oc10, od10, .func (PySem.W.fnOf "cut_slopes" "cut_slopes" (defArgs s_cut_slopes) (defBody s_cut_slopes) (defScope s_cut_slopes) .none kV10 dc10 pm10 an10 cd10 ct10), sl10⟩) (c10 : PySem.W.codeIn K cd10 "cut_slopes" = true) (k10 : PySem.W.keepIn K (.ref f10) = true)
    (a11 : PySem.W.nsIn K mainGlobals "letters_alike" = some (some (.ref f11))) (l11 : K.lookup f11 = some ⟨oc11, od11, .func (PySem.W.fnOf "letters_alike" "letters_alike" (defArgs s_letters_alike) (defBody s_letters_alike) (defScope s_letters_alike) .none kV11 dc11 pm11 an11 cd11 ct11), sl11⟩) (c11 : PySem.W.codeIn K cd11 "letters_alike" = true) (k11 : PySem.W.keepIn K (.ref f11) = true)
    (a12 : PySem.W.nsIn K mainGlobals "pairs_ahead" = some (some (.ref f12))) (l12 : K.lookup f12 = some ⟨oc12, od12, .func (PySem.W.fnOf "pairs_ahead" "pairs_ahead" (defArgs s_pairs_ahead) (defBody s_pairs_ahead) (defScope s_pairs_ahead) .none kV12 dc12 pm12 an12 cd12 ct12), sl12⟩) (c12 : PySem.W.codeIn K cd12 "pairs_ahead" = true) (k12 : PySem.W.keepIn K (.ref f12) = true)
    (a13 : PySem.W.nsIn K mainGlobals "pass_alike" = some (some (.ref f13))) (l13 : K.lookup f13 = some ⟨oc13, od13, .func (PySem.W.fnOf "pass_alike" "pass_alike" (defArgs s_pass_alike) (defBody s_pass_alike) (defScope s_pass_alike) .none kV13 dc13 pm13 an13 cd13 ct13), sl13⟩) (c13 : PySem.W.codeIn K cd13 "pass_alike" = true) (k13 : PySem.W.keepIn K (.ref f13) = true)
    (a14 : PySem.W.nsIn K mainGlobals "take" = some (some (.ref f14))) (l14 : K.lookup f14 = some ⟨oc14, od14, .func (PySem.W.fnOf "take" "take" (defArgs s_take) (defBody s_take) (defScope s_take) .none kV14 dc14 pm14 an14 cd14 ct14), sl14⟩) (c14 : PySem.W.codeIn K cd14 "take" = true) (k14 : PySem.W.keepIn K (.ref f14) = true)
    (a15 : PySem.W.nsIn K mainGlobals "open_block" = some (some (.ref f15))) (l15 : K.lookup f15 = some ⟨oc15, od15, .func (PySem.W.fnOf "open_block" "open_block" (defArgs s_open_block) (defBody s_open_block) (defScope s_open_block) .none kV15 dc15 pm15 an15 cd15 ct15), sl15⟩) (c15 : PySem.W.codeIn K cd15 "open_block" = true) (k15 : PySem.W.keepIn K (.ref f15) = true)
    (a16 : PySem.W.nsIn K mainGlobals "same" = some (some (.ref f16))) (l16 : K.lookup f16 = some ⟨oc16, od16, .func (PySem.W.fnOf "same" "same" (defArgs s_same) (defBody s_same) (defScope s_same) .none kV16 dc16 pm16 an16 cd16 ct16), sl16⟩) (c16 : PySem.W.codeIn K cd16 "same" = true) (k16 : PySem.W.keepIn K (.ref f16) = true)
    (a17 : PySem.W.nsIn K mainGlobals "list_refusal" = some (some (.ref f17))) (l17 : K.lookup f17 = some ⟨oc17, od17, .func (PySem.W.fnOf "list_refusal" "list_refusal" (defArgs s_list_refusal) (defBody s_list_refusal) (defScope s_list_refusal) .none kV17 dc17 pm17 an17 cd17 ct17), sl17⟩) (c17 : PySem.W.codeIn K cd17 "list_refusal" = true) (k17 : PySem.W.keepIn K (.ref f17) = true)
    (a18 : PySem.W.nsIn K mainGlobals "names_allowed" = some (some (.ref f18))) (l18 : K.lookup f18 = some ⟨oc18, od18, .func (PySem.W.fnOf "names_allowed" "names_allowed" (defArgs s_names_allowed) (defBody s_names_allowed) (defScope s_names_allowed) .none kV18 dc18 pm18 an18 cd18 ct18), sl18⟩) (c18 : PySem.W.codeIn K cd18 "names_allowed" = true) (k18 : PySem.W.keepIn K (.ref f18) = true)
    (a19 : PySem.W.nsIn K mainGlobals "text_length" = some (some (.ref f19))) (l19 : K.lookup f19 = some ⟨oc19, od19, .func (PySem.W.fnOf "text_length" "text_length" (defArgs s_text_length) (defBody s_text_length) (defScope s_text_length) .none kV19 dc19 pm19 an19 cd19 ct19), sl19⟩) (c19 : PySem.W.codeIn K cd19 "text_length" = true) (k19 : PySem.W.keepIn K (.ref f19) = true)
    (a20 : PySem.W.nsIn K mainGlobals "rule_lengths" = some (some (.ref f20))) (l20 : K.lookup f20 = some ⟨oc20, od20, .func (PySem.W.fnOf "rule_lengths" "rule_lengths" (defArgs s_rule_lengths) (defBody s_rule_lengths) (defScope s_rule_lengths) .none kV20 dc20 pm20 an20 cd20 ct20), sl20⟩) (c20 : PySem.W.codeIn K cd20 "rule_lengths" = true) (k20 : PySem.W.keepIn K (.ref f20) = true)
    (a21 : PySem.W.nsIn K mainGlobals "thing_length" = some (some (.ref f21))) (l21 : K.lookup f21 = some ⟨oc21, od21, .func (PySem.W.fnOf "thing_length" "thing_length" (defArgs s_thing_length) (defBody s_thing_length) (defScope s_thing_length) .none kV21 dc21 pm21 an21 cd21 ct21), sl21⟩) (c21 : PySem.W.codeIn K cd21 "thing_length" = true) (k21 : PySem.W.keepIn K (.ref f21) = true)
    (g1 : PySem.W.nsIn K mainGlobals "BYTES" = some (some (.int 256 t1)))
    (g2 : PySem.W.nsIn K mainGlobals "MOST_RULES" = some (some (.int 256 t2)))
    (g3 : PySem.W.nsIn K mainGlobals "TOO_LONG" = some (some (.int 1152921504606846976 t3)))
    (g4 : PySem.W.nsIn K mainGlobals "BAD_LIST" = some (some (.int (-1) t4)))
    (g5 : PySem.W.nsIn K mainGlobals "LONG_TEXT" = some (some (.int (-2) t5)))
    (z1 : PySem.W.nsIn K mainGlobals "len" = some none)
    (z2 : PySem.W.nsIn K mainGlobals "list" = some none)
    (z3 : PySem.W.nsIn K mainGlobals "max" = some none)
    (z4 : PySem.W.nsIn K mainGlobals "min" = some none)
    (z5 : PySem.W.nsIn K mainGlobals "range" = some none)
    (z6 : PySem.W.nsIn K mainGlobals "reversed" = some none)
    (z7 : PySem.W.nsIn K mainGlobals "sorted" = some none)
    (z8 : PySem.W.nsIn K mainGlobals "sum" = some none)
    (z9 : PySem.W.nsIn K mainGlobals "tuple" = some none)
    : ∃ fd : FuncData, (∀ (s : Shared) (us : List Value), us.length = (["k", "r", "j", "s"] : List Str).length → BindsTo s fd ⟨us, []⟩ ((["k", "r", "j", "s"] : List Str).zip us)) ∧ ∀ base : Heap, K.In base → base.Ns mainGlobals mg → FnOk P w K mg base CX0 5 fa fd ["k", "r", "j", "s"] (sp_same K C_Names C_Layers) := by
  have e := hfa.symm.trans (PySem.W.mg_of X G a16)
  cases e
  have T : Txt K mg C_Names C_Layers := ⟨PySem.W.mg_of X G aCNames, ⟨pgNames, hdNames, poNames, saNames⟩, naknown, naparts, nasizes, PySem.W.mg_of X G aCLayers, ⟨pgLayers, hdLayers, poLayers, saLayers⟩, nabacks, nafronts, namiddle, ⟨_, PySem.W.mg_of X G g1⟩, ⟨_, PySem.W.mg_of X G g2⟩, ⟨_, PySem.W.mg_of X G g3⟩, ⟨_, PySem.W.mg_of X G g4⟩, ⟨_, PySem.W.mg_of X G g5⟩, PySem.W.mg_none_of X G z1, PySem.W.mg_none_of X G z2, PySem.W.mg_none_of X G z3, PySem.W.mg_none_of X G z4, PySem.W.mg_none_of X G z5, PySem.W.mg_none_of X G z6, PySem.W.mg_none_of X G z7, PySem.W.mg_none_of X G z8, PySem.W.mg_none_of X G z9⟩
  have F1 := fun_mk (st := s_Names___init__) l1 c1 k1
  have D1 : MDefAt K "__init__" "Names.__init__" s_Names___init__ ["self"] _ _ := ⟨F1, F1.binds fun _ _ _ _ _ _ us hl => match us, hl with | [_], _ => rfl⟩
  have F2 := fun_mk (st := s_Names_name_of) l2 c2 k2
  have D2 : MDefAt K "name_of" "Names.name_of" s_Names_name_of ["self", "block"] _ _ := ⟨F2, F2.binds fun _ _ _ _ _ _ us hl => match us, hl with | [_, _], _ => rfl⟩
  have F3 := fun_mk (st := s_Layers___init__) l3 c3 k3
  have D3 : MDefAt K "__init__" "Layers.__init__" s_Layers___init__ ["self", "fronts", "middle", "backs"] _ _ := ⟨F3, F3.binds fun _ _ _ _ _ _ us hl => match us, hl with | [_, _, _, _], _ => rfl⟩
  have D4 : DefAt K mg "text_layers" s_text_layers ["k", "r", "names"] _ _ := ⟨fun_mk (st := s_text_layers) l4 c4 k4, PySem.W.mg_of X G a4, fun s us hu => match us, hu with | [_, _, _], _ => .of_eq rfl⟩
  have D5 : DefAt K mg "things_reached" s_things_reached ["k", "r"] _ _ := ⟨fun_mk (st := s_things_reached) l5 c5 k5, PySem.W.mg_of X G a5, fun s us hu => match us, hu with | [_, _], _ => .of_eq rfl⟩
  have D6 : DefAt K mg "joined_layers" s_joined_layers ["left", "right", "names"] _ _ := ⟨fun_mk (st := s_joined_layers) l6 c6 k6, PySem.W.mg_of X G a6, fun s us hu => match us, hu with | [_, _, _], _ => .of_eq rfl⟩
  have D7 : DefAt K mg "edge" s_edge ["blocks", "middle", "level"] _ _ := ⟨fun_mk (st := s_edge) l7 c7 k7, PySem.W.mg_of X G a7, fun s us hu => match us, hu with | [_, _, _], _ => .of_eq rfl⟩
  have D8 : DefAt K mg "cut" s_cut ["row", "level"] _ _ := ⟨fun_mk (st := s_cut) l8 c8 k8, PySem.W.mg_of X G a8, fun s us hu => match us, hu with | [_, _], _ => .of_eq rfl⟩
  have D9 : DefAt K mg "cut_alike" s_cut_alike ["row"] _ _ := ⟨fun_mk (st := s_cut_alike) l9 c9 k9, PySem.W.mg_of X G a9, fun s us hu => match us, hu with | [_], _ => .of_eq rfl⟩
  have D10 : DefAt K mg "cut_slopes" s_cut_slopes ["row", "way"] _ _ := ⟨fun_mk (st := s_cut_slopes) l10 c10 k10, PySem.W.mg_of X G a10, fun s us hu => match us, hu with | [_, _], _ => .of_eq rfl⟩
  have D11 : DefAt K mg "letters_alike" s_letters_alike ["one", "other", "names"] _ _ := ⟨fun_mk (st := s_letters_alike) l11 c11 k11, PySem.W.mg_of X G a11, fun s us hu => match us, hu with | [_, _, _], _ => .of_eq rfl⟩
  have D12 : DefAt K mg "pairs_ahead" s_pairs_ahead ["text"] _ _ := ⟨fun_mk (st := s_pairs_ahead) l12 c12 k12, PySem.W.mg_of X G a12, fun s us hu => match us, hu with | [_], _ => .of_eq rfl⟩
  have D13 : DefAt K mg "pass_alike" s_pass_alike ["first", "second"] _ _ := ⟨fun_mk (st := s_pass_alike) l13 c13 k13, PySem.W.mg_of X G a13, fun s us hu => match us, hu with | [_, _], _ => .of_eq rfl⟩
  have D14 : DefAt K mg "take" s_take ["ahead", "times"] _ _ := ⟨fun_mk (st := s_take) l14 c14 k14, PySem.W.mg_of X G a14, fun s us hu => match us, hu with | [_, _], _ => .of_eq rfl⟩
  have D15 : DefAt K mg "open_block" s_open_block ["ahead", "names"] _ _ := ⟨fun_mk (st := s_open_block) l15 c15 k15, PySem.W.mg_of X G a15, fun s us hu => match us, hu with | [_, _], _ => .of_eq rfl⟩
  have D16 : DefAt K mg "same" s_same ["k", "r", "j", "s"] _ _ := ⟨fun_mk (st := s_same) l16 c16 k16, PySem.W.mg_of X G a16, fun s us hu => match us, hu with | [_, _, _, _], _ => .of_eq rfl⟩
  have D17 : DefAt K mg "list_refusal" s_list_refusal ["k", "r"] _ _ := ⟨fun_mk (st := s_list_refusal) l17 c17 k17, PySem.W.mg_of X G a17, fun s us hu => match us, hu with | [_, _], _ => .of_eq rfl⟩
  have D18 : DefAt K mg "names_allowed" s_names_allowed ["k", "r"] _ _ := ⟨fun_mk (st := s_names_allowed) l18 c18 k18, PySem.W.mg_of X G a18, fun s us hu => match us, hu with | [_, _], _ => .of_eq rfl⟩
  have D19 : DefAt K mg "text_length" s_text_length ["k", "r"] _ _ := ⟨fun_mk (st := s_text_length) l19 c19 k19, PySem.W.mg_of X G a19, fun s us hu => match us, hu with | [_, _], _ => .of_eq rfl⟩
  have D20 : DefAt K mg "rule_lengths" s_rule_lengths ["k", "r"] _ _ := ⟨fun_mk (st := s_rule_lengths) l20 c20 k20, PySem.W.mg_of X G a20, fun s us hu => match us, hu with | [_, _], _ => .of_eq rfl⟩
  have D21 : DefAt K mg "thing_length" s_thing_length ["thing", "lengths"] _ _ := ⟨fun_mk (st := s_thing_length) l21 c21 k21, PySem.W.mg_of X G a21, fun s us hu => match us, hu with | [_, _], _ => .of_eq rfl⟩
  refine ⟨_, D16.bd, fun base _ _ => ?_⟩
  have C1 : CCallee P w K mg base C_Names 1 ["self"] (sp_Names___init__ K C_Names C_Layers) := ⟨_, _, ok_Names___init__ D1 T , ⟨mkNames, a1, i1, kcNames⟩, D1.bd⟩
  have C2 : MCallee P w K mg base C_Names "name_of" 1 ["self", "block"] (sp_Names_name_of K C_Names C_Layers) := ⟨_, _, ok_Names_name_of D2 T , ⟨a2, i2, k2⟩, D2.bd⟩
  have C3 : CCallee P w K mg base C_Layers 1 ["self", "fronts", "middle", "backs"] (sp_Layers___init__ K C_Names C_Layers) := ⟨_, _, ok_Layers___init__ D3 T , ⟨mkLayers, a3, i3, kcLayers⟩, D3.bd⟩
  have C5 : Callee P w K mg base "things_reached" 1 ["k", "r"] (sp_things_reached K C_Names C_Layers) := D5.callee (ok_things_reached D5 T )
  have C7 : Callee P w K mg base "edge" 1 ["blocks", "middle", "level"] (sp_edge K C_Names C_Layers) := D7.callee (ok_edge D7 T )
  have C9 : Callee P w K mg base "cut_alike" 1 ["row"] (sp_cut_alike K C_Names C_Layers) := D9.callee (ok_cut_alike D9 T )
  have C10 : Callee P w K mg base "cut_slopes" 1 ["row", "way"] (sp_cut_slopes K C_Names C_Layers) := D10.callee (ok_cut_slopes D10 T )
  have C12 : Callee P w K mg base "pairs_ahead" 1 ["text"] (sp_pairs_ahead K C_Names C_Layers) := D12.callee (ok_pairs_ahead D12 T )
  have C14 : Callee P w K mg base "take" 1 ["ahead", "times"] (sp_take K C_Names C_Layers) := D14.callee (ok_take D14 T )
  have C18 : Callee P w K mg base "names_allowed" 1 ["k", "r"] (sp_names_allowed K C_Names C_Layers) := D18.callee (ok_names_allowed D18 T )
  have C21 : Callee P w K mg base "thing_length" 1 ["thing", "lengths"] (sp_thing_length K C_Names C_Layers) := D21.callee (ok_thing_length D21 T )
  have C8 : Callee P w K mg base "cut" 2 ["row", "level"] (sp_cut K C_Names C_Layers) := D8.callee (ok_cut D8 T C9 C10)
  have C13 : Callee P w K mg base "pass_alike" 2 ["first", "second"] (sp_pass_alike K C_Names C_Layers) := D13.callee (ok_pass_alike D13 T C14)
  have C15 : Callee P w K mg base "open_block" 2 ["ahead", "names"] (sp_open_block K C_Names C_Layers) := D15.callee (ok_open_block D15 T C14)
  have C20 : Callee P w K mg base "rule_lengths" 2 ["k", "r"] (sp_rule_lengths K C_Names C_Layers) := D20.callee (ok_rule_lengths D20 T C21)
  have C6 : Callee P w K mg base "joined_layers" 3 ["left", "right", "names"] (sp_joined_layers K C_Names C_Layers) := D6.callee (ok_joined_layers D6 T C2 C3 C7 C8)
  have C11 : Callee P w K mg base "letters_alike" 3 ["one", "other", "names"] (sp_letters_alike K C_Names C_Layers) := D11.callee (ok_letters_alike D11 T C12 C13 C15)
  have C19 : Callee P w K mg base "text_length" 3 ["k", "r"] (sp_text_length K C_Names C_Layers) := D19.callee (ok_text_length D19 T C20)
  have C4 : Callee P w K mg base "text_layers" 4 ["k", "r", "names"] (sp_text_layers K C_Names C_Layers) := D4.callee (ok_text_layers D4 T C3 C5 C6)
  have C17 : Callee P w K mg base "list_refusal" 4 ["k", "r"] (sp_list_refusal K C_Names C_Layers) := D17.callee (ok_list_refusal D17 T C18 C19)
  exact ok_same D16 T C1 C4 C11 C17
end C47
open PySem PySem.W PyProof.Rows
set_option maxRecDepth 100000 in
set_option maxHeartbeats 0 in
theorem PySem.Challenge.cw_ruletexts_s05_same_holds : PySem.Challenge.rw_ruletexts_s05_same.Holds := by
  w_on; k_headS; (case hw => exact ⟨[.int 0, .list [], .int 0, .list []], by decide +kernel, by decide +kernel⟩)
  k_fillS
  refine L2.walk_specK (r := PySem.Challenge.rw_ruletexts_s05_same) (k := 5) (CX := L2.CX0) (ps := ["k", "r", "j", "s"]) (sp := C47.sp_same0) (by decide +kernel) rfl rfl ⟨rfl, by decide, by decide⟩ (fun w h Y => PySem.W.kIn_of Y) ?F ?S (fun _ _ _ _ z => z)
  case F =>
    intro w mg fa h Y KX G hmg
    refine' C47.all_mk KX G hmg ?aCNames ?pgNames ?hdNames ?poNames ?saNames ?mkNames ?kcNames ?naknown ?naparts ?nasizes ?aCLayers ?pgLayers ?hdLayers ?poLayers ?saLayers ?mkLayers ?kcLayers ?nabacks ?nafronts ?namiddle ?a1 ?i1 ?l1 ?c1 ?k1 ?a2 ?i2 ?l2 ?c2 ?k2 ?a3 ?i3 ?l3 ?c3 ?k3 ?a4 ?l4 ?c4 ?k4 ?a5 ?l5 ?c5 ?k5 ?a6 ?l6 ?c6 ?k6 ?a7 ?l7 ?c7 ?k7 ?a8 ?l8 ?c8 ?k8 ?a9 ?l9 ?c9 ?k9 ?a10 ?l10 ?c10 ?k10 ?a11 ?l11 ?c11 ?k11 ?a12 ?l12 ?c12 ?k12 ?a13 ?l13 ?c13 ?k13 ?a14 ?l14 ?c14 ?k14 ?a15 ?l15 ?c15 ?k15 ?a16 ?l16 ?c16 ?k16 ?a17 ?l17 ?c17 ?k17 ?a18 ?l18 ?c18 ?k18 ?a19 ?l19 ?c19 ?k19 ?a20 ?l20 ?c20 ?k20 ?a21 ?l21 ?c21 ?k21 ?g1 ?g2 ?g3 ?g4 ?g5 ?z1 ?z2 ?z3 ?z4 ?z5 ?z6 ?z7 ?z8 ?z9
    (case aCNames => k_is)
    (case pgNames => k_is)
    (case hdNames => k_is)
    (case poNames => k_is)
    (case saNames => k_is)
    (case mkNames => k_is)
    (case kcNames => k_is)
    (case naknown => k_is)
    (case naparts => k_is)
    (case nasizes => k_is)
    (case aCLayers => k_is)
    (case pgLayers => k_is)
    (case hdLayers => k_is)
    (case poLayers => k_is)
    (case saLayers => k_is)
    (case mkLayers => k_is)
    (case kcLayers => k_is)
    (case nabacks => k_is)
    (case nafronts => k_is)
    (case namiddle => k_is)
    (case a1 => k_is)
    (case i1 => k_is)
    (case l1 => k_is)
    (case c1 => k_is)
    (case k1 => k_is)
    (case a2 => k_is)
    (case i2 => k_is)
    (case l2 => k_is)
    (case c2 => k_is)
    (case k2 => k_is)
    (case a3 => k_is)
    (case i3 => k_is)
    (case l3 => k_is)
    (case c3 => k_is)
    (case k3 => k_is)
    (case a4 => k_is)
    (case l4 => k_is)
    (case c4 => k_is)
    (case k4 => k_is)
    (case a5 => k_is)
    (case l5 => k_is)
    (case c5 => k_is)
    (case k5 => k_is)
    (case a6 => k_is)
    (case l6 => k_is)
    (case c6 => k_is)
    (case k6 => k_is)
    (case a7 => k_is)
    (case l7 => k_is)
    (case c7 => k_is)
    (case k7 => k_is)
    (case a8 => k_is)
    (case l8 => k_is)
    (case c8 => k_is)
    (case k8 => k_is)
    (case a9 => k_is)
    (case l9 => k_is)
    (case c9 => k_is)
    (case k9 => k_is)
    (case a10 => k_is)
    (case l10 => k_is)
    (case c10 => k_is)
    (case k10 => k_is)
    (case a11 => k_is)
    (case l11 => k_is)
    (case c11 => k_is)
    (case k11 => k_is)
    (case a12 => k_is)
    (case l12 => k_is)
    (case c12 => k_is)
    (case k12 => k_is)
    (case a13 => k_is)
    (case l13 => k_is)
    (case c13 => k_is)
    (case k13 => k_is)
    (case a14 => k_is)
    (case l14 => k_is)
    (case c14 => k_is)
    (case k14 => k_is)
    (case a15 => k_is)
    (case l15 => k_is)
    (case c15 => k_is)
    (case k15 => k_is)
    (case a16 => k_is)
    (case l16 => k_is)
    (case c16 => k_is)
    (case k16 => k_is)
    (case a17 => k_is)
    (case l17 => k_is)
    (case c17 => k_is)
    (case k17 => k_is)
    (case a18 => k_is)
    (case l18 => k_is)
    (case c18 => k_is)
    (case k18 => k_is)
    (case a19 => k_is)
    (case l19 => k_is)
    (case c19 => k_is)
    (case k19 => k_is)
    (case a20 => k_is)
    (case l20 => k_is)
    (case c20 => k_is)
    (case k20 => k_is)
    (case a21 => k_is)
    (case l21 => k_is)
    (case c21 => k_is)
    (case k21 => k_is)
    (case g1 => k_is)
    (case g2 => k_is)
    (case g3 => k_is)
    (case g4 => k_is)
    (case g5 => k_is)
    (case z1 => k_is)
    (case z2 => k_is)
    (case z3 => k_is)
    (case z4 => k_is)
    (case z5 => k_is)
    (case z6 => k_is)
    (case z7 => k_is)
    (case z8 => k_is)
    (case z9 => k_is)
  case S =>
    intro K H xs a hO hwi hask hx
    cases hx with
    | cons h1 h2 =>
      cases h2 with
      | cons h3 h4 =>
        cases h4 with
        | cons h5 h6 =>
          cases h6 with
          | cons h7 h8 =>
            cases h8
            cases h1
            cases h5
            cases h3 with
            | lst hs ha =>
              cases h7 with
              | lst hs2 ha2 =>
                have e := L2.ints_dw a.2.1 _ ha
                subst e
                have e2 := L2.ints_dw a.2.2.2.1 _ ha2
                subst e2
                obtain ⟨hk1, hk2⟩ := Bool.and_eq_true_iff.mp hask
                obtain ⟨hk3, hk4⟩ := Bool.and_eq_true_iff.mp hk2
                obtain ⟨hk5, hk6⟩ := Bool.and_eq_true_iff.mp hk4
                exact ⟨_, _, a.2.1, a.2.2.2.1, a.1, a.2.2.1, rfl, hs, hs2, M47.ask_of (Bool.and_eq_true_iff.mpr ⟨hk1, hk5⟩), M47.ask_of (Bool.and_eq_true_iff.mpr ⟨hk3, hk6⟩), fun H' p hp => .lst (L2.SqL.of hp) (L2.dw_ints _)⟩
#print axioms PySem.Challenge.cw_ruletexts_s05_same_holds
