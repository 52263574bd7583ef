import PyProof.Rows.All
import Wide.All
import OpenK.AllK
import Wide.FinOn
import HandS.ForMost
import HandS.ForExc
import HandS.Wide
import HandS.Gcd
import HandS.IsInst
import HandS.ExcIs
import HandS.HotCalls
import HandS.RaiseOp
import HandS.Style
import HandS.ExcCtx
import HandS.Zip
import HandS.StrMore
import PySem.Challenge.RW_nearfrac_k01_lowest
set_option Elab.async false
set_option linter.all false
set_option autoImplicit false
set_option maxRecDepth 100000
set_option maxHeartbeats 4000000
set_option exponentiation.threshold 100000
/-! Z: a small logic of plain data over the hand layer: values are read as data, the heap is hidden. -/
namespace Z
open PySem PySem.Spec L2

/-! ### data without lists, as it stands at a value -/
mutual
inductive Im (K : PySem.W.Frag) (H : Hp) : V → PyData → Prop
  | non : Im K H .non .none
  | bl (b : Bool) : Im K H (.bl b) (.bool b)
  | int (i : Int) : Im K H (.int i) (.int i)
  | str (x : Str) : Im K H (.str x) (.str x)
  | tup {a : Addr} {xs : List V} {ds : List PyData} : SqT K H a xs → Ims K H xs ds → Im K H (.ref a) (.tuple ds)
  | anyL {a : Addr} : (∃ xs, SqL K H a xs) → Im K H (.ref a) (.list [])
  | anyD {a : Addr} : (∃ kvs, H a = some (.dK kvs)) → Im K H (.ref a) (.dict [])
inductive Ims (K : PySem.W.Frag) (H : Hp) : List V → List PyData → Prop
  | nil : Ims K H [] []
  | cons {v : V} {vs : List V} {d : PyData} {ds : List PyData} : Im K H v d → Ims K H vs ds → Ims K H (v :: vs) (d :: ds)
end
/-- tuples stay; lists and dicts stay what they are -/
structure GeT (K : PySem.W.Frag) (H H' : Hp) : Prop where
  t : ∀ a xs, SqT K H a xs → SqT K H' a xs
  l : ∀ a, (∃ xs, SqL K H a xs) → ∃ xs, SqL K H' a xs
  d : ∀ a, (∃ kvs, H a = some (.dK kvs)) → ∃ kvs, H' a = some (.dK kvs)
theorem GeT.rfl {K : PySem.W.Frag} {H : Hp} : GeT K H H := ⟨fun _ _ h => h, fun _ h => h, fun _ h => h⟩
theorem rd_same {H H' : Hp} {a : Addr} {u : HO} (e : Same H H') (h : Rd H a u) : Rd H' a u := by
  rcases h with h | ⟨o, h⟩
  · exact .inl (e _ _ h)
  · exact .inr ⟨o, e _ _ h⟩
theorem sqt_same {K : PySem.W.Frag} {H H' : Hp} {a : Addr} {xs : List V} (e : Same H H') (h : SqT K H a xs) : SqT K H' a xs := by
  rcases h with h | h
  · exact .inl (rd_same e h)
  · exact .inr h
theorem sql_same {K : PySem.W.Frag} {H H' : Hp} {a : Addr} {xs : List V} (e : Same H H') (h : SqL K H a xs) : SqL K H' a xs := by
  rcases h with h | h
  · exact .inl (rd_same e h)
  · exact .inr h
theorem GeT.of {K : PySem.W.Frag} {H H' : Hp} (e : Same H H') : GeT K H H' := ⟨fun _ _ h => sqt_same e h, fun _ ⟨xs, h⟩ => ⟨xs, sql_same e h⟩, fun _ ⟨k, h⟩ => ⟨k, e _ _ h⟩⟩
theorem same_upd {H : Hp} {p : Addr} {o : HO} (h : H p = none) : Same H (upd H p o) := fun b u e => by
  rw [upd_ne (ne_of_none e h)]
  exact e
/-- a list that stands by itself may change -/
theorem GeT.upd {K : PySem.W.Frag} {H : Hp} {p : Addr} {xs ys : List V} (h : H p = some (.lst xs)) : GeT K H (upd H p (.lst ys)) := by
  refine ⟨fun a us q => ?_, fun a q => ?_, fun a q => ?_⟩
  · rcases q with (q | ⟨o, q⟩) | q
    · exact .inl (.inl (by rw [upd_ne (ne_of q h (by intro z; cases z))]; exact q))
    · exact .inl (.inr ⟨o, by rw [upd_ne (ne_of q h (by intro z; cases z))]; exact q⟩)
    · exact .inr q
  · by_cases e : a = p
    · subst e
      exact ⟨ys, .inl (.inl upd_same)⟩
    · obtain ⟨us, q⟩ := q
      rcases q with (q | ⟨o, q⟩) | q
      · exact ⟨us, .inl (.inl (by rw [upd_ne e]; exact q))⟩
      · exact ⟨us, .inl (.inr ⟨o, by rw [upd_ne e]; exact q⟩)⟩
      · exact ⟨us, .inr q⟩
  · obtain ⟨k, q⟩ := q
    exact ⟨k, by rw [upd_ne (ne_of q h (by intro z; cases z))]; exact q⟩
mutual
theorem Im.mono {K : PySem.W.Frag} {H H' : Hp} (g : GeT K H H') : ∀ (d : PyData) (v : V), Im K H v d → Im K H' v d
  | .none, _, h => by cases h; exact .non
  | .bool b, _, h => by cases h; exact .bl b
  | .int i, _, h => by cases h; exact .int i
  | .str x, _, h => by cases h; exact .str x
  | .list _, _, h => by
    cases h with
    | anyL h => exact .anyL (g.l _ h)
  | .dict _, _, h => by
    cases h with
    | anyD h => exact .anyD (g.d _ h)
  | .tuple ds, _, h => by
    cases h with
    | tup hs hd => exact .tup (g.t _ _ hs) (Ims.mono g ds _ hd)
theorem Ims.mono {K : PySem.W.Frag} {H H' : Hp} (g : GeT K H H') : ∀ (ds : List PyData) (vs : List V), Ims K H vs ds → Ims K H' vs ds
  | [], _, h => by cases h; exact .nil
  | d :: ds, _, h => by
    cases h with
    | cons h1 h2 => exact .cons (Im.mono g d _ h1) (Ims.mono g ds _ h2)
end
mutual
/-- plain data: nothing that is only known by its kind -/
def pl : PyData → Bool
  | .list _ => false
  | .dict _ => false
  | .tuple ds => pls ds
  | .none => true
  | .bool _ => true
  | .int _ => true
  | .str _ => true
def pls : List PyData → Bool
  | [] => true
  | d :: ds => pl d && pls ds
end
mutual
theorem Im.dp {K : PySem.W.Frag} {H : Hp} : ∀ (d : PyData) (v : V), pl d = true → Im K H v d → Dp K H v d
  | .none, _, _, h => by cases h; exact .non
  | .bool b, _, _, h => by cases h; exact .bl b
  | .int i, _, _, h => by cases h; exact .int i
  | .str x, _, _, h => by cases h; exact .str x
  | .list _, _, p, _ => by cases p
  | .dict _, _, p, _ => by cases p
  | .tuple ds, _, p, h => by
    cases h with
    | tup hs hd => exact .tup hs (Ims.dp ds _ (by unfold pl at p; exact p) hd)
theorem Ims.dp {K : PySem.W.Frag} {H : Hp} : ∀ (ds : List PyData) (vs : List V), pls ds = true → Ims K H vs ds → DpAll K H vs ds
  | [], _, _, h => by cases h; exact .nil
  | d :: ds, _, p, h => by
    have p' : pl d = true ∧ pls ds = true := by
      unfold pls at p
      exact Bool.and_eq_true_iff.mp p
    cases h with
    | cons h1 h2 => exact .cons (Im.dp d _ p'.1 h1) (Ims.dp ds _ p'.2 h2)
end
theorem Ims.len {K : PySem.W.Frag} {H : Hp} : ∀ {ds : List PyData} {vs : List V}, Ims K H vs ds → vs.length = ds.length
  | [], _, h => by cases h; rfl
  | d :: ds, _, h => by
    cases h with
    | cons _ h2 => rw [List.length_cons, List.length_cons, h2.len]
theorem Ims.get {K : PySem.W.Frag} {H : Hp} : ∀ {ds : List PyData} {vs : List V} {i : Nat} {d : PyData}, Ims K H vs ds → ds[i]? = some d → ∃ v, vs[i]? = some v ∧ Im K H v d
  | [], _, _, _, _, e => by simp at e
  | d :: ds, _, 0, _, h, e => by
    cases h with
    | cons h1 h2 =>
      simp at e
      subst e
      exact ⟨_, rfl, h1⟩
  | d :: ds, _, i + 1, _, h, e => by
    cases h with
    | cons h1 h2 =>
      obtain ⟨v, hv, q⟩ := Ims.get (i := i) h2 (by simpa using e)
      exact ⟨v, by simpa using hv, q⟩
theorem Ims.get' {K : PySem.W.Frag} {H : Hp} : ∀ {ds : List PyData} {vs : List V} {i : Nat} {v : V}, Ims K H vs ds → vs[i]? = some v → ∃ d, ds[i]? = some d ∧ Im K H v d
  | [], _, _, _, h, e => by cases h; simp at e
  | d :: ds, _, 0, _, h, e => by
    cases h with
    | cons h1 h2 =>
      simp at e
      subst e
      exact ⟨_, rfl, h1⟩
  | d :: ds, _, i + 1, _, h, e => by
    cases h with
    | cons h1 h2 =>
      obtain ⟨v, hv, q⟩ := Ims.get' (i := i) h2 (by simpa using e)
      exact ⟨v, by simpa using hv, q⟩
theorem Ims.append {K : PySem.W.Frag} {H : Hp} : ∀ {ds es : List PyData} {vs us : List V}, Ims K H vs ds → Ims K H us es → Ims K H (vs ++ us) (ds ++ es)
  | [], _, _, _, h, q => by cases h; exact q
  | d :: ds, _, _, _, h, q => by
    cases h with
    | cons h1 h2 => exact .cons h1 (h2.append q)
theorem Ims.set {K : PySem.W.Frag} {H : Hp} {v : V} {d : PyData} (x : Im K H v d) : ∀ {ds : List PyData} {vs : List V} (i : Nat), Ims K H vs ds → Ims K H (vs.set i v) (ds.set i d)
  | [], _, _, h => by cases h; exact .nil
  | e :: ds, _, 0, h => by
    cases h with
    | cons h1 h2 => exact .cons x h2
  | e :: ds, _, i + 1, h => by
    cases h with
    | cons h1 h2 => exact .cons h1 (Ims.set x i h2)
theorem Ims.take {K : PySem.W.Frag} {H : Hp} : ∀ {ds : List PyData} {vs : List V} (i : Nat), Ims K H vs ds → Ims K H (vs.take i) (ds.take i)
  | _, _, 0, _ => by simp; exact .nil
  | [], _, i + 1, h => by cases h; simp; exact .nil
  | e :: ds, _, i + 1, h => by
    cases h with
    | cons h1 h2 => simp; exact .cons h1 (Ims.take i h2)
theorem Ims.drop {K : PySem.W.Frag} {H : Hp} : ∀ {ds : List PyData} {vs : List V} (i : Nat), Ims K H vs ds → Ims K H (vs.drop i) (ds.drop i)
  | _, _, 0, h => by simpa using h
  | [], _, i + 1, h => by cases h; simp; exact .nil
  | e :: ds, _, i + 1, h => by
    cases h with
    | cons h1 h2 => simp; exact Ims.drop i h2
theorem atI_ims {K : PySem.W.Frag} {H : Hp} {ds : List PyData} {vs : List V} {i : Int} {d : PyData} (h : Ims K H vs ds) (e : atI ds i = some d) : ∃ v, atI vs i = some v ∧ Im K H v d := by
  unfold atI at e ⊢
  rw [h.len]
  cases q : ixN ds.length i with
  | none => rw [q] at e; cases e
  | some j =>
    rw [q] at e
    exact h.get e

/-! ### what the def's names hold: nothing that is known; data; a list that stood at the entry; a list of one's own; a list that a loop holds -/
inductive Sl where
  | un | im (d : PyData) | bor (ds : List PyData) | own (ds : List PyData) | hld (a : Addr) (vs : List V) (ds : List PyData) | tmp (a : Addr) (vs : List V) (ds : List PyData) | tmb (a : Addr) (vs : List V) (ds : List PyData) | tmt (a : Addr) (vs : List V) (ds : List PyData)
def Sl.isT : Sl → Bool
  | .tmp _ _ _ => true
  | .tmb _ _ _ => true
  | .tmt _ _ _ => true
  | _ => false
def SlOk (K : PySem.W.Frag) (H0 H : Hp) (o : Option (Option V)) : Sl → Prop
  | .un => True
  | .im d => ∃ v, o = some (some v) ∧ Im K H v d
  | .bor ds => ∃ a vs, o = some (some (.ref a)) ∧ SqL K H0 a vs ∧ Ims K H vs ds
  | .own ds => ∃ a vs, o = some (some (.ref a)) ∧ H0 a = none ∧ H a = some (.lst vs) ∧ Ims K H vs ds
  | .hld a vs ds => o = some (some (.ref a)) ∧ H0 a = none ∧ H a = some (.lst vs) ∧ Ims K H vs ds
  | .tmp a vs ds => H0 a = none ∧ H a = some (.lst vs) ∧ Ims K H vs ds
  | .tmb a vs ds => SqL K H0 a vs ∧ Ims K H vs ds
  | .tmt a vs ds => SqT K H a vs ∧ Ims K H vs ds
/-- the address of a list of one's own -/
def Adr (o : Option (Option V)) (a : Addr) : Sl → Prop
  | .own _ => o = some (some (.ref a))
  | .hld b _ _ => a = b
  | .tmp b _ _ => a = b
  | _ => False
structure SR (K : PySem.W.Frag) (H0 H : Hp) (σ : L2.St) (S : List Sl) : Prop where
  ex : Same H0 H
  len : ∀ (i : Nat) (s : Sl), S[i]? = some s → s.isT = false → i < σ.length
  ok : ∀ (i : Nat) (s : Sl), S[i]? = some s → SlOk K H0 H σ[i]? s
  ap : ∀ (i j : Nat) (s t : Sl) (a : Addr), i ≠ j → S[i]? = some s → S[j]? = some t → Adr σ[i]? a s → Adr σ[j]? a t → False
section
variable {K : PySem.W.Frag} {H0 H H' H1 H2 : Hp} {σ : L2.St} {S : List Sl}
theorem SlOk.mono {o : Option (Option V)} (g : GeT K H H') : ∀ {s : Sl}, (∀ a, Adr o a s → H' a = H a) → SlOk K H0 H o s → SlOk K H0 H' o s
  | .un, _, _ => trivial
  | .im d, _, ⟨v, h, q⟩ => ⟨v, h, Im.mono g d v q⟩
  | .bor ds, _, ⟨a, vs, h, q, r⟩ => ⟨a, vs, h, q, Ims.mono g ds vs r⟩
  | .own ds, k, ⟨a, vs, h, z, q, r⟩ => ⟨a, vs, h, z, by rw [k a h]; exact q, Ims.mono g ds vs r⟩
  | .hld a vs ds, k, ⟨h, z, q, r⟩ => ⟨h, z, by rw [k a rfl]; exact q, Ims.mono g ds vs r⟩
  | .tmp a vs ds, k, ⟨z, q, r⟩ => ⟨z, by rw [k a rfl]; exact q, Ims.mono g ds vs r⟩
  | .tmb a vs ds, k, ⟨q, r⟩ => ⟨q, Ims.mono g ds vs r⟩
  | .tmt a vs ds, k, ⟨q, r⟩ => ⟨g.t _ _ q, Ims.mono g ds vs r⟩
theorem SlOk.ext {o : Option (Option V)} (e : Same H H') : ∀ {s : Sl}, SlOk K H0 H o s → SlOk K H0 H' o s
  | .un, _ => trivial
  | .im d, ⟨v, h, q⟩ => ⟨v, h, Im.mono (.of e) d v q⟩
  | .bor ds, ⟨a, vs, h, q, r⟩ => ⟨a, vs, h, q, Ims.mono (.of e) ds vs r⟩
  | .own ds, ⟨a, vs, h, z, q, r⟩ => ⟨a, vs, h, z, e _ _ q, Ims.mono (.of e) ds vs r⟩
  | .hld a vs ds, ⟨h, z, q, r⟩ => ⟨h, z, e _ _ q, Ims.mono (.of e) ds vs r⟩
  | .tmp a vs ds, ⟨z, q, r⟩ => ⟨z, e _ _ q, Ims.mono (.of e) ds vs r⟩
  | .tmb a vs ds, ⟨q, r⟩ => ⟨q, Ims.mono (.of e) ds vs r⟩
  | .tmt a vs ds, ⟨q, r⟩ => ⟨sqt_same e q, Ims.mono (.of e) ds vs r⟩
theorem SR.mono (h : SR K H0 H σ S) (e : Same H H') : SR K H0 H' σ S :=
  ⟨h.ex.trans e, h.len, fun i s q => (h.ok i s q).ext e, h.ap⟩
/-- what an address of one's own holds -/
theorem SR.adr (h : SR K H0 H σ S) {i : Nat} {s : Sl} {a : Addr} (hs : S[i]? = some s) (q : Adr σ[i]? a s) : H0 a = none ∧ ∃ vs, H a = some (.lst vs) := by
  have k := h.ok i s hs
  cases s with
  | un => exact q.elim
  | im d => exact q.elim
  | bor ds => exact q.elim
  | own ds =>
    obtain ⟨b, vs, e, z, g, _⟩ := k
    have e2 : σ[i]? = some (some (.ref a)) := q
    rw [e2] at e
    cases e
    exact ⟨z, vs, g⟩
  | hld b vs ds =>
    obtain ⟨_, z, g, _⟩ := k
    have e2 : a = b := q
    subst e2
    exact ⟨z, vs, g⟩
  | tmp b vs ds =>
    obtain ⟨z, g, _⟩ := k
    have e2 : a = b := q
    subst e2
    exact ⟨z, vs, g⟩
  | tmb b vs ds => exact q.elim
  | tmt b vs ds => exact q.elim
theorem get_set {α : Type} {xs : List α} {i j : Nat} {x y : α} (h : (xs.set i x)[j]? = some y) : (j = i ∧ y = x ∧ i < xs.length) ∨ (j ≠ i ∧ xs[j]? = some y) := by
  by_cases e : j = i
  · subst e
    have hl : j < xs.length := by
      have := (List.getElem?_eq_some_iff.mp h).1
      simpa using this
    rw [List.getElem?_set_self hl] at h
    exact .inl ⟨rfl, (Option.some.inj h).symm, hl⟩
  · rw [List.getElem?_set_ne (fun z => e z.symm)] at h
    exact .inr ⟨e, h⟩
/-- data comes to a name -/
theorem SR.set (h : SR K H0 H σ S) {i : Nat} {v : V} {s : Sl} {s0 : Sl} (h0 : S[i]? = some s0) (ht : s0.isT = false) (hs : s.isT = false) (k : SlOk K H0 H (some (some v)) s) (na : ∀ a, Adr (some (some v)) a s → ∀ j t, j ≠ i → S[j]? = some t → ¬ Adr σ[j]? a t) :
    SR K H0 H (σ.set i (some v)) (S.set i s) := by
  have hi : i < σ.length := h.len i s0 h0 ht
  refine ⟨h.ex, fun j t q z => ?_, fun j t q => ?_, fun j l s' t' a hjl hj hl aj al => ?_⟩
  · rw [List.length_set]
    rcases get_set q with ⟨rfl, rfl, _⟩ | ⟨n, q⟩
    · exact hi
    · exact h.len j t q z
  · rcases get_set q with ⟨rfl, rfl, _⟩ | ⟨n, q⟩
    · rw [List.getElem?_set_self hi]
      exact k
    · rw [List.getElem?_set_ne (fun z => n z.symm)]
      exact h.ok j t q
  · rcases get_set hj with ⟨rfl, rfl, _⟩ | ⟨n1, hj2⟩
    · rw [List.getElem?_set_self hi] at aj
      rcases get_set hl with ⟨rfl, _, _⟩ | ⟨n2, hl2⟩
      · exact hjl rfl
      · rw [List.getElem?_set_ne (fun z => n2 z.symm)] at al
        exact na a aj l t' n2 hl2 al
    · rw [List.getElem?_set_ne (fun z => n1 z.symm)] at aj
      rcases get_set hl with ⟨rfl, rfl, _⟩ | ⟨n2, hl2⟩
      · rw [List.getElem?_set_self hi] at al
        exact na a al j s' n1 hj2 aj
      · rw [List.getElem?_set_ne (fun z => n2 z.symm)] at al
        exact h.ap j l s' t' a hjl hj2 hl2 aj al
theorem SR.setIm (h : SR K H0 H σ S) {i : Nat} {v : V} {d : PyData} {s0 : Sl} (h0 : S[i]? = some s0) (ht : s0.isT = false) (k : Im K H v d) : SR K H0 H (σ.set i (some v)) (S.set i (.im d)) :=
  h.set h0 ht rfl ⟨v, rfl, k⟩ fun _ z => z.elim
theorem SR.setBor (h : SR K H0 H σ S) {i : Nat} {a : Addr} {vs : List V} {ds : List PyData} {s0 : Sl} (h0 : S[i]? = some s0) (ht : s0.isT = false) (k : SqL K H0 a vs) (r : Ims K H vs ds) : SR K H0 H (σ.set i (some (.ref a))) (S.set i (.bor ds)) :=
  h.set h0 ht rfl ⟨a, vs, rfl, k, r⟩ fun _ z => z.elim
/-- a new list comes to a name -/
theorem SR.setNew (h : SR K H0 H σ S) (e : Same H H') {i : Nat} {a : Addr} {vs : List V} {ds : List PyData} {s0 : Sl} (h0 : S[i]? = some s0) (ht : s0.isT = false) (na : H a = none) (k : H' a = some (.lst vs)) (r : Ims K H' vs ds) : SR K H0 H' (σ.set i (some (.ref a))) (S.set i (.own ds)) := by
  have n0 : H0 a = none := by
    cases q : H0 a with
    | none => rfl
    | some o => rw [h.ex _ _ q] at na; cases na
  refine (h.mono e).set h0 ht rfl ⟨a, vs, rfl, n0, k, r⟩ fun b z j t _ hj q => ?_
  have z' : some (some (V.ref a)) = some (some (V.ref b)) := z
  cases z'
  obtain ⟨_, us, g⟩ := h.adr hj q
  rw [na] at g
  cases g
/-- what is known of a name is forgotten -/
def Wk : List Sl → List Sl → Prop
  | _, [] => True
  | [], _ :: _ => False
  | a :: as, b :: bs => (a = b ∨ (b = .un ∧ a.isT = false)) ∧ Wk as bs
theorem Wk.get : ∀ {S T : List Sl} {i : Nat} {t : Sl}, Wk S T → T[i]? = some t → S[i]? = some t ∨ (t = .un ∧ ∃ s, S[i]? = some s ∧ s.isT = false)
  | _, [], _, _, _, e => by simp at e
  | [], _ :: _, _, _, h, _ => h.elim
  | a :: as, b :: bs, 0, t, h, e => by
    simp at e
    subst e
    rcases h.1 with z | z
    · exact .inl (by rw [z]; rfl)
    · exact .inr ⟨z.1, a, rfl, z.2⟩
  | a :: as, b :: bs, i + 1, t, h, e => by
    have := Wk.get (i := i) h.2 (by simpa using e)
    simpa using this
theorem Wk.rfl : ∀ {S : List Sl}, Wk S S
  | [] => trivial
  | _ :: _ => ⟨.inl (Eq.refl _), Wk.rfl⟩
theorem SR.weak (h : SR K H0 H σ S) {T : List Sl} (w : Wk S T) : SR K H0 H σ T := by
  refine ⟨h.ex, fun i t q z => ?_, fun i t q => ?_, fun i j s t a hij hi hj ai aj => ?_⟩
  · rcases w.get q with y | ⟨_, s, y, u⟩
    · exact h.len i t y z
    · exact h.len i s y u
  · rcases w.get q with y | ⟨y, _⟩
    · exact h.ok i t y
    · subst y; trivial
  · rcases w.get hi with z | ⟨z, _⟩
    · rcases w.get hj with y | ⟨y, _⟩
      · exact h.ap i j s t a hij z y ai aj
      · subst y; exact aj
    · subst z; exact ai
theorem get_push {S : List Sl} {t : Sl} {i : Nat} {s : Sl} (q : (S ++ [t])[i]? = some s) : S[i]? = some s ∨ s = t ∧ i = S.length := by
  by_cases hi : i < S.length
  · rw [List.getElem?_append_left hi] at q
    exact .inl q
  · have hi' : S.length ≤ i := Nat.le_of_not_lt hi
    rw [List.getElem?_append_right hi'] at q
    have : i - S.length = 0 := by
      have := (List.getElem?_eq_some_iff.mp q).1
      simp at this
      omega
    rw [this] at q
    simp at q
    exact .inr ⟨q.symm, by omega⟩
/-- something that a loop holds, beside the names -/
theorem SR.push0 (h : SR K H0 H σ S) {t : Sl} (ht : t.isT = true) (k : ∀ o, SlOk K H0 H o t) (na : ∀ (o : Option (Option V)) (a : Addr), Adr o a t → ∀ (i : Nat) (s : Sl), S[i]? = some s → ¬ Adr σ[i]? a s) : SR K H0 H σ (S ++ [t]) := by
  refine ⟨h.ex, fun i s q z => ?_, fun i s q => ?_, fun i j s u b hij hi hj ai aj => ?_⟩
  · rcases get_push q with y | ⟨y, _⟩
    · exact h.len i s y z
    · rw [y, ht] at z; cases z
  · rcases get_push q with y | ⟨y, _⟩
    · exact h.ok i s y
    · rw [y]; exact k _
  · rcases get_push hi with z | ⟨z, z2⟩
    · rcases get_push hj with y | ⟨y, y2⟩
      · exact h.ap i j s u b hij z y ai aj
      · rw [y] at aj
        exact na _ _ aj i s z ai
    · rcases get_push hj with y | ⟨y, y2⟩
      · rw [z] at ai
        exact na _ _ ai j u y aj
      · exact hij (z2.trans y2.symm)
theorem SR.n0 (h : SR K H0 H σ S) {a : Addr} (na : H a = none) : H0 a = none := by
  cases q : H0 a with
  | none => rfl
  | some o => rw [h.ex _ _ q] at na; cases na
theorem SR.push (h : SR K H0 H σ S) (e : Same H H') {a : Addr} {vs : List V} {ds : List PyData} (na : H a = none) (k : H' a = some (.lst vs)) (r : Ims K H' vs ds) : SR K H0 H' σ (S ++ [.tmp a vs ds]) :=
  (h.mono e).push0 rfl (fun _ => ⟨h.n0 na, k, r⟩) fun o b z i s hi ai => by
    have eb : b = a := z
    obtain ⟨_, us, g⟩ := h.adr hi ai
    rw [eb, na] at g
    cases g
theorem SR.pushB (h : SR K H0 H σ S) {a : Addr} {vs : List V} {ds : List PyData} (k : SqL K H0 a vs) (r : Ims K H vs ds) : SR K H0 H σ (S ++ [.tmb a vs ds]) := h.push0 rfl (fun _ => ⟨k, r⟩) fun _ _ z => z.elim
theorem SR.pushT (h : SR K H0 H σ S) {a : Addr} {vs : List V} {ds : List PyData} (k : SqT K H a vs) (r : Ims K H vs ds) : SR K H0 H σ (S ++ [.tmt a vs ds]) := h.push0 rfl (fun _ => ⟨k, r⟩) fun _ _ z => z.elim
theorem Wk.app : ∀ {S T : List Sl}, Wk (S ++ T) S
  | [], _ => by cases ‹List Sl› <;> trivial
  | _ :: _, _ => ⟨.inl (Eq.refl _), Wk.app⟩
theorem Wk.push {t : Sl} : ∀ {S T : List Sl}, S.length = T.length → Wk S T → Wk (S ++ [t]) (T ++ [t])
  | [], [], _, _ => ⟨.inl (Eq.refl _), trivial⟩
  | _ :: _, _ :: _, e, w => ⟨w.1, Wk.push (by simpa using e) w.2⟩
/-- a list of one's own is held while it is walked, and let go -/
theorem SR.hold (h : SR K H0 H σ S) {j : Nat} {a : Addr} {ds : List PyData} (hs : S[j]? = some (.own ds)) (ha : σ[j]? = some (some (.ref a))) {vs : List V} (hv : H a = some (.lst vs)) : SR K H0 H σ (S.set j (.hld a vs ds)) := by
  refine ⟨h.ex, fun i t q z => ?_, fun i t q => ?_, fun i l s t b hil hi hl ai al => ?_⟩
  · rcases get_set q with ⟨rfl, rfl, _⟩ | ⟨n, q⟩
    · exact h.len i _ hs rfl
    · exact h.len i t q z
  · rcases get_set q with ⟨rfl, rfl, _⟩ | ⟨n, q⟩
    · obtain ⟨b, us, e, z, g, m⟩ := h.ok i _ hs
      rw [ha] at e
      cases e
      rw [hv] at g
      cases g
      exact ⟨ha, z, hv, m⟩
    · exact h.ok i t q
  · have pick : ∀ {m : Nat} {u : Sl}, (S.set j (.hld a vs ds))[m]? = some u → Adr σ[m]? b u → ∃ u', S[m]? = some u' ∧ Adr σ[m]? b u' := fun {m u} q z => by
      rcases get_set q with ⟨rfl, rfl, _⟩ | ⟨n, q⟩
      · have e : b = a := z
        subst e
        exact ⟨_, hs, ha⟩
      · exact ⟨u, q, z⟩
    obtain ⟨s', h1, z1⟩ := pick hi ai
    obtain ⟨t', h2, z2⟩ := pick hl al
    exact h.ap i l s' t' b hil h1 h2 z1 z2
theorem SR.unhold (h : SR K H0 H σ S) {j : Nat} {a : Addr} {vs : List V} {ds : List PyData} (hs : S[j]? = some (.hld a vs ds)) : SR K H0 H σ (S.set j (.own ds)) := by
  obtain ⟨ha, n0, g, m⟩ := h.ok j _ hs
  refine ⟨h.ex, fun i t q z => ?_, fun i t q => ?_, fun i l s t b hil hi hl ai al => ?_⟩
  · rcases get_set q with ⟨rfl, rfl, _⟩ | ⟨n, q⟩
    · exact h.len i _ hs rfl
    · exact h.len i t q z
  · rcases get_set q with ⟨rfl, rfl, _⟩ | ⟨n, q⟩
    · exact ⟨a, vs, ha, n0, g, m⟩
    · exact h.ok i t q
  · have pick : ∀ {m : Nat} {u : Sl}, (S.set j (.own ds))[m]? = some u → Adr σ[m]? b u → ∃ u', S[m]? = some u' ∧ Adr σ[m]? b u' := fun {m u} q z => by
      rcases get_set q with ⟨rfl, rfl, _⟩ | ⟨n, q⟩
      · have e : σ[m]? = some (some (.ref b)) := z
        rw [ha] at e
        cases e
        exact ⟨_, hs, rfl⟩
      · exact ⟨u, q, z⟩
    obtain ⟨s', h1, z1⟩ := pick hi ai
    obtain ⟨t', h2, z2⟩ := pick hl al
    exact h.ap i l s' t' b hil h1 h2 z1 z2
/-- the list of one's own at the name i becomes another -/
theorem SR.chg (h : SR K H0 H σ S) {i : Nat} {a : Addr} {us : List V} {ds es : List PyData} (hs : S[i]? = some (.own ds)) (ha : σ[i]? = some (some (.ref a))) (r : Ims K H us es) : SR K H0 (upd H a (.lst us)) σ (S.set i (.own es)) := by
  obtain ⟨n0, vs, hv⟩ := h.adr hs ha
  have g : GeT K H (upd H a (.lst us)) := GeT.upd hv
  have ap' : ∀ j t, j ≠ i → S[j]? = some t → ∀ b, Adr σ[j]? b t → b ≠ a := fun j t hj ht b q z => by
    subst z
    exact h.ap j i t (.own ds) b hj ht hs q ha
  refine ⟨fun b o q => ?_, fun j t q z => ?_, fun j t q => ?_, fun j l s t b hjl hj hl aj al => ?_⟩
  · rw [upd_ne (ne_of_none q n0)]
    exact h.ex b o q
  · rcases get_set q with ⟨rfl, rfl, _⟩ | ⟨n, q⟩
    · exact h.len j _ hs rfl
    · exact h.len j t q z
  · rcases get_set q with ⟨rfl, rfl, _⟩ | ⟨n, q⟩
    · exact ⟨a, us, ha, n0, upd_same, Ims.mono g _ _ r⟩
    · exact (h.ok j t q).mono g fun b z => upd_ne (ap' j t n q b z)
  · have pick : ∀ {m : Nat} {u : Sl}, (S.set i (.own es))[m]? = some u → Adr σ[m]? b u → ∃ u', S[m]? = some u' ∧ Adr σ[m]? b u' := fun {m u} q z => by
      rcases get_set q with ⟨rfl, rfl, _⟩ | ⟨n, q⟩
      · exact ⟨_, hs, z⟩
      · exact ⟨u, q, z⟩
    obtain ⟨s', h1, z1⟩ := pick hj aj
    obtain ⟨t', h2, z2⟩ := pick hl al
    exact h.ap j l s' t' b hjl h1 h2 z1 z2
end
end Z

namespace Z
open PySem PySem.Spec L2

/-! ### what an expression gives: data; a list that stood at the entry; the list of the name at i; a new list -/
inductive Xd where
  | im (d : PyData) | bor (ds : List PyData) | at (i : Nat) (ds : List PyData) | new (ds : List PyData)
@[reducible] def Xd.pd : Xd → PyData
  | .im d => d
  | .bor ds => .list ds
  | .at _ ds => .list ds
  | .new ds => .list ds
/-- plain -/
def Xd.pl : Xd → Bool
  | .im d => Z.pl d
  | .bor ds => pls ds
  | .at _ ds => pls ds
  | .new ds => pls ds
/-- as an item of a tuple or a list: lists by their kind alone -/
@[reducible] def Xd.it : Xd → PyData
  | .im d => d
  | .bor _ => .list []
  | .at _ _ => .list []
  | .new _ => .list []
/-- as a callee takes it -/
def Xd.sl : Xd → Sl
  | .im d => .im d
  | .bor ds => .bor ds
  | .at _ ds => .bor ds
  | .new ds => .bor ds
/-- the list's items -/
def Xd.ls : Xd → Option (List PyData)
  | .im _ => none
  | .bor ds => some ds
  | .at _ ds => some ds
  | .new ds => some ds
def XOk (K : PySem.W.Frag) (H0 H H' : Hp) (σ : L2.St) (S : List Sl) (v : V) : Xd → Prop
  | .im d => Im K H' v d
  | .bor ds => ∃ a vs, v = .ref a ∧ SqL K H0 a vs ∧ Ims K H' vs ds
  | .at i ds => S[i]? = some (.own ds) ∧ σ[i]? = some (some v)
  | .new ds => ∃ a vs, v = .ref a ∧ H a = none ∧ H' a = some (.lst vs) ∧ Ims K H' vs ds
inductive XOks (K : PySem.W.Frag) (H0 H H' : Hp) (σ : L2.St) (S : List Sl) : List V → List Xd → Prop
  | nil : XOks K H0 H H' σ S [] []
  | cons {v : V} {vs : List V} {x : Xd} {xs : List Xd} : XOk K H0 H H' σ S v x → XOks K H0 H H' σ S vs xs → XOks K H0 H H' σ S (v :: vs) (x :: xs)
section
variable {K : PySem.W.Frag} {H0 H H' H1 H2 : Hp} {σ : L2.St} {S : List Sl} {v : V} {x : Xd}
theorem free_back (e : Same H H1) {a : Addr} (h : H1 a = none) : H a = none := Same.free e h
theorem XOk.mono (e : Same H1 H2) : ∀ {x : Xd}, XOk K H0 H H1 σ S v x → XOk K H0 H H2 σ S v x
  | .im d, h => Im.mono (.of e) d v h
  | .bor ds, ⟨a, vs, h, q, r⟩ => ⟨a, vs, h, q, Ims.mono (.of e) ds vs r⟩
  | .at i ds, h => h
  | .new ds, ⟨a, vs, h, n, q, r⟩ => ⟨a, vs, h, n, e _ _ q, Ims.mono (.of e) ds vs r⟩
theorem XOk.pre (e : Same H H1) : ∀ {x : Xd}, XOk K H0 H1 H2 σ S v x → XOk K H0 H H2 σ S v x
  | .im d, h => h
  | .bor ds, h => h
  | .at i ds, h => h
  | .new ds, ⟨a, vs, h, n, q, r⟩ => ⟨a, vs, h, free_back e n, q, r⟩
theorem XOks.mono (e : Same H1 H2) : ∀ {vs : List V} {xs : List Xd}, XOks K H0 H H1 σ S vs xs → XOks K H0 H H2 σ S vs xs
  | _, _, .nil => .nil
  | _, _, .cons h r => .cons (h.mono e) (XOks.mono e r)
theorem XOks.pre (e : Same H H1) : ∀ {vs : List V} {xs : List Xd}, XOks K H0 H1 H2 σ S vs xs → XOks K H0 H H2 σ S vs xs
  | _, _, .nil => .nil
  | _, _, .cons h r => .cons (h.pre e) (XOks.pre e r)
/-- a list's value: where it stands -/
theorem XOk.lst (r : SR K H0 H' σ S) : ∀ {x : Xd} {ds : List PyData}, XOk K H0 H H' σ S v x → x.ls = some ds → ∃ a vs, v = .ref a ∧ SqL K H' a vs ∧ Ims K H' vs ds
  | .im d, _, _, e => by cases e
  | .bor es, ds, ⟨a, vs, h, q, t⟩, e => by
    cases e
    exact ⟨a, vs, h, sql_same r.ex q, t⟩
  | .at i es, ds, ⟨h1, h2⟩, e => by
    cases e
    obtain ⟨a, vs, h, z, q, t⟩ := r.ok i _ h1
    rw [h2] at h
    cases h
    exact ⟨a, vs, rfl, .inl (.inl q), t⟩
  | .new es, ds, ⟨a, vs, h, n, q, t⟩, e => by
    cases e
    exact ⟨a, vs, h, .inl (.inl q), t⟩
theorem XOk.dp (r : SR K H0 H' σ S) : ∀ {x : Xd}, x.pl = true → XOk K H0 H H' σ S v x → Dp K H' v x.pd
  | .im d, p, h => Im.dp d v p h
  | .bor ds, p, h => by
    obtain ⟨a, vs, rfl, q, t⟩ := XOk.lst r h (rfl : (Xd.bor ds).ls = some ds)
    exact .lst q (Ims.dp _ _ p t)
  | .at i ds, p, h => by
    obtain ⟨a, vs, rfl, q, t⟩ := XOk.lst r h (rfl : (Xd.at i ds).ls = some ds)
    exact .lst q (Ims.dp _ _ p t)
  | .new ds, p, h => by
    obtain ⟨a, vs, rfl, q, t⟩ := XOk.lst r h (rfl : (Xd.new ds).ls = some ds)
    exact .lst q (Ims.dp _ _ p t)
theorem XOk.item (r : SR K H0 H' σ S) : ∀ {x : Xd}, XOk K H0 H H' σ S v x → Im K H' v x.it
  | .im d, h => h
  | .bor ds, h => by
    obtain ⟨a, vs, rfl, q, t⟩ := XOk.lst r h (rfl : (Xd.bor ds).ls = some ds)
    exact .anyL ⟨_, q⟩
  | .at i ds, h => by
    obtain ⟨a, vs, rfl, q, t⟩ := XOk.lst r h (rfl : (Xd.at i ds).ls = some ds)
    exact .anyL ⟨_, q⟩
  | .new ds, h => by
    obtain ⟨a, vs, rfl, q, t⟩ := XOk.lst r h (rfl : (Xd.new ds).ls = some ds)
    exact .anyL ⟨_, q⟩
end

/-! ### what an operator asks of what it gets -/
def n1 (x : Xd) (k : Int → Prop) : Prop := ∃ i, x = .im (.int i) ∧ k i
def n2 (x y : Xd) (k : Int → Int → Prop) : Prop := ∃ i j, x = .im (.int i) ∧ y = .im (.int j) ∧ k i j
def nb (x : Xd) (k : Bool → Prop) : Prop := ∃ b, x = .im (.bool b) ∧ k b
def ns (x : Xd) (k : Str → Prop) : Prop := ∃ b, x = .im (.str b) ∧ k b
def ns2 (x y : Xd) (k : Str → Str → Prop) : Prop := ∃ a b, x = .im (.str a) ∧ y = .im (.str b) ∧ k a b
def nixT (x y : Xd) (k : PyData → Prop) : Prop := ∃ ds i d, x = .im (.tuple ds) ∧ y = .im (.int i) ∧ atI ds i = some d ∧ k d
def nixL (x y : Xd) (k : PyData → Prop) : Prop := ∃ ds i d, x.ls = some ds ∧ y = .im (.int i) ∧ atI ds i = some d ∧ k d
def neq (x y : Xd) (k : Bool → Prop) : Prop := (x.pl = true ∧ SeqAt.shaped x.pd = true) ∧ (y.pl = true ∧ SeqAt.shaped y.pd = true) ∧ k (PyData.eqv x.pd y.pd)
theorem n1_mk {i : Int} {k : Int → Prop} (h : k i) : n1 (.im (.int i)) k := ⟨i, rfl, h⟩
theorem n2_mk {i j : Int} {k : Int → Int → Prop} (h : k i j) : n2 (.im (.int i)) (.im (.int j)) k := ⟨i, j, rfl, rfl, h⟩
theorem nb_mk {b : Bool} {k : Bool → Prop} (h : k b) : nb (.im (.bool b)) k := ⟨b, rfl, h⟩
theorem ns_mk {b : Str} {k : Str → Prop} (h : k b) : ns (.im (.str b)) k := ⟨b, rfl, h⟩
theorem ns2_mk {a b : Str} {k : Str → Str → Prop} (h : k a b) : ns2 (.im (.str a)) (.im (.str b)) k := ⟨a, b, rfl, rfl, h⟩
theorem nixT_mk {ds : List PyData} {i : Int} {d : PyData} {k : PyData → Prop} (e : atI ds i = some d) (h : k d) : nixT (.im (.tuple ds)) (.im (.int i)) k := ⟨ds, i, d, rfl, rfl, e, h⟩
theorem nixL_mk {x : Xd} {ds : List PyData} {i : Int} {d : PyData} {k : PyData → Prop} (l : x.ls = some ds) (e : atI ds i = some d) (h : k d) : nixL x (.im (.int i)) k := ⟨ds, i, d, l, rfl, e, h⟩
theorem neq_mk {x y : Xd} {k : Bool → Prop} (h1 : (x.pl && SeqAt.shaped x.pd) = true) (h2 : (y.pl && SeqAt.shaped y.pd) = true) (h : k (PyData.eqv x.pd y.pd)) : neq x y k := ⟨Bool.and_eq_true_iff.mp h1, Bool.and_eq_true_iff.mp h2, h⟩
/-- items of a tuple or a list that is written -/
def nmany (xs : List Xd) (k : List PyData → Prop) : Prop := xs.length ≤ 1000 ∧ k (xs.map Xd.it)
theorem nmany_mk {xs : List Xd} {k : List PyData → Prop} (h : Nat.ble xs.length 1000 = true) (p : k (xs.map Xd.it)) : nmany xs k := ⟨Nat.le_of_ble_eq_true h, p⟩
theorem nmany_0 {k : List PyData → Prop} (p : k []) : nmany [] k := ⟨Nat.le_of_ble_eq_true rfl, p⟩
theorem nmany_1 {x0 : Xd} {k : List PyData → Prop} (p : k [x0.it]) : nmany [x0] k := ⟨Nat.le_of_ble_eq_true rfl, p⟩
theorem nmany_2 {x0 x1 : Xd} {k : List PyData → Prop} (p : k [x0.it, x1.it]) : nmany [x0, x1] k := ⟨Nat.le_of_ble_eq_true rfl, p⟩
theorem nmany_3 {x0 x1 x2 : Xd} {k : List PyData → Prop} (p : k [x0.it, x1.it, x2.it]) : nmany [x0, x1, x2] k := ⟨Nat.le_of_ble_eq_true rfl, p⟩
theorem nmany_4 {x0 x1 x2 x3 : Xd} {k : List PyData → Prop} (p : k [x0.it, x1.it, x2.it, x3.it]) : nmany [x0, x1, x2, x3] k := ⟨Nat.le_of_ble_eq_true rfl, p⟩
theorem nmany_5 {x0 x1 x2 x3 x4 : Xd} {k : List PyData → Prop} (p : k [x0.it, x1.it, x2.it, x3.it, x4.it]) : nmany [x0, x1, x2, x3, x4] k := ⟨Nat.le_of_ble_eq_true rfl, p⟩
theorem nmany_6 {x0 x1 x2 x3 x4 x5 : Xd} {k : List PyData → Prop} (p : k [x0.it, x1.it, x2.it, x3.it, x4.it, x5.it]) : nmany [x0, x1, x2, x3, x4, x5] k := ⟨Nat.le_of_ble_eq_true rfl, p⟩
theorem nmany_7 {x0 x1 x2 x3 x4 x5 x6 : Xd} {k : List PyData → Prop} (p : k [x0.it, x1.it, x2.it, x3.it, x4.it, x5.it, x6.it]) : nmany [x0, x1, x2, x3, x4, x5, x6] k := ⟨Nat.le_of_ble_eq_true rfl, p⟩
theorem nmany_8 {x0 x1 x2 x3 x4 x5 x6 x7 : Xd} {k : List PyData → Prop} (p : k [x0.it, x1.it, x2.it, x3.it, x4.it, x5.it, x6.it, x7.it]) : nmany [x0, x1, x2, x3, x4, x5, x6, x7] k := ⟨Nat.le_of_ble_eq_true rfl, p⟩
/-- a side of an operator -/
def nside (c : Prop) (k : Prop) : Prop := c ∧ k
theorem nside_mk {c k : Prop} (h : c) (p : k) : nside c k := ⟨h, p⟩
theorem ite_d {p A B : Prop} [Decidable p] (h1 : p → A) (h2 : ¬ p → B) : if decide p = true then A else B := by
  by_cases h : p
  · rw [decide_eq_true h]
    exact iteT (h1 h)
  · rw [decide_eq_false h]
    exact iteF (h2 h)
theorem ite_n {p A B : Prop} [Decidable p] (h1 : ¬ p → A) (h2 : p → B) : if (!decide p) = true then A else B := by
  by_cases h : p
  · rw [decide_eq_true h]
    exact iteF (h2 h)
  · rw [decide_eq_false h]
    exact iteT (h1 h)
theorem ite_b {b : Bool} {A B : Prop} (h1 : b = true → A) (h2 : b = false → B) : if b = true then A else B := by
  cases b with
  | true => exact iteT (h1 rfl)
  | false => exact iteF (h2 rfl)

/-! ### what is wanted of an expression, of a test, of arguments -/
def wE (K : PySem.W.Frag) (H0 : Hp) (te : TE) (S : List Sl) (P : Xd → Prop) : Prop :=
  ∀ (σ : L2.St) (H : Hp), SR K H0 H σ S → ∀ Q : VK, (∀ v H' x, Same H H' → XOk K H0 H H' σ S v x → P x → Q v H') → te σ H Q
def wT (K : PySem.W.Frag) (H0 : Hp) (t : TT) (S : List Sl) (P : Bool → Prop) : Prop :=
  ∀ (σ : L2.St) (H : Hp), SR K H0 H σ S → ∀ Q : Bool → Hp → Prop, (∀ b H', Same H H' → P b → Q b H') → t σ H Q
def wA (K : PySem.W.Frag) (H0 : Hp) (ta : TA) (S : List Sl) (P : List Xd → Prop) : Prop :=
  ∀ (σ : L2.St) (H : Hp), SR K H0 H σ S → ∀ Q : List V → Hp → Prop, (∀ vs H' xs, Same H H' → XOks K H0 H H' σ S vs xs → P xs → Q vs H') → ta σ H Q
section
variable {K : PySem.W.Frag} {H0 : Hp} {S : List Sl} {ta tb te : TE} {t u : TT} {P : Xd → Prop} {PB : Bool → Prop} {PA : List Xd → Prop}
theorem wE.imp {P' : Xd → Prop} (h : wE K H0 te S P) (k : ∀ x, P x → P' x) : wE K H0 te S P' := fun σ H r Q q => h σ H r Q fun v H' x e o p => q v H' x e o (k x p)
theorem wT.imp {P' : Bool → Prop} (h : wT K H0 t S PB) (k : ∀ x, PB x → P' x) : wT K H0 t S P' := fun σ H r Q q => h σ H r Q fun b H' e p => q b H' e (k b p)
theorem wE_var {i : Nat} {d : PyData} (h : S[i]? = some (.im d)) (p : P (.im d)) : wE K H0 (tVar i) S P := fun σ H r Q q => by
  obtain ⟨v, e, k⟩ := r.ok i _ h
  exact ⟨v, e, q v H (.im d) (.refl H) k p⟩
theorem wE_varB {i : Nat} {ds : List PyData} (h : S[i]? = some (.bor ds)) (p : P (.bor ds)) : wE K H0 (tVar i) S P := fun σ H r Q q => by
  obtain ⟨a, vs, e, k, m⟩ := r.ok i _ h
  exact ⟨_, e, q _ H (.bor ds) (.refl H) ⟨a, vs, rfl, k, m⟩ p⟩
theorem wE_varO {i : Nat} {ds : List PyData} (h : S[i]? = some (.own ds)) (p : P (.at i ds)) : wE K H0 (tVar i) S P := fun σ H r Q q => by
  obtain ⟨a, vs, e, _⟩ := r.ok i _ h
  exact ⟨_, e, q _ H (.at i ds) (.refl H) ⟨h, e⟩ p⟩
theorem wE_int {i : Int} (p : P (.im (.int i))) : wE K H0 (tC (.int i)) S P := fun σ H r Q q => q _ H (.im _) (.refl H) (.int i) p
theorem wE_bl {b : Bool} (p : P (.im (.bool b))) : wE K H0 (tC (.bl b)) S P := fun σ H r Q q => q _ H (.im _) (.refl H) (.bl b) p
theorem wE_str {x : Str} (p : P (.im (.str x))) : wE K H0 (tC (.str x)) S P := fun σ H r Q q => q _ H (.im _) (.refl H) (.str x) p
theorem wE_non (p : P (.im .none)) : wE K H0 (tC .non) S P := fun σ H r Q q => q _ H (.im _) (.refl H) .non p
/-- two operands, one behind the other -/
theorem wE_two {r : R2} (h : wE K H0 ta S fun x => wE K H0 tb S fun y => ∀ σ H1 H2 H v w, SR K H0 H2 σ S → Same H H1 → Same H1 H2 → XOk K H0 H H2 σ S v x → XOk K H0 H1 H2 σ S w y → ∀ Q : VK, (∀ v' H' z, Same H2 H' → XOk K H0 H2 H' σ S v' z → P z → Q v' H') → r v w H2 Q) : wE K H0 (tOp r ta tb) S P :=
  fun σ H s Q q => h σ H s _ fun v H1 x e1 o1 h1 => h1 σ H1 (s.mono e1) _ fun w H2 y e2 o2 h2 => h2 σ H1 H2 H v w (s.mono (e1.trans e2)) e1 e2 (o1.mono e2) o2 Q fun v' H' z e3 o3 p => q v' H' z ((e1.trans e2).trans e3) (o3.pre (e1.trans e2)) p
theorem im_int {K : PySem.W.Frag} {H : Hp} {v : V} {i : Int} (h : Im K H v (.int i)) : v = .int i := by cases h; rfl
theorem im_str {K : PySem.W.Frag} {H : Hp} {v : V} {i : Str} (h : Im K H v (.str i)) : v = .str i := by cases h; rfl
theorem im_bl {K : PySem.W.Frag} {H : Hp} {v : V} {i : Bool} (h : Im K H v (.bool i)) : v = .bl i := by cases h; rfl
theorem im_non {K : PySem.W.Frag} {H : Hp} {v : V} (h : Im K H v .none) : v = .non := by cases h; rfl
theorem wE_I0 {f : Int → Int → Int} (h : wE K H0 ta S fun x => wE K H0 tb S fun y => n2 x y fun i j => P (.im (.int (f i j)))) : wE K H0 (tOp (rI0 fun i j => .int (f i j)) ta tb) S P :=
  wE_two (h.imp fun x hx => hx.imp fun y ⟨i, j, e1, e2, p⟩ σ H1 H2 H v w r _ _ o1 o2 Q q => by
    subst e1 e2
    exact ⟨i, j, im_int o1, im_int o2, q _ _ (.im _) (.refl _) (.int _) p⟩)
theorem wE_B0 {f : Int → Int → Bool} (h : wE K H0 ta S fun x => wE K H0 tb S fun y => n2 x y fun i j => P (.im (.bool (f i j)))) : wE K H0 (tOp (rI0 fun i j => .bl (f i j)) ta tb) S P :=
  wE_two (h.imp fun x hx => hx.imp fun y ⟨i, j, e1, e2, p⟩ σ H1 H2 H v w r _ _ o1 o2 Q q => by
    subst e1 e2
    exact ⟨i, j, im_int o1, im_int o2, q _ _ (.im _) (.refl _) (.bl _) p⟩)
theorem wE_I {C : Int → Int → Prop} {f : Int → Int → Int} (h : wE K H0 ta S fun x => wE K H0 tb S fun y => n2 x y fun i j => nside (C i j) (P (.im (.int (f i j))))) : wE K H0 (tOp (rI C fun i j => .int (f i j)) ta tb) S P :=
  wE_two (h.imp fun x hx => hx.imp fun y ⟨i, j, e1, e2, c, p⟩ σ H1 H2 H v w r _ _ o1 o2 Q q => by
    subst e1 e2
    exact ⟨i, j, im_int o1, im_int o2, c, q _ _ (.im _) (.refl _) (.int _) p⟩)
theorem wE_U {f : Int → Int} (h : wE K H0 ta S fun x => n1 x fun i => P (.im (.int (f i)))) : wE K H0 (tUn (rU fun i => .int (f i)) ta) S P := fun σ H s Q q => h σ H s _ fun v H1 x e o ⟨i, e1, p⟩ => by
  subst e1
  exact ⟨i, im_int o, q _ _ (.im _) e (.int _) p⟩
/-- == and != of data -/
theorem wE_eq (h : wE K H0 ta S fun x => wE K H0 tb S fun y => neq x y fun b => P (.im (.bool b))) : wE K H0 (tOp (rEqD K) ta tb) S P :=
  wE_two (h.imp fun x hx => hx.imp fun y ⟨s1, s2, p⟩ σ H1 H2 H v w r _ _ o1 o2 Q q => ⟨x.pd, y.pd, o1.dp r s1.1, o2.dp r s2.1, s1.2, s2.2, q _ _ (.im _) (.refl _) (.bl _) p⟩)
theorem wE_ne (h : wE K H0 ta S fun x => wE K H0 tb S fun y => neq x y fun b => P (.im (.bool (!b)))) : wE K H0 (tOp (rNeD K) ta tb) S P :=
  wE_two (h.imp fun x hx => hx.imp fun y ⟨s1, s2, p⟩ σ H1 H2 H v w r _ _ o1 o2 Q q => ⟨x.pd, y.pd, o1.dp r s1.1, o2.dp r s2.1, s1.2, s2.2, q _ _ (.im _) (.refl _) (.bl _) p⟩)
/-- an item of a tuple, of a list -/
theorem wE_ixT (h : wE K H0 ta S fun x => wE K H0 tb S fun y => nixT x y fun d => P (.im d)) : wE K H0 (tOp (rIxT K) ta tb) S P :=
  wE_two (h.imp fun x hx => hx.imp fun y ⟨ds, i, d, e1, e2, a, p⟩ σ H1 H2 H v w r _ _ o1 o2 Q q => by
    subst e1 e2
    cases o1 with
    | tup hs hd =>
      obtain ⟨v, hv, m⟩ := atI_ims hd a
      exact ⟨_, _, i, v, rfl, im_int o2, hs, hv, q _ _ (.im _) (.refl _) m p⟩)
theorem wE_ixL (h : wE K H0 ta S fun x => wE K H0 tb S fun y => nixL x y fun d => P (.im d)) : wE K H0 (tOp (rIxL K) ta tb) S P :=
  wE_two (h.imp fun x hx => hx.imp fun y ⟨ds, i, d, e1, e2, a, p⟩ σ H1 H2 H v w r _ _ o1 o2 Q q => by
    subst e2
    obtain ⟨b, us, rfl, hs, hd⟩ := o1.lst r e1
    obtain ⟨v, hv, m⟩ := atI_ims hd a
    exact ⟨_, _, i, v, rfl, im_int o2, hs, hv, q _ _ (.im _) (.refl _) m p⟩)
/-- tuples, lists written -/
theorem wA_nil (p : PA []) : wA K H0 tNil S PA := fun σ H s Q q => q [] H [] (.refl H) .nil p
theorem wA_cons {tr : TA} (h : wE K H0 te S fun x => wA K H0 tr S fun xs => PA (x :: xs)) : wA K H0 (tCons te tr) S PA := fun σ H s Q q =>
  h σ H s _ fun v H1 x e o k => k σ H1 (s.mono e) _ fun vs H2 xs e2 os p => q (v :: vs) H2 (x :: xs) (e.trans e2) (.cons (o.mono e2) (os.pre e)) p
theorem XOks.items {H H' : Hp} {σ : L2.St} (r : SR K H0 H' σ S) : ∀ {vs : List V} {xs : List Xd}, XOks K H0 H H' σ S vs xs → Ims K H' vs (xs.map Xd.it)
  | _, [], h => by cases h; exact .nil
  | _, d :: ds, h => by
    cases h with
    | cons h1 h2 => exact .cons (h1.item r) (XOks.items r h2)
theorem wE_tup {tr : TA} (h : wA K H0 tr S fun xs => nmany xs fun ds => P (.im (.tuple ds))) : wE K H0 (tTup tr) S P := fun σ H s Q q =>
  h σ H s _ fun vs H1 xs e os ⟨hl, p⟩ => by
    have m := os.items (s.mono e)
    refine ⟨by rw [m.len, List.length_map]; exact Nat.le_of_lt (small1000 hl), fun a ha => q _ _ (.im _) (e.trans (same_upd ha)) ?_ p⟩
    exact .tup (.inl (.inl upd_same)) (Ims.mono (.of (same_upd ha)) _ _ m)
theorem wE_lst {tr : TA} (h : wA K H0 tr S fun xs => nmany xs fun ds => P (.new ds)) : wE K H0 (tLst tr) S P := fun σ H s Q q =>
  h σ H s _ fun vs H1 xs e os ⟨hl, p⟩ => by
    have m := os.items (s.mono e)
    refine ⟨by rw [m.len, List.length_map]; exact Nat.le_of_lt (small1000 hl), fun a ha => q _ _ (.new _) (e.trans (same_upd ha)) ?_ p⟩
    exact ⟨a, vs, rfl, free_back e ha, upd_same, Ims.mono (.of (same_upd ha)) _ _ m⟩
/-! tests -/
theorem wT_test (h : wE K H0 te S fun x => nb x PB) : wT K H0 (tTest te) S PB := fun σ H s Q q => h σ H s _ fun v H1 x e o ⟨b, e1, p⟩ => by
  subst e1
  exact ⟨b, im_bl o, q b H1 e p⟩
theorem wT_B (h : wE K H0 te S fun x => nb x PB) : wT K H0 (tB te) S PB := fun σ H s Q q => h σ H s _ fun v H1 x e o ⟨b, e1, p⟩ => by
  subst e1
  exact ⟨b, im_bl o, q b H1 e p⟩
theorem wT_and (h : wT K H0 t S fun b => if b = true then wT K H0 u S PB else PB false) : wT K H0 (tAnd t u) S PB := fun σ H s Q q => h σ H s _ fun b H1 e k => by
  cases b with
  | true => exact k σ H1 (s.mono e) Q fun b' H2 e2 p => q b' H2 (e.trans e2) p
  | false => exact q false H1 e k
theorem wT_or (h : wT K H0 t S fun b => if b = true then PB true else wT K H0 u S PB) : wT K H0 (tOr t u) S PB := fun σ H s Q q => h σ H s _ fun b H1 e k => by
  cases b with
  | true => exact q true H1 e k
  | false => exact k σ H1 (s.mono e) Q fun b' H2 e2 p => q b' H2 (e.trans e2) p
theorem wT_not (h : wT K H0 t S fun b => PB (!b)) : wT K H0 (tNot t) S PB := fun σ H s Q q => h σ H s _ fun b H1 e k => q _ H1 e k
theorem wE_andV (h : wE K H0 ta S fun x => nb x fun b => if b = true then wE K H0 tb S P else P (.im (.bool false))) : wE K H0 (tAndV ta tb) S P := fun σ H s Q q => h σ H s _ fun v H1 x e o ⟨b, e1, k⟩ => by
  subst e1
  refine ⟨b, im_bl o, ?_⟩
  cases b with
  | true => exact k σ H1 (s.mono e) Q fun v' H2 x' e2 o2 p => q v' H2 x' (e.trans e2) (o2.pre e) p
  | false => exact q _ H1 (.im _) e (.bl false) k
theorem wE_orV (h : wE K H0 ta S fun x => nb x fun b => if b = true then P (.im (.bool true)) else wE K H0 tb S P) : wE K H0 (tOrV ta tb) S P := fun σ H s Q q => h σ H s _ fun v H1 x e o ⟨b, e1, k⟩ => by
  subst e1
  refine ⟨b, im_bl o, ?_⟩
  cases b with
  | true => exact q _ H1 (.im _) e (.bl true) k
  | false => exact k σ H1 (s.mono e) Q fun v' H2 x' e2 o2 p => q v' H2 x' (e.trans e2) (o2.pre e) p
theorem wE_notV (h : wE K H0 ta S fun x => nb x fun b => P (.im (.bool (!b)))) : wE K H0 (tNotV ta) S P := fun σ H s Q q => h σ H s _ fun v H1 x e o ⟨b, e1, p⟩ => by
  subst e1
  exact ⟨b, im_bl o, q _ H1 (.im _) e (.bl _) p⟩
theorem wE_if (h : wT K H0 t S fun b => if b = true then wE K H0 ta S P else wE K H0 tb S P) : wE K H0 (tIf t ta tb) S P := fun σ H s Q q => h σ H s _ fun b H1 e k => by
  cases b with
  | true => exact k σ H1 (s.mono e) Q fun v' H2 x' e2 o2 p => q v' H2 x' (e.trans e2) (o2.pre e) p
  | false => exact k σ H1 (s.mono e) Q fun v' H2 x' e2 o2 p => q v' H2 x' (e.trans e2) (o2.pre e) p
/-- a < b < c -/
theorem wE_chain {f g : Int → Int → Bool} {tc : TE} (h : wE K H0 ta S fun x => wE K H0 tb S fun y => n2 x y fun i j => if f i j = true then wE K H0 tc S (fun z => n1 z fun k => P (.im (.bool (g j k)))) else P (.im (.bool false))) :
    wE K H0 (tChain (rI0 fun i j => .bl (f i j)) (rI0 fun i j => .bl (g i j)) ta tb tc) S P := fun σ H s Q q => h σ H s _ fun v H1 x e1 o1 h1 => h1 σ H1 (s.mono e1) _ fun w H2 y e2 o2 ⟨i, j, q1, q2, k⟩ => by
  subst q1 q2
  refine ⟨i, j, im_int o1, im_int o2, f i j, rfl, ?_⟩
  cases hf : f i j with
  | true =>
    dsimp only at k
    rw [hf] at k
    refine iteT ?_
    exact k σ H2 ((s.mono e1).mono e2) _ fun u H3 z e3 o3 ⟨m, e4, p⟩ => by
      subst e4
      exact ⟨j, m, im_int o2, im_int o3, q _ _ (.im _) ((e1.trans e2).trans e3) (.bl _) p⟩
  | false =>
    dsimp only at k
    rw [hf] at k
    exact iteF (q _ _ (.im _) (e1.trans e2) (.bl _) k)
end
end Z

namespace Z
open PySem PySem.Spec L2

def Xd.re : Xd → Option Sl
  | .im d => some (.im d)
  | .bor _ => none
  | .at _ ds => some (.own ds)
  | .new ds => some (.own ds)
/-- an answer is given; a name is set; two names are set -/
def nre (x : Xd) (k : Sl → Prop) : Prop := ∃ s, x.re = some s ∧ k s
def Xd.as : Xd → Option Sl
  | .im d => some (.im d)
  | .bor ds => some (.bor ds)
  | .at _ _ => none
  | .new ds => some (.own ds)
theorem nre_mk {x : Xd} {s : Sl} {k : Sl → Prop} (e : x.re = some s) (h : k s) : nre x k := ⟨s, e, h⟩
def nas (S : List Sl) (i : Nat) (x : Xd) (k : List Sl → Prop) : Prop := ∃ s0 s, S[i]? = some s0 ∧ s0.isT = false ∧ x.as = some s ∧ k (S.set i s)
theorem nas_mk {S : List Sl} {i : Nat} {x : Xd} {k : List Sl → Prop} {s0 s : Sl} (h0 : S[i]? = some s0) (ht : s0.isT = false) (e : x.as = some s) (h : k (S.set i s)) : nas S i x k := ⟨s0, s, h0, ht, e, h⟩
def npar (S : List Sl) (i j : Nat) (xs : List Xd) (k : List Sl → Prop) : Prop := ∃ d e s0 t0, xs = [.im d, .im e] ∧ S[i]? = some s0 ∧ s0.isT = false ∧ S[j]? = some t0 ∧ t0.isT = false ∧ k ((S.set i (.im d)).set j (.im e))
theorem npar_mk {S : List Sl} {i j : Nat} {d e : PyData} {k : List Sl → Prop} {s0 t0 : Sl} (h0 : S[i]? = some s0) (ht : s0.isT = false) (h1 : S[j]? = some t0) (ht1 : t0.isT = false) (h : k ((S.set i (.im d)).set j (.im e))) : npar S i j [.im d, .im e] k := ⟨d, e, s0, t0, rfl, h0, ht, h1, ht1, h⟩
def nunp (S : List Sl) (i j : Nat) (x : Xd) (k : List Sl → Prop) : Prop := ∃ d e s0 t0, x = .im (.tuple [d, e]) ∧ S[i]? = some s0 ∧ s0.isT = false ∧ S[j]? = some t0 ∧ t0.isT = false ∧ k ((S.set i (.im d)).set j (.im e))
theorem nunp_mk {S : List Sl} {i j : Nat} {d e : PyData} {k : List Sl → Prop} {s0 t0 : Sl} (h0 : S[i]? = some s0) (ht : s0.isT = false) (h1 : S[j]? = some t0) (ht1 : t0.isT = false) (h : k ((S.set i (.im d)).set j (.im e))) : nunp S i j (.im (.tuple [d, e])) k := ⟨d, e, s0, t0, rfl, h0, ht, h1, ht1, h⟩
/-- an answer -/
def ROk (K : PySem.W.Frag) (H H' : Hp) (v : V) : Sl → Prop
  | .im d => Im K H' v d
  | .own ds => ∃ a vs, v = .ref a ∧ H a = none ∧ H' a = some (.lst vs) ∧ Ims K H' vs ds
  | _ => False
structure Gd (K : PySem.W.Frag) (H0 : Hp) (D : Ends) (N : List Sl → Prop) (R : Sl → Prop) (B C : List Sl → Prop) : Prop where
  nx : ∀ σ H S, SR K H0 H σ S → N S → D.nx σ H
  rt : ∀ v H r, Same H0 H → ROk K H0 H v r → R r → D.rt v H
  bk : ∀ σ H S, SR K H0 H σ S → B S → D.bk σ H
  ct : ∀ σ H S, SR K H0 H σ S → C S → D.ct σ H
/-- from S the statement leads on where N holds, or answers what R holds of, or breaks where B, or goes on to the next turn where C holds -/
def wS (K : PySem.W.Frag) (H0 : Hp) (t : TS) (S : List Sl) (N : List Sl → Prop) (R : Sl → Prop) (B C : List Sl → Prop) : Prop := ∀ (D : Ends) (σ : L2.St) (H : Hp), Gd K H0 D N R B C → SR K H0 H σ S → t D σ H
section
variable {K : PySem.W.Frag} {H0 : Hp} {S : List Sl} {ta tb te : TE} {t u : TS} {c : TT} {N : List Sl → Prop} {R : Sl → Prop} {B C : List Sl → Prop}
theorem XOk.ret {H H' : Hp} {σ : L2.St} {v : V} (r : SR K H0 H σ S) (e : Same H H') : ∀ {x : Xd} {s : Sl}, XOk K H0 H H' σ S v x → x.re = some s → ROk K H0 H' v s
  | .im d, _, h, q => by cases q; exact h
  | .bor _, _, _, q => by cases q
  | .at i ds, _, ⟨h1, h2⟩, q => by
    cases q
    obtain ⟨a, vs, h, z, g, t⟩ := (r.mono e).ok i _ h1
    rw [h2] at h
    cases h
    exact ⟨a, vs, rfl, z, g, t⟩
  | .new ds, _, ⟨a, vs, h, n, g, t⟩, q => by
    cases q
    exact ⟨a, vs, h, free_back r.ex n, g, t⟩
theorem wS_next (p : N S) : wS K H0 tNext S N R B C := fun D σ H g r => g.nx σ H S r p
theorem wS_break (p : B S) : wS K H0 tBreak S N R B C := fun D σ H g r => g.bk σ H S r p
theorem wS_cont (p : C S) : wS K H0 tCont S N R B C := fun D σ H g r => g.ct σ H S r p
theorem wS_seq (h : wS K H0 t S (fun S' => wS K H0 u S' N R B C) R B C) : wS K H0 (tSeq t u) S N R B C := fun D σ H g r =>
  h _ σ H ⟨fun σ' H' S' r' k => k D σ' H' g r', g.rt, g.bk, g.ct⟩ r
theorem wS_weak {T : List Sl} (w : Wk S T) (h : wS K H0 t T N R B C) : wS K H0 t S N R B C := fun D σ H g r => h D σ H g (r.weak w)
theorem wS_imp {N' : List Sl → Prop} {R' : Sl → Prop} {B' C' : List Sl → Prop} (h : wS K H0 t S N R B C) (k1 : ∀ S', N S' → N' S') (k2 : ∀ s, R s → R' s) (k3 : ∀ S', B S' → B' S') (k4 : ∀ S', C S' → C' S') : wS K H0 t S N' R' B' C' := fun D σ H g r =>
  h D σ H ⟨fun σ' H' S' r' q => g.nx σ' H' S' r' (k1 S' q), fun v H' s e o q => g.rt v H' s e o (k2 s q), fun σ' H' S' r' q => g.bk σ' H' S' r' (k3 S' q), fun σ' H' S' r' q => g.ct σ' H' S' r' (k4 S' q)⟩ r
/-- a word between two statements, over letters x -/
theorem wS_cut {α : Type} (f : α → List Sl) (I : α → Prop) (h : wS K H0 t S (fun S' => ∃ x, Wk S' (f x) ∧ I x) R B C) (k : ∀ x, I x → wS K H0 u (f x) N R B C) : wS K H0 (tSeq t u) S N R B C :=
  wS_seq (wS_imp h (fun S' ⟨x, w, i⟩ => wS_weak w (k x i)) (fun _ q => q) (fun _ q => q) (fun _ q => q))
theorem wS_drop (h : wE K H0 te S fun _ => N S) : wS K H0 (tDrop te) S N R B C := fun D σ H g r => h σ H r _ fun v H' x e o p => g.nx σ H' S (r.mono e) p
theorem wS_ret (h : wE K H0 te S fun x => nre x R) : wS K H0 (tRet te) S N R B C := fun D σ H g r => h σ H r _ fun v H' x e o ⟨s, q, p⟩ => g.rt v H' s (r.ex.trans e) (o.ret r e q) p
theorem wS_retN (p : R (.im .none)) : wS K H0 tRetN S N R B C := fun D σ H g r => g.rt _ H (.im .none) r.ex .non p
theorem SR.as {H H' : Hp} {σ : L2.St} {v : V} {i : Nat} {s0 : Sl} (r : SR K H0 H σ S) (e : Same H H') (h0 : S[i]? = some s0) (ht : s0.isT = false) : ∀ {x : Xd} {s : Sl}, XOk K H0 H H' σ S v x → x.as = some s → SR K H0 H' (σ.set i (some v)) (S.set i s)
  | .im d, _, h, q => by cases q; exact (r.mono e).setIm h0 ht h
  | .bor _, _, ⟨a, vs, h, g, t⟩, q => by cases q; subst h; exact (r.mono e).setBor h0 ht g t
  | .at i ds, _, _, q => by cases q
  | .new ds, _, ⟨a, vs, h, n, g, t⟩, q => by cases q; subst h; exact r.setNew e h0 ht n g t
theorem wS_asg {i : Nat} (h : wE K H0 te S fun x => nas S i x N) : wS K H0 (tAsg te (gName i)) S N R B C := fun D σ H g r =>
  h σ H r _ fun v H' x e o ⟨s0, s, h0, ht, q, p⟩ => g.nx _ H' _ (r.as e h0 ht o q) p
theorem set_isT {S : List Sl} {i j : Nat} {s0 t : Sl} (h0 : S[j]? = some s0) (ht : s0.isT = false) (hs : t.isT = false) : ∃ s, (S.set i t)[j]? = some s ∧ s.isT = false := by
  by_cases e : j = i
  · subst e
    exact ⟨t, List.getElem?_set_self (List.getElem?_eq_some_iff.mp h0).1, hs⟩
  · exact ⟨s0, by rw [List.getElem?_set_ne (fun z => e z.symm)]; exact h0, ht⟩
/-- a, b = e1, e2 -/
theorem wS_par {i j : Nat} {tr : TA} (h : wA K H0 tr S fun xs => npar S i j xs N) : wS K H0 (tPar i j tr) S N R B C := fun D σ H g r =>
  h σ H r _ fun vs H' xs e os ⟨d, e', s0, t0, e1, h0, ht, h0', ht', p⟩ => by
    subst e1
    cases os with
    | cons o1 os =>
      cases os with
      | cons o2 os =>
        cases os
        obtain ⟨s1, h1, ht1⟩ := set_isT (i := i) (t := .im d) h0' ht' rfl
        exact ⟨_, _, rfl, g.nx _ H' _ (((r.mono e).setIm h0 ht o1).setIm h1 ht1 o2) p⟩
/-- a, b = e -/
theorem wS_unp {i j : Nat} (h : wE K H0 te S fun x => nunp S i j x N) :
    wS K H0 (tAsg te (gTup K 2 (gCons (gName i) (gCons (gName j) gNil)))) S N R B C := fun D σ H g r =>
  h σ H r _ fun v H' x e o ⟨d, e', s0, t0, e1, h0, ht, h0', ht', p⟩ => by
    subst e1
    cases o with
    | tup hs hd =>
      cases hd with
      | cons o1 os =>
        cases os with
        | cons o2 os =>
          cases os
          obtain ⟨s1, h1, ht1⟩ := set_isT (i := i) (t := .im d) h0' ht' rfl
          exact ⟨_, _, rfl, hs, rfl, _, _, rfl, _, _, rfl, rfl, g.nx _ H' _ (((r.mono e).setIm h0 ht o1).setIm h1 ht1 o2) p⟩
theorem wS_unp3 {i j k : Nat} (h : wE K H0 te S fun x => ∃ d e f s0 t0 u0, x = .im (.tuple [d, e, f]) ∧ S[i]? = some s0 ∧ s0.isT = false ∧ S[j]? = some t0 ∧ t0.isT = false ∧ S[k]? = some u0 ∧ u0.isT = false ∧ N (((S.set i (.im d)).set j (.im e)).set k (.im f))) :
    wS K H0 (tAsg te (gTup K 3 (gCons (gName i) (gCons (gName j) (gCons (gName k) gNil))))) S N R B C := fun D σ H g r =>
  h σ H r _ fun v H' x e o ⟨d, e', f, s0, t0, u0, e1, h0, ht, h0', ht', h0'', ht'', p⟩ => by
    subst e1
    cases o with
    | tup hs hd =>
      cases hd with
      | cons o1 os =>
        cases os with
        | cons o2 os =>
          cases os with
          | cons o3 os =>
            cases os
            obtain ⟨s1, h1, ht1⟩ := set_isT (i := i) (t := .im d) h0' ht' rfl
            obtain ⟨s2, h2, ht2⟩ := set_isT (i := i) (t := .im d) h0'' ht'' rfl
            obtain ⟨s3, h3, ht3⟩ := set_isT (i := j) (t := .im e') h2 ht2 rfl
            exact ⟨_, _, rfl, hs, rfl, _, _, rfl, _, _, rfl, _, _, rfl, rfl, g.nx _ H' _ ((((r.mono e).setIm h0 ht o1).setIm h1 ht1 o2).setIm h3 ht3 o3) p⟩
theorem wS_if (h : wT K H0 c S fun b => if b = true then wS K H0 t S N R B C else wS K H0 u S N R B C) : wS K H0 (tIfS c t u) S N R B C := fun D σ H g r => h σ H r _ fun b H' e k => by
  cases b with
  | true => exact k D σ H' g (r.mono e)
  | false => exact k D σ H' g (r.mono e)
/-- x += e -/
theorem wS_aug {i : Nat} {f : Int → Int → Int} {a : Int} (h0 : S[i]? = some (.im (.int a))) (h : wE K H0 te S fun x => n1 x fun b => N (S.set i (.im (.int (f a b))))) : wS K H0 (tAug i te (ipI f)) S N R B C := fun D σ H g r => by
  obtain ⟨v, e1, q⟩ := r.ok i _ h0
  have ev := im_int q
  subst ev
  exact ⟨_, e1, h σ H r _ fun w H' x e o ⟨b, e2, p⟩ => by
    subst e2
    exact ⟨a, b, rfl, im_int o, g.nx _ H' _ ((r.mono e).setIm h0 rfl (.int _)) p⟩⟩
/-- xs.append(e), xs a list of one's own -/
theorem wS_app {i : Nat} {ds : List PyData} (h0 : S[i]? = some (.own ds)) (hz : ds.length < 100000) (h : wE K H0 te S fun x => N (S.set i (.own (ds ++ [x.it])))) :
    wS K H0 (tDrop (tBM K "list" rAppend (tVar i) (tCons te tNil))) S N R B C := fun D σ H g r => by
  obtain ⟨a, vs, e1, n0, ha, m⟩ := r.ok i _ h0
  refine ⟨_, e1, .inl ⟨rfl, vs, .inl (.inl ha)⟩, h σ H r _ fun w H' x e o p => ?_⟩
  refine ⟨a, vs, w, rfl, rfl, e _ _ ha, ?_, ?_⟩
  · rw [m.len]
    exact Nat.lt_of_lt_of_le hz (by decide)
  · exact g.nx _ _ _ ((r.mono e).chg h0 e1 ((Ims.mono (.of e) _ _ m).append (.cons (o.item (r.mono e)) .nil))) p
/-- xs[k] = e, xs a list of one's own -/
theorem wS_setL {i : Nat} {ds : List PyData} (h0 : S[i]? = some (.own ds)) (h : wE K H0 te S fun x => ∃ d, x = .im d ∧ wE K H0 tb S fun y => ∃ (k : Int) (j : Nat), y = .im (.int k) ∧ ixN ds.length k = some j ∧ N (S.set i (.own (ds.set j d)))) :
    wS K H0 (tAsg te (gSub (tVar i) tb rSetL)) S N R B C := fun D σ H g r => by
  obtain ⟨a, vs, e1, n0, ha, m⟩ := r.ok i _ h0
  refine h σ H r _ fun w H1 x e o ⟨d, e2, h1⟩ => ?_
  subst e2
  refine ⟨_, e1, h1 σ H1 (r.mono e) _ fun z H2 y e' o' ⟨k, j, e3, hk, p⟩ => ?_⟩
  subst e3
  have m2 := Ims.mono (.of (e.trans e')) _ _ m
  refine ⟨a, vs, k, j, rfl, im_int o', (e.trans e') _ _ ha, by rw [m.len]; exact hk, ?_⟩
  exact g.nx _ _ _ ((r.mono (e.trans e')).chg h0 e1 (Ims.set (Im.mono (.of e') _ _ o) j m2)) p

/-! ### loops -/
theorem wS_while {α : Type} (f : α → List Sl) (I : α → Prop) (μ : α → Nat) (x0 : α) (w0 : Wk S (f x0)) (i0 : I x0)
    (hs : ∀ x, I x → wT K H0 c (f x) fun b => if b = true then wS K H0 t (f x) (fun S' => ∃ y, Wk S' (f y) ∧ I y ∧ μ y < μ x) R N (fun S' => ∃ y, Wk S' (f y) ∧ I y ∧ μ y < μ x) else N (f x)) : wS K H0 (tWhile c t) S N R B C := fun D σ H g r => by
  refine ⟨fun m σ H => ∃ x, m = μ x ∧ I x ∧ SR K H0 H σ (f x), ⟨_, x0, rfl, i0, r.weak w0⟩, ?_⟩
  rintro m σ H ⟨x, rfl, ix, rx⟩
  refine hs x ix σ H rx _ fun b H' e k => ?_
  cases b with
  | true =>
    have nxt : ∀ σ' H' S', SR K H0 H' σ' S' → (∃ y, Wk S' (f y) ∧ I y ∧ μ y < μ x) → ∃ m', m' < μ x ∧ ∃ x', m' = μ x' ∧ I x' ∧ SR K H0 H' σ' (f x') := fun σ' H' S' r' ⟨y, w, iy, l⟩ => ⟨μ y, l, y, rfl, iy, r'.weak w⟩
    refine iteT ⟨fun σ' H' => ∃ m', m' < μ x ∧ ∃ x', m' = μ x' ∧ I x' ∧ SR K H0 H' σ' (f x'), fun _ _ q => q, ?_⟩
    exact k _ σ H' ⟨nxt, g.rt, g.nx, nxt⟩ (rx.mono e)
  | false => exact iteF (g.nx σ H' _ (rx.mono e) k)
theorem wS_for1 {tr : TA} {i : Nat} (h : wA K H0 tr S fun xs => ∃ (n : Int), xs = [.im (.int n)] ∧ n ≤ 1000000 ∧ -1000000 ≤ n ∧ ∃ (α : Type) (f : α → List Sl) (I : Nat → α → Prop) (x0 : α), Wk S (f x0) ∧ I 0 x0 ∧
      (∀ (k : Nat) x, (k : Int) < n → I k x → ∃ s0, (f x)[i]? = some s0 ∧ s0.isT = false ∧ wS K H0 t ((f x).set i (.im (.int k))) (fun S' => ∃ y, Wk S' (f y) ∧ I (k + 1) y) R N (fun S' => ∃ y, Wk S' (f y) ∧ I (k + 1) y)) ∧
      (∀ x, I n.toNat x → N (f x))) : wS K H0 (tFor (iRng1 tr) (gName i) t) S N R B C := fun D σ H g r => h σ H r _ fun vs H1 xs e os ⟨n, e1, n1, n2, α, f, I, x0, w0, i0, hs, hd⟩ => by
  subst e1
  cases os with
  | cons o os =>
    cases os
    have ev := im_int o
    subst ev
    refine ⟨n, rfl, by omega, by omega, for_range (lo := 0) (n := n.toNat) (fun k σ H => ∃ x, I k x ∧ SR K H0 H σ (f x)) ⟨x0, i0, (r.mono e).weak w0⟩ ?_ ?_⟩
    · rintro k σ' H' hk ⟨x, ik, rx⟩
      obtain ⟨s0, h0, ht, q⟩ := hs k x (by omega) ik
      have e0 : (0 : Int) + (k : Int) = (k : Int) := Int.zero_add _
      show t _ (σ'.set i (some (.int ((0 : Int) + (k : Int))))) H'
      rw [e0]
      refine q _ _ _ ⟨?_, g.rt, g.nx, ?_⟩ (rx.setIm h0 ht (.int _))
      · exact fun σ2 H2 S' r' ⟨y, w, iy⟩ => ⟨y, iy, r'.weak w⟩
      · exact fun σ2 H2 S' r' ⟨y, w, iy⟩ => ⟨y, iy, r'.weak w⟩
    · rintro σ' H' ⟨x, ik, rx⟩
      exact g.nx _ _ _ rx (hd x ik)
theorem wS_for2 {tr : TA} {i : Nat} (h : wA K H0 tr S fun xs => ∃ (lo n : Int), xs = [.im (.int lo), .im (.int n)] ∧ lo ≤ 1000000 ∧ -1000000 ≤ lo ∧ n ≤ 1000000 ∧ -1000000 ≤ n ∧ ∃ (α : Type) (f : α → List Sl) (I : Nat → α → Prop) (x0 : α), Wk S (f x0) ∧ I 0 x0 ∧
      (∀ (k : Nat) x, lo + (k : Int) < n → I k x → ∃ s0, (f x)[i]? = some s0 ∧ s0.isT = false ∧ wS K H0 t ((f x).set i (.im (.int (lo + k)))) (fun S' => ∃ y, Wk S' (f y) ∧ I (k + 1) y) R N (fun S' => ∃ y, Wk S' (f y) ∧ I (k + 1) y)) ∧
      (∀ x, I (n - lo).toNat x → N (f x))) : wS K H0 (tFor (iRng2 tr) (gName i) t) S N R B C := fun D σ H g r => h σ H r _ fun vs H1 xs e os ⟨lo, n, e1, n1, n2, n3, n4, α, f, I, x0, w0, i0, hs, hd⟩ => by
  subst e1
  cases os with
  | cons o os =>
    cases os with
    | cons o2 os =>
      cases os
      have ev := im_int o
      subst ev
      have ev := im_int o2
      subst ev
      refine ⟨lo, n, rfl, ⟨by omega, by omega, by omega, by omega⟩, for_range (lo := lo) (n := (n - lo).toNat) (fun k σ H => ∃ x, I k x ∧ SR K H0 H σ (f x)) ⟨x0, i0, (r.mono e).weak w0⟩ ?_ ?_⟩
      · rintro k σ' H' hk ⟨x, ik, rx⟩
        obtain ⟨s0, h0, ht, q⟩ := hs k x (by omega) ik
        refine q _ _ _ ⟨?_, g.rt, g.nx, ?_⟩ (rx.setIm h0 ht (.int _))
        · exact fun σ2 H2 S' r' ⟨y, w, iy⟩ => ⟨y, iy, r'.weak w⟩
        · exact fun σ2 H2 S' r' ⟨y, w, iy⟩ => ⟨y, iy, r'.weak w⟩
      · rintro σ' H' ⟨x, ik, rx⟩
        exact g.nx _ _ _ rx (hd x ik)
/-- a walk over data: from each letter, at each item, the body brings the next -/
def Walks (K : PySem.W.Frag) (H0 : Hp) (t : TS) (S : List Sl) (N : List Sl → Prop) (R : Sl → Prop) (i : Nat) (T : List Sl) (ds : List PyData) : Prop :=
  ∃ (α : Type) (f : α → List Sl) (I : Nat → α → Prop) (x0 : α), Wk S (f x0) ∧ S.length = (f x0).length ∧ I 0 x0 ∧
    (∀ (k : Nat) d x, ds[k]? = some d → I k x → ∃ s0, (f x ++ T)[i]? = some s0 ∧ s0.isT = false ∧ wS K H0 t ((f x ++ T).set i (.im d)) (fun S' => ∃ y, Wk S' (f y ++ T) ∧ I (k + 1) y) R (fun S' => ∃ y, Wk S' (f y ++ T) ∧ N (f y)) (fun S' => ∃ y, Wk S' (f y ++ T) ∧ I (k + 1) y)) ∧
    (∀ x, I ds.length x → N (f x))
theorem walk_step {α : Type} {f : α → List Sl} {I : Nat → α → Prop} {T : List Sl} {D : Ends} {k i : Nat} {x : α} {d : PyData} {v : V} {σ : L2.St} {H : Hp} (g : Gd K H0 D N R B C)
    (h : ∃ s0, (f x ++ T)[i]? = some s0 ∧ s0.isT = false ∧ wS K H0 t ((f x ++ T).set i (.im d)) (fun S' => ∃ y, Wk S' (f y ++ T) ∧ I (k + 1) y) R (fun S' => ∃ y, Wk S' (f y ++ T) ∧ N (f y)) (fun S' => ∃ y, Wk S' (f y ++ T) ∧ I (k + 1) y)) (r : SR K H0 H σ (f x ++ T)) (m : Im K H v d) :
    gName i v σ H fun σ2 H2 => t { D with nx := fun σ H => ∃ y, I (k + 1) y ∧ SR K H0 H σ (f y ++ T), ct := fun σ H => ∃ y, I (k + 1) y ∧ SR K H0 H σ (f y ++ T), bk := D.nx } σ2 H2 := by
  obtain ⟨s0, h0, ht, q⟩ := h
  refine q _ _ _ ⟨?_, g.rt, ?_, ?_⟩ (r.setIm h0 ht m)
  · exact fun σ2 H2 S' r' ⟨y, w, iy⟩ => ⟨y, iy, r'.weak w⟩
  · exact fun σ2 H2 S' r' ⟨y, w, p⟩ => g.nx _ _ _ ((r'.weak w).weak Wk.app) p
  · exact fun σ2 H2 S' r' ⟨y, w, iy⟩ => ⟨y, iy, r'.weak w⟩
theorem last_push (S : List Sl) (t : Sl) : (S ++ [t])[S.length]? = some t := by simp
/-- over a list that stood at the entry -/
theorem wS_forB {tl : TE} {i : Nat} (h : wE K H0 tl S fun x => ∃ ds, x = .bor ds ∧ ∀ a vs, Walks K H0 t S N R i [.tmb a vs ds] ds) : wS K H0 (tFor (iList K tl) (gName i) t) S N R B C := fun D σ H g r => h σ H r _ fun v H1 xv e o ⟨ds, e1, h2⟩ => by
  subst e1
  obtain ⟨a, vs, rfl, hl, m⟩ := o
  obtain ⟨α, f, I, x0, w0, l0, i0, hs, hd⟩ := h2 a vs
  refine ⟨a, rfl, ⟨vs, sql_same (r.ex.trans e) hl⟩, for_list (xs := vs) (fun k σ H => ∃ x, I k x ∧ SR K H0 H σ (f x ++ [.tmb a vs ds])) ⟨x0, i0, ((r.mono e).pushB hl m).weak (Wk.push l0 w0)⟩ ?_ ?_ ?_⟩
  · rintro k σ' H' _ ⟨x, _, rx⟩
    exact sql_same rx.ex hl
  · rintro k y σ' H' hk ⟨x, ik, rx⟩
    obtain ⟨_, z⟩ := rx.ok _ _ (last_push _ _)
    obtain ⟨d, hd', md⟩ := z.get' hk
    exact walk_step g (hs k d x hd' ik) rx md
  · rintro σ' H' ⟨x, ik, rx⟩
    rw [m.len] at ik
    exact g.nx _ _ _ (rx.weak Wk.app) (hd x ik)
/-- over a tuple -/
theorem wS_forT {tl : TE} {i : Nat} (h : wE K H0 tl S fun x => ∃ ds, x = .im (.tuple ds) ∧ ∀ a vs, Walks K H0 t S N R i [.tmt a vs ds] ds) : wS K H0 (tFor (iTup K tl) (gName i) t) S N R B C := fun D σ H g r => h σ H r _ fun v H1 xv e o ⟨ds, e1, h2⟩ => by
  subst e1
  cases o with
  | @tup a vs _ hl m =>
    obtain ⟨α, f, I, x0, w0, l0, i0, hs, hd⟩ := h2 a vs
    refine ⟨a, rfl, ⟨vs, hl⟩, for_tup (xs := vs) (fun k σ H => ∃ x, I k x ∧ SR K H0 H σ (f x ++ [.tmt a vs ds])) ⟨x0, i0, ((r.mono e).pushT hl m).weak (Wk.push l0 w0)⟩ ?_ ?_ ?_⟩
    · rintro k σ' H' _ ⟨x, _, rx⟩
      exact (rx.ok _ _ (last_push _ _)).1
    · rintro k y σ' H' hk ⟨x, ik, rx⟩
      obtain ⟨_, z⟩ := rx.ok _ _ (last_push _ _)
      obtain ⟨d, hd', md⟩ := z.get' hk
      exact walk_step g (hs k d x hd' ik) rx md
    · rintro σ' H' ⟨x, ik, rx⟩
      rw [m.len] at ik
      exact g.nx _ _ _ (rx.weak Wk.app) (hd x ik)
/-- over a new list -/
theorem wS_forN {tl : TE} {i : Nat} (h : wE K H0 tl S fun x => ∃ ds, x = .new ds ∧ ∀ a vs, Walks K H0 t S N R i [.tmp a vs ds] ds) : wS K H0 (tFor (iList K tl) (gName i) t) S N R B C := fun D σ H g r => h σ H r _ fun v H1 xv e o ⟨ds, e1, h2⟩ => by
  subst e1
  obtain ⟨a, vs, rfl, na, hl, m⟩ := o
  obtain ⟨α, f, I, x0, w0, l0, i0, hs, hd⟩ := h2 a vs
  refine ⟨a, rfl, ⟨vs, .inl (.inl hl)⟩, for_list (xs := vs) (fun k σ H => ∃ x, I k x ∧ SR K H0 H σ (f x ++ [.tmp a vs ds])) ⟨x0, i0, (r.push e na hl m).weak (Wk.push l0 w0)⟩ ?_ ?_ ?_⟩
  · rintro k σ' H' _ ⟨x, _, rx⟩
    exact .inl (.inl (rx.ok _ _ (last_push _ _)).2.1)
  · rintro k y σ' H' hk ⟨x, ik, rx⟩
    obtain ⟨d, hd', md⟩ := (rx.ok _ _ (last_push _ _)).2.2.get' hk
    exact walk_step g (hs k d x hd' ik) rx md
  · rintro σ' H' ⟨x, ik, rx⟩
    rw [m.len] at ik
    exact g.nx _ _ _ (rx.weak Wk.app) (hd x ik)
/-- over the list of one's own at the name j, which the body leaves -/
theorem wS_forO {i j : Nat} {ds : List PyData} (h0 : S[j]? = some (.own ds)) (h : ∀ a vs, ∃ (α : Type) (f : α → List Sl) (I : Nat → α → Prop) (x0 : α), Wk (S.set j (.hld a vs ds)) (f x0) ∧ I 0 x0 ∧ (∀ x, (f x)[j]? = some (.hld a vs ds)) ∧
    (∀ (k : Nat) d x, ds[k]? = some d → I k x → ∃ s0, (f x)[i]? = some s0 ∧ s0.isT = false ∧ wS K H0 t ((f x).set i (.im d)) (fun S' => ∃ y, Wk S' (f y) ∧ I (k + 1) y) R (fun S' => S'[j]? = some (.hld a vs ds) ∧ N (S'.set j (.own ds))) (fun S' => ∃ y, Wk S' (f y) ∧ I (k + 1) y)) ∧
    (∀ x, I ds.length x → N ((f x).set j (.own ds)))) : wS K H0 (tFor (iList K (tVar j)) (gName i) t) S N R B C := fun D σ H g r => by
  obtain ⟨a, vs, e1, n0, ha, m⟩ := r.ok j _ h0
  obtain ⟨α, f, I, x0, w0, i0, hj, hs, hd⟩ := h a vs
  refine ⟨_, e1, a, rfl, ⟨vs, .inl (.inl ha)⟩, for_list (xs := vs) (fun k σ H => ∃ x, I k x ∧ SR K H0 H σ (f x)) ⟨x0, i0, (r.hold h0 e1 ha).weak w0⟩ ?_ ?_ ?_⟩
  · rintro k σ' H' _ ⟨x, _, rx⟩
    exact .inl (.inl (rx.ok _ _ (hj x)).2.2.1)
  · rintro k y σ' H' hk ⟨x, ik, rx⟩
    obtain ⟨d, hd', md⟩ := (rx.ok _ _ (hj x)).2.2.2.get' hk
    obtain ⟨s0, hi, ht, q⟩ := hs k d x hd' ik
    refine q _ _ _ ⟨?_, g.rt, ?_, ?_⟩ (rx.setIm hi ht md)
    · exact fun σ2 H2 S' r' ⟨y, w, iy⟩ => ⟨y, iy, r'.weak w⟩
    · exact fun σ2 H2 S' r' ⟨q1, q2⟩ => g.nx _ _ _ (r'.unhold q1) q2
    · exact fun σ2 H2 S' r' ⟨y, w, iy⟩ => ⟨y, iy, r'.weak w⟩
  · rintro σ' H' ⟨x, ik, rx⟩
    rw [m.len] at ik
    exact g.nx _ _ _ (rx.unhold (hj x)) (hd x ik)
/-- over a text, sign by sign -/
theorem wS_forS {tl : TE} {i : Nat} (h : wE K H0 tl S fun x => ∃ z : Str, x = .im (.str z) ∧ ∃ (α : Type) (f : α → List Sl) (I : Nat → α → Prop) (x0 : α), Wk S (f x0) ∧ I 0 x0 ∧
    (∀ (k : Nat) c x, z.cps[k]? = some c → I k x → ∃ s0, (f x)[i]? = some s0 ∧ s0.isT = false ∧ wS K H0 t ((f x).set i (.im (.str ⟨#[c]⟩))) (fun S' => ∃ y, Wk S' (f y) ∧ I (k + 1) y) R N (fun S' => ∃ y, Wk S' (f y) ∧ I (k + 1) y)) ∧
    (∀ x, I z.cps.size x → N (f x))) : wS K H0 (tFor (iStr tl) (gName i) t) S N R B C := fun D σ H g r => h σ H r _ fun v H1 xv e o ⟨z, e1, α, f, I, x0, w0, i0, hs, hd⟩ => by
  subst e1
  have ev := im_str o
  subst ev
  refine ⟨z, rfl, fun k m σ H => m = z.cps.size - k ∧ k ≤ z.cps.size ∧ ∃ x, I k x ∧ SR K H0 H σ (f x), ⟨_, rfl, Nat.zero_le _, x0, i0, (r.mono e).weak w0⟩, ?_⟩
  rintro k m σ' H' ⟨rfl, hk, x, ik, rx⟩
  by_cases hlt : k < z.cps.size
  · refine .inr ⟨hlt, fun σ H => ∃ x, I (k + 1) x ∧ SR K H0 H σ (f x), fun σ2 H2 q => ⟨z.cps.size - (k + 1), by omega, rfl, hlt, q⟩, fun y H2 q => ?_⟩
    obtain ⟨e2, c, hc, ec⟩ := q
    subst e2 ec
    obtain ⟨s0, hi, ht, q⟩ := hs k c x hc ik
    refine q _ _ _ ⟨?_, g.rt, g.nx, ?_⟩ (rx.setIm hi ht (.str _))
    · exact fun σ2 H2 S' r' ⟨y, w, iy⟩ => ⟨y, iy, r'.weak w⟩
    · exact fun σ2 H2 S' r' ⟨y, w, iy⟩ => ⟨y, iy, r'.weak w⟩
  · have ek : k = z.cps.size := by omega
    subst ek
    exact .inl ⟨Nat.le_refl _, g.nx _ _ _ rx (hd x ik)⟩
end
end Z

namespace Z
open PySem PySem.Spec L2

/-! ### what a def promises -/
def AOk (K : PySem.W.Frag) (H : Hp) (v : V) : Sl → Prop
  | .im d => Im K H v d
  | .bor ds => ∃ a vs, v = .ref a ∧ SqL K H a vs ∧ Ims K H vs ds
  | _ => False
inductive AOks (K : PySem.W.Frag) (H : Hp) : List V → List Sl → Prop
  | nil : AOks K H [] []
  | cons {v : V} {vs : List V} {s : Sl} {ss : List Sl} : AOk K H v s → AOks K H vs ss → AOks K H (v :: vs) (s :: ss)
/-- from arguments of the shape args g, where pre g holds, an answer of which post g holds, or an error of a class C with exc g C -/
def SpD (K : PySem.W.Frag) {α : Type} (args : α → List Sl) (pre : α → Prop) (post : α → Sl → Prop) (exc : α → Addr → Prop) : Sp := fun vs H Q E =>
  ∃ g, AOks K H vs (args g) ∧ pre g ∧ (∀ v H' r, Same H H' → ROk K H H' v r → post g r → Q v H') ∧ ∀ C H', Same H H' → exc g C → E (.ref C) none H'
abbrev noX {α : Type} : α → Addr → Prop := fun _ _ => False
section
variable {K : PySem.W.Frag} {H0 : Hp} {S : List Sl} {ta tb te : TE} {t u : TS} {c : TT} {P : Xd → Prop}
theorem AOks.len {H : Hp} : ∀ {vs : List V} {ss : List Sl}, AOks K H vs ss → vs.length = ss.length
  | _, _, .nil => rfl
  | _, _, .cons _ r => by rw [List.length_cons, List.length_cons, r.len]
theorem SpD.len {α : Type} {args : α → List Sl} {pre : α → Prop} {post : α → Sl → Prop} {exc : α → Addr → Prop} {n : Nat} (h : ∀ g, (args g).length = n) : ∀ vs H Q E, SpD K args pre post exc vs H Q E → vs.length = n := fun vs H Q E ⟨g, a, _⟩ => by rw [a.len, h g]
/-- the arguments stand in the first places -/
theorem AOks.start {H : Hp} : ∀ {vs : List V} {ss : List Sl} (n : Nat), AOks K H vs ss → SR K H H (vs.map some ++ List.replicate n none) (ss ++ List.replicate n .un) := fun {vs ss} n h => by
  have hl := h.len
  have at0 : ∀ {vs : List V} {ss : List Sl} {i : Nat} {s : Sl}, AOks K H vs ss → ss[i]? = some s → ∃ v, vs[i]? = some v ∧ AOk K H v s := by
    intro vs ss i s h
    induction h generalizing i with
    | nil => intro e; simp at e
    | cons h r ih =>
      intro e
      cases i with
      | zero =>
        simp at e
        subst e
        exact ⟨_, rfl, h⟩
      | succ i =>
        obtain ⟨v, hv, q⟩ := ih (by simpa using e)
        exact ⟨v, by simpa using hv, q⟩
  have look : ∀ {i : Nat} {s : Sl}, (ss ++ List.replicate n Sl.un)[i]? = some s → (∃ v, (vs.map some ++ List.replicate n none)[i]? = some (some v) ∧ AOk K H v s) ∨ (s = .un ∧ i < vs.length + n) := fun {i s} q => by
    by_cases hi : i < ss.length
    · rw [List.getElem?_append_left hi] at q
      obtain ⟨v, hv, z⟩ := at0 h q
      refine .inl ⟨v, ?_, z⟩
      rw [List.getElem?_append_left (by rw [List.length_map, hl]; exact hi), List.getElem?_map, hv]
      rfl
    · have hi' : ss.length ≤ i := Nat.le_of_not_lt hi
      rw [List.getElem?_append_right hi', List.getElem?_replicate] at q
      split at q
      · cases q
        exact .inr ⟨rfl, by omega⟩
      · cases q
  refine ⟨.refl H, fun i s q z => ?_, fun i s q => ?_, fun i j s t a hij hi hj ai aj => ?_⟩
  · have := (List.getElem?_eq_some_iff.mp q).1
    simp at this ⊢
    omega
  · rcases look q with ⟨v, hv, z⟩ | ⟨z, _⟩
    · rw [hv]
      cases s with
      | im d => exact ⟨v, rfl, z⟩
      | bor ds =>
        obtain ⟨a, us, e, z1, z2⟩ := z
        subst e
        exact ⟨a, us, rfl, z1, z2⟩
      | un => trivial
      | own _ => exact z.elim
      | hld _ _ _ => exact z.elim
      | tmp _ _ _ => exact z.elim
      | tmb _ _ _ => exact z.elim
      | tmt _ _ _ => exact z.elim
    · subst z
      trivial
  · rcases look hi with ⟨v, hv, z⟩ | ⟨z, _⟩
    · cases s with
      | own _ => exact z.elim
      | hld _ _ _ => exact z.elim
      | tmp _ _ _ => exact z.elim
      | _ => exact ai
    · subst z
      exact ai
/-- a body keeps its promise -/
theorem entry {α : Type} {args : α → List Sl} {pre : α → Prop} {post : α → Sl → Prop} {exc : α → Addr → Prop} {vs : List V} {H : Hp} {Q : VK} {E : XK} {N : List Str} {U : List Sl} (hU : ∀ g, List.replicate (N.length - (args g).length) Sl.un = U) (h : SpD K args pre post exc vs H Q E)
    (body : ∀ g, pre g → (∀ C H', Same H H' → exc g C → E (.ref C) none H') → wS K H t (args g ++ U) (fun _ => post g (.im .none)) (post g) (fun _ => False) (fun _ => False)) :
    t { nx := fun _ H' => Q .non H', rt := Q } (start N vs) H := by
  obtain ⟨g, a, p, k, x⟩ := h
  have s0 := a.start (N.length - (args g).length)
  rw [← a.len] at s0
  have b := body g p x
  rw [← hU g, ← a.len] at b
  refine b _ _ H ⟨fun σ H' S' r q => k _ _ (.im .none) r.ex .non q, fun v H' r e o q => k v H' r e o q, fun _ _ _ _ q => q.elim, fun _ _ _ _ q => q.elim⟩ s0
/-- an answer of a call -/
@[reducible] def Sl.x : Sl → Xd
  | .im d => .im d
  | .own ds => .new ds
  | _ => .im .none
theorem ROk.x {H H' : Hp} {σ : L2.St} {v : V} : ∀ {r : Sl}, ROk K H H' v r → XOk K H0 H H' σ S v r.x
  | .im d, h => h
  | .own ds, h => h
  | .un, h => h.elim
  | .bor _, h => h.elim
  | .hld _ _ _, h => h.elim
  | .tmp _ _ _, h => h.elim
  | .tmb _ _ _, h => h.elim
  | .tmt _ _ _, h => h.elim
theorem XOk.arg {H H' : Hp} {σ : L2.St} {v : V} (r : SR K H0 H' σ S) : ∀ {x : Xd}, XOk K H0 H H' σ S v x → AOk K H' v x.sl
  | .im d, h => h
  | .bor ds, h => XOk.lst r h (rfl : (Xd.bor ds).ls = some ds)
  | .at i ds, h => XOk.lst r h (rfl : (Xd.at i ds).ls = some ds)
  | .new ds, h => XOk.lst r h (rfl : (Xd.new ds).ls = some ds)
theorem XOks.args {H H' : Hp} {σ : L2.St} (r : SR K H0 H' σ S) : ∀ {vs : List V} {xs : List Xd}, XOks K H0 H H' σ S vs xs → AOks K H' vs (xs.map Xd.sl)
  | _, _, .nil => .nil
  | _, _, .cons h t => .cons (h.arg r) (XOks.args r t)
/-- a call: the letters, that they fit, and what follows of the answer -/
def cal {α : Type} (xs : List Xd) (args : α → List Sl) (pre : α → Prop) (post : α → Sl → Prop) (exc : α → Addr → Prop) (P : Xd → Prop) : Prop := ∃ g, xs.map Xd.sl = args g ∧ pre g ∧ (∀ C, ¬ exc g C) ∧ ∀ r, post g r → P r.x
theorem wE_call {α : Type} {args : α → List Sl} {pre : α → Prop} {post : α → Sl → Prop} {exc : α → Addr → Prop} {E : XK} {tr : TA}
    (h : wA K H0 tr S fun xs => cal xs args pre post exc P) : wE K H0 (tCall (SpD K args pre post exc) [] E tr) S P := fun σ H s Q q => h σ H s _ fun vs H1 xs e os ⟨g, e1, p, nx, k⟩ => by
  refine ⟨g, ?_, p, fun v H' r e2 o z => q v H' r.x (e.trans e2) (ROk.x o |>.pre e) (k r z), fun C H' _ z => (nx C z).elim⟩
  rw [List.append_nil, ← e1]
  exact os.args (s.mono e)
/-- a call that may raise, in a def that may -/
theorem wE_callX {α : Type} {args : α → List Sl} {pre : α → Prop} {post : α → Sl → Prop} {exc : α → Addr → Prop} {E : L2.St → XK} {tr : TA}
    (h : wA K H0 tr S fun xs => ∃ g, xs.map Xd.sl = args g ∧ pre g ∧ (∀ σ C H', Same H0 H' → exc g C → E σ (.ref C) none H') ∧ ∀ r, post g r → P r.x) : wE K H0 (tCallS (SpD K args pre post exc) E tr) S P := fun σ H s Q q => h σ H s _ fun vs H1 xs e os ⟨g, e1, p, nx, k⟩ => by
  refine ⟨g, ?_, p, fun v H' r e2 o z => q v H' r.x (e.trans e2) (ROk.x o |>.pre e) (k r z), fun C H' e2 z => nx σ C H' ((s.ex.trans e).trans e2) z⟩
  rw [← e1]
  exact os.args (s.mono e)
/-- a call without arguments -/
theorem wE_call0 {α : Type} {args : α → List Sl} {pre : α → Prop} {post : α → Sl → Prop} {exc : α → Addr → Prop} {E : XK} {te : TE} (he : ∀ σ H Q, SpD K args pre post exc [] H Q E → te σ H Q)
    (h : ∃ g, args g = [] ∧ pre g ∧ (∀ C, ¬ exc g C) ∧ ∀ r, post g r → P r.x) : wE K H0 te S P := fun σ H s Q q => by
  obtain ⟨g, e1, p, nx, k⟩ := h
  refine he σ H Q ⟨g, ?_, p, fun v H' r e2 o z => q v H' r.x e2 (ROk.x o) (k r z), fun C H' _ z => (nx C z).elim⟩
  rw [e1]
  exact .nil

/-! ### built-ins -/
abbrev rLen' (K : PySem.W.Frag) : List V → Hp → VK → Prop := fun xs H Q => ∃ x n, xs = [x] ∧ LenV K x H n ∧ Q (.int n) H
/-- the length: of a list, of a tuple, of a text -/
def Xd.len : Xd → Option Nat
  | .im (.tuple ds) => some ds.length
  | .im (.str z) => if z.length ≤ sizeLine then some z.length else none
  | .im _ => none
  | .bor ds => some ds.length
  | .at _ ds => some ds.length
  | .new ds => some ds.length
def nlen (x : Xd) (k : Nat → Prop) : Prop := ∃ n, x.len = some n ∧ k n
theorem nlen_mk {x : Xd} {n : Nat} {k : Nat → Prop} (e : x.len = some n) (h : k n) : nlen x k := ⟨n, e, h⟩
theorem wE_len (h : wE K H0 te S fun x => nlen x fun n => P (.im (.int n))) : wE K H0 (tCB (rLen' K) (tCons te tNil)) S P := fun σ H s Q q => h σ H s _ fun v H1 x e o ⟨n, e1, p⟩ => by
  refine ⟨v, n, rfl, ?_, q _ _ (.im _) e (.int _) p⟩
  have r := s.mono e
  have lst : ∀ {ds : List PyData}, x.ls = some ds → n = ds.length → LenV K v H1 n := fun {ds} k z => by
    obtain ⟨a, vs, rfl, m, t⟩ := o.lst r k
    exact .inl ⟨vs, m, by rw [t.len, z]⟩
  cases x with
  | bor ds => exact lst rfl (Option.some.inj e1).symm
  | «at» i ds => exact lst rfl (Option.some.inj e1).symm
  | new ds => exact lst rfl (Option.some.inj e1).symm
  | im d =>
    cases d with
    | tuple ds =>
      cases o with
      | tup hs hd => exact .inr ⟨_, hs, by rw [hd.len]; exact (Option.some.inj e1).symm⟩
    | str z =>
      have ev := im_str o
      subst ev
      have e2 : (if z.length ≤ sizeLine then some z.length else none) = some n := e1
      split at e2
      · rename_i hz
        exact ⟨hz, (Option.some.inj e2).symm⟩
      · cases e2
    | _ => cases e1
abbrev rAbs' : List V → Hp → VK → Prop := fun xs H Q => ∃ i, xs = [.int i] ∧ Q (.int (if i < 0 then -i else i)) H
theorem wE_abs (h : wE K H0 te S fun x => n1 x fun i => P (.im (.int (if i < 0 then -i else i)))) : wE K H0 (tCB rAbs' (tCons te tNil)) S P := fun σ H s Q q => h σ H s _ fun v H1 x e o ⟨n, e1, p⟩ => by
  subst e1
  have ev := im_int o
  subst ev
  exact ⟨n, rfl, q _ _ (.im _) e (.int _) p⟩
abbrev rTwo' (f : Int → Int → Int) : List V → Hp → VK → Prop := fun xs H Q => ∃ i j, xs = [.int i, .int j] ∧ Q (.int (f i j)) H
theorem wE_max2 (h : wE K H0 ta S fun x => wE K H0 tb S fun y => n2 x y fun i j => P (.im (.int (max i j)))) : wE K H0 (tCB (fun xs H Q => ∃ i j, xs = [.int i, .int j] ∧ Q (.int (if j > i then j else i)) H) (tCons ta (tCons tb tNil))) S P :=
  fun σ H s Q q => h σ H s _ fun v H1 x e o h1 => h1 σ H1 (s.mono e) _ fun w H2 y e2 o2 ⟨i, j, e3, e4, p⟩ => by
    dsimp only at p
    subst e3 e4
    have ev := im_int o
    subst ev
    have ev := im_int o2
    subst ev
    have em : (if j > i then j else i) = max i j := by split <;> omega
    rw [← em] at p
    exact ⟨i, j, rfl, q _ _ (.im _) (e.trans e2) (.int _) p⟩
theorem wE_min2 (h : wE K H0 ta S fun x => wE K H0 tb S fun y => n2 x y fun i j => P (.im (.int (min i j)))) : wE K H0 (tCB (fun xs H Q => ∃ i j, xs = [.int i, .int j] ∧ Q (.int (if j < i then j else i)) H) (tCons ta (tCons tb tNil))) S P :=
  fun σ H s Q q => h σ H s _ fun v H1 x e o h1 => h1 σ H1 (s.mono e) _ fun w H2 y e2 o2 ⟨i, j, e3, e4, p⟩ => by
    dsimp only at p
    subst e3 e4
    have ev := im_int o
    subst ev
    have ev := im_int o2
    subst ev
    have em : (if j < i then j else i) = min i j := by split <;> omega
    rw [← em] at p
    exact ⟨i, j, rfl, q _ _ (.im _) (e.trans e2) (.int _) p⟩
/-- the greatest common divisor -/
abbrev gc (u l : Int) : Int := (Int.gcd u l : Nat)
/-- gcd -/
theorem wE_gcd (h : wE K H0 ta S fun x => wE K H0 tb S fun y => n2 x y fun i j => P (.im (.int (gc i j)))) : wE K H0 (tCB rGcd (tCons ta (tCons tb tNil))) S P :=
  fun σ H s Q q => h σ H s _ fun v H1 x e o h1 => h1 σ H1 (s.mono e) _ fun w H2 y e2 o2 ⟨i, j, e3, e4, p⟩ => by
    subst e3 e4
    have ev := im_int o
    subst ev
    have ev := im_int o2
    subst ev
    exact ⟨i, j, rfl, q _ _ (.im _) (e.trans e2) (.int _) p⟩
/-- isinstance(x, T), T a built-in class -/
def tyD : PyData → String
  | .none => "NoneType"
  | .bool _ => "bool"
  | .int _ => "int"
  | .str _ => "str"
  | .list _ => "list"
  | .tuple _ => "tuple"
  | .dict _ => "dict"
def Xd.ty : Xd → String
  | .im d => tyD d
  | _ => "list"
theorem sql_ty {H : Hp} {a : Addr} {xs : List V} (h : SqL K H a xs) : TyX K H (.ref a) (.type "list") := by
  rcases h with (h | ⟨o, h⟩) | ⟨o, _, _, h, c, _⟩
  · exact .base (.lst h)
  · exact .base (.frz h)
  · exact .kList h c
theorem sqt_ty {H : Hp} {a : Addr} {xs : List V} (h : SqT K H a xs) : TyX K H (.ref a) (.type "tuple") := by
  rcases h with (h | ⟨o, h⟩) | ⟨o, _, _, h, c, _⟩
  · exact .base (.tup h)
  · exact .fTuple h
  · exact .kTuple h c
theorem im_ty {H : Hp} {v : V} : ∀ {d : PyData}, Im K H v d → TyX K H v (.type (tyD d))
  | .none, h => by cases h; exact .base .non
  | .bool b, h => by cases h; exact .base (.bl b)
  | .int b, h => by cases h; exact .base (.int b)
  | .str b, h => by cases h; exact .base (.str b)
  | .list _, h => by
    cases h with
    | anyL h =>
      obtain ⟨xs, h⟩ := h
      exact sql_ty h
  | .dict _, h => by
    cases h with
    | anyD h =>
      obtain ⟨xs, h⟩ := h
      exact .base (.dK h)
  | .tuple _, h => by
    cases h with
    | tup h _ => exact sqt_ty h
theorem xok_ty {H H' : Hp} {σ : L2.St} {v : V} (r : SR K H0 H' σ S) : ∀ {x : Xd}, XOk K H0 H H' σ S v x → TyX K H' v (.type x.ty)
  | .im d, h => im_ty h
  | .bor ds, h => by
    obtain ⟨a, vs, rfl, m, _⟩ := XOk.lst r h (rfl : (Xd.bor ds).ls = some ds)
    exact sql_ty m
  | .at i ds, h => by
    obtain ⟨a, vs, rfl, m, _⟩ := XOk.lst r h (rfl : (Xd.at i ds).ls = some ds)
    exact sql_ty m
  | .new ds, h => by
    obtain ⟨a, vs, rfl, m, _⟩ := XOk.lst r h (rfl : (Xd.new ds).ls = some ds)
    exact sql_ty m
def nisi (x : Xd) (n : String) (k : Bool → Prop) : Prop := ∃ b, kitB x.ty n = some b ∧ k b
theorem nisi_mk {x : Xd} {n : String} {b : Bool} {k : Bool → Prop} (e : kitB x.ty n = some b) (h : k b) : nisi x n k := ⟨b, e, h⟩
theorem wE_isi {n : String} (h : wE K H0 te S fun x => nisi x n fun b => P (.im (.bool b))) : wE K H0 (tCB (rIsi K) (tCons te (tCons (tC (.ty n)) tNil))) S P := fun σ H s Q q => h σ H s _ fun v H1 x e o ⟨b, e1, p⟩ =>
  ⟨v, .ty n, .type x.ty, .type n, b, rfl, .ty n, xok_ty (s.mono e) o, kit_ty e1, q _ _ (.im _) e (.bl _) p⟩
def nls (x : Xd) (k : List PyData → Prop) : Prop := ∃ ds, x.ls = some ds ∧ k ds
theorem nls_mk {x : Xd} {ds : List PyData} {k : List PyData → Prop} (e : x.ls = some ds) (h : k ds) : nls x k := ⟨ds, e, h⟩
/-- list(xs) -/
theorem wE_listOf (h : wE K H0 te S fun x => nls x fun ds => P (.new ds)) : wE K H0 (tCB (fun xs H Q => ∃ p ys, xs = [.ref p] ∧ (SqL K H p ys ∨ SqT K H p ys) ∧ ∀ l, H l = none → Q (.ref l) (upd H l (.lst ys))) (tCons te tNil)) S P := fun σ H s Q q =>
  h σ H s _ fun v H1 x e o ⟨ds, e1, p⟩ => by
    obtain ⟨a, vs, rfl, m, t⟩ := o.lst (s.mono e) e1
    exact ⟨a, vs, rfl, .inl m, fun l hl => q _ _ (.new ds) (e.trans (same_upd hl)) ⟨l, vs, rfl, free_back e hl, upd_same, Ims.mono (.of (same_upd hl)) _ _ t⟩ p⟩
end
end Z

namespace Z
open PySem PySem.Spec L2 PyProof.Rows

/-! ### sizes -/
/-- the figures of n, base two -/
def lgA : Nat → Nat → Nat
  | 0, _ => 0
  | f + 1, n => if n = 0 then 0 else lgA f (n / 2) + 1
theorem lgA_lt : ∀ (f n : Nat), n < f → n < 2 ^ lgA f n
  | 0, _, h => by omega
  | f + 1, n, h => by
    unfold lgA
    split
    · rename_i e
      subst e
      decide
    · have := lgA_lt f (n / 2) (by omega)
      rw [Nat.pow_succ]
      omega
/-- below 2 ^ k in size -/
class Bd (k : outParam Nat) (i : Int) : Prop where
  abs : i.natAbs < 2 ^ k
section
variable {k l : Nat} {i j : Int}
theorem Bd.mono (h : Bd k i) (hl : k ≤ l) : Bd l i := ⟨Nat.lt_of_lt_of_le h.abs (Nat.pow_le_pow_right (by decide) hl)⟩
theorem Bd.mul (h : Bd k i) (h' : Bd l j) : Bd (k + l) (i * j) := ⟨by
  rw [Int.natAbs_mul, Nat.pow_add]
  exact Nat.mul_lt_mul'' h.abs h'.abs⟩
theorem Bd.add (h : Bd k i) (h' : Bd l j) : Bd (k + l + 1) (i + j) := ⟨by
  have h1 : (i + j).natAbs ≤ i.natAbs + j.natAbs := Int.natAbs_add_le i j
  have h2 : 2 ^ k ≤ 2 ^ (k + l) := Nat.pow_le_pow_right (by decide) (by omega)
  have h3 : 2 ^ l ≤ 2 ^ (k + l) := Nat.pow_le_pow_right (by decide) (by omega)
  have h4 := h.abs
  have h5 := h'.abs
  rw [Nat.pow_succ]
  omega⟩
theorem Bd.neg (h : Bd k i) : Bd k (-i) := ⟨by rw [Int.natAbs_neg]; exact h.abs⟩
theorem Bd.sub (h : Bd k i) (h' : Bd l j) : Bd (k + l + 1) (i - j) := by
  rw [Int.sub_eq_add_neg]
  exact h.add h'.neg
theorem Bd.of (h0 : 0 ≤ i) (h : i < 2 ^ k) : Bd k i := ⟨by
  have e : ((2 ^ k : Nat) : Int) = 2 ^ k := by simp
  omega⟩
theorem Bd.of2 (h0 : - 2 ^ k < i) (h : i < 2 ^ k) : Bd k i := ⟨by
  have e : ((2 ^ k : Nat) : Int) = 2 ^ k := by simp
  omega⟩
theorem Bd.lt (h : Bd k i) : i < 2 ^ k := by
  have e : ((2 ^ k : Nat) : Int) = 2 ^ k := by simp
  have := h.abs
  omega
theorem Bd.le (h : Bd k j) (h0 : 0 ≤ i) (h1 : i ≤ j) : Bd k i := ⟨by have := h.abs; omega⟩
theorem Bd.div (h : Bd k i) (h0 : 0 ≤ i) (h1 : 0 ≤ j) : Bd k (i / j) := h.le (Int.ediv_nonneg h0 h1) (Int.ediv_le_self _ h0)
theorem Bd.bits (h : Bd k i) (hk : k ≤ 2 ^ 20) : Builtin.Int.intBits i ≤ 2 ^ 20 := by
  have h := h.abs
  unfold Builtin.Int.intBits
  by_cases h0 : i = 0
  · simp [h0]
  · have : i.natAbs ≠ 0 := by omega
    have := (Nat.log2_lt this).mpr h
    split <;> omega
theorem Bd.mulOk (h : Bd k i) (h' : Bd l j) (hk : k ≤ 500000) (hl : l ≤ 500000) : IntMulOk i j := IntMulOk.of_bits (h.bits (by omega)) (h'.bits (by omega))
theorem Bd.divOk {i j : Int} (h : Bd k j) (hj : 0 < j) (hk : k ≤ 9000) : CDivW i j := by
  have h := h.abs
  have : j.natAbs ≠ 0 := by omega
  have := (Nat.log2_lt this).mpr h
  exact ⟨hj, by omega⟩
instance Bd.mulI [h : Bd k i] [h' : Bd l j] : Bd (k + l) (i * j) := h.mul h'
instance Bd.addI [h : Bd k i] [h' : Bd l j] : Bd (k + l + 1) (i + j) := h.add h'
instance Bd.subI [h : Bd k i] [h' : Bd l j] : Bd (k + l + 1) (i - j) := h.sub h'
instance Bd.negI [h : Bd k i] : Bd k (-i) := h.neg
instance Bd.litI {n : Nat} : Bd (lgA (n + 1) n) (no_index (OfNat.ofNat n : Int)) := ⟨by
  show (n : Int).natAbs < _
  rw [Int.natAbs_natCast]
  exact lgA_lt _ _ (Nat.lt_succ_self n)⟩
instance Bd.powI {n : Nat} [h : Bd k i] : Bd (k * n + 1) (i ^ n) := ⟨by
  rw [Int.natAbs_pow]
  have h1 : i.natAbs ^ n ≤ (2 ^ k) ^ n := Nat.pow_le_pow_left (Nat.le_of_lt h.abs) n
  rw [← Nat.pow_mul] at h1
  refine Nat.lt_of_le_of_lt h1 (Nat.pow_lt_pow_right (by decide) (Nat.lt_succ_self _))⟩
theorem Bd.mulI' (hi : Bd k i) (hj : Bd l j) (hk : Nat.ble (k + l) 500000 = true) : IntMulOk i j := by
  have := Nat.le_of_ble_eq_true hk
  exact hi.mulOk hj (by omega) (by omega)
theorem Bd.divI' (hj : Bd l j) (h0 : 0 < j) (hl : Nat.ble l 9000 = true) : CDivW i j := hj.divOk h0 (Nat.le_of_ble_eq_true hl)
end
theorem op_mulK {X : Cx} : OpR X (binaryOp .Mult) (rI IntMulOk fun i j => .int (i * j)) := opI fun _ _ _ _ _ _ _ hc q => mul_int q hc
theorem mulOk_l {i j : Int} (h : -(2 ^ 64) < i ∧ i < 2 ^ 64) : IntMulOk i j := CMul.ok (.inl h)
theorem mulOk_r {i j : Int} (h : -(2 ^ 64) < j ∧ j < 2 ^ 64) : IntMulOk i j := CMul.ok (.inr h)

/-! ### equality of data -/
mutual
/-- neither True nor False in it, nor what is known by its kind alone -/
def nob : PyData → Bool
  | .none => true
  | .bool _ => false
  | .int _ => true
  | .str _ => true
  | .list ds => nobs ds
  | .tuple ds => nobs ds
  | .dict _ => false
def nobs : List PyData → Bool
  | [] => true
  | d :: ds => nob d && nobs ds
end
mutual
theorem eqv_iff : ∀ (d e : PyData), nob d = true → nob e = true → (PyData.eqv d e = true ↔ d = e)
  | .none, e, _, h => by cases e <;> simp_all [PyData.eqv, nob]
  | .bool _, _, h, _ => by simp [nob] at h
  | .int i, e, _, h => by cases e <;> simp_all [PyData.eqv, nob]
  | .str i, e, _, h => by cases e <;> simp_all [PyData.eqv, nob]
  | .dict _, _, h, _ => by simp [nob] at h
  | .list ds, e, h1, h2 => by
    cases e with
    | list es =>
      have := eqvs_iff ds es (by simpa [nob] using h1) (by simpa [nob] using h2)
      simp [PyData.eqv, this]
    | _ => simp_all [PyData.eqv, nob]
  | .tuple ds, e, h1, h2 => by
    cases e with
    | tuple es =>
      have := eqvs_iff ds es (by simpa [nob] using h1) (by simpa [nob] using h2)
      simp [PyData.eqv, this]
    | _ => simp_all [PyData.eqv, nob]
theorem eqvs_iff : ∀ (ds es : List PyData), nobs ds = true → nobs es = true → (PyData.eqvAll ds es = true ↔ ds = es)
  | [], es, _, _ => by cases es <;> simp [PyData.eqvAll]
  | d :: ds, es, h1, h2 => by
    cases es with
    | nil => simp [PyData.eqvAll]
    | cons e es =>
      have h1' : nob d = true ∧ nobs ds = true := by simpa [nobs] using h1
      have h2' : nob e = true ∧ nobs es = true := by simpa [nobs] using h2
      have q1 := eqv_iff d e h1'.1 h2'.1
      have q2 := eqvs_iff ds es h1'.2 h2'.2
      simp [PyData.eqvAll, q1, q2]
end
theorem ite_q {d e : PyData} {A B : Prop} (hd : nob d = true) (he : nob e = true) (h1 : d = e → A) (h2 : d ≠ e → B) : if PyData.eqv d e = true then A else B := by
  by_cases h : PyData.eqv d e = true
  · rw [if_pos h]
    exact h1 ((eqv_iff d e hd he).mp h)
  · rw [if_neg h]
    exact h2 fun z => h ((eqv_iff d e hd he).mpr z)
theorem ite_qn {d e : PyData} {A B : Prop} (hd : nob d = true) (he : nob e = true) (h1 : d ≠ e → A) (h2 : d = e → B) : if (!PyData.eqv d e) = true then A else B := by
  by_cases h : PyData.eqv d e = true
  · rw [h]
    exact iteF (h2 ((eqv_iff d e hd he).mp h))
  · have h' : PyData.eqv d e = false := by simpa using h
    rw [h']
    exact iteT (h1 fun z => h ((eqv_iff d e hd he).mpr z))
theorem eqv_ii {i j : Int} : PyData.eqv (.int i) (.int j) = decide (i = j) := by
  unfold PyData.eqv
  by_cases h : i = j
  · simp [h]
  · simp [h]
theorem neq_ii {i j : Int} {k : Bool → Prop} (h : k (decide (i = j))) : neq (.im (.int i)) (.im (.int j)) k := ⟨⟨rfl, rfl⟩, ⟨rfl, rfl⟩, by show k (PyData.eqv (.int i) (.int j)); rw [eqv_ii]; exact h⟩
theorem eqv_pp {a b c d : Int} : PyData.eqv (.tuple [.int a, .int b]) (.tuple [.int c, .int d]) = decide (a = c ∧ b = d) := by
  have h := eqv_iff (.tuple [.int a, .int b]) (.tuple [.int c, .int d]) rfl rfl
  rw [Bool.eq_iff_iff, h]
  simp
theorem neq_pp {a b c d : Int} {k : Bool → Prop} (h : k (decide (a = c ∧ b = d))) : neq (.im (.tuple [.int a, .int b])) (.im (.tuple [.int c, .int d])) k := ⟨⟨rfl, rfl⟩, ⟨rfl, rfl⟩, by
  show k (PyData.eqv (.tuple [.int a, .int b]) (.tuple [.int c, .int d]))
  rw [eqv_pp]
  exact h⟩
theorem eqv_ss {x y : Str} : PyData.eqv (.str x) (.str y) = decide (x = y) := by
  have h := eqv_iff (.str x) (.str y) rfl rfl
  rw [Bool.eq_iff_iff, h]
  simp
theorem iteNT {A B : Prop} (h : B) : if (!true) = true then A else B := iteF h
theorem iteNF {A B : Prop} (h : A) : if (!false) = true then A else B := iteT h

section
variable {K : PySem.W.Frag} {H0 : Hp} {S : List Sl} {ta tb te : TE} {P : Xd → Prop}
/-! ### is True, is None -/
def nb2 (x y : Xd) (k : Bool → Bool → Prop) : Prop := ∃ a b, x = .im (.bool a) ∧ y = .im (.bool b) ∧ k a b
theorem nb2_mk {a b : Bool} {k : Bool → Bool → Prop} (h : k a b) : nb2 (.im (.bool a)) (.im (.bool b)) k := ⟨a, b, rfl, rfl, h⟩
theorem wE_isB (h : wE K H0 ta S fun x => wE K H0 tb S fun y => nb2 x y fun a b => P (.im (.bool (decide (a = b))))) : wE K H0 (tOp rIsB ta tb) S P :=
  wE_two (h.imp fun x hx => hx.imp fun y ⟨i, j, e1, e2, p⟩ σ H1 H2 H v w r _ _ o1 o2 Q q => by
    subst e1 e2
    exact ⟨i, j, im_bl o1, im_bl o2, q _ _ (.im _) (.refl _) (.bl _) p⟩)
theorem wE_notB (h : wE K H0 ta S fun x => wE K H0 tb S fun y => nb2 x y fun a b => P (.im (.bool (!decide (a = b))))) : wE K H0 (tOp rNotB ta tb) S P :=
  wE_two (h.imp fun x hx => hx.imp fun y ⟨i, j, e1, e2, p⟩ σ H1 H2 H v w r _ _ o1 o2 Q q => by
    subst e1 e2
    exact ⟨i, j, im_bl o1, im_bl o2, q _ _ (.im _) (.refl _) (.bl _) p⟩)
theorem wE_isT (h : wE K H0 ta S fun x => nb x fun a => P (.im (.bool a))) : wE K H0 (tOp rIsB ta (tC (.bl true))) S P :=
  wE_isB (h.imp fun x ⟨a, e, p⟩ => wE_bl ⟨a, true, e, rfl, by
    have q : decide (a = true) = a := by cases a <;> rfl
    dsimp only
    rw [q]
    exact p⟩)
theorem wE_isF (h : wE K H0 ta S fun x => nb x fun a => P (.im (.bool (!a)))) : wE K H0 (tOp rIsB ta (tC (.bl false))) S P :=
  wE_isB (h.imp fun x ⟨a, e, p⟩ => wE_bl ⟨a, false, e, rfl, by
    have q : decide (a = false) = !a := by cases a <;> rfl
    dsimp only
    rw [q]
    exact p⟩)
theorem wE_notT (h : wE K H0 ta S fun x => nb x fun a => P (.im (.bool (!a)))) : wE K H0 (tOp rNotB ta (tC (.bl true))) S P :=
  wE_notB (h.imp fun x ⟨a, e, p⟩ => wE_bl ⟨a, true, e, rfl, by
    have q : (!decide (a = true)) = !a := by cases a <;> rfl
    dsimp only
    rw [q]
    exact p⟩)
theorem wE_notF (h : wE K H0 ta S fun x => nb x fun a => P (.im (.bool a))) : wE K H0 (tOp rNotB ta (tC (.bl false))) S P :=
  wE_notB (h.imp fun x ⟨a, e, p⟩ => wE_bl ⟨a, false, e, rfl, by
    have q : (!decide (a = false)) = a := by cases a <;> rfl
    dsimp only
    rw [q]
    exact p⟩)
/-- is it None -/
def Xd.isN : Xd → Bool
  | .im .none => true
  | _ => false
theorem xok_non {H H' : Hp} {σ : L2.St} {v : V} (r : SR K H0 H' σ S) : ∀ {x : Xd}, XOk K H0 H H' σ S v x → decide (v = .non) = x.isN := by
  intro x o
  cases x with
  | im d =>
    cases d with
    | none => cases o; rfl
    | bool _ => cases o; rfl
    | int _ => cases o; rfl
    | str _ => cases o; rfl
    | list _ => cases o; rfl
    | tuple _ => cases o; rfl
    | dict _ => cases o; rfl
  | bor ds =>
    obtain ⟨a, vs, rfl, _⟩ := o.lst r (rfl : (Xd.bor ds).ls = some ds)
    rfl
  | «at» i ds =>
    obtain ⟨a, vs, rfl, _⟩ := o.lst r (rfl : (Xd.at i ds).ls = some ds)
    rfl
  | new ds =>
    obtain ⟨a, vs, rfl, _⟩ := o.lst r (rfl : (Xd.new ds).ls = some ds)
    rfl
theorem wE_isN (h : wE K H0 ta S fun x => P (.im (.bool x.isN))) : wE K H0 (tOp (fun x y H Q => y = .non ∧ Q (.bl (decide (x = .non))) H) ta (tC .non)) S P := fun σ H s Q q => h σ H s _ fun v H1 x e o p => by
  refine ⟨rfl, ?_⟩
  rw [xok_non (s.mono e) o]
  exact q _ _ (.im _) e (.bl _) p
theorem wE_notN (h : wE K H0 ta S fun x => P (.im (.bool (!x.isN)))) : wE K H0 (tOp (fun x y H Q => y = .non ∧ Q (.bl (!decide (x = .non))) H) ta (tC .non)) S P := fun σ H s Q q => h σ H s _ fun v H1 x e o p => by
  refine ⟨rfl, ?_⟩
  rw [xok_non (s.mono e) o]
  exact q _ _ (.im _) e (.bl _) p
end
/-! ### isinstance, by kinds -/
def kt (a b : String) : Bool := decide (a = b) || (decide (a = "bool") && decide (b = "int"))
theorem kit_tab : (["NoneType", "bool", "int", "str", "list", "tuple", "dict"].all fun a => ["bool", "int", "str", "list", "tuple", "dict"].all fun b => kitB a b == some (kt a b)) = true := by decide +kernel
theorem kit_at {a b : String} (ha : a ∈ ["NoneType", "bool", "int", "str", "list", "tuple", "dict"]) (hb : b ∈ ["bool", "int", "str", "list", "tuple", "dict"]) : kitB a b = some (kt a b) := by
  have h := List.all_eq_true.mp (List.all_eq_true.mp kit_tab a ha) b hb
  exact eq_of_beq h
theorem ty_mem (x : Xd) : x.ty ∈ ["NoneType", "bool", "int", "str", "list", "tuple", "dict"] := by
  cases x with
  | im d => cases d <;> simp [Xd.ty, tyD]
  | _ => simp [Xd.ty]
theorem nisi_at {x : Xd} {n : String} {k : Bool → Prop} (hb : n ∈ ["bool", "int", "str", "list", "tuple", "dict"]) (h : k (kt x.ty n)) : nisi x n k := ⟨_, kit_at (ty_mem x) hb, h⟩
theorem nisi_is {x : Xd} {n : String} {k : Bool → Prop} {b : Bool} (hb : n ∈ ["bool", "int", "str", "list", "tuple", "dict"]) (e : kt x.ty n = b) (h : k b) : nisi x n k := nisi_at hb (by rw [e]; exact h)
section
variable {K : PySem.W.Frag} {H0 : Hp} {S : List Sl} {ta tb te : TE} {P : Xd → Prop}
/-! == of two numbers, of two texts -/
def nsc (x y : Xd) (k : Bool → Prop) : Prop := (∃ i j, x = .im (.int i) ∧ y = .im (.int j) ∧ k (decide (i = j))) ∨ ∃ a b, x = .im (.str a) ∧ y = .im (.str b) ∧ k (decide (a = b))
theorem nsc_ii {i j : Int} {k : Bool → Prop} (h : k (decide (i = j))) : nsc (.im (.int i)) (.im (.int j)) k := .inl ⟨i, j, rfl, rfl, h⟩
theorem nsc_ss {i j : Str} {k : Bool → Prop} (h : k (decide (i = j))) : nsc (.im (.str i)) (.im (.str j)) k := .inr ⟨i, j, rfl, rfl, h⟩
theorem wE_eqS (h : wE K H0 ta S fun x => wE K H0 tb S fun y => nsc x y fun b => P (.im (.bool b))) : wE K H0 (tOp rEq ta tb) S P :=
  wE_two (h.imp fun x hx => hx.imp fun y hy σ H1 H2 H v w r _ _ o1 o2 Q q => by
    rcases hy with ⟨i, j, e1, e2, p⟩ | ⟨i, j, e1, e2, p⟩
    · subst e1 e2
      have ev := im_int o1
      have ew := im_int o2
      subst ev ew
      refine ⟨rfl, ?_⟩
      have e : decide (V.int i = V.int j) = decide (i = j) := by rw [decide_eq_decide]; simp
      rw [e]
      exact q _ _ (.im _) (.refl _) (.bl _) p
    · subst e1 e2
      have ev := im_str o1
      have ew := im_str o2
      subst ev ew
      refine ⟨rfl, ?_⟩
      have e : decide (V.str i = V.str j) = decide (i = j) := by rw [decide_eq_decide]; simp
      rw [e]
      exact q _ _ (.im _) (.refl _) (.bl _) p)
theorem wE_neS (h : wE K H0 ta S fun x => wE K H0 tb S fun y => nsc x y fun b => P (.im (.bool (!b)))) : wE K H0 (tOp rNe ta tb) S P :=
  wE_two (h.imp fun x hx => hx.imp fun y hy σ H1 H2 H v w r _ _ o1 o2 Q q => by
    rcases hy with ⟨i, j, e1, e2, p⟩ | ⟨i, j, e1, e2, p⟩
    · subst e1 e2
      have ev := im_int o1
      have ew := im_int o2
      subst ev ew
      refine ⟨rfl, ?_⟩
      have e : decide (V.int i = V.int j) = decide (i = j) := by rw [decide_eq_decide]; simp
      rw [e]
      exact q _ _ (.im _) (.refl _) (.bl _) p
    · subst e1 e2
      have ev := im_str o1
      have ew := im_str o2
      subst ev ew
      refine ⟨rfl, ?_⟩
      have e : decide (V.str i = V.str j) = decide (i = j) := by rw [decide_eq_decide]; simp
      rw [e]
      exact q _ _ (.im _) (.refl _) (.bl _) p)
end
section
variable {K : PySem.W.Frag} {H0 : Hp} {S : List Sl} {ta tb te : TE} {P : Xd → Prop}
/-! lists joined, an empty dict -/
def Xd.lo : Xd → Option (List PyData)
  | .at _ ds => some ds
  | .new ds => some ds
  | _ => none
theorem XOk.lo {H H' : Hp} {σ : L2.St} {v : V} (r : SR K H0 H' σ S) : ∀ {x : Xd} {ds : List PyData}, XOk K H0 H H' σ S v x → x.lo = some ds → ∃ a vs, v = .ref a ∧ H' a = some (.lst vs) ∧ Ims K H' vs ds
  | .im _, _, _, e => by cases e
  | .bor _, _, _, e => by cases e
  | .at i _, _, ⟨h1, h2⟩, e => by
    cases e
    obtain ⟨a, vs, h, z, g, t⟩ := r.ok i _ h1
    rw [h2] at h
    cases h
    exact ⟨a, vs, rfl, g, t⟩
  | .new _, _, ⟨a, vs, h, n, g, t⟩, e => by
    cases e
    exact ⟨a, vs, h, g, t⟩
def ncat (x y : Xd) (k : List PyData → Prop) : Prop := ∃ ds es, x.lo = some ds ∧ y.lo = some es ∧ ds.length + es.length ≤ 100000 ∧ k (ds ++ es)
theorem ncat_mk {x y : Xd} {ds es : List PyData} {k : List PyData → Prop} (e1 : x.lo = some ds) (e2 : y.lo = some es) (h : ds.length + es.length ≤ 100000) (p : k (ds ++ es)) : ncat x y k := ⟨ds, es, e1, e2, h, p⟩
theorem wE_cat (h : wE K H0 ta S fun x => wE K H0 tb S fun y => ncat x y fun ds => P (.new ds)) : wE K H0 (tOp rCat ta tb) S P :=
  wE_two (h.imp fun x hx => hx.imp fun y ⟨ds, es, e1, e2, hl, p⟩ σ H1 H2 H v w r _ _ o1 o2 Q q => by
    obtain ⟨a, vs, rfl, g1, t1⟩ := o1.lo r e1
    obtain ⟨b, us, rfl, g2, t2⟩ := o2.lo r e2
    refine ⟨a, b, vs, us, rfl, rfl, g1, g2, by rw [t1.len, t2.len]; exact Nat.le_trans hl (by decide), fun l hl => q _ _ (.new (ds ++ es)) (same_upd hl) ⟨l, vs ++ us, rfl, hl, upd_same, ?_⟩ p⟩
    exact Ims.mono (.of (same_upd hl)) _ _ (t1.append t2))
theorem wE_dict (p : P (.im (.dict []))) : wE K H0 tDNewK S P := fun σ H s Q q l hl => q _ _ (.im (.dict [])) (same_upd hl) (.anyD ⟨[], upd_same⟩) p
end
section
variable {K : PySem.W.Frag} {H0 : Hp} {S : List Sl} {ta tb te : TE} {P : Xd → Prop}
/-! x in t, t a tuple or a list of flat things -/
def flatD : PyData → Bool
  | .none => true
  | .bool _ => true
  | .int _ => true
  | .str _ => true
  | _ => false
def inD (d : PyData) (ds : List PyData) : Bool := ds.any fun e => PyData.eqv e d
theorem im_flat {H : Hp} {v : V} {d : PyData} (h : Im K H v d) (f : flatD d = true) : flatV v = true := by
  cases h <;> first | rfl | cases f
theorem ims_flat {H : Hp} : ∀ {vs : List V} {ds : List PyData}, Ims K H vs ds → ds.all flatD = true → vs.all flatV = true
  | _, [], h, _ => by cases h; rfl
  | _, d :: ds, h, f => by
    cases h with
    | cons h1 h2 =>
      rw [List.all_cons, Bool.and_eq_true_iff] at f
      rw [List.all_cons, Bool.and_eq_true_iff]
      exact ⟨im_flat h1 f.1, ims_flat h2 f.2⟩
theorem eqV_eqv {H : Hp} {v w : V} {d e : PyData} (h : Im K H v d) (k : Im K H w e) (f : flatD d = true) (g : flatD e = true) : eqV v w = PyData.eqv d e := by
  cases h <;> first | (cases k <;> first | rfl | cases g) | cases f
theorem inV_inD {H : Hp} {v : V} {d : PyData} (h : Im K H v d) (f : flatD d = true) : ∀ {vs : List V} {ds : List PyData}, Ims K H vs ds → ds.all flatD = true → inV v vs = inD d ds
  | _, [], h, _ => by cases h; rfl
  | _, e :: ds, k, g => by
    cases k with
    | cons k1 k2 =>
      rw [List.all_cons, Bool.and_eq_true_iff] at g
      have ih := inV_inD h f k2 g.2
      unfold inV inD at *
      rw [List.any_cons, List.any_cons, ih, eqV_eqv k1 h g.1 f]
/-- the items -/
def Xd.sq : Xd → Option (List PyData)
  | .im (.tuple ds) => some ds
  | .im _ => none
  | .bor ds => some ds
  | .at _ ds => some ds
  | .new ds => some ds
def nin (x y : Xd) (k : Bool → Prop) : Prop := ∃ d ds, x = .im d ∧ y.sq = some ds ∧ flatD d = true ∧ ds.all flatD = true ∧ k (inD d ds)
theorem nin_mk {d : PyData} {y : Xd} {ds : List PyData} {k : Bool → Prop} (e : y.sq = some ds) (f : flatD d = true) (g : ds.all flatD = true) (h : k (inD d ds)) : nin (.im d) y k := ⟨d, ds, rfl, e, f, g, h⟩
theorem XOk.sq {H H' : Hp} {σ : L2.St} {v : V} (r : SR K H0 H' σ S) : ∀ {x : Xd} {ds : List PyData}, XOk K H0 H H' σ S v x → x.sq = some ds → ∃ a vs, v = .ref a ∧ (SqL K H' a vs ∨ SqT K H' a vs) ∧ Ims K H' vs ds
  | .im (.tuple _), _, o, e => by
    cases e
    cases o with
    | tup hs hd => exact ⟨_, _, rfl, .inr hs, hd⟩
  | .im .none, _, _, e => by cases e
  | .im (.bool _), _, _, e => by cases e
  | .im (.int _), _, _, e => by cases e
  | .im (.str _), _, _, e => by cases e
  | .im (.list _), _, _, e => by cases e
  | .im (.dict _), _, _, e => by cases e
  | .bor ds, _, o, e => by
    cases e
    obtain ⟨a, vs, rfl, q, t⟩ := XOk.lst r o (rfl : (Xd.bor ds).ls = some ds)
    exact ⟨a, vs, rfl, .inl q, t⟩
  | .at i ds, _, o, e => by
    cases e
    obtain ⟨a, vs, rfl, q, t⟩ := XOk.lst r o (rfl : (Xd.at i ds).ls = some ds)
    exact ⟨a, vs, rfl, .inl q, t⟩
  | .new ds, _, o, e => by
    cases e
    obtain ⟨a, vs, rfl, q, t⟩ := XOk.lst r o (rfl : (Xd.new ds).ls = some ds)
    exact ⟨a, vs, rfl, .inl q, t⟩
theorem wE_in (h : wE K H0 ta S fun x => wE K H0 tb S fun y => nin x y fun b => P (.im (.bool b))) : wE K H0 (tOp (rIn K false) ta tb) S P :=
  wE_two (h.imp fun x hx => hx.imp fun y ⟨d, ds, e1, e2, f, g, p⟩ σ H1 H2 H v w r _ _ o1 o2 Q q => by
    subst e1
    obtain ⟨a, vs, rfl, hq, t⟩ := o2.sq r e2
    refine ⟨a, vs, rfl, hq, im_flat o1 f, ims_flat t g, ?_⟩
    rw [inV_inD o1 f t g]
    exact q _ _ (.im _) (.refl _) (.bl _) p)
theorem wE_notIn (h : wE K H0 ta S fun x => wE K H0 tb S fun y => nin x y fun b => P (.im (.bool (!b)))) : wE K H0 (tOp (rIn K true) ta tb) S P :=
  wE_two (h.imp fun x hx => hx.imp fun y ⟨d, ds, e1, e2, f, g, p⟩ σ H1 H2 H v w r _ _ o1 o2 Q q => by
    subst e1
    obtain ⟨a, vs, rfl, hq, t⟩ := o2.sq r e2
    refine ⟨a, vs, rfl, hq, im_flat o1 f, ims_flat t g, ?_⟩
    rw [inV_inD o1 f t g]
    exact q _ _ (.im _) (.refl _) (.bl _) p)
end
end Z

namespace Z
open PySem PySem.Spec L2 PyProof.Rows

/-! ### errors -/
theorem passNL {X : Cx} : Passes (L2N.CX X.prog X.w) X E0 := fun _ _ _ _ _ _ _ h => by
  obtain ⟨_, _, _, _, _, _, _, _, _, _, _, _, z⟩ := h
  exact z.elim
section
variable {P : Program} {w : World} {K : PySem.W.Frag} {mg : Str → Option Value} {base : Heap}
/-- a def that may raise where nothing is handled -/
theorem _root_.L2.Fun.okN {x qual : Str} {st : Stmt} {f : Addr} {fd : FuncData} {N ps : List Str} {k : Nat} {sp : Sp} (F : Fun K x qual st f fd) (S : FnScope N ps (defScope st)) (len : ∀ vs H Q E, sp vs H Q E → vs.length = ps.length)
    (hbody : ∀ (cdv : Value) (A : Around) (outer : List Env) (s : Shared) (H : Hp) (vs : List V) (Q : VK) (E : XK), Room k (A.deeper (envOfC qual (defScope st) s.heap.objs.size f cdv)) → sp vs H Q E →
      ∃ t, PSs (cxOf (L2N.CX P w) P w K mg base N qual (defScope st) f cdv A outer s H E) (defBody st) t ∧ t { nx := fun _ H' => Q .non H', rt := Q } (start N vs) H) : FnOk P w K mg base (L2N.CX P w) (k + 1) f fd ps sp := by
  obtain ⟨oc, od, kV, doc, pm, an, cdv, ct, osl, rfl, lk, hcd⟩ := F.ex
  exact fn_of lk hcd S len (hbody cdv)
end
section
variable {K : PySem.W.Frag} {H0 : Hp} {S : List Sl} {N : List Sl → Prop} {R : Sl → Prop} {B C' : List Sl → Prop}
theorem wS_raise {C : Addr} {E : XK} (h : ∀ H, Same H0 H → E (.ref C) none H) : wS K H0 (fun _ σ H => (fun (_ : L2.St) (H : Hp) (Q : XK) => Q (.ref C) none H) σ H fun cls d H' => (fun (cls : Value) (d : Option Addr) (_ : L2.St) (H : Hp) => E cls d H) cls d σ H') S N R B C' := fun D σ H g r => h H r.ex
end
end Z

namespace Z
open PySem PySem.Spec L2 PyProof.Rows

/-! ### whole numbers, fractions -/
def whD (d : PyData) : Bool := kt (tyD d) "int" && !kt (tyD d) "bool"
theorem whD_int {i : Int} : whD (.int i) = true := rfl
theorem whD_iff {d : PyData} : whD d = true ↔ ∃ i, d = .int i := by
  cases d with
  | int i => exact ⟨fun _ => ⟨i, rfl⟩, fun _ => rfl⟩
  | bool b => exact ⟨fun h => (Bool.false_ne_true h).elim, fun ⟨i, h⟩ => by cases h⟩
  | none => exact ⟨fun h => (Bool.false_ne_true h).elim, fun ⟨i, h⟩ => by cases h⟩
  | str s => exact ⟨fun h => (Bool.false_ne_true h).elim, fun ⟨i, h⟩ => by cases h⟩
  | list s => exact ⟨fun h => (Bool.false_ne_true h).elim, fun ⟨i, h⟩ => by cases h⟩
  | tuple s => exact ⟨fun h => (Bool.false_ne_true h).elim, fun ⟨i, h⟩ => by cases h⟩
  | dict s => exact ⟨fun h => (Bool.false_ne_true h).elim, fun ⟨i, h⟩ => by cases h⟩
abbrev fr (u l : Int) : PyData := .tuple [.int u, .int l]
abbrev iL (ns : List Int) : List PyData := ns.map .int
theorem gc_pos {u l : Int} (h : 1 ≤ l) : 1 ≤ gc u l := by
  have : 0 < Int.gcd u l := Int.gcd_pos_of_ne_zero_right u (by omega)
  show 1 ≤ ((Int.gcd u l : Nat) : Int)
  omega
theorem gc_le {u l : Int} (h : 1 ≤ l) : gc u l ≤ l := Int.le_of_dvd (by omega) (Int.gcd_dvd_right u l)
theorem gc_one {u : Int} : gc u 1 = 1 := by
  show ((Int.gcd u 1 : Nat) : Int) = 1
  rw [Int.gcd_one_right]
  rfl
theorem gc_leL {u l : Int} (h : 1 ≤ u) : gc u l ≤ u := Int.le_of_dvd (by omega) (Int.gcd_dvd_left u l)
theorem gc_step {a b : Int} (ha : 0 ≤ a) (hb : 0 < b) : gc b (a % b) = gc a b := by
  show ((Int.gcd b (a % b) : Nat) : Int) = ((Int.gcd a b : Nat) : Int)
  have h := Int.gcd_add_mul_right_right b (a % b) (a / b)
  have e : a % b + a / b * b = a := by
    have := Int.mul_ediv_add_emod a b
    rw [Int.mul_comm (a / b) b]
    omega
  rw [e] at h
  rw [Int.gcd_comm a b, h]
theorem gc_zero {a : Int} (ha : 0 ≤ a) : gc a 0 = a := by
  show ((Int.gcd a 0 : Nat) : Int) = a
  rw [Int.gcd_zero_right]
  omega
/-- the fraction's parts -/
theorem fr_ok {u l : Int} (hu : 0 ≤ u) (hl : 1 ≤ l) : 0 ≤ u / gc u l ∧ 1 ≤ l / gc u l ∧ gc (u / gc u l) (l / gc u l) = 1 ∧ u / gc u l * l = u * (l / gc u l) ∧ u / gc u l ≤ u ∧ l / gc u l ≤ l := by
  have g1 := gc_pos (u := u) hl
  have gl := gc_le (u := u) hl
  obtain ⟨a, ha⟩ := Int.gcd_dvd_left u l
  obtain ⟨b, hb⟩ := Int.gcd_dvd_right u l
  have ha' : u = gc u l * a := ha
  have hb' : l = gc u l * b := hb
  have gn : gc u l ≠ 0 := by omega
  have ea : u / gc u l = a := by
    conv => lhs; lhs; rw [ha']
    exact Int.mul_ediv_cancel_left a gn
  have eb : l / gc u l = b := by
    conv => lhs; lhs; rw [hb']
    exact Int.mul_ediv_cancel_left b gn
  rw [ea, eb]
  have hb0 : 1 ≤ b := by
    by_cases h : 1 ≤ b
    · exact h
    · have : gc u l * b ≤ 0 := Int.mul_nonpos_of_nonneg_of_nonpos (by omega) (by omega)
      omega
  have ha0 : 0 ≤ a := by
    by_cases h : 0 ≤ a
    · exact h
    · have : gc u l * a < 0 := Int.mul_neg_of_pos_of_neg (by omega) (by omega)
      omega
  have e1 : gc a b = 1 := by
    have q := Int.gcd_ediv_gcd_ediv_gcd (i := u) (j := l) (by have h : 1 ≤ ((Int.gcd u l : Nat) : Int) := g1; omega)
    show ((Int.gcd a b : Nat) : Int) = 1
    have q' : Int.gcd (u / gc u l) (l / gc u l) = 1 := q
    rw [ea, eb] at q'
    rw [q']
    rfl
  refine ⟨ha0, hb0, e1, ?_, ?_, ?_⟩
  · calc a * l = a * (gc u l * b) := congrArg (a * ·) hb'
      _ = gc u l * a * b := by rw [Int.mul_comm (gc u l) a, Int.mul_assoc]
      _ = u * b := congrArg (· * b) ha'.symm
  · conv => rhs; rw [ha']
    have := Int.mul_le_mul_of_nonneg_right g1 ha0
    rw [Int.one_mul] at this
    exact this
  · conv => rhs; rw [hb']
    have := Int.mul_le_mul_of_nonneg_right g1 (show 0 ≤ b by omega)
    rw [Int.one_mul] at this
    exact this
/-- the script -/
theorem at_cell {ns : List Int} {k : Int} (h0 : 0 ≤ k) (h : k < ((iL ns).length : Int)) : ∃ c : Int, atI (iL ns) k = some (.int c) := by
  rw [List.length_map] at h
  obtain ⟨j, rfl⟩ : ∃ j : Nat, k = (j : Int) := ⟨k.toNat, by omega⟩
  have hj : j < ns.length := by omega
  exact ⟨ns[j], atI_nat (by rw [List.getElem?_map, List.getElem?_eq_getElem hj]; rfl)⟩
end Z

namespace Z
open PySem PySem.Spec L2 PyProof.Rows

/-! ### defs that are called while an exception is handled -/
/-- the promise may speak of the handled exception: where it stands, its object -/
structure FnP (P : Program) (w : World) (K : PySem.W.Frag) (mg : Str → Option Value) (base : Heap) (ZX : CXT) (k : Nat) (f : Addr) (fd : FuncData) (ps : List Str) (sp : Addr × Obj → Sp) : Prop where
  ln : ∀ p vs H Q E, sp p vs H Q E → vs.length = ps.length
  go : ∀ (A : Around) (outs : List Env) (s : Shared) (H : Hp) (ar : Args) (us : List Value) (vs : List V) (Q : VK) (E : XK) (p : Addr × Obj), L2H.RoomH k A → L2H.Hot1 A p → L2H.PinOk outs H s p →
    Env0 P w K mg base A outs s H → BindsTo s fd ar (ps.zip us) → Vals vs us → sp p vs H Q E → codeAny (model P w) A (.call (.ref f) ar) (CR ZX outs P w H s Q E) s
/-- its body keeps it -/
theorem fnp_of {P : Program} {w : World} {K : PySem.W.Frag} {mg : Str → Option Value} {base : Heap} {x q : Str} {st : Stmt} {f : Addr} {fd : FuncData} {N ps : List Str} {k : Nat} {ZX : CXT} {sp : Addr × Obj → Sp}
    (F : Fun K x q st f fd) (S : FnScope N ps (defScope st)) (ln : ∀ p vs H Q E, sp p vs H Q E → vs.length = ps.length)
    (hb : ∀ (cdv : Value) (A : Around) (outs : List Env) (s : Shared) (H : Hp) (vs : List V) (Q : VK) (E : XK) (p : Addr × Obj), L2H.Hot1 A p → L2H.RoomH k (A.deeper (envOfC q (defScope st) s.heap.objs.size f cdv)) → sp p vs H Q E →
      ∃ t, PSs (L2H.cxH ZX P w K mg base N q (defScope st) f cdv A outs s H E p) (defBody st) t ∧ t { nx := fun _ G => Q .non G, rt := Q } (L2.start N vs) H) : FnP P w K mg base ZX (k + 1) f fd ps sp := by
  obtain ⟨oc, od, kV, doc, pm, an, cdv, ct, osl, rfl, lk, hcd⟩ := F.ex
  constructor
  · exact ln
  intro A outs s H ar us vs Q E p room hot pin e0 bnd rv hs
  have inK : K.In s.heap := e0.mod.kin.keeps fun b o e => (e0.bs b o e).1
  have nol : s.heap.NoLimit := e0.mod.nolimit.keeps fun b o e => (e0.bs b o e).1
  have hl := ln p vs H Q E hs
  refine codeAny_call_function room.depth (inK f _ lk) rfl S.co S.gen rfl (PySem.W.codeRec_of inK hcd) (bnd _ _ _ _ (wpAny_newFunctionEnv_cells S.kind ?_ ?_))
  · rintro ⟨n, v⟩ hm
    have hn : n ∈ ps := (List.of_mem_zip hm).1
    cases S.par n hn with
    | inl z => exact Or.inl z
    | inr z => exact Or.inr ⟨z, PySem.W.cellsFrom_some _ _ _ (Or.inl z)⟩
  · intro env en s1 call
    subst en
    refine ⟨nol.keeps call.toInCall.keep, codeAny_func ?_⟩
    obtain ⟨t, ht, tq⟩ := hb cdv A outs s H vs Q E p hot (room.deeper _) hs
    have I0 := L2H.inv_startH (CX := ZX) (E := E) S pin e0 hl rv call
    refine wpAny_mono (ht.run [] s1 _ H _ I0 tq) ?_ fun _ _ z => z
    intro fl s2 h2
    cases fl with
    | next =>
      obtain ⟨σ2, G, J, z⟩ := h2
      exact ⟨.non, G, J.os, J.bare, J.base, J.hok, rfl, z⟩
    | ret u =>
      obtain ⟨v, σ2, G, J, r2, z⟩ := h2
      exact ⟨v, G, J.os, J.bare, J.base, J.hok, r2, z⟩
    | brk => exact h2.elim fun _ a => a.elim fun _ b => b.2.elim
    | cont => exact h2.elim fun _ a => a.elim fun _ b => b.2.elim
section
variable {X : Cx} {k : Nat} {f : Addr} {fd : FuncData} {ps : List Str} {sp : Addr × Obj → Sp} {x : Str} {q pos : Pos} {e : Expr} {es : List Expr} {t : TA} {p : Addr × Obj}
/-- a call of such a def, by a name of the module, where p's exception is handled; nothing is let out -/
theorem pe_callP (F : FnP X.prog X.w X.K X.mg X.base CX0 k f fd ps sp) (hr : L2H.RoomH k X.A) (hot : L2H.Hot1 X.A p) (hp : p ∈ X.pn) (hg : Gl X x) (hm : X.mg x = some (.ref f)) (hk : PySem.W.keepIn X.K (.ref f) = true) (hb : Binds X.K fd ps [])
    (ha : PA X (e :: es) t) (hd : (x == ("__debug__" : Str)) = false := by decide) (h1 : starEach (e :: es) X.env = (false, eval e X.env) :: starEach es X.env := by rfl) (h2 : (backTo pos (starEach es X.env)).any (·.1) = false := by rfl) :
    PE X (.Call (.Name x q) (e :: es) [] pos) (tCall (sp p) [] E0 t) := by
  constructor
  intro pins s σ H Q I h
  refine wpAny_Call_Name_kw (ld_glob I hg hm (PySem.W.callWith_K (h₀ := X.base) I.ok.mod.kin hk (thn (ha.run pos pins s σ H _ I h) ?_) h1 h2) hd)
  rintro us s1 ⟨vs, H1, I1, rv, hs⟩
  refine ⟨I1.kIn, ?_⟩
  rw [List.append_nil] at hs
  have bn := hb s1 us I1.kIn (by rw [List.append_nil, ← rv.length]; exact F.ln _ _ _ _ _ hs)
  rw [List.append_nil] at bn
  obtain ⟨g1, g2, g3, g4, g5⟩ := I1.pin p (List.mem_append_left _ hp)
  have pin : L2H.PinOk X.stack H1 s1 p := ⟨g1, g2, fun z => (List.mem_cons.mp (I1.stkSub p.1 z)).elim g3 g4, g5⟩
  refine wpAny_call (codeAny_mono (F.go X.A X.stack s1 H1 ⟨us, []⟩ us vs Q E0 p hr hot pin I1.env0 bn rv hs) ?_)
  intro r s2 z
  cases r with
  | error _ => exact z.elim
  | ok fl =>
    cases fl with
    | ret u => exact I1.after z
    | next => exact z.elim
    | brk => exact z.elim
    | cont => exact z.elim
/-- isinstance(e, C), e the exception at a -/
theorem call_isP {a D : Addr} {oe : Obj} (C : ExcC X.K D) (hp : (a, oe) ∈ X.pn) (hz : Zc (.ref D) none oe) (hf : ∃ vs, oe.data = .fields vs) : CallR X (.builtin "isinstance") (rIsE X.K D a) := by
  intro pins s σ H xs us Q I r h
  obtain ⟨c, cv, b, rfl, hcv, e, q⟩ := h
  rcases r with _ | ⟨r1, _ | ⟨r2, _ | _⟩⟩
  cases (show _ = Value.ref a from r1)
  cases hcv _ r2
  obtain ⟨ga, _⟩ := I.pin (a, oe) (List.mem_append_left _ hp)
  have J : PySem.W.InstAt s.heap a oe D none := by
    obtain ⟨vs, hv⟩ := hf
    refine ⟨ga, hz.1, ?_, ?_⟩
    · unfold PySem.W.notCls
      rw [hv]
    · rw [hz.2]
      trivial
  exact PySem.W.kia_one (PySem.W.handS_kitx_exc C.hg C.hk C.hs C.hd C.ha C.hn C.ht C.hm) I.kIn J e (fun z => nomatch z) fun tk => ⟨.bl b, H, I.kept (t' := tk) fun _ _ z => z, rfl, q⟩
/-- xs.count(True), xs a list of True and False -/
def rCntB (K : PySem.W.Frag) : V → List V → Hp → VK → Prop := fun x xs H Q => ∃ (p : Addr) (bs : List Bool), x = .ref p ∧ xs = [.bl true] ∧ SqL K H p (bs.map V.bl) ∧ Q (.int (bs.count true : Nat)) H
def isTr (v : Value) : Bool := match v with
  | .bool b => b == true
  | _ => false
theorem isTr_count : ∀ bs : List Bool, (bs.map Value.bool).countP isTr = bs.count true
  | [] => rfl
  | b :: r => by
    rw [List.map_cons, List.countP_cons, List.count_cons, isTr_count r]
    rfl
theorem mt_countB : MtR X "list.count" (rCntB X.K) := by
  intro pins s σ H x xs v us Q I rx rxs h
  obtain ⟨p, bs, rfl, rfl, hs, q⟩ := h
  cases rx
  obtain ⟨u, rfl, ru⟩ := rxs.one
  cases (show u = Value.bool true from ru)
  obtain ⟨its, rv, ⟨⟨cls, dd, data, sl⟩, n, ho, hc, hdn, hd⟩, _⟩ := I.list hs
  dsimp only at hc hd
  subst hc hd
  have hi := rv.bls
  refine call_meets PySem.F.slot_list_count ⟨_, ho, rfl⟩ PySem.F.entry_list_count (PySem.F.args_list_count_2 _ _) (SeqAt.list_countAt p its.toArray n dd sl (.bool true) isTr) ⟨ho, ?_, ?_⟩
  · intro y hy
    have hy' : y ∈ bs.map Value.bool := by
      rw [← hi]
      simpa using hy
    obtain ⟨b, _, rfl⟩ := List.mem_map.mp hy'
    exact SeqAt.EqAt.bool_bool b true
  · have ec : its.toArray.toList.countP isTr = bs.count true := by
      show its.countP isTr = _
      rw [hi]
      exact isTr_count bs
    refine ⟨.int (bs.count true : Nat), H, I.tok _, ⟨s.toks, ?_⟩, q⟩
    rw [ec]
end
/-- a weaker reading -/
theorem PSs.imp {X : Cx} {b : List Stmt} {t t' : TS} (h : PSs X b t) (k : ∀ D σ H, t' D σ H → t D σ H) : PSs X b t' := ⟨fun pins s σ H D I q => h.run pins s σ H D I (k D σ H q)⟩
theorem PSs.when {X : Cx} {b : List Stmt} {t : TS} {c : Prop} (h : c → PSs X b t) : PSs X b (fun D σ H => c ∧ t D σ H) := ⟨fun pins s σ H D I q => (h q.1).run pins s σ H D I q.2⟩
theorem takes0N {X : Cx} : L2N.Takes X (fun _ _ _ _ => False) := fun _ _ x => by
  obtain ⟨_, _, _, _, _, _, _, _, _, _, _, _, _, _, _, _, z⟩ := x
  exact z.elim
/-- the seven kinds of refusal, told apart -/
structure Kinds (K : PySem.W.Frag) (D : Addr) (cs : List Addr) (bs : List Bool) : Prop where
  ex : ExcC K D
  ks : ∀ (i : Nat) (c : Addr) (b : Bool), cs[i]? = some c → bs[i]? = some b → PySem.W.kitOne K (.ref D) (.ref c) = some b
  ve : PySem.W.kitOne K (.ref D) (.type "ValueError") = some true
theorem kit_own {K : PySem.W.Frag} {D C : Addr} {b : Bool} (s0 : PySem.W.subIn K (.ref D) (.ref D) = some true) (s1 : PySem.W.subIn K (.ref D) (.ref C) = some b) (ic : PySem.W.isClsIn K C = true) (tc : PySem.W.typeIn K (.ref C) = some (.type "type")) : PySem.W.kitOne K (.ref D) (.ref C) = some b := by
  unfold PySem.W.kitOne
  split
  · rename_i h
    have e : D = C := Value.ref.inj (beq_iff_eq.mp h)
    rw [← e, s0] at s1
    exact s1
  · have ic' : (PySem.W.clsIn K C).isSome = true := ic
    have h2 : ((PySem.W.clsIn K C).isSome && PySem.W.typeIn K (.ref C) == some (.type "type")) = true := by
      rw [ic', tc] <;> rfl
    show (if ((PySem.W.clsIn K C).isSome && PySem.W.typeIn K (.ref C) == some (.type "type")) = true then PySem.W.subIn K (.ref D) (.ref C) else none) = some b
    rw [if_pos h2]
    exact s1
theorem kit_ve {K : PySem.W.Frag} {D : Addr} (s : PySem.W.subIn K (.ref D) (.type "ValueError") = some true) : PySem.W.kitOne K (.ref D) (.type "ValueError") = some true := by
  unfold PySem.W.kitOne
  split
  · rfl
  · have m : PySem.W.kitMeta "ValueError" = true := by decide +kernel
    show (if PySem.W.kitMeta "ValueError" = true then PySem.W.subIn K (.ref D) (.type "ValueError") else none) = some true
    rw [if_pos m]
    exact s
theorem kinds7 {K : PySem.W.Frag} {D c0 c1 c2 c3 c4 c5 c6 : Addr} {b0 b1 b2 b3 b4 b5 b6 : Bool} (h0 : PySem.W.kitOne K (.ref D) (.ref c0) = some b0) (h1 : PySem.W.kitOne K (.ref D) (.ref c1) = some b1) (h2 : PySem.W.kitOne K (.ref D) (.ref c2) = some b2)
    (h3 : PySem.W.kitOne K (.ref D) (.ref c3) = some b3) (h4 : PySem.W.kitOne K (.ref D) (.ref c4) = some b4) (h5 : PySem.W.kitOne K (.ref D) (.ref c5) = some b5) (h6 : PySem.W.kitOne K (.ref D) (.ref c6) = some b6) :
    ∀ (i : Nat) (c : Addr) (b : Bool), [c0, c1, c2, c3, c4, c5, c6][i]? = some c → [b0, b1, b2, b3, b4, b5, b6][i]? = some b → PySem.W.kitOne K (.ref D) (.ref c) = some b := fun i c b e f => by
  match i, e, f with
  | 0, e, f => cases e; cases f; exact h0
  | 1, e, f => cases e; cases f; exact h1
  | 2, e, f => cases e; cases f; exact h2
  | 3, e, f => cases e; cases f; exact h3
  | 4, e, f => cases e; cases f; exact h4
  | 5, e, f => cases e; cases f; exact h5
  | 6, e, f => cases e; cases f; exact h6
  | i + 7, e, f => simp at e
theorem kinds1 {K : PySem.W.Frag} {D : Addr} (h0 : PySem.W.kitOne K (.ref D) (.ref D) = some true) :
    ∀ (i : Nat) (c : Addr) (b : Bool), [D][i]? = some c → [true][i]? = some b → PySem.W.kitOne K (.ref D) (.ref c) = some b := fun i c b e f => by
  match i, e, f with
  | 0, e, f => cases e; cases f; exact h0
  | i + 1, e, f => simp at e
/-- the handled error is of the class at D, at p -/
def spAl (D : Addr) (p : Addr × Obj) : Sp := fun vs H Q _ => vs = [.ref p.1] ∧ Zc (.ref D) none p.2 ∧ (∃ fs, p.2.data = .fields fs) ∧ ∀ H', Same H H' → Q (.bl true) H'
/-- what the clause that catches it says: it is of the class at D, and the second part holds -/
def tsR (K : PySem.W.Frag) (D : Addr) (i : Nat) (te : Addr → Obj → TE) : Addr → Value → Option Addr → TS := fun a cls d Dn σ H =>
  (cls = .ref D ∧ d = none) ∧ ∀ oe, L2N.Zn cls d oe → (∃ fs, oe.data = .fields fs) → tRet (tAndV (tCB (rIsE K D a) (tCons (tVar i) (tCons (tC (.ref D)) tNil))) (te a oe)) Dn σ H
section
variable {K : PySem.W.Frag} {H0 : Hp} {S : List Sl} {N : List Sl → Prop} {R : Sl → Prop} {B C : List Sl → Prop} {D F : Addr} {i : Nat} {te : Addr → Obj → TE}
/-- try: f(..) / except F as e: return isinstance(e, D) and ..: f raises an error of the class at D -/
theorem wS_refused {α : Type} {args : α → List Sl} {pre : α → Prop} {post : α → Sl → Prop} {exc : α → Addr → Prop} {tr : TA} (ki : PySem.W.kitOne K (.ref D) (.ref D) = some true) (em : PySem.W.exmOne K (.ref D) (.ref F) = some true)
    (ht : ∀ (a : Addr) (oe : Obj) (σ : L2.St) (H : Hp) (Q : VK), i < σ.length → σ[i]? = some (some (.ref a)) → Zc (.ref D) none oe → (∃ fs, oe.data = .fields fs) → (∀ H', Same H H' → Q (.bl true) H') → te a oe σ H Q)
    {s0 : Sl} (hi : S[i]? = some s0) (hi2 : s0.isT = false) (hR : R (.im (.bool true)))
    (h : wA K H0 tr S fun xs => ∃ g, xs.map Xd.sl = args g ∧ pre g ∧ (∀ r, ¬ post g r) ∧ ∀ C, exc g C → C = D) :
    wS K H0 (fun Dn σ H => tDrop (tCallS (SpD K args pre post exc) (WE (wAs K (.ref F) i (tsR K D i te) (fun _ _ _ _ => False) Dn)) tr) Dn σ H) S N R B C := fun Dn σ H g r => by
  have hl := r.len i s0 hi hi2
  refine h σ H r _ fun vs H1 xs e os ⟨gh, e1, p, np, nx⟩ => ⟨gh, ?_, p, fun v H' r _ _ z => (np r z).elim, fun C' H' e2 z => ?_⟩
  · rw [← e1]
    exact os.args (r.mono e)
  · have ec := nx C' z
    subst ec
    refine ⟨true, em, fun _ a na => ⟨⟨rfl, rfl⟩, fun oe zn zf => ?_⟩, fun q => (Bool.noConfusion q)⟩
    have hs : (σ.set i (some (.ref a)))[i]? = some (some (.ref a)) := List.getElem?_set_self hl
    refine ⟨_, hs, _, _, true, rfl, fun _ z => z, ki, true, rfl, ?_⟩
    refine iteT ?_
    refine ht a oe _ H' _ (by rw [List.length_set]; exact hl) hs ⟨zn.1, zn.2.1⟩ zf fun H2 e3 => ?_
    exact g.rt (.bl true) H2 (.im (.bool true)) (((r.ex.trans e).trans e2).trans e3) (.bl true) hR
end
end Z

namespace G
open PySem PySem.Spec L2 Z PyProof.Rows
/-! a side of an operator -/
local macro_rules | `(tactic| tm_at "zq") => `(tactic| first
  | (with_reducible assumption)
  | omega
  | decide
  | (exact mulOk_r ⟨by decide, by decide⟩)
  | (exact mulOk_l ⟨by decide, by decide⟩)
  | (exact Bd.mulI' inferInstance inferInstance rfl)
  | (exact Bd.divI' inferInstance (by omega) rfl)
  | (exact ⟨by decide, by decide, by decide⟩))
/-! one step of a reading: by the head of what is wanted -/
local macro_rules | `(tactic| tm_at "ze") => `(tactic| first
  | (with_reducible refine wE_I0 ?_) | (with_reducible refine wE_B0 ?_) | (with_reducible refine wE_int ?_) | (with_reducible refine wE_str ?_) | (with_reducible refine wE_bl ?_) | (with_reducible refine wE_non ?_)
  | ((with_reducible show wE _ _ (tVar _) _ _); first | refine wE_var rfl ?_ | refine wE_varB rfl ?_ | refine wE_varO rfl ?_)
  | (with_reducible refine wE_ixT ?_) | (with_reducible refine wE_ixL ?_) | (with_reducible refine wE_I ?_) | (with_reducible refine wE_U ?_)
  | (with_reducible refine wE_eq ?_) | (with_reducible refine wE_ne ?_) | (with_reducible refine wE_eqS ?_) | (with_reducible refine wE_neS ?_) | (with_reducible refine wE_tup ?_) | (with_reducible refine wE_lst ?_)
  | (with_reducible refine wE_andV ?_) | (with_reducible refine wE_orV ?_) | (with_reducible refine wE_notV ?_) | (with_reducible refine wE_if ?_)
  | (with_reducible refine wE_call ?_) | (with_reducible refine wE_callX ?_) | (with_reducible refine wE_len ?_) | (with_reducible refine wE_isi ?_) | (with_reducible refine wE_abs ?_) | (with_reducible refine wE_max2 ?_) | (with_reducible refine wE_min2 ?_) | (with_reducible refine wE_gcd ?_) | (with_reducible refine wE_listOf ?_)
  | (with_reducible refine wE_isT ?_) | (with_reducible refine wE_isF ?_) | (with_reducible refine wE_notT ?_) | (with_reducible refine wE_notF ?_) | (with_reducible refine wE_isB ?_) | (with_reducible refine wE_notB ?_) | (with_reducible refine wE_isN ?_) | (with_reducible refine wE_notN ?_) | (with_reducible refine wE_chain ?_) | (with_reducible refine wE_cat ?_) | (with_reducible refine wE_dict ?_) | (with_reducible refine wE_in ?_) | (with_reducible refine wE_notIn ?_))
local macro_rules | `(tactic| tm_at "zt") => `(tactic| first
  | (with_reducible refine wT_test ?_) | (with_reducible refine wT_B ?_) | (with_reducible refine wT_and ?_) | (with_reducible refine wT_or ?_) | (with_reducible refine wT_not ?_))
local macro_rules | `(tactic| tm_at "zw") => `(tactic| first
  | (with_reducible refine wS_seq ?_) | (with_reducible refine wS_asg ?_) | (with_reducible refine wS_if ?_) | (with_reducible refine wS_ret ?_) | (with_reducible refine wS_next ?_) | (with_reducible refine wS_par ?_) | (with_reducible refine wS_unp ?_)
  | (with_reducible refine wS_retN ?_) | (with_reducible refine wS_break ?_) | (with_reducible refine wS_cont ?_) | ((with_reducible show wS _ _ (tAug _ _ _) _ _); refine wS_aug rfl ?_) | (with_reducible refine wS_drop ?_))
local macro_rules | `(tactic| tm_at "zn") => `(tactic| first
  | (with_reducible refine iteT ?_) | (with_reducible refine iteF ?_) | (with_reducible refine iteNT ?_) | (with_reducible refine iteNF ?_)
  | (with_reducible refine n2_mk ?_) | (with_reducible refine nb_mk ?_) | (with_reducible refine n1_mk ?_) | ((with_reducible show nixT _ _ _); refine nixT_mk rfl ?_) | ((with_reducible show nixL _ _ _); refine nixL_mk rfl rfl ?_)
  | ((with_reducible show nin _ _ _); refine nin_mk rfl rfl rfl ?_) | (with_reducible refine nsc_ii ?_) | (with_reducible refine nsc_ss ?_)
  | (with_reducible refine neq_ii ?_) | (with_reducible refine neq_pp ?_) | ((with_reducible show neq _ _ _); refine neq_mk rfl rfl ?_) | ((with_reducible show nas _ _ _ _); refine nas_mk rfl rfl rfl ?_) | ((with_reducible show nre _ _); refine nre_mk rfl ?_)
  | ((with_reducible show npar _ _ _ _ _); refine npar_mk rfl rfl rfl rfl ?_) | ((with_reducible show nunp _ _ _ _ _); refine nunp_mk rfl rfl rfl rfl ?_) | ((with_reducible show nlen _ _); first | refine nlen_mk (n := 2) rfl ?_ | refine nlen_mk (n := 3) rfl ?_ | refine nlen_mk (n := 1) rfl ?_ | refine nlen_mk rfl ?_)
  | (with_reducible refine nb2_mk ?_) | ((with_reducible show nisi _ _ _); first | refine nisi_is (b := true) (by simp) rfl ?_ | refine nisi_is (b := false) (by simp) rfl ?_ | refine nisi_at (by simp) ?_) | ((with_reducible show nls _ _); refine nls_mk rfl ?_)
  | ((with_reducible show nmany _ _); first | (with_reducible refine nmany_2 ?_) | (with_reducible refine nmany_3 ?_) | (with_reducible refine nmany_1 ?_) | (with_reducible refine nmany_0 ?_) | (with_reducible refine nmany_4 ?_) | (with_reducible refine nmany_5 ?_) | (with_reducible refine nmany_6 ?_) | (with_reducible refine nmany_7 ?_) | (with_reducible refine nmany_8 ?_) | refine nmany_mk rfl ?_) | ((with_reducible show ncat _ _ _); refine ncat_mk rfl rfl (Nat.le_of_ble_eq_true rfl) ?_)
  | ((with_reducible show nside _ _); refine nside_mk (by tm_at "zq") ?_)
  | (with_reducible refine wA_cons ?_) | (with_reducible refine wA_nil ?_))
local macro_rules | `(tactic| tm_at "zs") => `(tactic| first | tm_at "ze" | tm_at "zn" | tm_at "zt" | tm_at "zw")
local macro_rules | `(tactic| tm_at "zi") => `(tactic| first
  | ((with_reducible refine ite_d (fun h => ?_) (fun h => ?_)) <;> (try (first | (exfalso; omega) | exact absurd h (by decide))))
  | ((with_reducible refine ite_n (fun h => ?_) (fun h => ?_)) <;> (try (first | (exfalso; omega) | exact absurd h (by decide))))
  | (with_reducible refine ite_b (fun h => ?_) (fun h => ?_)))
local macro_rules | `(tactic| tm_at "zz") => `(tactic| repeat' (first | tm_at "zs" | tm_at "zi"))
local macro_rules | `(tactic| tm_at "zk") => `(tactic| repeat (first | exact trivial | refine ⟨.inl rfl, ?_⟩ | refine ⟨.inr ⟨rfl, rfl⟩, ?_⟩))
local macro_rules | `(tactic| tm_at "zo") => `(tactic| first | omega | (dsimp only; omega) | (dsimp only at *; omega))
local macro_rules | `(tactic| tm_at "zm") => `(tactic| first | (with_reducible assumption) | exact Bd.mono inferInstance (Nat.le_of_ble_eq_true rfl))
local macro_rules | `(tactic| tm_at "zx") => `(tactic| first | tm_at "ze" | tm_at "zn" | tm_at "zt")

def top (i : Nat) : Stmt := PySem.Challenge.pw_nearfrac_k01_lowest.main.body.getD i (.Pass ⟨0, 0, 0, 0⟩)
abbrev s_is_whole : Stmt := top 11
abbrev s_lowest : Stmt := top 12
abbrev s_p_law_cell_at : Stmt := top 14
abbrev s_p_law_way : Stmt := top 15
abbrev s_p_law_whole : Stmt := top 16
abbrev s_p_law_shared : Stmt := top 17
abbrev s_p_law_is_frac : Stmt := top 18
abbrev s_p_law_number : Stmt := top 19
abbrev s_p_law_wrong : Stmt := top 20
abbrev s_p_law_alone : Stmt := top 21
abbrev s_p_law_refused : Stmt := top 22
abbrev s_law : Stmt := top 23
theorem sc_is_whole : FnScope ["thing"] ["thing"] (defScope s_is_whole) := ⟨rfl, rfl, rfl, by decide +kernel, rfl, by decide +kernel, by decide +kernel⟩
theorem sc_lowest : FnScope ["upper", "lower", "shared"] ["upper", "lower"] (defScope s_lowest) := ⟨rfl, rfl, rfl, by decide +kernel, rfl, by decide +kernel, by decide +kernel⟩
theorem sc_p_law_cell_at : FnScope ["_law_script", "_law_k"] ["_law_script", "_law_k"] (defScope s_p_law_cell_at) := ⟨rfl, rfl, rfl, by decide +kernel, rfl, by decide +kernel, by decide +kernel⟩
theorem sc_p_law_way : FnScope ["_law_script", "_law_k", "_law_many"] ["_law_script", "_law_k", "_law_many"] (defScope s_p_law_way) := ⟨rfl, rfl, rfl, by decide +kernel, rfl, by decide +kernel, by decide +kernel⟩
theorem sc_p_law_whole : FnScope ["_law_found"] ["_law_found"] (defScope s_p_law_whole) := ⟨rfl, rfl, rfl, by decide +kernel, rfl, by decide +kernel, by decide +kernel⟩
theorem sc_p_law_shared : FnScope ["_law_one", "_law_other"] ["_law_one", "_law_other"] (defScope s_p_law_shared) := ⟨rfl, rfl, rfl, by decide +kernel, rfl, by decide +kernel, by decide +kernel⟩
theorem sc_p_law_is_frac : FnScope ["_law_found"] ["_law_found"] (defScope s_p_law_is_frac) := ⟨rfl, rfl, rfl, by decide +kernel, rfl, by decide +kernel, by decide +kernel⟩
theorem sc_p_law_number : FnScope ["_law_cell", "_law_way_here"] ["_law_cell", "_law_way_here"] (defScope s_p_law_number) := ⟨rfl, rfl, rfl, by decide +kernel, rfl, by decide +kernel, by decide +kernel⟩
theorem sc_p_law_wrong : FnScope ["_law_kind", "_law_upper", "_law_lower", "_law_some"] ["_law_kind", "_law_upper", "_law_lower"] (defScope s_p_law_wrong) := ⟨rfl, rfl, rfl, by decide +kernel, rfl, by decide +kernel, by decide +kernel⟩
theorem sc_p_law_alone : FnScope ["_law_e", "_law_kinds"] ["_law_e"] (defScope s_p_law_alone) := ⟨rfl, rfl, rfl, by decide +kernel, rfl, by decide +kernel, by decide +kernel⟩
theorem sc_p_law_refused : FnScope ["_law_pair", "_law_e"] ["_law_pair"] (defScope s_p_law_refused) := ⟨rfl, rfl, rfl, by decide +kernel, rfl, by decide +kernel, by decide +kernel⟩
theorem sc_law : FnScope ["_law_script", "_law_way_here", "_law_upper", "_law_lower", "_law_many", "_law_found"] ["_law_script"] (defScope s_law) := ⟨rfl, rfl, rfl, by decide +kernel, rfl, by decide +kernel, by decide +kernel⟩
/-- where things stand -/
structure Ad where
  f_is_whole : Addr
  d_is_whole : FuncData
  f_lowest : Addr
  d_lowest : FuncData
  f_p_law_cell_at : Addr
  d_p_law_cell_at : FuncData
  f_p_law_way : Addr
  d_p_law_way : FuncData
  f_p_law_whole : Addr
  d_p_law_whole : FuncData
  f_p_law_shared : Addr
  d_p_law_shared : FuncData
  f_p_law_is_frac : Addr
  d_p_law_is_frac : FuncData
  f_p_law_number : Addr
  d_p_law_number : FuncData
  f_p_law_wrong : Addr
  d_p_law_wrong : FuncData
  f_p_law_alone : Addr
  d_p_law_alone : FuncData
  f_p_law_refused : Addr
  d_p_law_refused : FuncData
  f_law : Addr
  d_law : FuncData
  c_FractionError : Addr
  c_NoFraction : Addr
  c_NoPath : Addr
  c_NoBounds : Addr
  c_NoRoom : Addr
  c_Unsure : Addr
  c_NoText : Addr
  c_NoNumber : Addr
/-- what the top has written -/
structure Txt (K : PySem.W.Frag) (mg : Str → Option Value) (A : Ad) : Prop where
  F_is_whole : Fun K "is_whole" "is_whole" s_is_whole A.f_is_whole A.d_is_whole
  m_is_whole : mg "is_whole" = some (.ref A.f_is_whole)
  b_is_whole : Binds K A.d_is_whole ["thing"] []
  F_lowest : Fun K "lowest" "lowest" s_lowest A.f_lowest A.d_lowest
  m_lowest : mg "lowest" = some (.ref A.f_lowest)
  b_lowest : Binds K A.d_lowest ["upper", "lower"] []
  F_p_law_cell_at : Fun K "_law_cell_at" "_law_cell_at" s_p_law_cell_at A.f_p_law_cell_at A.d_p_law_cell_at
  m_p_law_cell_at : mg "_law_cell_at" = some (.ref A.f_p_law_cell_at)
  b_p_law_cell_at : Binds K A.d_p_law_cell_at ["_law_script", "_law_k"] []
  F_p_law_way : Fun K "_law_way" "_law_way" s_p_law_way A.f_p_law_way A.d_p_law_way
  m_p_law_way : mg "_law_way" = some (.ref A.f_p_law_way)
  b_p_law_way : Binds K A.d_p_law_way ["_law_script", "_law_k", "_law_many"] []
  F_p_law_whole : Fun K "_law_whole" "_law_whole" s_p_law_whole A.f_p_law_whole A.d_p_law_whole
  m_p_law_whole : mg "_law_whole" = some (.ref A.f_p_law_whole)
  b_p_law_whole : Binds K A.d_p_law_whole ["_law_found"] []
  F_p_law_shared : Fun K "_law_shared" "_law_shared" s_p_law_shared A.f_p_law_shared A.d_p_law_shared
  m_p_law_shared : mg "_law_shared" = some (.ref A.f_p_law_shared)
  b_p_law_shared : Binds K A.d_p_law_shared ["_law_one", "_law_other"] []
  F_p_law_is_frac : Fun K "_law_is_frac" "_law_is_frac" s_p_law_is_frac A.f_p_law_is_frac A.d_p_law_is_frac
  m_p_law_is_frac : mg "_law_is_frac" = some (.ref A.f_p_law_is_frac)
  b_p_law_is_frac : Binds K A.d_p_law_is_frac ["_law_found"] []
  F_p_law_number : Fun K "_law_number" "_law_number" s_p_law_number A.f_p_law_number A.d_p_law_number
  m_p_law_number : mg "_law_number" = some (.ref A.f_p_law_number)
  b_p_law_number : Binds K A.d_p_law_number ["_law_cell", "_law_way_here"] []
  F_p_law_wrong : Fun K "_law_wrong" "_law_wrong" s_p_law_wrong A.f_p_law_wrong A.d_p_law_wrong
  m_p_law_wrong : mg "_law_wrong" = some (.ref A.f_p_law_wrong)
  b_p_law_wrong : Binds K A.d_p_law_wrong ["_law_kind", "_law_upper", "_law_lower"] []
  F_p_law_alone : Fun K "_law_alone" "_law_alone" s_p_law_alone A.f_p_law_alone A.d_p_law_alone
  m_p_law_alone : mg "_law_alone" = some (.ref A.f_p_law_alone)
  b_p_law_alone : Binds K A.d_p_law_alone ["_law_e"] []
  F_p_law_refused : Fun K "_law_refused" "_law_refused" s_p_law_refused A.f_p_law_refused A.d_p_law_refused
  m_p_law_refused : mg "_law_refused" = some (.ref A.f_p_law_refused)
  b_p_law_refused : Binds K A.d_p_law_refused ["_law_pair"] []
  F_law : Fun K "law" "law" s_law A.f_law A.d_law
  m_law : mg "law" = some (.ref A.f_law)
  b_law : Binds K A.d_law ["_law_script"] []
  n_ValueError : mg "ValueError" = none
  n_bool : mg "bool" = none
  n_int : mg "int" = none
  n_isinstance : mg "isinstance" = none
  n_len : mg "len" = none
  n_tuple : mg "tuple" = none
  g_gcd : mg "gcd" = some (.builtin "math.gcd")
  g_FractionError : mg "FractionError" = some (.ref A.c_FractionError)
  x_FractionError : PySem.W.excIn K A.c_FractionError [.type "ValueError", .type "Exception", .type "BaseException", .type "object"] "ValueError.__new__" = true
  k_FractionError : PySem.W.keepIn K (.ref A.c_FractionError) = true
  s_FractionError : PySem.W.subIn K (.ref A.c_FractionError) (.type "BaseException") = some true
  t_FractionError : PySem.W.typeIn K (.ref A.c_FractionError) = some (.type "type")
  g_NoFraction : mg "NoFraction" = some (.ref A.c_NoFraction)
  x_NoFraction : PySem.W.excIn K A.c_NoFraction [.type "ValueError", .type "Exception", .type "BaseException", .type "object"] "ValueError.__new__" = true
  k_NoFraction : PySem.W.keepIn K (.ref A.c_NoFraction) = true
  s_NoFraction : PySem.W.subIn K (.ref A.c_NoFraction) (.type "BaseException") = some true
  t_NoFraction : PySem.W.typeIn K (.ref A.c_NoFraction) = some (.type "type")
  g_NoPath : mg "NoPath" = some (.ref A.c_NoPath)
  x_NoPath : PySem.W.excIn K A.c_NoPath [.type "ValueError", .type "Exception", .type "BaseException", .type "object"] "ValueError.__new__" = true
  k_NoPath : PySem.W.keepIn K (.ref A.c_NoPath) = true
  s_NoPath : PySem.W.subIn K (.ref A.c_NoPath) (.type "BaseException") = some true
  t_NoPath : PySem.W.typeIn K (.ref A.c_NoPath) = some (.type "type")
  g_NoBounds : mg "NoBounds" = some (.ref A.c_NoBounds)
  x_NoBounds : PySem.W.excIn K A.c_NoBounds [.type "ValueError", .type "Exception", .type "BaseException", .type "object"] "ValueError.__new__" = true
  k_NoBounds : PySem.W.keepIn K (.ref A.c_NoBounds) = true
  s_NoBounds : PySem.W.subIn K (.ref A.c_NoBounds) (.type "BaseException") = some true
  t_NoBounds : PySem.W.typeIn K (.ref A.c_NoBounds) = some (.type "type")
  g_NoRoom : mg "NoRoom" = some (.ref A.c_NoRoom)
  x_NoRoom : PySem.W.excIn K A.c_NoRoom [.type "ValueError", .type "Exception", .type "BaseException", .type "object"] "ValueError.__new__" = true
  k_NoRoom : PySem.W.keepIn K (.ref A.c_NoRoom) = true
  s_NoRoom : PySem.W.subIn K (.ref A.c_NoRoom) (.type "BaseException") = some true
  t_NoRoom : PySem.W.typeIn K (.ref A.c_NoRoom) = some (.type "type")
  g_Unsure : mg "Unsure" = some (.ref A.c_Unsure)
  x_Unsure : PySem.W.excIn K A.c_Unsure [.type "ValueError", .type "Exception", .type "BaseException", .type "object"] "ValueError.__new__" = true
  k_Unsure : PySem.W.keepIn K (.ref A.c_Unsure) = true
  s_Unsure : PySem.W.subIn K (.ref A.c_Unsure) (.type "BaseException") = some true
  t_Unsure : PySem.W.typeIn K (.ref A.c_Unsure) = some (.type "type")
  g_NoText : mg "NoText" = some (.ref A.c_NoText)
  x_NoText : PySem.W.excIn K A.c_NoText [.type "ValueError", .type "Exception", .type "BaseException", .type "object"] "ValueError.__new__" = true
  k_NoText : PySem.W.keepIn K (.ref A.c_NoText) = true
  s_NoText : PySem.W.subIn K (.ref A.c_NoText) (.type "BaseException") = some true
  t_NoText : PySem.W.typeIn K (.ref A.c_NoText) = some (.type "type")
  g_NoNumber : mg "NoNumber" = some (.ref A.c_NoNumber)
  x_NoNumber : PySem.W.excIn K A.c_NoNumber [.type "ValueError", .type "Exception", .type "BaseException", .type "object"] "ValueError.__new__" = true
  k_NoNumber : PySem.W.keepIn K (.ref A.c_NoNumber) = true
  s_NoNumber : PySem.W.subIn K (.ref A.c_NoNumber) (.type "BaseException") = some true
  t_NoNumber : PySem.W.typeIn K (.ref A.c_NoNumber) = some (.type "type")
  e_NoFraction : Kinds K A.c_NoFraction [A.c_NoFraction, A.c_NoPath, A.c_NoBounds, A.c_NoRoom, A.c_Unsure, A.c_NoText, A.c_NoNumber] [true, false, false, false, false, false, false]
  em_NoFraction : PySem.W.exmOne K (.ref A.c_NoFraction) (.ref A.c_FractionError) = some true
section
variable {P : Program} {w : World} {K : PySem.W.Frag} {mg : Str → Option Value} {base : Heap} {A : Ad}
abbrev sp_p_law_cell_at (K : PySem.W.Frag) (A : Ad) : Sp := SpD K (α := List Int × Int) (fun g => [.bor (iL g.1), .im (.int g.2)]) (fun g => 0 ≤ g.2) (fun _ r => ∃ c : Int, r = .im (.int c)) noX
theorem ok_p_law_cell_at (T : Txt K mg A) : FnOk P w K mg base CX0 1 A.f_p_law_cell_at A.d_p_law_cell_at ["_law_script", "_law_k"] (sp_p_law_cell_at K A) := by
  refine T.F_p_law_cell_at.ok (k := 0) sc_p_law_cell_at (SpD.len fun _ => rfl) (fun cdv A' outer s H vs Q E hr h => ⟨_, (pss_cons (ps_if (pt_cmpR op_lt (pv 1) (pe_callB call_len (by rfl) T.n_len (by decide +kernel) (pa_cons (pv 0) pa_nil)) (nomark _)) (pss_one (ps_ret (pe_ix ix_list (pv 0) (pv 1) (fun _ _ => rfl)))) pss_nil)
      (pss_one (ps_ret pe_int))), entry (U := []) (fun _ => rfl) h fun g hp hE => ?_⟩)
  dsimp only [cxOf, L2.Cx.nox, L2.Cx.wish, List.cons_append, List.nil_append]
  obtain ⟨ns, k⟩ := g
  repeat tm_at "zs"
  refine ite_d (fun h => ?_) (fun h => ?_)
  · repeat tm_at "zs"
    obtain ⟨c, hc⟩ := at_cell hp h
    refine nixL_mk rfl hc ?_
    repeat tm_at "zs"
    exact ⟨c, rfl⟩
  · repeat tm_at "zs"
    exact ⟨0, rfl⟩
abbrev sp_p_law_way (K : PySem.W.Frag) (A : Ad) : Sp := SpD K (α := List Int × Int × Int) (fun g => [.bor (iL g.1), .im (.int g.2.1), .im (.int g.2.2)]) (fun g => 0 ≤ g.2.1 ∧ 0 < g.2.2) (fun g r => ∃ m : Int, r = .im (.int m) ∧ 0 ≤ m ∧ m < g.2.2) noX
theorem ok_p_law_way (T : Txt K mg A) : FnOk P w K mg base CX0 2 A.f_p_law_way A.d_p_law_way ["_law_script", "_law_k", "_law_many"] (sp_p_law_way K A) := by
  refine T.F_p_law_way.ok (k := 1) sc_p_law_way (SpD.len fun _ => rfl) (fun cdv A' outer s H vs Q E hr h => ⟨_, (pss_one (ps_ret (pe_op op_mod (pe_op op_mod (pe_op op_add (pe_op op_mulK (pe_call (ok_p_law_cell_at T) (hr.mono (by decide)) (by rfl) T.m_p_law_cell_at T.F_p_law_cell_at.kp T.b_p_law_cell_at .nil pass0 (pa_cons (pv 0) (pa_cons (pv 1) pa_nil))) pe_int) (pe_op op_mulK pe_int (pe_callB call_len (by rfl) T.n_len (by decide +kernel) (pa_cons (pv 0) pa_nil)))) pe_int) (pv 2)))), entry (U := []) (fun _ => rfl) h fun g hp hE => ?_⟩)
  dsimp only [cxOf, L2.Cx.nox, L2.Cx.wish, List.cons_append, List.nil_append]
  obtain ⟨ns, k, q⟩ := g
  obtain ⟨h0, h1⟩ := hp
  repeat tm_at "zs"
  refine ⟨(ns, k), rfl, h0, fun _ z => z, ?_⟩
  rintro _ ⟨c, rfl⟩
  repeat tm_at "zs"
  exact ⟨_, rfl, Int.emod_nonneg _ (by omega), Int.emod_lt_of_pos _ h1⟩
abbrev sp_p_law_number (K : PySem.W.Frag) (A : Ad) : Sp := SpD K (α := Int × Int) (fun g => [.im (.int g.1), .im (.int g.2)]) (fun g => 0 ≤ g.2 ∧ g.2 < 4) (fun _ r => ∃ m : Int, r = .im (.int m) ∧ 0 ≤ m ∧ m < 10 ^ 58) noX
theorem ok_p_law_number (T : Txt K mg A) : FnOk P w K mg base CX0 1 A.f_p_law_number A.d_p_law_number ["_law_cell", "_law_way_here"] (sp_p_law_number K A) := by
  refine T.F_p_law_number.ok (k := 0) sc_p_law_number (SpD.len fun _ => rfl) (fun cdv A' outer s H vs Q E hr h => ⟨_, (pss_one (ps_ret (pe_op op_mod (pv 0) (pe_ix ix_list (pe_lst (pa_cons pe_int (pa_cons pe_int (pa_cons (pe_op op_pow pe_int pe_int) (pa_cons (pe_op op_pow pe_int pe_int) pa_nil))))) (pv 1) (fun _ _ => rfl))))), entry (U := []) (fun _ => rfl) h fun g hp hE => ?_⟩)
  dsimp only [cxOf, L2.Cx.nox, L2.Cx.wish, List.cons_append, List.nil_append]
  obtain ⟨c, k⟩ := g
  obtain ⟨h0, h1⟩ := hp
  dsimp only at h0 h1
  repeat tm_at "zs"
  have hk : k = 0 ∨ k = 1 ∨ k = 2 ∨ k = 3 := by omega
  rcases hk with rfl | rfl | rfl | rfl
  all_goals
    refine nixL_mk rfl rfl ?_
    repeat tm_at "zs"
    refine ⟨_, rfl, Int.emod_nonneg _ (by decide), Int.lt_of_lt_of_le (Int.emod_lt_of_pos _ (by decide)) (by decide)⟩
abbrev sp_is_whole (K : PySem.W.Frag) (A : Ad) : Sp := SpD K (α := PyData) (fun d => [.im d]) (fun _ => True) (fun d r => r = .im (.bool (whD d))) noX
theorem ok_is_whole (T : Txt K mg A) : FnOk P w K mg base CX0 1 A.f_is_whole A.d_is_whole ["thing"] (sp_is_whole K A) := by
  refine T.F_is_whole.ok (k := 0) sc_is_whole (SpD.len fun _ => rfl) (fun cdv A' outer s H vs Q E hr h => ⟨_, (pss_one (ps_ret (pe_and (pe_callB call_isi (by rfl) T.n_isinstance (by decide +kernel) (pa_cons (pv 0) (pa_cons (pe_bltn (v := .ty "int") (by rfl) T.n_int (by decide +kernel) rfl) pa_nil))) (pe_one (pe_not (pe_callB call_isi (by rfl) T.n_isinstance (by decide +kernel) (pa_cons (pv 0) (pa_cons (pe_bltn (v := .ty "bool") (by rfl) T.n_bool (by decide +kernel) rfl) pa_nil)))))))), entry (U := []) (fun _ => rfl) h fun g hp hE => ?_⟩)
  dsimp only [cxOf, L2.Cx.nox, L2.Cx.wish, List.cons_append, List.nil_append]
  repeat tm_at "zs"
  refine ite_b (fun h => ?_) (fun h => ?_)
  · repeat tm_at "zs"
    show Sl.im _ = Sl.im _
    unfold whD
    have h' : kt (tyD g) "int" = true := h
    rw [h', Bool.true_and]
    rfl
  · repeat tm_at "zs"
    show Sl.im _ = Sl.im _
    unfold whD
    have h' : kt (tyD g) "int" = false := h
    rw [h', Bool.false_and]
/-- two parts of a fraction -/
def Good (g : PyData × PyData) : Prop := ∃ u l : Int, g = (.int u, .int l) ∧ 0 ≤ u ∧ 1 ≤ l
abbrev sp_lowest (K : PySem.W.Frag) (A : Ad) : Sp := SpD K (α := PyData × PyData) (fun g => [.im g.1, .im g.2]) (fun g => ∀ l : Int, g.2 = .int l → Bd 8000 l) (fun g r => ∃ u l : Int, g = (.int u, .int l) ∧ 0 ≤ u ∧ 1 ≤ l ∧ r = .im (fr (u / gc u l) (l / gc u l))) (fun g C => C = A.c_NoFraction ∧ ¬ Good g)
theorem ok_lowest (T : Txt K mg A) : FnOk P w K mg base (L2N.CX P w) 3 A.f_lowest A.d_lowest ["upper", "lower"] (sp_lowest K A) := by
  refine T.F_lowest.okN (k := 2) sc_lowest (SpD.len fun _ => rfl) (fun cdv A' outer s H vs Q E hr h => ⟨_, (pss_cons (ps_if (PW.pt (pw_or (pt_not (pt_val (pe_call (ok_is_whole T) (hr.mono (by decide)) (by rfl) T.m_is_whole T.F_is_whole.kp T.b_is_whole .nil pass0 (pa_cons (pv 0) pa_nil)))) (pw_or1 (pt_not (pt_val (pe_call (ok_is_whole T) (hr.mono (by decide)) (by rfl) T.m_is_whole T.F_is_whole.kp T.b_is_whole .nil pass0 (pa_cons (pv 1) pa_nil))))))) (pss_one (L2N.ps_raise rfl (L2N.takes_of rfl rfl rfl rfl) (L2N.pmk_own PySem.F.excBase_ValueError T.x_NoFraction T.g_NoFraction T.k_NoFraction (raises_own T.s_NoFraction T.t_NoFraction) rfl))) pss_nil)
      (pss_cons (ps_if (pt_cmpR op_lt (pv 0) pe_int (nomark _)) (pss_one (L2N.ps_raise rfl (L2N.takes_of rfl rfl rfl rfl) (L2N.pmk_own PySem.F.excBase_ValueError T.x_NoFraction T.g_NoFraction T.k_NoFraction (raises_own T.s_NoFraction T.t_NoFraction) rfl))) pss_nil)
      (pss_cons (ps_if (pt_cmpR op_lt (pv 1) pe_int (nomark _)) (pss_one (L2N.ps_raise rfl (L2N.takes_of rfl rfl rfl rfl) (L2N.pmk_own PySem.F.excBase_ValueError T.x_NoFraction T.g_NoFraction T.k_NoFraction (raises_own T.s_NoFraction T.t_NoFraction) rfl))) pss_nil)
      (pss_cons (ps_set (i := 2) sc_lowest.nd rfl (Or.inl rfl) (pe_callBfun cr_gcd (by rfl) T.g_gcd (pa_cons (pv 0) (pa_cons (pv 1) pa_nil))))
      (pss_one (ps_ret (pe_tup (pa_cons (pe_op op_fdivW (pv 0) (pv 2)) (pa_cons (pe_op op_fdivW (pv 1) (pv 2)) pa_nil))))))))), entry (U := [.un]) (fun _ => rfl) h fun g hp hE => ?_⟩)
  dsimp only [cxOf, L2.Cx.nox, L2.Cx.wish, List.cons_append, List.nil_append]
  obtain ⟨d, e⟩ := g
  repeat tm_at "zs"
  refine ⟨d, rfl, trivial, fun _ z => z, ?_⟩
  rintro _ rfl
  repeat tm_at "zs"
  refine ite_b (fun h1 => ?_) (fun h1 => ?_)
  · repeat tm_at "zs"
    refine wS_raise fun H' hs => hE _ H' hs ⟨rfl, ?_⟩
    rintro ⟨u, l, q, _⟩
    cases q
    rw [whD_int] at h1
    cases h1
  repeat tm_at "zs"
  refine ⟨e, rfl, trivial, fun _ z => z, ?_⟩
  rintro _ rfl
  repeat tm_at "zs"
  refine ite_b (fun h2 => ?_) (fun h2 => ?_)
  · repeat tm_at "zs"
    refine wS_raise fun H' hs => hE _ H' hs ⟨rfl, ?_⟩
    rintro ⟨u, l, q, _⟩
    cases q
    rw [whD_int] at h2
    cases h2
  obtain ⟨u, rfl⟩ := whD_iff.mp (by simpa using h1)
  obtain ⟨l, rfl⟩ := whD_iff.mp (by simpa using h2)
  repeat tm_at "zs"
  refine ite_d (fun h3 => ?_) (fun h3 => ?_)
  · refine wS_raise fun H' hs => hE _ H' hs ⟨rfl, ?_⟩
    rintro ⟨u', l', q, h5, h6⟩
    cases q
    omega
  repeat tm_at "zs"
  refine ite_d (fun h4 => ?_) (fun h4 => ?_)
  · refine wS_raise fun H' hs => hE _ H' hs ⟨rfl, ?_⟩
    rintro ⟨u', l', q, h5, h6⟩
    cases q
    omega
  have bl := hp l rfl
  have g1 := gc_pos (u := u) (l := l) (by omega)
  have g2 : gc u l ≤ l := gc_le (by omega)
  have s1 : CDivW u (gc u l) := (bl.le (by omega) g2).divOk (by omega) (by decide)
  have s2 : CDivW l (gc u l) := (bl.le (by omega) g2).divOk (by omega) (by decide)
  repeat tm_at "zs"
  exact ⟨u, l, rfl, by omega, by omega, rfl⟩
theorem ok_p_law_alone (T : Txt K mg A) {D : Addr} {b0 b1 b2 b3 b4 b5 b6 : Bool} (Kd : Kinds K D [A.c_NoFraction, A.c_NoPath, A.c_NoBounds, A.c_NoRoom, A.c_Unsure, A.c_NoText, A.c_NoNumber] [b0, b1, b2, b3, b4, b5, b6]) (hc : (([b0, b1, b2, b3, b4, b5, b6] : List Bool).count true) = 1) : FnP P w K mg base CX0 1 A.f_p_law_alone A.d_p_law_alone ["_law_e"] (spAl D) := by
  refine fnp_of T.F_p_law_alone sc_p_law_alone (fun p vs H Q E h => by obtain ⟨rfl, _⟩ := h; rfl) (fun cdv A' outs s H vs Q E p hot hr h => ?_)
  obtain ⟨rfl, hz, hf, k⟩ := h
  refine ⟨_, pss_cons (ps_set (i := 1) sc_p_law_alone.nd rfl (Or.inl rfl) (pe_lst (pa_cons (pe_callB (call_isP Kd.ex (List.mem_singleton.mpr rfl) hz hf) (by rfl) T.n_isinstance (by decide +kernel) (pa_cons (pv 0) (pa_cons (pe_glob (v := .ref A.c_NoFraction) (by rfl) T.g_NoFraction rfl) pa_nil))) (pa_cons (pe_callB (call_isP Kd.ex (List.mem_singleton.mpr rfl) hz hf) (by rfl) T.n_isinstance (by decide +kernel) (pa_cons (pv 0) (pa_cons (pe_glob (v := .ref A.c_NoPath) (by rfl) T.g_NoPath rfl) pa_nil))) (pa_cons (pe_callB (call_isP Kd.ex (List.mem_singleton.mpr rfl) hz hf) (by rfl) T.n_isinstance (by decide +kernel) (pa_cons (pv 0) (pa_cons (pe_glob (v := .ref A.c_NoBounds) (by rfl) T.g_NoBounds rfl) pa_nil))) (pa_cons (pe_callB (call_isP Kd.ex (List.mem_singleton.mpr rfl) hz hf) (by rfl) T.n_isinstance (by decide +kernel) (pa_cons (pv 0) (pa_cons (pe_glob (v := .ref A.c_NoRoom) (by rfl) T.g_NoRoom rfl) pa_nil))) pa_nil))))))
    (pss_cons (ps_set (i := 1) sc_p_law_alone.nd rfl (Or.inl rfl) (pe_op op_cat (pv 1) (pe_lst (pa_cons (pe_callB (call_isP Kd.ex (List.mem_singleton.mpr rfl) hz hf) (by rfl) T.n_isinstance (by decide +kernel) (pa_cons (pv 0) (pa_cons (pe_glob (v := .ref A.c_Unsure) (by rfl) T.g_Unsure rfl) pa_nil))) (pa_cons (pe_callB (call_isP Kd.ex (List.mem_singleton.mpr rfl) hz hf) (by rfl) T.n_isinstance (by decide +kernel) (pa_cons (pv 0) (pa_cons (pe_glob (v := .ref A.c_NoText) (by rfl) T.g_NoText rfl) pa_nil))) (pa_cons (pe_callB (call_isP Kd.ex (List.mem_singleton.mpr rfl) hz hf) (by rfl) T.n_isinstance (by decide +kernel) (pa_cons (pv 0) (pa_cons (pe_glob (v := .ref A.c_NoNumber) (by rfl) T.g_NoNumber rfl) pa_nil))) pa_nil))))))
    (pss_one (ps_ret (pe_and (pe_cmpR op_eq (pe_bm PySem.F.plainAttrs_list PySem.F.slot_list_count PySem.F.type_list_count mt_countB (pv 1) (pa_cons pe_bl pa_nil)) pe_int (nomark _)) (pe_one (pe_callB (call_isP Kd.ex (List.mem_singleton.mpr rfl) hz hf) (by rfl) T.n_isinstance (by decide +kernel) (pa_cons (pv 0) (pa_cons (pe_bltn (v := .ty "ValueError") (by rfl) T.n_ValueError (by decide +kernel) rfl) pa_nil)))))))), ?_⟩
  have ks := Kd.ks
  refine ⟨_, rfl, _, _, b0, rfl, fun _ z => z, ks 0 _ _ rfl rfl, _, rfl, _, _, b1, rfl, fun _ z => z, ks 1 _ _ rfl rfl, _, rfl, _, _, b2, rfl, fun _ z => z, ks 2 _ _ rfl rfl, _, rfl, _, _, b3, rfl, fun _ z => z, ks 3 _ _ rfl rfl, by show 4 ≤ sizeLine; decide, fun p1 n1 => ?_⟩
  refine ⟨_, rfl, _, rfl, _, _, b4, rfl, fun _ z => z, ks 4 _ _ rfl rfl, _, rfl, _, _, b5, rfl, fun _ z => z, ks 5 _ _ rfl rfl, _, rfl, _, _, b6, rfl, fun _ z => z, ks 6 _ _ rfl rfl, by show 3 ≤ sizeLine; decide, fun p2 n2 => ?_⟩
  have g1 : upd (upd H p1 (.lst [.bl b0, .bl b1, .bl b2, .bl b3])) p2 (.lst [.bl b4, .bl b5, .bl b6]) p1 = some (.lst [.bl b0, .bl b1, .bl b2, .bl b3]) := by
    rw [upd_ne (ne_of_none upd_same n2)]
    exact upd_same
  refine ⟨p1, p2, _, _, rfl, rfl, g1, upd_same, by show 7 ≤ sizeLine; decide, fun p3 n3 => ?_⟩
  refine ⟨_, rfl, .inl ⟨rfl, _, .inl (.inl upd_same)⟩, p3, [b0, b1, b2, b3, b4, b5, b6], rfl, rfl, .inl (.inl upd_same), rfl, ?_⟩
  rw [hc]
  refine ⟨true, rfl, ?_⟩
  refine iteT ?_
  refine ⟨_, rfl, _, _, true, rfl, fun _ z => z, Kd.ve, ?_⟩
  exact k _ (((same_upd n1).trans (same_upd n2)).trans (same_upd n3))
abbrev sp_p_law_refused (K : PySem.W.Frag) (A : Ad) : Sp := SpD K (α := PyData × PyData) (fun g => [.im (.tuple [g.1, g.2])]) (fun g => ¬ Good g ∧ ∀ l : Int, g.2 = .int l → Bd 8000 l) (fun _ r => r = .im (.bool true)) noX
theorem ok_p_law_refused (T : Txt K mg A) : FnOk P w K mg base CX0 4 A.f_p_law_refused A.d_p_law_refused ["_law_pair"] (sp_p_law_refused K A) := by
  refine T.F_p_law_refused.ok (k := 3) sc_p_law_refused (SpD.len fun _ => rfl) (fun cdv A' outer s H vs Q E hr h => ⟨_, (pss_cons (L2N.ps_try_as (i := 1) (tb := fun W => tDrop (tCallS (sp_lowest K A) (WE W) (tCons (tOp (rIxT K) (tVar 0) (tC (.int 0))) (tCons (tOp (rIxT K) (tVar 0) (tC (.int 1))) tNil)))) (ts := tsR K A.c_NoFraction 1 (fun a oe => tCall (spAl A.c_NoFraction (a, oe)) [] E0 (tCons (tVar 1) tNil))) (Wout := fun _ _ _ _ => False) rfl rfl sc_p_law_refused.nd rfl rfl ⟨rfl, by decide, .inl T.g_FractionError⟩ takes0N (fun W pn xe tk _ => pss_one (ps_expr (pe_callS (ok_lowest T) (hr.mono (by decide)) (by rfl) T.m_lowest T.F_lowest.kp T.b_lowest (fun σ => L2N.passAt tk σ) (pa_cons (pe_ix ix_tup (pv 0) pe_int (fun _ _ => rfl)) (pa_cons (pe_ix ix_tup (pv 0) pe_int (fun _ _ => rfl)) pa_nil))))) (fun a oe cls d pn hz hf => PSs.when fun hc => (by obtain ⟨rfl, rfl⟩ := hc; exact PSs.imp (pss_one (ps_ret (pe_and (pe_callB (call_isP T.e_NoFraction.ex List.mem_cons_self ⟨hz.1, hz.2.1⟩ hf) (by rfl) T.n_isinstance (by decide +kernel) (pa_cons (pv 1) (pa_cons (pe_glob (v := .ref A.c_NoFraction) (by rfl) T.g_NoFraction rfl) pa_nil))) (pe_one (pe_callP (ok_p_law_alone T T.e_NoFraction rfl) ⟨(L2H.roomH_of (hr.mono (show (1 : Nat) ≤ _ by decide))).dp, (L2H.roomH_of (hr.mono (show (1 : Nat) ≤ _ by decide))).un⟩ (by obtain ⟨fs, hfs⟩ := hf; exact ⟨rfl, fs, hfs, hz.2.2 fs hfs⟩) List.mem_cons_self (by rfl) T.m_p_law_alone T.F_p_law_alone.kp T.b_p_law_alone (pa_cons (pv 1) pa_nil)))))) (fun Dn σ H z => z oe hz hf)))) (pss_one (ps_ret pe_bl))), entry (U := [.un]) (fun _ => rfl) h fun g hp hE => ?_⟩)
  dsimp only [cxOf, L2.Cx.nox, L2.Cx.wish, List.cons_append, List.nil_append]
  obtain ⟨d, e⟩ := g
  obtain ⟨h0, h1⟩ := hp
  dsimp only at h0 h1 ⊢
  refine wS_seq (wS_refused (T.e_NoFraction.ks 0 _ _ rfl rfl) T.em_NoFraction (fun a oe σ H' Q' hl hs hz hf k => ⟨_, hs, rfl, hz, hf, k⟩) rfl rfl rfl ?_)
  repeat tm_at "zs"
  exact ⟨(d, e), rfl, h1, fun r z => by obtain ⟨u, l, q, a, b, _⟩ := z; exact h0 ⟨u, l, q, a, b⟩, fun C z => z.1⟩
abbrev sp_p_law_whole (K : PySem.W.Frag) (A : Ad) : Sp := SpD K (α := PyData) (fun d => [.im d]) (fun _ => True) (fun d r => r = .im (.bool (whD d))) noX
theorem ok_p_law_whole (T : Txt K mg A) : FnOk P w K mg base CX0 1 A.f_p_law_whole A.d_p_law_whole ["_law_found"] (sp_p_law_whole K A) := by
  refine T.F_p_law_whole.ok (k := 0) sc_p_law_whole (SpD.len fun _ => rfl) (fun cdv A' outer s H vs Q E hr h => ⟨_, (pss_one (ps_ret (pe_and (pe_callB call_isi (by rfl) T.n_isinstance (by decide +kernel) (pa_cons (pv 0) (pa_cons (pe_bltn (v := .ty "int") (by rfl) T.n_int (by decide +kernel) rfl) pa_nil))) (pe_one (pe_not (pe_callB call_isi (by rfl) T.n_isinstance (by decide +kernel) (pa_cons (pv 0) (pa_cons (pe_bltn (v := .ty "bool") (by rfl) T.n_bool (by decide +kernel) rfl) pa_nil)))))))), entry (U := []) (fun _ => rfl) h fun g hp hE => ?_⟩)
  dsimp only [cxOf, L2.Cx.nox, L2.Cx.wish, List.cons_append, List.nil_append]
  repeat tm_at "zs"
  refine ite_b (fun h => ?_) (fun h => ?_)
  · repeat tm_at "zs"
    show Sl.im _ = Sl.im _
    unfold whD
    have h' : kt (tyD g) "int" = true := h
    rw [h', Bool.true_and]
    rfl
  · repeat tm_at "zs"
    show Sl.im _ = Sl.im _
    unfold whD
    have h' : kt (tyD g) "int" = false := h
    rw [h', Bool.false_and]
abbrev sp_p_law_shared (K : PySem.W.Frag) (A : Ad) : Sp := SpD K (α := Int × Int) (fun g => [.im (.int g.1), .im (.int g.2)]) (fun g => 0 ≤ g.1 ∧ 0 ≤ g.2) (fun g r => r = .im (.int (gc g.1 g.2))) noX
theorem ok_p_law_shared (T : Txt K mg A) : FnOk P w K mg base CX0 1 A.f_p_law_shared A.d_p_law_shared ["_law_one", "_law_other"] (sp_p_law_shared K A) := by
  refine T.F_p_law_shared.ok (k := 0) sc_p_law_shared (SpD.len fun _ => rfl) (fun cdv A' outer s H vs Q E hr h => ⟨_, (pss_cons (ps_while PassesOwn.never (pt_cmpR op_gt (pv 1) pe_int (nomark _)) (pss_one (ps_par (i := 0) (j := 1) (by rfl) sc_p_law_shared.nd rfl rfl (by decide) rfl rfl (pa_cons (pv 1) (pa_cons (pe_op op_mod (pv 0) (pv 1)) pa_nil)) (by rfl))))
      (pss_one (ps_ret (pv 0)))), entry (U := []) (fun _ => rfl) h fun g hp hE => ?_⟩)
  dsimp only [cxOf, L2.Cx.nox, L2.Cx.wish, List.cons_append, List.nil_append]
  obtain ⟨a, b⟩ := g
  obtain ⟨ha, hb⟩ := hp
  refine wS_seq (wS_while (α := Int × Int) (fun x => [.im (.int x.1), .im (.int x.2)]) (fun x => 0 ≤ x.1 ∧ 0 ≤ x.2 ∧ gc x.1 x.2 = gc a b) (fun x => x.2.toNat) (a, b) Wk.rfl ⟨ha, hb, rfl⟩ ?_)
  rintro ⟨x, y⟩ ⟨hx, hy, hg⟩
  dsimp only at hx hy hg
  repeat tm_at "zs"
  refine ite_d (fun h => ?_) (fun h => ?_)
  · repeat tm_at "zs"
    refine ⟨(y, x % y), Wk.rfl, ⟨hy, Int.emod_nonneg _ (by omega), ?_⟩, ?_⟩
    · exact (gc_step hx h).trans hg
    · have : x % y < y := Int.emod_lt_of_pos x h
      show (x % y).toNat < y.toNat
      dsimp only at h
      omega
  · repeat tm_at "zs"
    have e : y = 0 := by omega
    subst e
    show Sl.im _ = Sl.im _
    rw [← hg, gc_zero hx]
abbrev sp_p_law_is_frac (K : PySem.W.Frag) (A : Ad) : Sp := SpD K (α := Int × Int) (fun g => [.im (fr g.1 g.2)]) (fun _ => True) (fun g r => r = .im (.bool (decide (0 ≤ g.1 ∧ 1 ≤ g.2 ∧ gc g.1 g.2 = 1)))) noX
theorem ok_p_law_is_frac (T : Txt K mg A) : FnOk P w K mg base CX0 2 A.f_p_law_is_frac A.d_p_law_is_frac ["_law_found"] (sp_p_law_is_frac K A) := by
  refine T.F_p_law_is_frac.ok (k := 1) sc_p_law_is_frac (SpD.len fun _ => rfl) (fun cdv A' outer s H vs Q E hr h => ⟨_, (pss_cons (ps_if (PW.pt (pw_or (pt_not (pt_val (pe_callB call_isi (by rfl) T.n_isinstance (by decide +kernel) (pa_cons (pv 0) (pa_cons (pe_bltn (v := .ty "tuple") (by rfl) T.n_tuple (by decide +kernel) rfl) pa_nil))))) (pw_or1 (pt_cmpR (op_neD hr.units) (pe_callB call_len (by rfl) T.n_len (by decide +kernel) (pa_cons (pv 0) pa_nil)) pe_int (nomark _))))) (pss_one (ps_ret pe_bl)) pss_nil)
      (pss_cons (ps_if (PW.pt (pw_or (pt_not (pt_val (pe_call (ok_p_law_whole T) (hr.mono (by decide)) (by rfl) T.m_p_law_whole T.F_p_law_whole.kp T.b_p_law_whole .nil pass0 (pa_cons (pe_ix ix_tup (pv 0) pe_int (fun _ _ => rfl)) pa_nil)))) (pw_or1 (pt_not (pt_val (pe_call (ok_p_law_whole T) (hr.mono (by decide)) (by rfl) T.m_p_law_whole T.F_p_law_whole.kp T.b_p_law_whole .nil pass0 (pa_cons (pe_ix ix_tup (pv 0) pe_int (fun _ _ => rfl)) pa_nil))))))) (pss_one (ps_ret pe_bl)) pss_nil)
      (pss_one (ps_ret (pe_and (pe_cmpR op_ge (pe_ix ix_tup (pv 0) pe_int (fun _ _ => rfl)) pe_int (nomark _)) (pe_and (pe_cmpR op_ge (pe_ix ix_tup (pv 0) pe_int (fun _ _ => rfl)) pe_int (nomark _)) (pe_one (pe_cmpR (op_eqD hr.units) (pe_call (ok_p_law_shared T) (hr.mono (by decide)) (by rfl) T.m_p_law_shared T.F_p_law_shared.kp T.b_p_law_shared .nil pass0 (pa_cons (pe_ix ix_tup (pv 0) pe_int (fun _ _ => rfl)) (pa_cons (pe_ix ix_tup (pv 0) pe_int (fun _ _ => rfl)) pa_nil))) pe_int (nomark _))))))))), entry (U := []) (fun _ => rfl) h fun g hp hE => ?_⟩)
  dsimp only [cxOf, L2.Cx.nox, L2.Cx.wish, List.cons_append, List.nil_append]
  obtain ⟨a, b⟩ := g
  tm_at "zz"
  refine ⟨_, rfl, trivial, fun _ z => z, ?_⟩
  rintro _ rfl
  rw [whD_int]
  tm_at "zz"
  refine ⟨_, rfl, trivial, fun _ z => z, ?_⟩
  rintro _ rfl
  rw [whD_int]
  tm_at "zz"
  · refine ⟨(a, b), rfl, ⟨by omega, by omega⟩, fun _ z => z, ?_⟩
    rintro _ rfl
    repeat tm_at "zs"
    show Sl.im _ = Sl.im _
    congr 2
    rw [decide_eq_decide]
    omega
  · show Sl.im _ = Sl.im _
    congr 2
    symm
    rw [decide_eq_false_iff_not]
    omega
  · show Sl.im _ = Sl.im _
    congr 2
    symm
    rw [decide_eq_false_iff_not]
    omega
abbrev sp_p_law_wrong (K : PySem.W.Frag) (A : Ad) : Sp := SpD K (α := Int × Int × Int) (fun g => [.im (.int g.1), .im (.int g.2.1), .im (.int g.2.2)]) (fun g => (0 ≤ g.1 ∧ g.1 < 16) ∧ 0 ≤ g.2.1 ∧ 1 ≤ g.2.2 ∧ Bd 300 g.2.1 ∧ Bd 300 g.2.2) (fun _ r => ∃ d e : PyData, r = .im (.tuple [d, e]) ∧ ¬ Good (d, e) ∧ ∀ l : Int, e = .int l → Bd 8000 l) noX
theorem ok_p_law_wrong (T : Txt K mg A) : FnOk P w K mg base CX0 1 A.f_p_law_wrong A.d_p_law_wrong ["_law_kind", "_law_upper", "_law_lower"] (sp_p_law_wrong K A) := by
  refine T.F_p_law_wrong.ok (k := 0) sc_p_law_wrong (SpD.len fun _ => rfl) (fun cdv A' outer s H vs Q E hr h => ⟨_, (pss_cons (ps_set (i := 3) sc_p_law_wrong.nd rfl (Or.inl rfl) (pe_lst (pa_cons (pe_tup (pa_cons (pe_op op_sub (pe_un un_neg pe_int) (pv 1)) (pa_cons (pv 2) pa_nil))) (pa_cons (pe_tup (pa_cons (pv 1) (pa_cons pe_int pa_nil))) (pa_cons (pe_tup (pa_cons (pv 1) (pa_cons (pe_un un_neg (pv 2)) pa_nil))) (pa_cons (pe_tup (pa_cons pe_bl (pa_cons (pv 2) pa_nil))) (pa_cons (pe_tup (pa_cons (pv 1) (pa_cons pe_bl pa_nil))) (pa_cons (pe_tup (pa_cons pe_non (pa_cons (pv 2) pa_nil))) pa_nil))))))))
      (pss_cons (ps_set (i := 3) sc_p_law_wrong.nd rfl (Or.inl rfl) (pe_op op_cat (pv 3) (pe_lst (pa_cons (pe_tup (pa_cons (pv 1) (pa_cons pe_str pa_nil))) (pa_cons (pe_tup (pa_cons (pe_un un_neg pe_int) (pa_cons pe_int pa_nil))) (pa_cons (pe_tup (pa_cons pe_bl (pa_cons (pv 2) pa_nil))) (pa_cons (pe_tup (pa_cons (pv 1) (pa_cons pe_non pa_nil))) (pa_cons (pe_tup (pa_cons pe_int (pa_cons pe_int pa_nil))) (pa_cons (pe_tup (pa_cons pe_str (pa_cons (pv 2) pa_nil))) pa_nil)))))))))
      (pss_cons (ps_set (i := 3) sc_p_law_wrong.nd rfl (Or.inl rfl) (pe_op op_cat (pv 3) (pe_lst (pa_cons (pe_tup (pa_cons (pe_tup (pa_cons (pv 1) (pa_cons pe_int pa_nil))) (pa_cons (pv 2) pa_nil))) (pa_cons (pe_tup (pa_cons (pv 1) (pa_cons (pe_lst (pa_cons (pv 2) pa_nil)) pa_nil))) (pa_cons (pe_tup (pa_cons (pv 1) (pa_cons pe_dnewK pa_nil))) (pa_cons (pe_tup (pa_cons (pe_lst pa_nil) (pa_cons (pv 2) pa_nil))) pa_nil)))))))
      (pss_one (ps_ret (pe_ix ix_list (pv 3) (pv 0) (fun _ _ => rfl))))))), entry (U := [.un]) (fun _ => rfl) h fun g hp hE => ?_⟩)
  dsimp only [cxOf, L2.Cx.nox, L2.Cx.wish, List.cons_append, List.nil_append]
  obtain ⟨k, u, l⟩ := g
  obtain ⟨⟨h0, h1⟩, h2, h3, h4, h5⟩ := hp
  dsimp only at h0 h1 h2 h3 h4 h5 ⊢
  repeat tm_at "zs"
  have hk : k = 0 ∨ k = 1 ∨ k = 2 ∨ k = 3 ∨ k = 4 ∨ k = 5 ∨ k = 6 ∨ k = 7 ∨ k = 8 ∨ k = 9 ∨ k = 10 ∨ k = 11 ∨ k = 12 ∨ k = 13 ∨ k = 14 ∨ k = 15 := by omega
  rcases hk with rfl | rfl | rfl | rfl | rfl | rfl | rfl | rfl | rfl | rfl | rfl | rfl | rfl | rfl | rfl | rfl
  all_goals
    refine nixL_mk rfl rfl ?_
    repeat tm_at "zs"
    refine ⟨_, _, rfl, ?_, ?_⟩
    · rintro ⟨x, y, q, hx, hy⟩
      first
        | (cases q; omega)
        | cases q
    · intro x q
      first
        | (cases q; tm_at "zm")
        | cases q
abbrev sp_law (K : PySem.W.Frag) : Sp := SpD K (α := List Int) (fun ns => [.bor (iL ns)]) (fun _ => True) (fun _ r => r = .im (.bool true)) noX
theorem ok_law (T : Txt K mg A) : FnOk P w K mg base CX0 5 A.f_law A.d_law ["_law_script"] (sp_law K) := by
  refine T.F_law.ok (k := 4) sc_law (SpD.len fun _ => rfl) (fun cdv A' outer s H vs Q E hr h => ⟨_, (pss_cons (ps_set (i := 1) sc_law.nd rfl (Or.inl rfl) (pe_call (ok_p_law_way T) (hr.mono (by decide)) (by rfl) T.m_p_law_way T.F_p_law_way.kp T.b_p_law_way .nil pass0 (pa_cons (pv 0) (pa_cons pe_int (pa_cons pe_int pa_nil)))))
      (pss_cons (ps_set (i := 2) sc_law.nd rfl (Or.inl rfl) (pe_call (ok_p_law_number T) (hr.mono (by decide)) (by rfl) T.m_p_law_number T.F_p_law_number.kp T.b_p_law_number .nil pass0 (pa_cons (pe_call (ok_p_law_cell_at T) (hr.mono (by decide)) (by rfl) T.m_p_law_cell_at T.F_p_law_cell_at.kp T.b_p_law_cell_at .nil pass0 (pa_cons (pv 0) (pa_cons pe_int pa_nil))) (pa_cons (pe_op op_mod (pv 1) pe_int) pa_nil))))
      (pss_cons (ps_set (i := 3) sc_law.nd rfl (Or.inl rfl) (pe_op op_add pe_int (pe_call (ok_p_law_number T) (hr.mono (by decide)) (by rfl) T.m_p_law_number T.F_p_law_number.kp T.b_p_law_number .nil pass0 (pa_cons (pe_call (ok_p_law_cell_at T) (hr.mono (by decide)) (by rfl) T.m_p_law_cell_at T.F_p_law_cell_at.kp T.b_p_law_cell_at .nil pass0 (pa_cons (pv 0) (pa_cons pe_int pa_nil))) (pa_cons (pe_op op_mod (pe_op op_fdivW (pv 1) pe_int) pe_int) pa_nil)))))
      (pss_cons (ps_if (pt_cmpR (op_eqD hr.units) (pe_op op_fdivW (pv 1) pe_int) pe_int (nomark _)) (pss_one (ps_ret (pe_call (ok_p_law_refused T) (hr.mono (by decide)) (by rfl) T.m_p_law_refused T.F_p_law_refused.kp T.b_p_law_refused .nil pass0 (pa_cons (pe_call (ok_p_law_wrong T) (hr.mono (by decide)) (by rfl) T.m_p_law_wrong T.F_p_law_wrong.kp T.b_p_law_wrong .nil pass0 (pa_cons (pe_call (ok_p_law_way T) (hr.mono (by decide)) (by rfl) T.m_p_law_way T.F_p_law_way.kp T.b_p_law_way .nil pass0 (pa_cons (pv 0) (pa_cons pe_int (pa_cons pe_int pa_nil)))) (pa_cons (pv 2) (pa_cons (pv 3) pa_nil)))) pa_nil)))) pss_nil)
      (pss_cons (ps_if (pt_cmpR (op_eqD hr.units) (pe_op op_fdivW (pv 1) pe_int) pe_int (nomark _)) (pss_cons (ps_set (i := 4) sc_law.nd rfl (Or.inl rfl) (pe_op op_add pe_int (pe_op op_mod (pe_call (ok_p_law_cell_at T) (hr.mono (by decide)) (by rfl) T.m_p_law_cell_at T.F_p_law_cell_at.kp T.b_p_law_cell_at .nil pass0 (pa_cons (pv 0) (pa_cons pe_int pa_nil))) pe_int)))
      (pss_cons (ps_set (i := 2) sc_law.nd rfl (Or.inl rfl) (pe_op op_mulK (pv 2) (pv 4)))
      (pss_one (ps_set (i := 3) sc_law.nd rfl (Or.inl rfl) (pe_op op_mulK (pv 3) (pv 4)))))) pss_nil)
      (pss_cons (ps_set (i := 5) sc_law.nd rfl (Or.inl rfl) (pe_call (ok_lowest T) (hr.mono (by decide)) (by rfl) T.m_lowest T.F_lowest.kp T.b_lowest .nil passNL (pa_cons (pv 2) (pa_cons (pv 3) pa_nil))))
      (pss_one (ps_ret (pe_and (pe_call (ok_p_law_is_frac T) (hr.mono (by decide)) (by rfl) T.m_p_law_is_frac T.F_p_law_is_frac.kp T.b_p_law_is_frac .nil pass0 (pa_cons (pv 5) pa_nil)) (pe_one (pe_cmpR (op_eqD hr.units) (pe_op op_mulK (pe_ix ix_tup (pv 5) pe_int (fun _ _ => rfl)) (pv 3)) (pe_op op_mulK (pv 2) (pe_ix ix_tup (pv 5) pe_int (fun _ _ => rfl))) (nomark _)))))))))))), entry (U := [.un, .un, .un, .un, .un]) (fun _ => rfl) h fun g hp hE => ?_⟩)
  dsimp only [cxOf, L2.Cx.nox, L2.Cx.wish, List.cons_append, List.nil_append]
  refine wS_seq (wS_asg ?_); (repeat tm_at "zx")
  refine ⟨(g, 0, 64), rfl, ⟨by tm_at "zo", by tm_at "zo"⟩, fun _ z => z, ?_⟩
  rintro _ ⟨m, rfl, m0, m1⟩
  repeat tm_at "zx"
  refine wS_seq (wS_asg ?_); (repeat tm_at "zx")
  refine ⟨(g, 1), rfl, by tm_at "zo", fun _ z => z, ?_⟩
  rintro _ ⟨c, rfl⟩
  repeat tm_at "zx"
  refine ⟨(c, m % 4), rfl, ⟨by tm_at "zo", by tm_at "zo"⟩, fun _ z => z, ?_⟩
  rintro _ ⟨u, rfl, u0, u1⟩
  repeat tm_at "zx"
  refine wS_seq (wS_asg ?_); (repeat tm_at "zx")
  refine ⟨(g, 2), rfl, by tm_at "zo", fun _ z => z, ?_⟩
  rintro _ ⟨d, rfl⟩
  repeat tm_at "zx"
  refine ⟨(d, m / 4 % 4), rfl, ⟨by tm_at "zo", by tm_at "zo"⟩, fun _ z => z, ?_⟩
  rintro _ ⟨l, rfl, l0, l1⟩
  repeat tm_at "zx"
  have bu : Bd 300 u := Bd.of u0 (Int.lt_trans u1 (by decide))
  have bl : Bd 300 (1 + l) := Bd.of (by omega) (Int.lt_of_le_of_lt (show 1 + l ≤ 10 ^ 58 by omega) (by decide))
  refine wS_seq (wS_if ?_)
  repeat tm_at "zx"
  refine ite_d (fun h => ?_) (fun h => ?_)
  · repeat tm_at "zs"
    refine ⟨(g, 3, 16), rfl, ⟨by tm_at "zo", by tm_at "zo"⟩, fun _ z => z, ?_⟩
    rintro _ ⟨k, rfl, k0, k1⟩
    repeat tm_at "zs"
    refine ⟨(k, u, 1 + l), rfl, ⟨⟨by tm_at "zo", by tm_at "zo"⟩, u0, by tm_at "zo", bu, bl⟩, fun _ z => z, ?_⟩
    rintro _ ⟨d', e', rfl, hg, hb⟩
    repeat tm_at "zs"
    refine ⟨(d', e'), rfl, ⟨hg, hb⟩, fun _ z => z, ?_⟩
    rintro _ rfl
    repeat tm_at "zs"
    rfl
  refine wS_next ?_
  refine wS_cut (α := Int × Int) (fun x => [.bor (iL g), .im (.int m), .im (.int x.1), .im (.int x.2), .un, .un]) (fun x => 0 ≤ x.1 ∧ 1 ≤ x.2 ∧ Bd 900 x.1 ∧ Bd 900 x.2) ?_ ?_
  · repeat tm_at "zs"
    refine ite_d (fun h => ?_) (fun h => ?_)
    · repeat tm_at "zs"
      refine ⟨(g, 4), rfl, by tm_at "zo", fun _ z => z, ?_⟩
      rintro _ ⟨e, rfl⟩
      have be : Bd 64 (2 + e % 60) := Bd.of (by omega) (by omega)
      have e1 : 1 ≤ 2 + e % 60 := by omega
      repeat tm_at "zs"
      have hl : 1 ≤ (1 + l) * (2 + e % 60) := Int.le_trans (show 1 ≤ 1 + l by omega) (by have := Int.mul_le_mul_of_nonneg_left e1 (show 0 ≤ 1 + l by omega); rwa [Int.mul_one] at this)
      exact ⟨(_, _), by tm_at "zk", Int.mul_nonneg u0 (by omega), hl, by tm_at "zm", by tm_at "zm"⟩
    · repeat tm_at "zs"
      exact ⟨(u, 1 + l), by tm_at "zk", u0, by tm_at "zo", by tm_at "zm", by tm_at "zm"⟩
  rintro ⟨x, y⟩ ⟨x0, y0, bx, bY⟩
  dsimp only at x0 y0 bx bY ⊢
  obtain ⟨f1, f2, f3, f4, f5, f6⟩ := fr_ok x0 y0
  have b1 : Bd 900 (x / gc x y) := bx.le f1 f5
  have b2 : Bd 900 (y / gc x y) := bY.le (by omega) f6
  repeat tm_at "zs"
  refine ⟨(.int x, .int y), rfl, fun l e => by cases e; tm_at "zm", fun C z => z.2 ⟨_, _, rfl, x0, y0⟩, ?_⟩
  rintro _ ⟨u', l', e, _, _, rfl⟩
  cases e
  repeat tm_at "zs"
  refine ⟨(_, _), rfl, trivial, fun _ z => z, ?_⟩
  rintro _ rfl
  dsimp only
  rw [decide_eq_true (show 0 ≤ x / gc x y ∧ 1 ≤ y / gc x y ∧ gc (x / gc x y) (y / gc x y) = 1 from ⟨f1, f2, f3⟩)]
  repeat tm_at "zs"
  show Sl.im _ = Sl.im _
  rw [f4, decide_eq_true rfl]
end
theorem all_mk {P : Program} {w : World} {K : PySem.W.Frag} {h : Heap} {mg : Str → Option Value} {fa : Addr} (X : K.In h) (G : h.Ns mainGlobals mg) (hfa : mg "law" = some (.ref fa))
    {f_0 f_1 f_2 f_3 f_4 f_5 f_6 f_7 f_8 f_9 f_10 f_11 c_FractionError c_NoFraction c_NoPath c_NoBounds c_NoRoom c_Unsure c_NoText c_NoNumber : Addr}
    {od_0 an_0 : Option Addr} {sl_0 : Array (Option Value)} {oc_0 kV_0 dc_0 pm_0 cd_0 ct_0 : Value}
    {od_1 an_1 : Option Addr} {sl_1 : Array (Option Value)} {oc_1 kV_1 dc_1 pm_1 cd_1 ct_1 : Value}
    {od_2 an_2 : Option Addr} {sl_2 : Array (Option Value)} {oc_2 kV_2 dc_2 pm_2 cd_2 ct_2 : Value}
    {od_3 an_3 : Option Addr} {sl_3 : Array (Option Value)} {oc_3 kV_3 dc_3 pm_3 cd_3 ct_3 : Value}
    {od_4 an_4 : Option Addr} {sl_4 : Array (Option Value)} {oc_4 kV_4 dc_4 pm_4 cd_4 ct_4 : Value}
    {od_5 an_5 : Option Addr} {sl_5 : Array (Option Value)} {oc_5 kV_5 dc_5 pm_5 cd_5 ct_5 : Value}
    {od_6 an_6 : Option Addr} {sl_6 : Array (Option Value)} {oc_6 kV_6 dc_6 pm_6 cd_6 ct_6 : Value}
    {od_7 an_7 : Option Addr} {sl_7 : Array (Option Value)} {oc_7 kV_7 dc_7 pm_7 cd_7 ct_7 : Value}
    {od_8 an_8 : Option Addr} {sl_8 : Array (Option Value)} {oc_8 kV_8 dc_8 pm_8 cd_8 ct_8 : Value}
    {od_9 an_9 : Option Addr} {sl_9 : Array (Option Value)} {oc_9 kV_9 dc_9 pm_9 cd_9 ct_9 : Value}
    {od_10 an_10 : Option Addr} {sl_10 : Array (Option Value)} {oc_10 kV_10 dc_10 pm_10 cd_10 ct_10 : Value}
    {od_11 an_11 : Option Addr} {sl_11 : Array (Option Value)} {oc_11 kV_11 dc_11 pm_11 cd_11 ct_11 : Value}
    (a_0 : PySem.W.nsIn K mainGlobals "is_whole" = some (some (.ref f_0)))
    (l_0 : K.lookup f_0 = some ⟨oc_0, od_0, .func (PySem.W.fnOf "is_whole" "is_whole" (defArgs s_is_whole) (defBody s_is_whole) (defScope s_is_whole) .none kV_0 dc_0 pm_0 an_0 cd_0 ct_0), sl_0⟩)
    (o_0 : PySem.W.codeIn K cd_0 "is_whole" = true)
    (k_0 : PySem.W.keepIn K (.ref f_0) = true)
    (a_1 : PySem.W.nsIn K mainGlobals "lowest" = some (some (.ref f_1)))
    (l_1 : K.lookup f_1 = some ⟨oc_1, od_1, .func (PySem.W.fnOf "lowest" "lowest" (defArgs s_lowest) (defBody s_lowest) (defScope s_lowest) .none kV_1 dc_1 pm_1 an_1 cd_1 ct_1), sl_1⟩)
    (o_1 : PySem.W.codeIn K cd_1 "lowest" = true)
    (k_1 : PySem.W.keepIn K (.ref f_1) = true)
    (a_2 : PySem.W.nsIn K mainGlobals "_law_cell_at" = some (some (.ref f_2)))
    (l_2 : K.lookup f_2 = some ⟨oc_2, od_2, .func (PySem.W.fnOf "_law_cell_at" "_law_cell_at" (defArgs s_p_law_cell_at) (defBody s_p_law_cell_at) (defScope s_p_law_cell_at) .none kV_2 dc_2 pm_2 an_2 cd_2 ct_2), sl_2⟩)
    (o_2 : PySem.W.codeIn K cd_2 "_law_cell_at" = true)
    (k_2 : PySem.W.keepIn K (.ref f_2) = true)
    (a_3 : PySem.W.nsIn K mainGlobals "_law_way" = some (some (.ref f_3)))
    (l_3 : K.lookup f_3 = some ⟨oc_3, od_3, .func (PySem.W.fnOf "_law_way" "_law_way" (defArgs s_p_law_way) (defBody s_p_law_way) (defScope s_p_law_way) .none kV_3 dc_3 pm_3 an_3 cd_3 ct_3), sl_3⟩)
    (o_3 : PySem.W.codeIn K cd_3 "_law_way" = true)
    (k_3 : PySem.W.keepIn K (.ref f_3) = true)
    (a_4 : PySem.W.nsIn K mainGlobals "_law_whole" = some (some (.ref f_4)))
    (l_4 : K.lookup f_4 = some ⟨oc_4, od_4, .func (PySem.W.fnOf "_law_whole" "_law_whole" (defArgs s_p_law_whole) (defBody s_p_law_whole) (defScope s_p_law_whole) .none kV_4 dc_4 pm_4 an_4 cd_4 ct_4), sl_4⟩)
    (o_4 : PySem.W.codeIn K cd_4 "_law_whole" = true)
    (k_4 : PySem.W.keepIn K (.ref f_4) = true)
    (a_5 : PySem.W.nsIn K mainGlobals "_law_shared" = some (some (.ref f_5)))
    (l_5 : K.lookup f_5 = some ⟨oc_5, od_5, .func (PySem.W.fnOf "_law_shared" "_law_shared" (defArgs s_p_law_shared) (defBody s_p_law_shared) (defScope s_p_law_shared) .none kV_5 dc_5 pm_5 an_5 cd_5 ct_5), sl_5⟩)
    (o_5 : PySem.W.codeIn K cd_5 "_law_shared" = true)
    (k_5 : PySem.W.keepIn K (.ref f_5) = true)
    (a_6 : PySem.W.nsIn K mainGlobals "_law_is_frac" = some (some (.ref f_6)))
    (l_6 : K.lookup f_6 = some ⟨oc_6, od_6, .func (PySem.W.fnOf "_law_is_frac" "_law_is_frac" (defArgs s_p_law_is_frac) (defBody s_p_law_is_frac) (defScope s_p_law_is_frac) .none kV_6 dc_6 pm_6 an_6 cd_6 ct_6), sl_6⟩)
    (o_6 : PySem.W.codeIn K cd_6 "_law_is_frac" = true)
    (k_6 : PySem.W.keepIn K (.ref f_6) = true)
    (a_7 : PySem.W.nsIn K mainGlobals "_law_number" = some (some (.ref f_7)))
    (l_7 : K.lookup f_7 = some ⟨oc_7, od_7, .func (PySem.W.fnOf "_law_number" "_law_number" (defArgs s_p_law_number) (defBody s_p_law_number) (defScope s_p_law_number) .none kV_7 dc_7 pm_7 an_7 cd_7 ct_7), sl_7⟩)
    (o_7 : PySem.W.codeIn K cd_7 "_law_number" = true)
    (k_7 : PySem.W.keepIn K (.ref f_7) = true)
    (a_8 : PySem.W.nsIn K mainGlobals "_law_wrong" = some (some (.ref f_8)))
    (l_8 : K.lookup f_8 = some ⟨oc_8, od_8, .func (PySem.W.fnOf "_law_wrong" "_law_wrong" (defArgs s_p_law_wrong) (defBody s_p_law_wrong) (defScope s_p_law_wrong) .none kV_8 dc_8 pm_8 an_8 cd_8 ct_8), sl_8⟩)
    (o_8 : PySem.W.codeIn K cd_8 "_law_wrong" = true)
    (k_8 : PySem.W.keepIn K (.ref f_8) = true)
    (a_9 : PySem.W.nsIn K mainGlobals "_law_alone" = some (some (.ref f_9)))
    (l_9 : K.lookup f_9 = some ⟨oc_9, od_9, .func (PySem.W.fnOf "_law_alone" "_law_alone" (defArgs s_p_law_alone) (defBody s_p_law_alone) (defScope s_p_law_alone) .none kV_9 dc_9 pm_9 an_9 cd_9 ct_9), sl_9⟩)
    (o_9 : PySem.W.codeIn K cd_9 "_law_alone" = true)
    (k_9 : PySem.W.keepIn K (.ref f_9) = true)
    (a_10 : PySem.W.nsIn K mainGlobals "_law_refused" = some (some (.ref f_10)))
    (l_10 : K.lookup f_10 = some ⟨oc_10, od_10, .func (PySem.W.fnOf "_law_refused" "_law_refused" (defArgs s_p_law_refused) (defBody s_p_law_refused) (defScope s_p_law_refused) .none kV_10 dc_10 pm_10 an_10 cd_10 ct_10), sl_10⟩)
    (o_10 : PySem.W.codeIn K cd_10 "_law_refused" = true)
    (k_10 : PySem.W.keepIn K (.ref f_10) = true)
    (a_11 : PySem.W.nsIn K mainGlobals "law" = some (some (.ref f_11)))
    (l_11 : K.lookup f_11 = some ⟨oc_11, od_11, .func (PySem.W.fnOf "law" "law" (defArgs s_law) (defBody s_law) (defScope s_law) .none kV_11 dc_11 pm_11 an_11 cd_11 ct_11), sl_11⟩)
    (o_11 : PySem.W.codeIn K cd_11 "law" = true)
    (k_11 : PySem.W.keepIn K (.ref f_11) = true)
    (z_ValueError : PySem.W.nsIn K mainGlobals "ValueError" = some none)
    (z_bool : PySem.W.nsIn K mainGlobals "bool" = some none)
    (z_int : PySem.W.nsIn K mainGlobals "int" = some none)
    (z_isinstance : PySem.W.nsIn K mainGlobals "isinstance" = some none)
    (z_len : PySem.W.nsIn K mainGlobals "len" = some none)
    (z_tuple : PySem.W.nsIn K mainGlobals "tuple" = some none)
    (z_gcd : PySem.W.nsIn K mainGlobals "gcd" = some (some (.builtin "math.gcd")))
    (ga_FractionError : PySem.W.nsIn K mainGlobals "FractionError" = some (some (.ref c_FractionError)))
    (xa_FractionError : PySem.W.excIn K c_FractionError [.type "ValueError", .type "Exception", .type "BaseException", .type "object"] "ValueError.__new__" = true)
    (ka_FractionError : PySem.W.keepIn K (.ref c_FractionError) = true)
    (sa_FractionError : PySem.W.subIn K (.ref c_FractionError) (.type "BaseException") = some true)
    (ta_FractionError : PySem.W.typeIn K (.ref c_FractionError) = some (.type "type"))
    (ga_NoFraction : PySem.W.nsIn K mainGlobals "NoFraction" = some (some (.ref c_NoFraction)))
    (xa_NoFraction : PySem.W.excIn K c_NoFraction [.type "ValueError", .type "Exception", .type "BaseException", .type "object"] "ValueError.__new__" = true)
    (ka_NoFraction : PySem.W.keepIn K (.ref c_NoFraction) = true)
    (sa_NoFraction : PySem.W.subIn K (.ref c_NoFraction) (.type "BaseException") = some true)
    (ta_NoFraction : PySem.W.typeIn K (.ref c_NoFraction) = some (.type "type"))
    (ga_NoPath : PySem.W.nsIn K mainGlobals "NoPath" = some (some (.ref c_NoPath)))
    (xa_NoPath : PySem.W.excIn K c_NoPath [.type "ValueError", .type "Exception", .type "BaseException", .type "object"] "ValueError.__new__" = true)
    (ka_NoPath : PySem.W.keepIn K (.ref c_NoPath) = true)
    (sa_NoPath : PySem.W.subIn K (.ref c_NoPath) (.type "BaseException") = some true)
    (ta_NoPath : PySem.W.typeIn K (.ref c_NoPath) = some (.type "type"))
    (ga_NoBounds : PySem.W.nsIn K mainGlobals "NoBounds" = some (some (.ref c_NoBounds)))
    (xa_NoBounds : PySem.W.excIn K c_NoBounds [.type "ValueError", .type "Exception", .type "BaseException", .type "object"] "ValueError.__new__" = true)
    (ka_NoBounds : PySem.W.keepIn K (.ref c_NoBounds) = true)
    (sa_NoBounds : PySem.W.subIn K (.ref c_NoBounds) (.type "BaseException") = some true)
    (ta_NoBounds : PySem.W.typeIn K (.ref c_NoBounds) = some (.type "type"))
    (ga_NoRoom : PySem.W.nsIn K mainGlobals "NoRoom" = some (some (.ref c_NoRoom)))
    (xa_NoRoom : PySem.W.excIn K c_NoRoom [.type "ValueError", .type "Exception", .type "BaseException", .type "object"] "ValueError.__new__" = true)
    (ka_NoRoom : PySem.W.keepIn K (.ref c_NoRoom) = true)
    (sa_NoRoom : PySem.W.subIn K (.ref c_NoRoom) (.type "BaseException") = some true)
    (ta_NoRoom : PySem.W.typeIn K (.ref c_NoRoom) = some (.type "type"))
    (ga_Unsure : PySem.W.nsIn K mainGlobals "Unsure" = some (some (.ref c_Unsure)))
    (xa_Unsure : PySem.W.excIn K c_Unsure [.type "ValueError", .type "Exception", .type "BaseException", .type "object"] "ValueError.__new__" = true)
    (ka_Unsure : PySem.W.keepIn K (.ref c_Unsure) = true)
    (sa_Unsure : PySem.W.subIn K (.ref c_Unsure) (.type "BaseException") = some true)
    (ta_Unsure : PySem.W.typeIn K (.ref c_Unsure) = some (.type "type"))
    (ga_NoText : PySem.W.nsIn K mainGlobals "NoText" = some (some (.ref c_NoText)))
    (xa_NoText : PySem.W.excIn K c_NoText [.type "ValueError", .type "Exception", .type "BaseException", .type "object"] "ValueError.__new__" = true)
    (ka_NoText : PySem.W.keepIn K (.ref c_NoText) = true)
    (sa_NoText : PySem.W.subIn K (.ref c_NoText) (.type "BaseException") = some true)
    (ta_NoText : PySem.W.typeIn K (.ref c_NoText) = some (.type "type"))
    (ga_NoNumber : PySem.W.nsIn K mainGlobals "NoNumber" = some (some (.ref c_NoNumber)))
    (xa_NoNumber : PySem.W.excIn K c_NoNumber [.type "ValueError", .type "Exception", .type "BaseException", .type "object"] "ValueError.__new__" = true)
    (ka_NoNumber : PySem.W.keepIn K (.ref c_NoNumber) = true)
    (sa_NoNumber : PySem.W.subIn K (.ref c_NoNumber) (.type "BaseException") = some true)
    (ta_NoNumber : PySem.W.typeIn K (.ref c_NoNumber) = some (.type "type"))
    (hn_x : PySem.W.specialIn K (.builtin "object.__class__") "__get__" = some (some (.builtin "getset_descriptor.__get__")))
    (ht_x : PySem.W.takesIn K (.builtin "object.__class__") = some true)
    (hd_FractionError : PySem.W.hasDictIn K c_FractionError = true)
    (hg_NoFraction : PySem.W.findIn K (.ref c_NoFraction) "__getattribute__" = some (some (.builtin "BaseException.__getattribute__")))
    (hk_NoFraction : PySem.W.findIn K (.ref c_NoFraction) "__getattr__" = some none)
    (hx_NoFraction : PySem.W.hasDictIn K c_NoFraction = true)
    (ha_NoFraction : PySem.W.findIn K (.ref c_NoFraction) "__class__" = some (some (.builtin "object.__class__")))
    (hm_NoFraction : PySem.W.mroIn K c_NoFraction (.type "object") = some true)
    (sf_NoFraction : PySem.W.subIn K (.ref c_NoFraction) (.ref c_FractionError) = some true)
    (kv_NoFraction : PySem.W.subIn K (.ref c_NoFraction) (.type "ValueError") = some true)
    (ki_NoFraction_NoFraction : PySem.W.subIn K (.ref c_NoFraction) (.ref c_NoFraction) = some true)
    (ki_NoFraction_NoPath : PySem.W.subIn K (.ref c_NoFraction) (.ref c_NoPath) = some false)
    (ki_NoFraction_NoBounds : PySem.W.subIn K (.ref c_NoFraction) (.ref c_NoBounds) = some false)
    (ki_NoFraction_NoRoom : PySem.W.subIn K (.ref c_NoFraction) (.ref c_NoRoom) = some false)
    (ki_NoFraction_Unsure : PySem.W.subIn K (.ref c_NoFraction) (.ref c_Unsure) = some false)
    (ki_NoFraction_NoText : PySem.W.subIn K (.ref c_NoFraction) (.ref c_NoText) = some false)
    (ki_NoFraction_NoNumber : PySem.W.subIn K (.ref c_NoFraction) (.ref c_NoNumber) = some false)
    (ic_NoFraction : PySem.W.isClsIn K c_NoFraction = true)
    (ic_NoPath : PySem.W.isClsIn K c_NoPath = true)
    (ic_NoBounds : PySem.W.isClsIn K c_NoBounds = true)
    (ic_NoRoom : PySem.W.isClsIn K c_NoRoom = true)
    (ic_Unsure : PySem.W.isClsIn K c_Unsure = true)
    (ic_NoText : PySem.W.isClsIn K c_NoText = true)
    (ic_NoNumber : PySem.W.isClsIn K c_NoNumber = true)
    : ∃ fd : FuncData, (∀ (s : Shared) (v : Value), BindsTo s fd ⟨[v], []⟩ [("_law_script", v)]) ∧ ∀ base : Heap, K.In base → base.Ns mainGlobals mg → FnOk P w K mg base CX0 5 fa fd ["_law_script"] (sp_law K) := by
  have e : f_11 = fa := (Value.ref.inj (Option.some.inj (hfa.symm.trans (PySem.W.mg_of X G a_11)))).symm
  subst e
  have F_0 := fun_mk (st := s_is_whole) l_0 o_0 k_0
  have B_0 := F_0.binds (ps := ["thing"]) fun _ _ _ _ _ _ us hl => match us, hl with | [_], _ => rfl
  have F_1 := fun_mk (st := s_lowest) l_1 o_1 k_1
  have B_1 := F_1.binds (ps := ["upper", "lower"]) fun _ _ _ _ _ _ us hl => match us, hl with | [_, _], _ => rfl
  have F_2 := fun_mk (st := s_p_law_cell_at) l_2 o_2 k_2
  have B_2 := F_2.binds (ps := ["_law_script", "_law_k"]) fun _ _ _ _ _ _ us hl => match us, hl with | [_, _], _ => rfl
  have F_3 := fun_mk (st := s_p_law_way) l_3 o_3 k_3
  have B_3 := F_3.binds (ps := ["_law_script", "_law_k", "_law_many"]) fun _ _ _ _ _ _ us hl => match us, hl with | [_, _, _], _ => rfl
  have F_4 := fun_mk (st := s_p_law_whole) l_4 o_4 k_4
  have B_4 := F_4.binds (ps := ["_law_found"]) fun _ _ _ _ _ _ us hl => match us, hl with | [_], _ => rfl
  have F_5 := fun_mk (st := s_p_law_shared) l_5 o_5 k_5
  have B_5 := F_5.binds (ps := ["_law_one", "_law_other"]) fun _ _ _ _ _ _ us hl => match us, hl with | [_, _], _ => rfl
  have F_6 := fun_mk (st := s_p_law_is_frac) l_6 o_6 k_6
  have B_6 := F_6.binds (ps := ["_law_found"]) fun _ _ _ _ _ _ us hl => match us, hl with | [_], _ => rfl
  have F_7 := fun_mk (st := s_p_law_number) l_7 o_7 k_7
  have B_7 := F_7.binds (ps := ["_law_cell", "_law_way_here"]) fun _ _ _ _ _ _ us hl => match us, hl with | [_, _], _ => rfl
  have F_8 := fun_mk (st := s_p_law_wrong) l_8 o_8 k_8
  have B_8 := F_8.binds (ps := ["_law_kind", "_law_upper", "_law_lower"]) fun _ _ _ _ _ _ us hl => match us, hl with | [_, _, _], _ => rfl
  have F_9 := fun_mk (st := s_p_law_alone) l_9 o_9 k_9
  have B_9 := F_9.binds (ps := ["_law_e"]) fun _ _ _ _ _ _ us hl => match us, hl with | [_], _ => rfl
  have F_10 := fun_mk (st := s_p_law_refused) l_10 o_10 k_10
  have B_10 := F_10.binds (ps := ["_law_pair"]) fun _ _ _ _ _ _ us hl => match us, hl with | [_], _ => rfl
  have F_11 := fun_mk (st := s_law) l_11 o_11 k_11
  have B_11 := F_11.binds (ps := ["_law_script"]) fun _ _ _ _ _ _ us hl => match us, hl with | [_], _ => rfl
  have T : Txt K mg ({ f_is_whole := f_0, d_is_whole := PySem.W.fnOf "is_whole" "is_whole" (defArgs s_is_whole) (defBody s_is_whole) (defScope s_is_whole) .none kV_0 dc_0 pm_0 an_0 cd_0 ct_0, f_lowest := f_1, d_lowest := PySem.W.fnOf "lowest" "lowest" (defArgs s_lowest) (defBody s_lowest) (defScope s_lowest) .none kV_1 dc_1 pm_1 an_1 cd_1 ct_1, f_p_law_cell_at := f_2, d_p_law_cell_at := PySem.W.fnOf "_law_cell_at" "_law_cell_at" (defArgs s_p_law_cell_at) (defBody s_p_law_cell_at) (defScope s_p_law_cell_at) .none kV_2 dc_2 pm_2 an_2 cd_2 ct_2, f_p_law_way := f_3, d_p_law_way := PySem.W.fnOf "_law_way" "_law_way" (defArgs s_p_law_way) (defBody s_p_law_way) (defScope s_p_law_way) .none kV_3 dc_3 pm_3 an_3 cd_3 ct_3, f_p_law_whole := f_4, d_p_law_whole := PySem.W.fnOf "_law_whole" "_law_whole" (defArgs s_p_law_whole) (defBody s_p_law_whole) (defScope s_p_law_whole) .none kV_4 dc_4 pm_4 an_4 cd_4 ct_4, f_p_law_shared := f_5, d_p_law_shared := PySem.W.fnOf "_law_shared" "_law_shared" (defArgs s_p_law_shared) (defBody s_p_law_shared) (defScope s_p_law_shared) .none kV_5 dc_5 pm_5 an_5 cd_5 ct_5, f_p_law_is_frac := f_6, d_p_law_is_frac := PySem.W.fnOf "_law_is_frac" "_law_is_frac" (defArgs s_p_law_is_frac) (defBody s_p_law_is_frac) (defScope s_p_law_is_frac) .none kV_6 dc_6 pm_6 an_6 cd_6 ct_6, f_p_law_number := f_7, d_p_law_number := PySem.W.fnOf "_law_number" "_law_number" (defArgs s_p_law_number) (defBody s_p_law_number) (defScope s_p_law_number) .none kV_7 dc_7 pm_7 an_7 cd_7 ct_7, f_p_law_wrong := f_8, d_p_law_wrong := PySem.W.fnOf "_law_wrong" "_law_wrong" (defArgs s_p_law_wrong) (defBody s_p_law_wrong) (defScope s_p_law_wrong) .none kV_8 dc_8 pm_8 an_8 cd_8 ct_8, f_p_law_alone := f_9, d_p_law_alone := PySem.W.fnOf "_law_alone" "_law_alone" (defArgs s_p_law_alone) (defBody s_p_law_alone) (defScope s_p_law_alone) .none kV_9 dc_9 pm_9 an_9 cd_9 ct_9, f_p_law_refused := f_10, d_p_law_refused := PySem.W.fnOf "_law_refused" "_law_refused" (defArgs s_p_law_refused) (defBody s_p_law_refused) (defScope s_p_law_refused) .none kV_10 dc_10 pm_10 an_10 cd_10 ct_10, f_law := f_11, d_law := PySem.W.fnOf "law" "law" (defArgs s_law) (defBody s_law) (defScope s_law) .none kV_11 dc_11 pm_11 an_11 cd_11 ct_11, c_FractionError := c_FractionError, c_NoFraction := c_NoFraction, c_NoPath := c_NoPath, c_NoBounds := c_NoBounds, c_NoRoom := c_NoRoom, c_Unsure := c_Unsure, c_NoText := c_NoText, c_NoNumber := c_NoNumber } : Ad) :=
    { F_is_whole := F_0, m_is_whole := PySem.W.mg_of X G a_0, b_is_whole := B_0, F_lowest := F_1, m_lowest := PySem.W.mg_of X G a_1, b_lowest := B_1, F_p_law_cell_at := F_2, m_p_law_cell_at := PySem.W.mg_of X G a_2, b_p_law_cell_at := B_2, F_p_law_way := F_3, m_p_law_way := PySem.W.mg_of X G a_3, b_p_law_way := B_3, F_p_law_whole := F_4, m_p_law_whole := PySem.W.mg_of X G a_4, b_p_law_whole := B_4, F_p_law_shared := F_5, m_p_law_shared := PySem.W.mg_of X G a_5, b_p_law_shared := B_5, F_p_law_is_frac := F_6, m_p_law_is_frac := PySem.W.mg_of X G a_6, b_p_law_is_frac := B_6, F_p_law_number := F_7, m_p_law_number := PySem.W.mg_of X G a_7, b_p_law_number := B_7, F_p_law_wrong := F_8, m_p_law_wrong := PySem.W.mg_of X G a_8, b_p_law_wrong := B_8, F_p_law_alone := F_9, m_p_law_alone := PySem.W.mg_of X G a_9, b_p_law_alone := B_9, F_p_law_refused := F_10, m_p_law_refused := PySem.W.mg_of X G a_10, b_p_law_refused := B_10, F_law := F_11, m_law := PySem.W.mg_of X G a_11, b_law := B_11, n_ValueError := PySem.W.mg_none_of X G z_ValueError, n_bool := PySem.W.mg_none_of X G z_bool, n_int := PySem.W.mg_none_of X G z_int, n_isinstance := PySem.W.mg_none_of X G z_isinstance, n_len := PySem.W.mg_none_of X G z_len, n_tuple := PySem.W.mg_none_of X G z_tuple, g_gcd := PySem.W.mg_of X G z_gcd, g_FractionError := PySem.W.mg_of X G ga_FractionError, x_FractionError := xa_FractionError, k_FractionError := ka_FractionError, s_FractionError := sa_FractionError, t_FractionError := ta_FractionError, g_NoFraction := PySem.W.mg_of X G ga_NoFraction, x_NoFraction := xa_NoFraction, k_NoFraction := ka_NoFraction, s_NoFraction := sa_NoFraction, t_NoFraction := ta_NoFraction, g_NoPath := PySem.W.mg_of X G ga_NoPath, x_NoPath := xa_NoPath, k_NoPath := ka_NoPath, s_NoPath := sa_NoPath, t_NoPath := ta_NoPath, g_NoBounds := PySem.W.mg_of X G ga_NoBounds, x_NoBounds := xa_NoBounds, k_NoBounds := ka_NoBounds, s_NoBounds := sa_NoBounds, t_NoBounds := ta_NoBounds, g_NoRoom := PySem.W.mg_of X G ga_NoRoom, x_NoRoom := xa_NoRoom, k_NoRoom := ka_NoRoom, s_NoRoom := sa_NoRoom, t_NoRoom := ta_NoRoom, g_Unsure := PySem.W.mg_of X G ga_Unsure, x_Unsure := xa_Unsure, k_Unsure := ka_Unsure, s_Unsure := sa_Unsure, t_Unsure := ta_Unsure, g_NoText := PySem.W.mg_of X G ga_NoText, x_NoText := xa_NoText, k_NoText := ka_NoText, s_NoText := sa_NoText, t_NoText := ta_NoText, g_NoNumber := PySem.W.mg_of X G ga_NoNumber, x_NoNumber := xa_NoNumber, k_NoNumber := ka_NoNumber, s_NoNumber := sa_NoNumber, t_NoNumber := ta_NoNumber, e_NoFraction := ⟨⟨hg_NoFraction, hk_NoFraction, sa_NoFraction, hx_NoFraction, ha_NoFraction, hn_x, ht_x, hm_NoFraction⟩, kinds7 (kit_own ki_NoFraction_NoFraction ki_NoFraction_NoFraction ic_NoFraction ta_NoFraction) (kit_own ki_NoFraction_NoFraction ki_NoFraction_NoPath ic_NoPath ta_NoPath) (kit_own ki_NoFraction_NoFraction ki_NoFraction_NoBounds ic_NoBounds ta_NoBounds) (kit_own ki_NoFraction_NoFraction ki_NoFraction_NoRoom ic_NoRoom ta_NoRoom) (kit_own ki_NoFraction_NoFraction ki_NoFraction_Unsure ic_Unsure ta_Unsure) (kit_own ki_NoFraction_NoFraction ki_NoFraction_NoText ic_NoText ta_NoText) (kit_own ki_NoFraction_NoFraction ki_NoFraction_NoNumber ic_NoNumber ta_NoNumber), (kit_ve kv_NoFraction)⟩, em_NoFraction := PySem.W.exm_ref sa_FractionError hd_FractionError ta_FractionError sf_NoFraction }
  exact ⟨_, fun s v => .of_eq rfl, fun base _ _ => ok_law T⟩
theorem law_end {K : PySem.W.Frag} {H : Hp} {a : Addr} {ns : List Int} (hS : SqL K H a (ns.map V.int)) : sp_law K [.ref a] H (fun v _ => v = .bl true) fun _ _ _ => False := by
  have m : ∀ l : List Int, Ims K H (l.map V.int) (iL l) := fun l => by
    induction l with
    | nil => exact .nil
    | cons x r ih => exact .cons (.int x) ih
  refine ⟨ns, .cons ⟨a, _, rfl, hS, m ns⟩ .nil, trivial, fun v H' r _ o e => ?_, fun _ _ _ z => z.elim⟩
  subst e
  exact im_bl o
end G
open PySem PySem.W PyProof.Rows
set_option maxRecDepth 100000 in
set_option maxHeartbeats 0 in
theorem PySem.Challenge.cw_nearfrac_k01_lowest_holds : PySem.Challenge.rw_nearfrac_k01_lowest.Holds := by
  w_on; o_law; k_head; (case hw => w_witness2)
  k_fill
  refine L2.walk_ofK (l := PySem.Challenge.rw_nearfrac_k01_lowest) (n := 63) (k := 5) (x := "_law_script") (CX := L2.CX0) (sp := G.sp_law) rfl (by decide) rfl ⟨rfl, by decide, by decide⟩ (fun w h Y => PySem.W.kIn_of Y) ?F ?S (fun _ _ _ _ h => h)
  case F =>
    intro w mg fa h KX GG hmg
    refine' G.all_mk KX GG hmg ?a_0 ?l_0 ?o_0 ?k_0 ?a_1 ?l_1 ?o_1 ?k_1 ?a_2 ?l_2 ?o_2 ?k_2 ?a_3 ?l_3 ?o_3 ?k_3 ?a_4 ?l_4 ?o_4 ?k_4 ?a_5 ?l_5 ?o_5 ?k_5 ?a_6 ?l_6 ?o_6 ?k_6 ?a_7 ?l_7 ?o_7 ?k_7 ?a_8 ?l_8 ?o_8 ?k_8 ?a_9 ?l_9 ?o_9 ?k_9 ?a_10 ?l_10 ?o_10 ?k_10 ?a_11 ?l_11 ?o_11 ?k_11 ?z_ValueError ?z_bool ?z_int ?z_isinstance ?z_len ?z_tuple ?z_gcd ?ga_FractionError ?xa_FractionError ?ka_FractionError ?sa_FractionError ?ta_FractionError ?ga_NoFraction ?xa_NoFraction ?ka_NoFraction ?sa_NoFraction ?ta_NoFraction ?ga_NoPath ?xa_NoPath ?ka_NoPath ?sa_NoPath ?ta_NoPath ?ga_NoBounds ?xa_NoBounds ?ka_NoBounds ?sa_NoBounds ?ta_NoBounds ?ga_NoRoom ?xa_NoRoom ?ka_NoRoom ?sa_NoRoom ?ta_NoRoom ?ga_Unsure ?xa_Unsure ?ka_Unsure ?sa_Unsure ?ta_Unsure ?ga_NoText ?xa_NoText ?ka_NoText ?sa_NoText ?ta_NoText ?ga_NoNumber ?xa_NoNumber ?ka_NoNumber ?sa_NoNumber ?ta_NoNumber ?hn_x ?ht_x ?hd_FractionError ?hg_NoFraction ?hk_NoFraction ?hx_NoFraction ?ha_NoFraction ?hm_NoFraction ?sf_NoFraction ?kv_NoFraction ?ki_NoFraction_NoFraction ?ki_NoFraction_NoPath ?ki_NoFraction_NoBounds ?ki_NoFraction_NoRoom ?ki_NoFraction_Unsure ?ki_NoFraction_NoText ?ki_NoFraction_NoNumber ?ic_NoFraction ?ic_NoPath ?ic_NoBounds ?ic_NoRoom ?ic_Unsure ?ic_NoText ?ic_NoNumber
    (case a_0 => k_is)
    (case l_0 => k_is)
    (case o_0 => k_is)
    (case k_0 => k_is)
    (case a_1 => k_is)
    (case l_1 => k_is)
    (case o_1 => k_is)
    (case k_1 => k_is)
    (case a_2 => k_is)
    (case l_2 => k_is)
    (case o_2 => k_is)
    (case k_2 => k_is)
    (case a_3 => k_is)
    (case l_3 => k_is)
    (case o_3 => k_is)
    (case k_3 => k_is)
    (case a_4 => k_is)
    (case l_4 => k_is)
    (case o_4 => k_is)
    (case k_4 => k_is)
    (case a_5 => k_is)
    (case l_5 => k_is)
    (case o_5 => k_is)
    (case k_5 => k_is)
    (case a_6 => k_is)
    (case l_6 => k_is)
    (case o_6 => k_is)
    (case k_6 => k_is)
    (case a_7 => k_is)
    (case l_7 => k_is)
    (case o_7 => k_is)
    (case k_7 => k_is)
    (case a_8 => k_is)
    (case l_8 => k_is)
    (case o_8 => k_is)
    (case k_8 => k_is)
    (case a_9 => k_is)
    (case l_9 => k_is)
    (case o_9 => k_is)
    (case k_9 => k_is)
    (case a_10 => k_is)
    (case l_10 => k_is)
    (case o_10 => k_is)
    (case k_10 => k_is)
    (case a_11 => k_is)
    (case l_11 => k_is)
    (case o_11 => k_is)
    (case k_11 => k_is)
    (case z_ValueError => k_is)
    (case z_bool => k_is)
    (case z_int => k_is)
    (case z_isinstance => k_is)
    (case z_len => k_is)
    (case z_tuple => k_is)
    (case z_gcd => k_is)
    (case ga_FractionError => k_is)
    (case xa_FractionError => k_exc)
    (case ka_FractionError => k_is)
    (case sa_FractionError => k_is)
    (case ta_FractionError => k_is)
    (case ga_NoFraction => k_is)
    (case xa_NoFraction => k_exc)
    (case ka_NoFraction => k_is)
    (case sa_NoFraction => k_is)
    (case ta_NoFraction => k_is)
    (case ga_NoPath => k_is)
    (case xa_NoPath => k_exc)
    (case ka_NoPath => k_is)
    (case sa_NoPath => k_is)
    (case ta_NoPath => k_is)
    (case ga_NoBounds => k_is)
    (case xa_NoBounds => k_exc)
    (case ka_NoBounds => k_is)
    (case sa_NoBounds => k_is)
    (case ta_NoBounds => k_is)
    (case ga_NoRoom => k_is)
    (case xa_NoRoom => k_exc)
    (case ka_NoRoom => k_is)
    (case sa_NoRoom => k_is)
    (case ta_NoRoom => k_is)
    (case ga_Unsure => k_is)
    (case xa_Unsure => k_exc)
    (case ka_Unsure => k_is)
    (case sa_Unsure => k_is)
    (case ta_Unsure => k_is)
    (case ga_NoText => k_is)
    (case xa_NoText => k_exc)
    (case ka_NoText => k_is)
    (case sa_NoText => k_is)
    (case ta_NoText => k_is)
    (case ga_NoNumber => k_is)
    (case xa_NoNumber => k_exc)
    (case ka_NoNumber => k_is)
    (case sa_NoNumber => k_is)
    (case ta_NoNumber => k_is)
    (case hn_x => k_is)
    (case ht_x => k_is)
    (case hd_FractionError => k_is)
    (case hg_NoFraction => k_is)
    (case hk_NoFraction => k_is)
    (case hx_NoFraction => k_is)
    (case ha_NoFraction => k_is)
    (case hm_NoFraction => k_is)
    (case sf_NoFraction => k_is)
    (case kv_NoFraction => k_is)
    (case ki_NoFraction_NoFraction => k_is)
    (case ki_NoFraction_NoPath => k_is)
    (case ki_NoFraction_NoBounds => k_is)
    (case ki_NoFraction_NoRoom => k_is)
    (case ki_NoFraction_Unsure => k_is)
    (case ki_NoFraction_NoText => k_is)
    (case ki_NoFraction_NoNumber => k_is)
    (case ic_NoFraction => k_is)
    (case ic_NoPath => k_is)
    (case ic_NoBounds => k_is)
    (case ic_NoRoom => k_is)
    (case ic_Unsure => k_is)
    (case ic_NoText => k_is)
    (case ic_NoNumber => k_is)
  case S => exact fun _ H a ns hl _ hS => G.law_end hS
