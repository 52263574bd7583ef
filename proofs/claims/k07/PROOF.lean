import PyProof.Rows.All
import Wide.All
import OpenK.AllK
import Wide.FinOn
import HandS.ForMost
import HandS.ForExc
import HandS.Wide
import HandS.Gcd
import HandS.IsInst
import HandS.ExcIs
import HandS.HotCalls
import HandS.RaiseOp
import HandS.Style
import HandS.ExcCtx
import HandS.Zip
import HandS.StrMore
import HandS.Codes
import HandS.More
import HandS.WrittenGet
import KE.GoesComp
import PySem.Challenge.RW_nearfrac_k07_read
set_option Elab.async false
set_option linter.all false
set_option autoImplicit false
set_option maxRecDepth 100000
set_option maxHeartbeats 4000000
set_option exponentiation.threshold 100000
/-! Z: a small logic of plain data over the hand layer: values are read as data, the heap is hidden. -/
namespace Z
open PySem PySem.Spec L2

/-! ### data without lists, as it stands at a value -/
mutual
inductive Im (K : PySem.W.Frag) (H : Hp) : V → PyData → Prop
  | non : Im K H .non .none
  | bl (b : Bool) : Im K H (.bl b) (.bool b)
  | int (i : Int) : Im K H (.int i) (.int i)
  | str (x : Str) : Im K H (.str x) (.str x)
  | tup {a : Addr} {xs : List V} {ds : List PyData} : SqT K H a xs → Ims K H xs ds → Im K H (.ref a) (.tuple ds)
  | anyL {a : Addr} : (∃ xs, SqL K H a xs) → Im K H (.ref a) (.list [])
  | anyD {a : Addr} : (∃ kvs, H a = some (.dK kvs)) → Im K H (.ref a) (.dict [])
inductive Ims (K : PySem.W.Frag) (H : Hp) : List V → List PyData → Prop
  | nil : Ims K H [] []
  | cons {v : V} {vs : List V} {d : PyData} {ds : List PyData} : Im K H v d → Ims K H vs ds → Ims K H (v :: vs) (d :: ds)
end
/-- tuples stay; lists and dicts stay what they are -/
structure GeT (K : PySem.W.Frag) (H H' : Hp) : Prop where
  t : ∀ a xs, SqT K H a xs → SqT K H' a xs
  l : ∀ a, (∃ xs, SqL K H a xs) → ∃ xs, SqL K H' a xs
  d : ∀ a, (∃ kvs, H a = some (.dK kvs)) → ∃ kvs, H' a = some (.dK kvs)
theorem GeT.rfl {K : PySem.W.Frag} {H : Hp} : GeT K H H := ⟨fun _ _ h => h, fun _ h => h, fun _ h => h⟩
theorem rd_same {H H' : Hp} {a : Addr} {u : HO} (e : Same H H') (h : Rd H a u) : Rd H' a u := by
  rcases h with h | ⟨o, h⟩
  · exact .inl (e _ _ h)
  · exact .inr ⟨o, e _ _ h⟩
theorem sqt_same {K : PySem.W.Frag} {H H' : Hp} {a : Addr} {xs : List V} (e : Same H H') (h : SqT K H a xs) : SqT K H' a xs := by
  rcases h with h | h
  · exact .inl (rd_same e h)
  · exact .inr h
theorem sql_same {K : PySem.W.Frag} {H H' : Hp} {a : Addr} {xs : List V} (e : Same H H') (h : SqL K H a xs) : SqL K H' a xs := by
  rcases h with h | h
  · exact .inl (rd_same e h)
  · exact .inr h
theorem GeT.of {K : PySem.W.Frag} {H H' : Hp} (e : Same H H') : GeT K H H' := ⟨fun _ _ h => sqt_same e h, fun _ ⟨xs, h⟩ => ⟨xs, sql_same e h⟩, fun _ ⟨k, h⟩ => ⟨k, e _ _ h⟩⟩
theorem same_upd {H : Hp} {p : Addr} {o : HO} (h : H p = none) : Same H (upd H p o) := fun b u e => by
  rw [upd_ne (ne_of_none e h)]
  exact e
/-- a list that stands by itself may change -/
theorem GeT.upd {K : PySem.W.Frag} {H : Hp} {p : Addr} {xs ys : List V} (h : H p = some (.lst xs)) : GeT K H (upd H p (.lst ys)) := by
  refine ⟨fun a us q => ?_, fun a q => ?_, fun a q => ?_⟩
  · rcases q with (q | ⟨o, q⟩) | q
    · exact .inl (.inl (by rw [upd_ne (ne_of q h (by intro z; cases z))]; exact q))
    · exact .inl (.inr ⟨o, by rw [upd_ne (ne_of q h (by intro z; cases z))]; exact q⟩)
    · exact .inr q
  · by_cases e : a = p
    · subst e
      exact ⟨ys, .inl (.inl upd_same)⟩
    · obtain ⟨us, q⟩ := q
      rcases q with (q | ⟨o, q⟩) | q
      · exact ⟨us, .inl (.inl (by rw [upd_ne e]; exact q))⟩
      · exact ⟨us, .inl (.inr ⟨o, by rw [upd_ne e]; exact q⟩)⟩
      · exact ⟨us, .inr q⟩
  · obtain ⟨k, q⟩ := q
    exact ⟨k, by rw [upd_ne (ne_of q h (by intro z; cases z))]; exact q⟩
mutual
theorem Im.mono {K : PySem.W.Frag} {H H' : Hp} (g : GeT K H H') : ∀ (d : PyData) (v : V), Im K H v d → Im K H' v d
  | .none, _, h => by cases h; exact .non
  | .bool b, _, h => by cases h; exact .bl b
  | .int i, _, h => by cases h; exact .int i
  | .str x, _, h => by cases h; exact .str x
  | .list _, _, h => by
    cases h with
    | anyL h => exact .anyL (g.l _ h)
  | .dict _, _, h => by
    cases h with
    | anyD h => exact .anyD (g.d _ h)
  | .tuple ds, _, h => by
    cases h with
    | tup hs hd => exact .tup (g.t _ _ hs) (Ims.mono g ds _ hd)
theorem Ims.mono {K : PySem.W.Frag} {H H' : Hp} (g : GeT K H H') : ∀ (ds : List PyData) (vs : List V), Ims K H vs ds → Ims K H' vs ds
  | [], _, h => by cases h; exact .nil
  | d :: ds, _, h => by
    cases h with
    | cons h1 h2 => exact .cons (Im.mono g d _ h1) (Ims.mono g ds _ h2)
end
mutual
/-- plain data: nothing that is only known by its kind -/
def pl : PyData → Bool
  | .list _ => false
  | .dict _ => false
  | .tuple ds => pls ds
  | .none => true
  | .bool _ => true
  | .int _ => true
  | .str _ => true
def pls : List PyData → Bool
  | [] => true
  | d :: ds => pl d && pls ds
end
mutual
theorem Im.dp {K : PySem.W.Frag} {H : Hp} : ∀ (d : PyData) (v : V), pl d = true → Im K H v d → Dp K H v d
  | .none, _, _, h => by cases h; exact .non
  | .bool b, _, _, h => by cases h; exact .bl b
  | .int i, _, _, h => by cases h; exact .int i
  | .str x, _, _, h => by cases h; exact .str x
  | .list _, _, p, _ => by cases p
  | .dict _, _, p, _ => by cases p
  | .tuple ds, _, p, h => by
    cases h with
    | tup hs hd => exact .tup hs (Ims.dp ds _ (by unfold pl at p; exact p) hd)
theorem Ims.dp {K : PySem.W.Frag} {H : Hp} : ∀ (ds : List PyData) (vs : List V), pls ds = true → Ims K H vs ds → DpAll K H vs ds
  | [], _, _, h => by cases h; exact .nil
  | d :: ds, _, p, h => by
    have p' : pl d = true ∧ pls ds = true := by
      unfold pls at p
      exact Bool.and_eq_true_iff.mp p
    cases h with
    | cons h1 h2 => exact .cons (Im.dp d _ p'.1 h1) (Ims.dp ds _ p'.2 h2)
end
theorem Ims.len {K : PySem.W.Frag} {H : Hp} : ∀ {ds : List PyData} {vs : List V}, Ims K H vs ds → vs.length = ds.length
  | [], _, h => by cases h; rfl
  | d :: ds, _, h => by
    cases h with
    | cons _ h2 => rw [List.length_cons, List.length_cons, h2.len]
theorem Ims.get {K : PySem.W.Frag} {H : Hp} : ∀ {ds : List PyData} {vs : List V} {i : Nat} {d : PyData}, Ims K H vs ds → ds[i]? = some d → ∃ v, vs[i]? = some v ∧ Im K H v d
  | [], _, _, _, _, e => by simp at e
  | d :: ds, _, 0, _, h, e => by
    cases h with
    | cons h1 h2 =>
      simp at e
      subst e
      exact ⟨_, rfl, h1⟩
  | d :: ds, _, i + 1, _, h, e => by
    cases h with
    | cons h1 h2 =>
      obtain ⟨v, hv, q⟩ := Ims.get (i := i) h2 (by simpa using e)
      exact ⟨v, by simpa using hv, q⟩
theorem Ims.get' {K : PySem.W.Frag} {H : Hp} : ∀ {ds : List PyData} {vs : List V} {i : Nat} {v : V}, Ims K H vs ds → vs[i]? = some v → ∃ d, ds[i]? = some d ∧ Im K H v d
  | [], _, _, _, h, e => by cases h; simp at e
  | d :: ds, _, 0, _, h, e => by
    cases h with
    | cons h1 h2 =>
      simp at e
      subst e
      exact ⟨_, rfl, h1⟩
  | d :: ds, _, i + 1, _, h, e => by
    cases h with
    | cons h1 h2 =>
      obtain ⟨v, hv, q⟩ := Ims.get' (i := i) h2 (by simpa using e)
      exact ⟨v, by simpa using hv, q⟩
theorem Ims.append {K : PySem.W.Frag} {H : Hp} : ∀ {ds es : List PyData} {vs us : List V}, Ims K H vs ds → Ims K H us es → Ims K H (vs ++ us) (ds ++ es)
  | [], _, _, _, h, q => by cases h; exact q
  | d :: ds, _, _, _, h, q => by
    cases h with
    | cons h1 h2 => exact .cons h1 (h2.append q)
theorem Ims.set {K : PySem.W.Frag} {H : Hp} {v : V} {d : PyData} (x : Im K H v d) : ∀ {ds : List PyData} {vs : List V} (i : Nat), Ims K H vs ds → Ims K H (vs.set i v) (ds.set i d)
  | [], _, _, h => by cases h; exact .nil
  | e :: ds, _, 0, h => by
    cases h with
    | cons h1 h2 => exact .cons x h2
  | e :: ds, _, i + 1, h => by
    cases h with
    | cons h1 h2 => exact .cons h1 (Ims.set x i h2)
theorem Ims.take {K : PySem.W.Frag} {H : Hp} : ∀ {ds : List PyData} {vs : List V} (i : Nat), Ims K H vs ds → Ims K H (vs.take i) (ds.take i)
  | _, _, 0, _ => by simp; exact .nil
  | [], _, i + 1, h => by cases h; simp; exact .nil
  | e :: ds, _, i + 1, h => by
    cases h with
    | cons h1 h2 => simp; exact .cons h1 (Ims.take i h2)
theorem Ims.drop {K : PySem.W.Frag} {H : Hp} : ∀ {ds : List PyData} {vs : List V} (i : Nat), Ims K H vs ds → Ims K H (vs.drop i) (ds.drop i)
  | _, _, 0, h => by simpa using h
  | [], _, i + 1, h => by cases h; simp; exact .nil
  | e :: ds, _, i + 1, h => by
    cases h with
    | cons h1 h2 => simp; exact Ims.drop i h2
theorem atI_ims {K : PySem.W.Frag} {H : Hp} {ds : List PyData} {vs : List V} {i : Int} {d : PyData} (h : Ims K H vs ds) (e : atI ds i = some d) : ∃ v, atI vs i = some v ∧ Im K H v d := by
  unfold atI at e ⊢
  rw [h.len]
  cases q : ixN ds.length i with
  | none => rw [q] at e; cases e
  | some j =>
    rw [q] at e
    exact h.get e

/-! ### what the def's names hold: nothing that is known; data; a list that stood at the entry; a list of one's own; a list that a loop holds -/
inductive Sl where
  | un | im (d : PyData) | bor (ds : List PyData) | own (ds : List PyData) | hld (a : Addr) (vs : List V) (ds : List PyData) | tmp (a : Addr) (vs : List V) (ds : List PyData) | tmb (a : Addr) (vs : List V) (ds : List PyData) | tmt (a : Addr) (vs : List V) (ds : List PyData)
def Sl.isT : Sl → Bool
  | .tmp _ _ _ => true
  | .tmb _ _ _ => true
  | .tmt _ _ _ => true
  | _ => false
def SlOk (K : PySem.W.Frag) (H0 H : Hp) (o : Option (Option V)) : Sl → Prop
  | .un => True
  | .im d => ∃ v, o = some (some v) ∧ Im K H v d
  | .bor ds => ∃ a vs, o = some (some (.ref a)) ∧ SqL K H0 a vs ∧ Ims K H vs ds
  | .own ds => ∃ a vs, o = some (some (.ref a)) ∧ H0 a = none ∧ H a = some (.lst vs) ∧ Ims K H vs ds
  | .hld a vs ds => o = some (some (.ref a)) ∧ H0 a = none ∧ H a = some (.lst vs) ∧ Ims K H vs ds
  | .tmp a vs ds => H0 a = none ∧ H a = some (.lst vs) ∧ Ims K H vs ds
  | .tmb a vs ds => SqL K H0 a vs ∧ Ims K H vs ds
  | .tmt a vs ds => SqT K H a vs ∧ Ims K H vs ds
/-- the address of a list of one's own -/
def Adr (o : Option (Option V)) (a : Addr) : Sl → Prop
  | .own _ => o = some (some (.ref a))
  | .hld b _ _ => a = b
  | .tmp b _ _ => a = b
  | _ => False
structure SR (K : PySem.W.Frag) (H0 H : Hp) (σ : L2.St) (S : List Sl) : Prop where
  ex : Same H0 H
  len : ∀ (i : Nat) (s : Sl), S[i]? = some s → s.isT = false → i < σ.length
  ok : ∀ (i : Nat) (s : Sl), S[i]? = some s → SlOk K H0 H σ[i]? s
  ap : ∀ (i j : Nat) (s t : Sl) (a : Addr), i ≠ j → S[i]? = some s → S[j]? = some t → Adr σ[i]? a s → Adr σ[j]? a t → False
section
variable {K : PySem.W.Frag} {H0 H H' H1 H2 : Hp} {σ : L2.St} {S : List Sl}
theorem SlOk.mono {o : Option (Option V)} (g : GeT K H H') : ∀ {s : Sl}, (∀ a, Adr o a s → H' a = H a) → SlOk K H0 H o s → SlOk K H0 H' o s
  | .un, _, _ => trivial
  | .im d, _, ⟨v, h, q⟩ => ⟨v, h, Im.mono g d v q⟩
  | .bor ds, _, ⟨a, vs, h, q, r⟩ => ⟨a, vs, h, q, Ims.mono g ds vs r⟩
  | .own ds, k, ⟨a, vs, h, z, q, r⟩ => ⟨a, vs, h, z, by rw [k a h]; exact q, Ims.mono g ds vs r⟩
  | .hld a vs ds, k, ⟨h, z, q, r⟩ => ⟨h, z, by rw [k a rfl]; exact q, Ims.mono g ds vs r⟩
  | .tmp a vs ds, k, ⟨z, q, r⟩ => ⟨z, by rw [k a rfl]; exact q, Ims.mono g ds vs r⟩
  | .tmb a vs ds, k, ⟨q, r⟩ => ⟨q, Ims.mono g ds vs r⟩
  | .tmt a vs ds, k, ⟨q, r⟩ => ⟨g.t _ _ q, Ims.mono g ds vs r⟩
theorem SlOk.ext {o : Option (Option V)} (e : Same H H') : ∀ {s : Sl}, SlOk K H0 H o s → SlOk K H0 H' o s
  | .un, _ => trivial
  | .im d, ⟨v, h, q⟩ => ⟨v, h, Im.mono (.of e) d v q⟩
  | .bor ds, ⟨a, vs, h, q, r⟩ => ⟨a, vs, h, q, Ims.mono (.of e) ds vs r⟩
  | .own ds, ⟨a, vs, h, z, q, r⟩ => ⟨a, vs, h, z, e _ _ q, Ims.mono (.of e) ds vs r⟩
  | .hld a vs ds, ⟨h, z, q, r⟩ => ⟨h, z, e _ _ q, Ims.mono (.of e) ds vs r⟩
  | .tmp a vs ds, ⟨z, q, r⟩ => ⟨z, e _ _ q, Ims.mono (.of e) ds vs r⟩
  | .tmb a vs ds, ⟨q, r⟩ => ⟨q, Ims.mono (.of e) ds vs r⟩
  | .tmt a vs ds, ⟨q, r⟩ => ⟨sqt_same e q, Ims.mono (.of e) ds vs r⟩
theorem SR.mono (h : SR K H0 H σ S) (e : Same H H') : SR K H0 H' σ S :=
  ⟨h.ex.trans e, h.len, fun i s q => (h.ok i s q).ext e, h.ap⟩
/-- what an address of one's own holds -/
theorem SR.adr (h : SR K H0 H σ S) {i : Nat} {s : Sl} {a : Addr} (hs : S[i]? = some s) (q : Adr σ[i]? a s) : H0 a = none ∧ ∃ vs, H a = some (.lst vs) := by
  have k := h.ok i s hs
  cases s with
  | un => exact q.elim
  | im d => exact q.elim
  | bor ds => exact q.elim
  | own ds =>
    obtain ⟨b, vs, e, z, g, _⟩ := k
    have e2 : σ[i]? = some (some (.ref a)) := q
    rw [e2] at e
    cases e
    exact ⟨z, vs, g⟩
  | hld b vs ds =>
    obtain ⟨_, z, g, _⟩ := k
    have e2 : a = b := q
    subst e2
    exact ⟨z, vs, g⟩
  | tmp b vs ds =>
    obtain ⟨z, g, _⟩ := k
    have e2 : a = b := q
    subst e2
    exact ⟨z, vs, g⟩
  | tmb b vs ds => exact q.elim
  | tmt b vs ds => exact q.elim
theorem get_set {α : Type} {xs : List α} {i j : Nat} {x y : α} (h : (xs.set i x)[j]? = some y) : (j = i ∧ y = x ∧ i < xs.length) ∨ (j ≠ i ∧ xs[j]? = some y) := by
  by_cases e : j = i
  · subst e
    have hl : j < xs.length := by
      have := (List.getElem?_eq_some_iff.mp h).1
      simpa using this
    rw [List.getElem?_set_self hl] at h
    exact .inl ⟨rfl, (Option.some.inj h).symm, hl⟩
  · rw [List.getElem?_set_ne (fun z => e z.symm)] at h
    exact .inr ⟨e, h⟩
/-- data comes to a name -/
theorem SR.set (h : SR K H0 H σ S) {i : Nat} {v : V} {s : Sl} {s0 : Sl} (h0 : S[i]? = some s0) (ht : s0.isT = false) (hs : s.isT = false) (k : SlOk K H0 H (some (some v)) s) (na : ∀ a, Adr (some (some v)) a s → ∀ j t, j ≠ i → S[j]? = some t → ¬ Adr σ[j]? a t) :
    SR K H0 H (σ.set i (some v)) (S.set i s) := by
  have hi : i < σ.length := h.len i s0 h0 ht
  refine ⟨h.ex, fun j t q z => ?_, fun j t q => ?_, fun j l s' t' a hjl hj hl aj al => ?_⟩
  · rw [List.length_set]
    rcases get_set q with ⟨rfl, rfl, _⟩ | ⟨n, q⟩
    · exact hi
    · exact h.len j t q z
  · rcases get_set q with ⟨rfl, rfl, _⟩ | ⟨n, q⟩
    · rw [List.getElem?_set_self hi]
      exact k
    · rw [List.getElem?_set_ne (fun z => n z.symm)]
      exact h.ok j t q
  · rcases get_set hj with ⟨rfl, rfl, _⟩ | ⟨n1, hj2⟩
    · rw [List.getElem?_set_self hi] at aj
      rcases get_set hl with ⟨rfl, _, _⟩ | ⟨n2, hl2⟩
      · exact hjl rfl
      · rw [List.getElem?_set_ne (fun z => n2 z.symm)] at al
        exact na a aj l t' n2 hl2 al
    · rw [List.getElem?_set_ne (fun z => n1 z.symm)] at aj
      rcases get_set hl with ⟨rfl, rfl, _⟩ | ⟨n2, hl2⟩
      · rw [List.getElem?_set_self hi] at al
        exact na a al j s' n1 hj2 aj
      · rw [List.getElem?_set_ne (fun z => n2 z.symm)] at al
        exact h.ap j l s' t' a hjl hj2 hl2 aj al
theorem SR.setIm (h : SR K H0 H σ S) {i : Nat} {v : V} {d : PyData} {s0 : Sl} (h0 : S[i]? = some s0) (ht : s0.isT = false) (k : Im K H v d) : SR K H0 H (σ.set i (some v)) (S.set i (.im d)) :=
  h.set h0 ht rfl ⟨v, rfl, k⟩ fun _ z => z.elim
theorem SR.setBor (h : SR K H0 H σ S) {i : Nat} {a : Addr} {vs : List V} {ds : List PyData} {s0 : Sl} (h0 : S[i]? = some s0) (ht : s0.isT = false) (k : SqL K H0 a vs) (r : Ims K H vs ds) : SR K H0 H (σ.set i (some (.ref a))) (S.set i (.bor ds)) :=
  h.set h0 ht rfl ⟨a, vs, rfl, k, r⟩ fun _ z => z.elim
/-- a new list comes to a name -/
theorem SR.setNew (h : SR K H0 H σ S) (e : Same H H') {i : Nat} {a : Addr} {vs : List V} {ds : List PyData} {s0 : Sl} (h0 : S[i]? = some s0) (ht : s0.isT = false) (na : H a = none) (k : H' a = some (.lst vs)) (r : Ims K H' vs ds) : SR K H0 H' (σ.set i (some (.ref a))) (S.set i (.own ds)) := by
  have n0 : H0 a = none := by
    cases q : H0 a with
    | none => rfl
    | some o => rw [h.ex _ _ q] at na; cases na
  refine (h.mono e).set h0 ht rfl ⟨a, vs, rfl, n0, k, r⟩ fun b z j t _ hj q => ?_
  have z' : some (some (V.ref a)) = some (some (V.ref b)) := z
  cases z'
  obtain ⟨_, us, g⟩ := h.adr hj q
  rw [na] at g
  cases g
/-- what is known of a name is forgotten -/
def Wk : List Sl → List Sl → Prop
  | _, [] => True
  | [], _ :: _ => False
  | a :: as, b :: bs => (a = b ∨ (b = .un ∧ a.isT = false)) ∧ Wk as bs
theorem Wk.get : ∀ {S T : List Sl} {i : Nat} {t : Sl}, Wk S T → T[i]? = some t → S[i]? = some t ∨ (t = .un ∧ ∃ s, S[i]? = some s ∧ s.isT = false)
  | _, [], _, _, _, e => by simp at e
  | [], _ :: _, _, _, h, _ => h.elim
  | a :: as, b :: bs, 0, t, h, e => by
    simp at e
    subst e
    rcases h.1 with z | z
    · exact .inl (by rw [z]; rfl)
    · exact .inr ⟨z.1, a, rfl, z.2⟩
  | a :: as, b :: bs, i + 1, t, h, e => by
    have := Wk.get (i := i) h.2 (by simpa using e)
    simpa using this
theorem Wk.rfl : ∀ {S : List Sl}, Wk S S
  | [] => trivial
  | _ :: _ => ⟨.inl (Eq.refl _), Wk.rfl⟩
theorem SR.weak (h : SR K H0 H σ S) {T : List Sl} (w : Wk S T) : SR K H0 H σ T := by
  refine ⟨h.ex, fun i t q z => ?_, fun i t q => ?_, fun i j s t a hij hi hj ai aj => ?_⟩
  · rcases w.get q with y | ⟨_, s, y, u⟩
    · exact h.len i t y z
    · exact h.len i s y u
  · rcases w.get q with y | ⟨y, _⟩
    · exact h.ok i t y
    · subst y; trivial
  · rcases w.get hi with z | ⟨z, _⟩
    · rcases w.get hj with y | ⟨y, _⟩
      · exact h.ap i j s t a hij z y ai aj
      · subst y; exact aj
    · subst z; exact ai
theorem get_push {S : List Sl} {t : Sl} {i : Nat} {s : Sl} (q : (S ++ [t])[i]? = some s) : S[i]? = some s ∨ s = t ∧ i = S.length := by
  by_cases hi : i < S.length
  · rw [List.getElem?_append_left hi] at q
    exact .inl q
  · have hi' : S.length ≤ i := Nat.le_of_not_lt hi
    rw [List.getElem?_append_right hi'] at q
    have : i - S.length = 0 := by
      have := (List.getElem?_eq_some_iff.mp q).1
      simp at this
      omega
    rw [this] at q
    simp at q
    exact .inr ⟨q.symm, by omega⟩
/-- something that a loop holds, beside the names -/
theorem SR.push0 (h : SR K H0 H σ S) {t : Sl} (ht : t.isT = true) (k : ∀ o, SlOk K H0 H o t) (na : ∀ (o : Option (Option V)) (a : Addr), Adr o a t → ∀ (i : Nat) (s : Sl), S[i]? = some s → ¬ Adr σ[i]? a s) : SR K H0 H σ (S ++ [t]) := by
  refine ⟨h.ex, fun i s q z => ?_, fun i s q => ?_, fun i j s u b hij hi hj ai aj => ?_⟩
  · rcases get_push q with y | ⟨y, _⟩
    · exact h.len i s y z
    · rw [y, ht] at z; cases z
  · rcases get_push q with y | ⟨y, _⟩
    · exact h.ok i s y
    · rw [y]; exact k _
  · rcases get_push hi with z | ⟨z, z2⟩
    · rcases get_push hj with y | ⟨y, y2⟩
      · exact h.ap i j s u b hij z y ai aj
      · rw [y] at aj
        exact na _ _ aj i s z ai
    · rcases get_push hj with y | ⟨y, y2⟩
      · rw [z] at ai
        exact na _ _ ai j u y aj
      · exact hij (z2.trans y2.symm)
theorem SR.n0 (h : SR K H0 H σ S) {a : Addr} (na : H a = none) : H0 a = none := by
  cases q : H0 a with
  | none => rfl
  | some o => rw [h.ex _ _ q] at na; cases na
theorem SR.push (h : SR K H0 H σ S) (e : Same H H') {a : Addr} {vs : List V} {ds : List PyData} (na : H a = none) (k : H' a = some (.lst vs)) (r : Ims K H' vs ds) : SR K H0 H' σ (S ++ [.tmp a vs ds]) :=
  (h.mono e).push0 rfl (fun _ => ⟨h.n0 na, k, r⟩) fun o b z i s hi ai => by
    have eb : b = a := z
    obtain ⟨_, us, g⟩ := h.adr hi ai
    rw [eb, na] at g
    cases g
theorem SR.pushB (h : SR K H0 H σ S) {a : Addr} {vs : List V} {ds : List PyData} (k : SqL K H0 a vs) (r : Ims K H vs ds) : SR K H0 H σ (S ++ [.tmb a vs ds]) := h.push0 rfl (fun _ => ⟨k, r⟩) fun _ _ z => z.elim
theorem SR.pushT (h : SR K H0 H σ S) {a : Addr} {vs : List V} {ds : List PyData} (k : SqT K H a vs) (r : Ims K H vs ds) : SR K H0 H σ (S ++ [.tmt a vs ds]) := h.push0 rfl (fun _ => ⟨k, r⟩) fun _ _ z => z.elim
theorem Wk.app : ∀ {S T : List Sl}, Wk (S ++ T) S
  | [], _ => by cases ‹List Sl› <;> trivial
  | _ :: _, _ => ⟨.inl (Eq.refl _), Wk.app⟩
theorem Wk.push {t : Sl} : ∀ {S T : List Sl}, S.length = T.length → Wk S T → Wk (S ++ [t]) (T ++ [t])
  | [], [], _, _ => ⟨.inl (Eq.refl _), trivial⟩
  | _ :: _, _ :: _, e, w => ⟨w.1, Wk.push (by simpa using e) w.2⟩
/-- a list of one's own is held while it is walked, and let go -/
theorem SR.hold (h : SR K H0 H σ S) {j : Nat} {a : Addr} {ds : List PyData} (hs : S[j]? = some (.own ds)) (ha : σ[j]? = some (some (.ref a))) {vs : List V} (hv : H a = some (.lst vs)) : SR K H0 H σ (S.set j (.hld a vs ds)) := by
  refine ⟨h.ex, fun i t q z => ?_, fun i t q => ?_, fun i l s t b hil hi hl ai al => ?_⟩
  · rcases get_set q with ⟨rfl, rfl, _⟩ | ⟨n, q⟩
    · exact h.len i _ hs rfl
    · exact h.len i t q z
  · rcases get_set q with ⟨rfl, rfl, _⟩ | ⟨n, q⟩
    · obtain ⟨b, us, e, z, g, m⟩ := h.ok i _ hs
      rw [ha] at e
      cases e
      rw [hv] at g
      cases g
      exact ⟨ha, z, hv, m⟩
    · exact h.ok i t q
  · have pick : ∀ {m : Nat} {u : Sl}, (S.set j (.hld a vs ds))[m]? = some u → Adr σ[m]? b u → ∃ u', S[m]? = some u' ∧ Adr σ[m]? b u' := fun {m u} q z => by
      rcases get_set q with ⟨rfl, rfl, _⟩ | ⟨n, q⟩
      · have e : b = a := z
        subst e
        exact ⟨_, hs, ha⟩
      · exact ⟨u, q, z⟩
    obtain ⟨s', h1, z1⟩ := pick hi ai
    obtain ⟨t', h2, z2⟩ := pick hl al
    exact h.ap i l s' t' b hil h1 h2 z1 z2
theorem SR.unhold (h : SR K H0 H σ S) {j : Nat} {a : Addr} {vs : List V} {ds : List PyData} (hs : S[j]? = some (.hld a vs ds)) : SR K H0 H σ (S.set j (.own ds)) := by
  obtain ⟨ha, n0, g, m⟩ := h.ok j _ hs
  refine ⟨h.ex, fun i t q z => ?_, fun i t q => ?_, fun i l s t b hil hi hl ai al => ?_⟩
  · rcases get_set q with ⟨rfl, rfl, _⟩ | ⟨n, q⟩
    · exact h.len i _ hs rfl
    · exact h.len i t q z
  · rcases get_set q with ⟨rfl, rfl, _⟩ | ⟨n, q⟩
    · exact ⟨a, vs, ha, n0, g, m⟩
    · exact h.ok i t q
  · have pick : ∀ {m : Nat} {u : Sl}, (S.set j (.own ds))[m]? = some u → Adr σ[m]? b u → ∃ u', S[m]? = some u' ∧ Adr σ[m]? b u' := fun {m u} q z => by
      rcases get_set q with ⟨rfl, rfl, _⟩ | ⟨n, q⟩
      · have e : σ[m]? = some (some (.ref b)) := z
        rw [ha] at e
        cases e
        exact ⟨_, hs, rfl⟩
      · exact ⟨u, q, z⟩
    obtain ⟨s', h1, z1⟩ := pick hi ai
    obtain ⟨t', h2, z2⟩ := pick hl al
    exact h.ap i l s' t' b hil h1 h2 z1 z2
/-- the list of one's own at the name i becomes another -/
theorem SR.chg (h : SR K H0 H σ S) {i : Nat} {a : Addr} {us : List V} {ds es : List PyData} (hs : S[i]? = some (.own ds)) (ha : σ[i]? = some (some (.ref a))) (r : Ims K H us es) : SR K H0 (upd H a (.lst us)) σ (S.set i (.own es)) := by
  obtain ⟨n0, vs, hv⟩ := h.adr hs ha
  have g : GeT K H (upd H a (.lst us)) := GeT.upd hv
  have ap' : ∀ j t, j ≠ i → S[j]? = some t → ∀ b, Adr σ[j]? b t → b ≠ a := fun j t hj ht b q z => by
    subst z
    exact h.ap j i t (.own ds) b hj ht hs q ha
  refine ⟨fun b o q => ?_, fun j t q z => ?_, fun j t q => ?_, fun j l s t b hjl hj hl aj al => ?_⟩
  · rw [upd_ne (ne_of_none q n0)]
    exact h.ex b o q
  · rcases get_set q with ⟨rfl, rfl, _⟩ | ⟨n, q⟩
    · exact h.len j _ hs rfl
    · exact h.len j t q z
  · rcases get_set q with ⟨rfl, rfl, _⟩ | ⟨n, q⟩
    · exact ⟨a, us, ha, n0, upd_same, Ims.mono g _ _ r⟩
    · exact (h.ok j t q).mono g fun b z => upd_ne (ap' j t n q b z)
  · have pick : ∀ {m : Nat} {u : Sl}, (S.set i (.own es))[m]? = some u → Adr σ[m]? b u → ∃ u', S[m]? = some u' ∧ Adr σ[m]? b u' := fun {m u} q z => by
      rcases get_set q with ⟨rfl, rfl, _⟩ | ⟨n, q⟩
      · exact ⟨_, hs, z⟩
      · exact ⟨u, q, z⟩
    obtain ⟨s', h1, z1⟩ := pick hj aj
    obtain ⟨t', h2, z2⟩ := pick hl al
    exact h.ap j l s' t' b hjl h1 h2 z1 z2
end
end Z

namespace Z
open PySem PySem.Spec L2

/-! ### what an expression gives: data; a list that stood at the entry; the list of the name at i; a new list -/
inductive Xd where
  | im (d : PyData) | bor (ds : List PyData) | at (i : Nat) (ds : List PyData) | new (ds : List PyData)
@[reducible] def Xd.pd : Xd → PyData
  | .im d => d
  | .bor ds => .list ds
  | .at _ ds => .list ds
  | .new ds => .list ds
/-- plain -/
def Xd.pl : Xd → Bool
  | .im d => Z.pl d
  | .bor ds => pls ds
  | .at _ ds => pls ds
  | .new ds => pls ds
/-- as an item of a tuple or a list: lists by their kind alone -/
@[reducible] def Xd.it : Xd → PyData
  | .im d => d
  | .bor _ => .list []
  | .at _ _ => .list []
  | .new _ => .list []
/-- as a callee takes it -/
def Xd.sl : Xd → Sl
  | .im d => .im d
  | .bor ds => .bor ds
  | .at _ ds => .bor ds
  | .new ds => .bor ds
/-- the list's items -/
def Xd.ls : Xd → Option (List PyData)
  | .im _ => none
  | .bor ds => some ds
  | .at _ ds => some ds
  | .new ds => some ds
def XOk (K : PySem.W.Frag) (H0 H H' : Hp) (σ : L2.St) (S : List Sl) (v : V) : Xd → Prop
  | .im d => Im K H' v d
  | .bor ds => ∃ a vs, v = .ref a ∧ SqL K H0 a vs ∧ Ims K H' vs ds
  | .at i ds => S[i]? = some (.own ds) ∧ σ[i]? = some (some v)
  | .new ds => ∃ a vs, v = .ref a ∧ H a = none ∧ H' a = some (.lst vs) ∧ Ims K H' vs ds
inductive XOks (K : PySem.W.Frag) (H0 H H' : Hp) (σ : L2.St) (S : List Sl) : List V → List Xd → Prop
  | nil : XOks K H0 H H' σ S [] []
  | cons {v : V} {vs : List V} {x : Xd} {xs : List Xd} : XOk K H0 H H' σ S v x → XOks K H0 H H' σ S vs xs → XOks K H0 H H' σ S (v :: vs) (x :: xs)
section
variable {K : PySem.W.Frag} {H0 H H' H1 H2 : Hp} {σ : L2.St} {S : List Sl} {v : V} {x : Xd}
theorem free_back (e : Same H H1) {a : Addr} (h : H1 a = none) : H a = none := Same.free e h
theorem XOk.mono (e : Same H1 H2) : ∀ {x : Xd}, XOk K H0 H H1 σ S v x → XOk K H0 H H2 σ S v x
  | .im d, h => Im.mono (.of e) d v h
  | .bor ds, ⟨a, vs, h, q, r⟩ => ⟨a, vs, h, q, Ims.mono (.of e) ds vs r⟩
  | .at i ds, h => h
  | .new ds, ⟨a, vs, h, n, q, r⟩ => ⟨a, vs, h, n, e _ _ q, Ims.mono (.of e) ds vs r⟩
theorem XOk.pre (e : Same H H1) : ∀ {x : Xd}, XOk K H0 H1 H2 σ S v x → XOk K H0 H H2 σ S v x
  | .im d, h => h
  | .bor ds, h => h
  | .at i ds, h => h
  | .new ds, ⟨a, vs, h, n, q, r⟩ => ⟨a, vs, h, free_back e n, q, r⟩
theorem XOks.mono (e : Same H1 H2) : ∀ {vs : List V} {xs : List Xd}, XOks K H0 H H1 σ S vs xs → XOks K H0 H H2 σ S vs xs
  | _, _, .nil => .nil
  | _, _, .cons h r => .cons (h.mono e) (XOks.mono e r)
theorem XOks.pre (e : Same H H1) : ∀ {vs : List V} {xs : List Xd}, XOks K H0 H1 H2 σ S vs xs → XOks K H0 H H2 σ S vs xs
  | _, _, .nil => .nil
  | _, _, .cons h r => .cons (h.pre e) (XOks.pre e r)
/-- a list's value: where it stands -/
theorem XOk.lst (r : SR K H0 H' σ S) : ∀ {x : Xd} {ds : List PyData}, XOk K H0 H H' σ S v x → x.ls = some ds → ∃ a vs, v = .ref a ∧ SqL K H' a vs ∧ Ims K H' vs ds
  | .im d, _, _, e => by cases e
  | .bor es, ds, ⟨a, vs, h, q, t⟩, e => by
    cases e
    exact ⟨a, vs, h, sql_same r.ex q, t⟩
  | .at i es, ds, ⟨h1, h2⟩, e => by
    cases e
    obtain ⟨a, vs, h, z, q, t⟩ := r.ok i _ h1
    rw [h2] at h
    cases h
    exact ⟨a, vs, rfl, .inl (.inl q), t⟩
  | .new es, ds, ⟨a, vs, h, n, q, t⟩, e => by
    cases e
    exact ⟨a, vs, h, .inl (.inl q), t⟩
theorem XOk.dp (r : SR K H0 H' σ S) : ∀ {x : Xd}, x.pl = true → XOk K H0 H H' σ S v x → Dp K H' v x.pd
  | .im d, p, h => Im.dp d v p h
  | .bor ds, p, h => by
    obtain ⟨a, vs, rfl, q, t⟩ := XOk.lst r h (rfl : (Xd.bor ds).ls = some ds)
    exact .lst q (Ims.dp _ _ p t)
  | .at i ds, p, h => by
    obtain ⟨a, vs, rfl, q, t⟩ := XOk.lst r h (rfl : (Xd.at i ds).ls = some ds)
    exact .lst q (Ims.dp _ _ p t)
  | .new ds, p, h => by
    obtain ⟨a, vs, rfl, q, t⟩ := XOk.lst r h (rfl : (Xd.new ds).ls = some ds)
    exact .lst q (Ims.dp _ _ p t)
theorem XOk.item (r : SR K H0 H' σ S) : ∀ {x : Xd}, XOk K H0 H H' σ S v x → Im K H' v x.it
  | .im d, h => h
  | .bor ds, h => by
    obtain ⟨a, vs, rfl, q, t⟩ := XOk.lst r h (rfl : (Xd.bor ds).ls = some ds)
    exact .anyL ⟨_, q⟩
  | .at i ds, h => by
    obtain ⟨a, vs, rfl, q, t⟩ := XOk.lst r h (rfl : (Xd.at i ds).ls = some ds)
    exact .anyL ⟨_, q⟩
  | .new ds, h => by
    obtain ⟨a, vs, rfl, q, t⟩ := XOk.lst r h (rfl : (Xd.new ds).ls = some ds)
    exact .anyL ⟨_, q⟩
end

/-! ### what an operator asks of what it gets -/
def n1 (x : Xd) (k : Int → Prop) : Prop := ∃ i, x = .im (.int i) ∧ k i
def n2 (x y : Xd) (k : Int → Int → Prop) : Prop := ∃ i j, x = .im (.int i) ∧ y = .im (.int j) ∧ k i j
def nb (x : Xd) (k : Bool → Prop) : Prop := ∃ b, x = .im (.bool b) ∧ k b
def ns (x : Xd) (k : Str → Prop) : Prop := ∃ b, x = .im (.str b) ∧ k b
def ns2 (x y : Xd) (k : Str → Str → Prop) : Prop := ∃ a b, x = .im (.str a) ∧ y = .im (.str b) ∧ k a b
def nixT (x y : Xd) (k : PyData → Prop) : Prop := ∃ ds i d, x = .im (.tuple ds) ∧ y = .im (.int i) ∧ atI ds i = some d ∧ k d
def nixL (x y : Xd) (k : PyData → Prop) : Prop := ∃ ds i d, x.ls = some ds ∧ y = .im (.int i) ∧ atI ds i = some d ∧ k d
def neq (x y : Xd) (k : Bool → Prop) : Prop := (x.pl = true ∧ SeqAt.shaped x.pd = true) ∧ (y.pl = true ∧ SeqAt.shaped y.pd = true) ∧ k (PyData.eqv x.pd y.pd)
theorem n1_mk {i : Int} {k : Int → Prop} (h : k i) : n1 (.im (.int i)) k := ⟨i, rfl, h⟩
theorem n2_mk {i j : Int} {k : Int → Int → Prop} (h : k i j) : n2 (.im (.int i)) (.im (.int j)) k := ⟨i, j, rfl, rfl, h⟩
theorem nb_mk {b : Bool} {k : Bool → Prop} (h : k b) : nb (.im (.bool b)) k := ⟨b, rfl, h⟩
theorem ns_mk {b : Str} {k : Str → Prop} (h : k b) : ns (.im (.str b)) k := ⟨b, rfl, h⟩
theorem ns2_mk {a b : Str} {k : Str → Str → Prop} (h : k a b) : ns2 (.im (.str a)) (.im (.str b)) k := ⟨a, b, rfl, rfl, h⟩
theorem nixT_mk {ds : List PyData} {i : Int} {d : PyData} {k : PyData → Prop} (e : atI ds i = some d) (h : k d) : nixT (.im (.tuple ds)) (.im (.int i)) k := ⟨ds, i, d, rfl, rfl, e, h⟩
theorem nixL_mk {x : Xd} {ds : List PyData} {i : Int} {d : PyData} {k : PyData → Prop} (l : x.ls = some ds) (e : atI ds i = some d) (h : k d) : nixL x (.im (.int i)) k := ⟨ds, i, d, l, rfl, e, h⟩
theorem neq_mk {x y : Xd} {k : Bool → Prop} (h1 : (x.pl && SeqAt.shaped x.pd) = true) (h2 : (y.pl && SeqAt.shaped y.pd) = true) (h : k (PyData.eqv x.pd y.pd)) : neq x y k := ⟨Bool.and_eq_true_iff.mp h1, Bool.and_eq_true_iff.mp h2, h⟩
/-- items of a tuple or a list that is written -/
def nmany (xs : List Xd) (k : List PyData → Prop) : Prop := xs.length ≤ 1000 ∧ k (xs.map Xd.it)
theorem nmany_mk {xs : List Xd} {k : List PyData → Prop} (h : Nat.ble xs.length 1000 = true) (p : k (xs.map Xd.it)) : nmany xs k := ⟨Nat.le_of_ble_eq_true h, p⟩
theorem nmany_0 {k : List PyData → Prop} (p : k []) : nmany [] k := ⟨Nat.le_of_ble_eq_true rfl, p⟩
theorem nmany_1 {x0 : Xd} {k : List PyData → Prop} (p : k [x0.it]) : nmany [x0] k := ⟨Nat.le_of_ble_eq_true rfl, p⟩
theorem nmany_2 {x0 x1 : Xd} {k : List PyData → Prop} (p : k [x0.it, x1.it]) : nmany [x0, x1] k := ⟨Nat.le_of_ble_eq_true rfl, p⟩
theorem nmany_3 {x0 x1 x2 : Xd} {k : List PyData → Prop} (p : k [x0.it, x1.it, x2.it]) : nmany [x0, x1, x2] k := ⟨Nat.le_of_ble_eq_true rfl, p⟩
theorem nmany_4 {x0 x1 x2 x3 : Xd} {k : List PyData → Prop} (p : k [x0.it, x1.it, x2.it, x3.it]) : nmany [x0, x1, x2, x3] k := ⟨Nat.le_of_ble_eq_true rfl, p⟩
theorem nmany_5 {x0 x1 x2 x3 x4 : Xd} {k : List PyData → Prop} (p : k [x0.it, x1.it, x2.it, x3.it, x4.it]) : nmany [x0, x1, x2, x3, x4] k := ⟨Nat.le_of_ble_eq_true rfl, p⟩
theorem nmany_6 {x0 x1 x2 x3 x4 x5 : Xd} {k : List PyData → Prop} (p : k [x0.it, x1.it, x2.it, x3.it, x4.it, x5.it]) : nmany [x0, x1, x2, x3, x4, x5] k := ⟨Nat.le_of_ble_eq_true rfl, p⟩
theorem nmany_7 {x0 x1 x2 x3 x4 x5 x6 : Xd} {k : List PyData → Prop} (p : k [x0.it, x1.it, x2.it, x3.it, x4.it, x5.it, x6.it]) : nmany [x0, x1, x2, x3, x4, x5, x6] k := ⟨Nat.le_of_ble_eq_true rfl, p⟩
theorem nmany_8 {x0 x1 x2 x3 x4 x5 x6 x7 : Xd} {k : List PyData → Prop} (p : k [x0.it, x1.it, x2.it, x3.it, x4.it, x5.it, x6.it, x7.it]) : nmany [x0, x1, x2, x3, x4, x5, x6, x7] k := ⟨Nat.le_of_ble_eq_true rfl, p⟩
/-- a side of an operator -/
def nside (c : Prop) (k : Prop) : Prop := c ∧ k
theorem nside_mk {c k : Prop} (h : c) (p : k) : nside c k := ⟨h, p⟩
theorem ite_d {p A B : Prop} [Decidable p] (h1 : p → A) (h2 : ¬ p → B) : if decide p = true then A else B := by
  by_cases h : p
  · rw [decide_eq_true h]
    exact iteT (h1 h)
  · rw [decide_eq_false h]
    exact iteF (h2 h)
theorem ite_n {p A B : Prop} [Decidable p] (h1 : ¬ p → A) (h2 : p → B) : if (!decide p) = true then A else B := by
  by_cases h : p
  · rw [decide_eq_true h]
    exact iteF (h2 h)
  · rw [decide_eq_false h]
    exact iteT (h1 h)
theorem ite_b {b : Bool} {A B : Prop} (h1 : b = true → A) (h2 : b = false → B) : if b = true then A else B := by
  cases b with
  | true => exact iteT (h1 rfl)
  | false => exact iteF (h2 rfl)

/-! ### what is wanted of an expression, of a test, of arguments -/
def wE (K : PySem.W.Frag) (H0 : Hp) (te : TE) (S : List Sl) (P : Xd → Prop) : Prop :=
  ∀ (σ : L2.St) (H : Hp), SR K H0 H σ S → ∀ Q : VK, (∀ v H' x, Same H H' → XOk K H0 H H' σ S v x → P x → Q v H') → te σ H Q
def wT (K : PySem.W.Frag) (H0 : Hp) (t : TT) (S : List Sl) (P : Bool → Prop) : Prop :=
  ∀ (σ : L2.St) (H : Hp), SR K H0 H σ S → ∀ Q : Bool → Hp → Prop, (∀ b H', Same H H' → P b → Q b H') → t σ H Q
def wA (K : PySem.W.Frag) (H0 : Hp) (ta : TA) (S : List Sl) (P : List Xd → Prop) : Prop :=
  ∀ (σ : L2.St) (H : Hp), SR K H0 H σ S → ∀ Q : List V → Hp → Prop, (∀ vs H' xs, Same H H' → XOks K H0 H H' σ S vs xs → P xs → Q vs H') → ta σ H Q
section
variable {K : PySem.W.Frag} {H0 : Hp} {S : List Sl} {ta tb te : TE} {t u : TT} {P : Xd → Prop} {PB : Bool → Prop} {PA : List Xd → Prop}
theorem wE.imp {P' : Xd → Prop} (h : wE K H0 te S P) (k : ∀ x, P x → P' x) : wE K H0 te S P' := fun σ H r Q q => h σ H r Q fun v H' x e o p => q v H' x e o (k x p)
theorem wT.imp {P' : Bool → Prop} (h : wT K H0 t S PB) (k : ∀ x, PB x → P' x) : wT K H0 t S P' := fun σ H r Q q => h σ H r Q fun b H' e p => q b H' e (k b p)
theorem wE_var {i : Nat} {d : PyData} (h : S[i]? = some (.im d)) (p : P (.im d)) : wE K H0 (tVar i) S P := fun σ H r Q q => by
  obtain ⟨v, e, k⟩ := r.ok i _ h
  exact ⟨v, e, q v H (.im d) (.refl H) k p⟩
theorem wE_varB {i : Nat} {ds : List PyData} (h : S[i]? = some (.bor ds)) (p : P (.bor ds)) : wE K H0 (tVar i) S P := fun σ H r Q q => by
  obtain ⟨a, vs, e, k, m⟩ := r.ok i _ h
  exact ⟨_, e, q _ H (.bor ds) (.refl H) ⟨a, vs, rfl, k, m⟩ p⟩
theorem wE_varO {i : Nat} {ds : List PyData} (h : S[i]? = some (.own ds)) (p : P (.at i ds)) : wE K H0 (tVar i) S P := fun σ H r Q q => by
  obtain ⟨a, vs, e, _⟩ := r.ok i _ h
  exact ⟨_, e, q _ H (.at i ds) (.refl H) ⟨h, e⟩ p⟩
theorem wE_int {i : Int} (p : P (.im (.int i))) : wE K H0 (tC (.int i)) S P := fun σ H r Q q => q _ H (.im _) (.refl H) (.int i) p
theorem wE_bl {b : Bool} (p : P (.im (.bool b))) : wE K H0 (tC (.bl b)) S P := fun σ H r Q q => q _ H (.im _) (.refl H) (.bl b) p
theorem wE_str {x : Str} (p : P (.im (.str x))) : wE K H0 (tC (.str x)) S P := fun σ H r Q q => q _ H (.im _) (.refl H) (.str x) p
theorem wE_non (p : P (.im .none)) : wE K H0 (tC .non) S P := fun σ H r Q q => q _ H (.im _) (.refl H) .non p
/-- two operands, one behind the other -/
theorem wE_two {r : R2} (h : wE K H0 ta S fun x => wE K H0 tb S fun y => ∀ σ H1 H2 H v w, SR K H0 H2 σ S → Same H H1 → Same H1 H2 → XOk K H0 H H2 σ S v x → XOk K H0 H1 H2 σ S w y → ∀ Q : VK, (∀ v' H' z, Same H2 H' → XOk K H0 H2 H' σ S v' z → P z → Q v' H') → r v w H2 Q) : wE K H0 (tOp r ta tb) S P :=
  fun σ H s Q q => h σ H s _ fun v H1 x e1 o1 h1 => h1 σ H1 (s.mono e1) _ fun w H2 y e2 o2 h2 => h2 σ H1 H2 H v w (s.mono (e1.trans e2)) e1 e2 (o1.mono e2) o2 Q fun v' H' z e3 o3 p => q v' H' z ((e1.trans e2).trans e3) (o3.pre (e1.trans e2)) p
theorem im_int {K : PySem.W.Frag} {H : Hp} {v : V} {i : Int} (h : Im K H v (.int i)) : v = .int i := by cases h; rfl
theorem im_str {K : PySem.W.Frag} {H : Hp} {v : V} {i : Str} (h : Im K H v (.str i)) : v = .str i := by cases h; rfl
theorem im_bl {K : PySem.W.Frag} {H : Hp} {v : V} {i : Bool} (h : Im K H v (.bool i)) : v = .bl i := by cases h; rfl
theorem im_non {K : PySem.W.Frag} {H : Hp} {v : V} (h : Im K H v .none) : v = .non := by cases h; rfl
theorem wE_I0 {f : Int → Int → Int} (h : wE K H0 ta S fun x => wE K H0 tb S fun y => n2 x y fun i j => P (.im (.int (f i j)))) : wE K H0 (tOp (rI0 fun i j => .int (f i j)) ta tb) S P :=
  wE_two (h.imp fun x hx => hx.imp fun y ⟨i, j, e1, e2, p⟩ σ H1 H2 H v w r _ _ o1 o2 Q q => by
    subst e1 e2
    exact ⟨i, j, im_int o1, im_int o2, q _ _ (.im _) (.refl _) (.int _) p⟩)
theorem wE_B0 {f : Int → Int → Bool} (h : wE K H0 ta S fun x => wE K H0 tb S fun y => n2 x y fun i j => P (.im (.bool (f i j)))) : wE K H0 (tOp (rI0 fun i j => .bl (f i j)) ta tb) S P :=
  wE_two (h.imp fun x hx => hx.imp fun y ⟨i, j, e1, e2, p⟩ σ H1 H2 H v w r _ _ o1 o2 Q q => by
    subst e1 e2
    exact ⟨i, j, im_int o1, im_int o2, q _ _ (.im _) (.refl _) (.bl _) p⟩)
theorem wE_I {C : Int → Int → Prop} {f : Int → Int → Int} (h : wE K H0 ta S fun x => wE K H0 tb S fun y => n2 x y fun i j => nside (C i j) (P (.im (.int (f i j))))) : wE K H0 (tOp (rI C fun i j => .int (f i j)) ta tb) S P :=
  wE_two (h.imp fun x hx => hx.imp fun y ⟨i, j, e1, e2, c, p⟩ σ H1 H2 H v w r _ _ o1 o2 Q q => by
    subst e1 e2
    exact ⟨i, j, im_int o1, im_int o2, c, q _ _ (.im _) (.refl _) (.int _) p⟩)
theorem wE_U {f : Int → Int} (h : wE K H0 ta S fun x => n1 x fun i => P (.im (.int (f i)))) : wE K H0 (tUn (rU fun i => .int (f i)) ta) S P := fun σ H s Q q => h σ H s _ fun v H1 x e o ⟨i, e1, p⟩ => by
  subst e1
  exact ⟨i, im_int o, q _ _ (.im _) e (.int _) p⟩
/-- == and != of data -/
theorem wE_eq (h : wE K H0 ta S fun x => wE K H0 tb S fun y => neq x y fun b => P (.im (.bool b))) : wE K H0 (tOp (rEqD K) ta tb) S P :=
  wE_two (h.imp fun x hx => hx.imp fun y ⟨s1, s2, p⟩ σ H1 H2 H v w r _ _ o1 o2 Q q => ⟨x.pd, y.pd, o1.dp r s1.1, o2.dp r s2.1, s1.2, s2.2, q _ _ (.im _) (.refl _) (.bl _) p⟩)
theorem wE_ne (h : wE K H0 ta S fun x => wE K H0 tb S fun y => neq x y fun b => P (.im (.bool (!b)))) : wE K H0 (tOp (rNeD K) ta tb) S P :=
  wE_two (h.imp fun x hx => hx.imp fun y ⟨s1, s2, p⟩ σ H1 H2 H v w r _ _ o1 o2 Q q => ⟨x.pd, y.pd, o1.dp r s1.1, o2.dp r s2.1, s1.2, s2.2, q _ _ (.im _) (.refl _) (.bl _) p⟩)
/-- an item of a tuple, of a list -/
theorem wE_ixT (h : wE K H0 ta S fun x => wE K H0 tb S fun y => nixT x y fun d => P (.im d)) : wE K H0 (tOp (rIxT K) ta tb) S P :=
  wE_two (h.imp fun x hx => hx.imp fun y ⟨ds, i, d, e1, e2, a, p⟩ σ H1 H2 H v w r _ _ o1 o2 Q q => by
    subst e1 e2
    cases o1 with
    | tup hs hd =>
      obtain ⟨v, hv, m⟩ := atI_ims hd a
      exact ⟨_, _, i, v, rfl, im_int o2, hs, hv, q _ _ (.im _) (.refl _) m p⟩)
theorem wE_ixL (h : wE K H0 ta S fun x => wE K H0 tb S fun y => nixL x y fun d => P (.im d)) : wE K H0 (tOp (rIxL K) ta tb) S P :=
  wE_two (h.imp fun x hx => hx.imp fun y ⟨ds, i, d, e1, e2, a, p⟩ σ H1 H2 H v w r _ _ o1 o2 Q q => by
    subst e2
    obtain ⟨b, us, rfl, hs, hd⟩ := o1.lst r e1
    obtain ⟨v, hv, m⟩ := atI_ims hd a
    exact ⟨_, _, i, v, rfl, im_int o2, hs, hv, q _ _ (.im _) (.refl _) m p⟩)
/-- tuples, lists written -/
theorem wA_nil (p : PA []) : wA K H0 tNil S PA := fun σ H s Q q => q [] H [] (.refl H) .nil p
theorem wA_cons {tr : TA} (h : wE K H0 te S fun x => wA K H0 tr S fun xs => PA (x :: xs)) : wA K H0 (tCons te tr) S PA := fun σ H s Q q =>
  h σ H s _ fun v H1 x e o k => k σ H1 (s.mono e) _ fun vs H2 xs e2 os p => q (v :: vs) H2 (x :: xs) (e.trans e2) (.cons (o.mono e2) (os.pre e)) p
theorem XOks.items {H H' : Hp} {σ : L2.St} (r : SR K H0 H' σ S) : ∀ {vs : List V} {xs : List Xd}, XOks K H0 H H' σ S vs xs → Ims K H' vs (xs.map Xd.it)
  | _, [], h => by cases h; exact .nil
  | _, d :: ds, h => by
    cases h with
    | cons h1 h2 => exact .cons (h1.item r) (XOks.items r h2)
theorem wE_tup {tr : TA} (h : wA K H0 tr S fun xs => nmany xs fun ds => P (.im (.tuple ds))) : wE K H0 (tTup tr) S P := fun σ H s Q q =>
  h σ H s _ fun vs H1 xs e os ⟨hl, p⟩ => by
    have m := os.items (s.mono e)
    refine ⟨by rw [m.len, List.length_map]; exact Nat.le_of_lt (small1000 hl), fun a ha => q _ _ (.im _) (e.trans (same_upd ha)) ?_ p⟩
    exact .tup (.inl (.inl upd_same)) (Ims.mono (.of (same_upd ha)) _ _ m)
theorem wE_lst {tr : TA} (h : wA K H0 tr S fun xs => nmany xs fun ds => P (.new ds)) : wE K H0 (tLst tr) S P := fun σ H s Q q =>
  h σ H s _ fun vs H1 xs e os ⟨hl, p⟩ => by
    have m := os.items (s.mono e)
    refine ⟨by rw [m.len, List.length_map]; exact Nat.le_of_lt (small1000 hl), fun a ha => q _ _ (.new _) (e.trans (same_upd ha)) ?_ p⟩
    exact ⟨a, vs, rfl, free_back e ha, upd_same, Ims.mono (.of (same_upd ha)) _ _ m⟩
/-! tests -/
theorem wT_test (h : wE K H0 te S fun x => nb x PB) : wT K H0 (tTest te) S PB := fun σ H s Q q => h σ H s _ fun v H1 x e o ⟨b, e1, p⟩ => by
  subst e1
  exact ⟨b, im_bl o, q b H1 e p⟩
theorem wT_B (h : wE K H0 te S fun x => nb x PB) : wT K H0 (tB te) S PB := fun σ H s Q q => h σ H s _ fun v H1 x e o ⟨b, e1, p⟩ => by
  subst e1
  exact ⟨b, im_bl o, q b H1 e p⟩
theorem wT_and (h : wT K H0 t S fun b => if b = true then wT K H0 u S PB else PB false) : wT K H0 (tAnd t u) S PB := fun σ H s Q q => h σ H s _ fun b H1 e k => by
  cases b with
  | true => exact k σ H1 (s.mono e) Q fun b' H2 e2 p => q b' H2 (e.trans e2) p
  | false => exact q false H1 e k
theorem wT_or (h : wT K H0 t S fun b => if b = true then PB true else wT K H0 u S PB) : wT K H0 (tOr t u) S PB := fun σ H s Q q => h σ H s _ fun b H1 e k => by
  cases b with
  | true => exact q true H1 e k
  | false => exact k σ H1 (s.mono e) Q fun b' H2 e2 p => q b' H2 (e.trans e2) p
theorem wT_not (h : wT K H0 t S fun b => PB (!b)) : wT K H0 (tNot t) S PB := fun σ H s Q q => h σ H s _ fun b H1 e k => q _ H1 e k
theorem wE_andV (h : wE K H0 ta S fun x => nb x fun b => if b = true then wE K H0 tb S P else P (.im (.bool false))) : wE K H0 (tAndV ta tb) S P := fun σ H s Q q => h σ H s _ fun v H1 x e o ⟨b, e1, k⟩ => by
  subst e1
  refine ⟨b, im_bl o, ?_⟩
  cases b with
  | true => exact k σ H1 (s.mono e) Q fun v' H2 x' e2 o2 p => q v' H2 x' (e.trans e2) (o2.pre e) p
  | false => exact q _ H1 (.im _) e (.bl false) k
theorem wE_orV (h : wE K H0 ta S fun x => nb x fun b => if b = true then P (.im (.bool true)) else wE K H0 tb S P) : wE K H0 (tOrV ta tb) S P := fun σ H s Q q => h σ H s _ fun v H1 x e o ⟨b, e1, k⟩ => by
  subst e1
  refine ⟨b, im_bl o, ?_⟩
  cases b with
  | true => exact q _ H1 (.im _) e (.bl true) k
  | false => exact k σ H1 (s.mono e) Q fun v' H2 x' e2 o2 p => q v' H2 x' (e.trans e2) (o2.pre e) p
theorem wE_notV (h : wE K H0 ta S fun x => nb x fun b => P (.im (.bool (!b)))) : wE K H0 (tNotV ta) S P := fun σ H s Q q => h σ H s _ fun v H1 x e o ⟨b, e1, p⟩ => by
  subst e1
  exact ⟨b, im_bl o, q _ H1 (.im _) e (.bl _) p⟩
theorem wE_if (h : wT K H0 t S fun b => if b = true then wE K H0 ta S P else wE K H0 tb S P) : wE K H0 (tIf t ta tb) S P := fun σ H s Q q => h σ H s _ fun b H1 e k => by
  cases b with
  | true => exact k σ H1 (s.mono e) Q fun v' H2 x' e2 o2 p => q v' H2 x' (e.trans e2) (o2.pre e) p
  | false => exact k σ H1 (s.mono e) Q fun v' H2 x' e2 o2 p => q v' H2 x' (e.trans e2) (o2.pre e) p
/-- a < b < c -/
theorem wE_chain {f g : Int → Int → Bool} {tc : TE} (h : wE K H0 ta S fun x => wE K H0 tb S fun y => n2 x y fun i j => if f i j = true then wE K H0 tc S (fun z => n1 z fun k => P (.im (.bool (g j k)))) else P (.im (.bool false))) :
    wE K H0 (tChain (rI0 fun i j => .bl (f i j)) (rI0 fun i j => .bl (g i j)) ta tb tc) S P := fun σ H s Q q => h σ H s _ fun v H1 x e1 o1 h1 => h1 σ H1 (s.mono e1) _ fun w H2 y e2 o2 ⟨i, j, q1, q2, k⟩ => by
  subst q1 q2
  refine ⟨i, j, im_int o1, im_int o2, f i j, rfl, ?_⟩
  cases hf : f i j with
  | true =>
    dsimp only at k
    rw [hf] at k
    refine iteT ?_
    exact k σ H2 ((s.mono e1).mono e2) _ fun u H3 z e3 o3 ⟨m, e4, p⟩ => by
      subst e4
      exact ⟨j, m, im_int o2, im_int o3, q _ _ (.im _) ((e1.trans e2).trans e3) (.bl _) p⟩
  | false =>
    dsimp only at k
    rw [hf] at k
    exact iteF (q _ _ (.im _) (e1.trans e2) (.bl _) k)
end
end Z

namespace Z
open PySem PySem.Spec L2

def Xd.re : Xd → Option Sl
  | .im d => some (.im d)
  | .bor _ => none
  | .at _ ds => some (.own ds)
  | .new ds => some (.own ds)
/-- an answer is given; a name is set; two names are set -/
def nre (x : Xd) (k : Sl → Prop) : Prop := ∃ s, x.re = some s ∧ k s
def Xd.as : Xd → Option Sl
  | .im d => some (.im d)
  | .bor ds => some (.bor ds)
  | .at _ _ => none
  | .new ds => some (.own ds)
theorem nre_mk {x : Xd} {s : Sl} {k : Sl → Prop} (e : x.re = some s) (h : k s) : nre x k := ⟨s, e, h⟩
def nas (S : List Sl) (i : Nat) (x : Xd) (k : List Sl → Prop) : Prop := ∃ s0 s, S[i]? = some s0 ∧ s0.isT = false ∧ x.as = some s ∧ k (S.set i s)
theorem nas_mk {S : List Sl} {i : Nat} {x : Xd} {k : List Sl → Prop} {s0 s : Sl} (h0 : S[i]? = some s0) (ht : s0.isT = false) (e : x.as = some s) (h : k (S.set i s)) : nas S i x k := ⟨s0, s, h0, ht, e, h⟩
def npar (S : List Sl) (i j : Nat) (xs : List Xd) (k : List Sl → Prop) : Prop := ∃ d e s0 t0, xs = [.im d, .im e] ∧ S[i]? = some s0 ∧ s0.isT = false ∧ S[j]? = some t0 ∧ t0.isT = false ∧ k ((S.set i (.im d)).set j (.im e))
theorem npar_mk {S : List Sl} {i j : Nat} {d e : PyData} {k : List Sl → Prop} {s0 t0 : Sl} (h0 : S[i]? = some s0) (ht : s0.isT = false) (h1 : S[j]? = some t0) (ht1 : t0.isT = false) (h : k ((S.set i (.im d)).set j (.im e))) : npar S i j [.im d, .im e] k := ⟨d, e, s0, t0, rfl, h0, ht, h1, ht1, h⟩
def nunp (S : List Sl) (i j : Nat) (x : Xd) (k : List Sl → Prop) : Prop := ∃ d e s0 t0, x = .im (.tuple [d, e]) ∧ S[i]? = some s0 ∧ s0.isT = false ∧ S[j]? = some t0 ∧ t0.isT = false ∧ k ((S.set i (.im d)).set j (.im e))
theorem nunp_mk {S : List Sl} {i j : Nat} {d e : PyData} {k : List Sl → Prop} {s0 t0 : Sl} (h0 : S[i]? = some s0) (ht : s0.isT = false) (h1 : S[j]? = some t0) (ht1 : t0.isT = false) (h : k ((S.set i (.im d)).set j (.im e))) : nunp S i j (.im (.tuple [d, e])) k := ⟨d, e, s0, t0, rfl, h0, ht, h1, ht1, h⟩
/-- an answer -/
def ROk (K : PySem.W.Frag) (H H' : Hp) (v : V) : Sl → Prop
  | .im d => Im K H' v d
  | .own ds => ∃ a vs, v = .ref a ∧ H a = none ∧ H' a = some (.lst vs) ∧ Ims K H' vs ds
  | _ => False
structure Gd (K : PySem.W.Frag) (H0 : Hp) (D : Ends) (N : List Sl → Prop) (R : Sl → Prop) (B C : List Sl → Prop) : Prop where
  nx : ∀ σ H S, SR K H0 H σ S → N S → D.nx σ H
  rt : ∀ v H r, Same H0 H → ROk K H0 H v r → R r → D.rt v H
  bk : ∀ σ H S, SR K H0 H σ S → B S → D.bk σ H
  ct : ∀ σ H S, SR K H0 H σ S → C S → D.ct σ H
/-- from S the statement leads on where N holds, or answers what R holds of, or breaks where B, or goes on to the next turn where C holds -/
def wS (K : PySem.W.Frag) (H0 : Hp) (t : TS) (S : List Sl) (N : List Sl → Prop) (R : Sl → Prop) (B C : List Sl → Prop) : Prop := ∀ (D : Ends) (σ : L2.St) (H : Hp), Gd K H0 D N R B C → SR K H0 H σ S → t D σ H
section
variable {K : PySem.W.Frag} {H0 : Hp} {S : List Sl} {ta tb te : TE} {t u : TS} {c : TT} {N : List Sl → Prop} {R : Sl → Prop} {B C : List Sl → Prop}
theorem XOk.ret {H H' : Hp} {σ : L2.St} {v : V} (r : SR K H0 H σ S) (e : Same H H') : ∀ {x : Xd} {s : Sl}, XOk K H0 H H' σ S v x → x.re = some s → ROk K H0 H' v s
  | .im d, _, h, q => by cases q; exact h
  | .bor _, _, _, q => by cases q
  | .at i ds, _, ⟨h1, h2⟩, q => by
    cases q
    obtain ⟨a, vs, h, z, g, t⟩ := (r.mono e).ok i _ h1
    rw [h2] at h
    cases h
    exact ⟨a, vs, rfl, z, g, t⟩
  | .new ds, _, ⟨a, vs, h, n, g, t⟩, q => by
    cases q
    exact ⟨a, vs, h, free_back r.ex n, g, t⟩
theorem wS_next (p : N S) : wS K H0 tNext S N R B C := fun D σ H g r => g.nx σ H S r p
theorem wS_break (p : B S) : wS K H0 tBreak S N R B C := fun D σ H g r => g.bk σ H S r p
theorem wS_cont (p : C S) : wS K H0 tCont S N R B C := fun D σ H g r => g.ct σ H S r p
theorem wS_seq (h : wS K H0 t S (fun S' => wS K H0 u S' N R B C) R B C) : wS K H0 (tSeq t u) S N R B C := fun D σ H g r =>
  h _ σ H ⟨fun σ' H' S' r' k => k D σ' H' g r', g.rt, g.bk, g.ct⟩ r
theorem wS_weak {T : List Sl} (w : Wk S T) (h : wS K H0 t T N R B C) : wS K H0 t S N R B C := fun D σ H g r => h D σ H g (r.weak w)
theorem wS_imp {N' : List Sl → Prop} {R' : Sl → Prop} {B' C' : List Sl → Prop} (h : wS K H0 t S N R B C) (k1 : ∀ S', N S' → N' S') (k2 : ∀ s, R s → R' s) (k3 : ∀ S', B S' → B' S') (k4 : ∀ S', C S' → C' S') : wS K H0 t S N' R' B' C' := fun D σ H g r =>
  h D σ H ⟨fun σ' H' S' r' q => g.nx σ' H' S' r' (k1 S' q), fun v H' s e o q => g.rt v H' s e o (k2 s q), fun σ' H' S' r' q => g.bk σ' H' S' r' (k3 S' q), fun σ' H' S' r' q => g.ct σ' H' S' r' (k4 S' q)⟩ r
/-- a word between two statements, over letters x -/
theorem wS_cut {α : Type} (f : α → List Sl) (I : α → Prop) (h : wS K H0 t S (fun S' => ∃ x, Wk S' (f x) ∧ I x) R B C) (k : ∀ x, I x → wS K H0 u (f x) N R B C) : wS K H0 (tSeq t u) S N R B C :=
  wS_seq (wS_imp h (fun S' ⟨x, w, i⟩ => wS_weak w (k x i)) (fun _ q => q) (fun _ q => q) (fun _ q => q))
theorem wS_drop (h : wE K H0 te S fun _ => N S) : wS K H0 (tDrop te) S N R B C := fun D σ H g r => h σ H r _ fun v H' x e o p => g.nx σ H' S (r.mono e) p
theorem wS_ret (h : wE K H0 te S fun x => nre x R) : wS K H0 (tRet te) S N R B C := fun D σ H g r => h σ H r _ fun v H' x e o ⟨s, q, p⟩ => g.rt v H' s (r.ex.trans e) (o.ret r e q) p
theorem wS_retN (p : R (.im .none)) : wS K H0 tRetN S N R B C := fun D σ H g r => g.rt _ H (.im .none) r.ex .non p
theorem SR.as {H H' : Hp} {σ : L2.St} {v : V} {i : Nat} {s0 : Sl} (r : SR K H0 H σ S) (e : Same H H') (h0 : S[i]? = some s0) (ht : s0.isT = false) : ∀ {x : Xd} {s : Sl}, XOk K H0 H H' σ S v x → x.as = some s → SR K H0 H' (σ.set i (some v)) (S.set i s)
  | .im d, _, h, q => by cases q; exact (r.mono e).setIm h0 ht h
  | .bor _, _, ⟨a, vs, h, g, t⟩, q => by cases q; subst h; exact (r.mono e).setBor h0 ht g t
  | .at i ds, _, _, q => by cases q
  | .new ds, _, ⟨a, vs, h, n, g, t⟩, q => by cases q; subst h; exact r.setNew e h0 ht n g t
theorem wS_asg {i : Nat} (h : wE K H0 te S fun x => nas S i x N) : wS K H0 (tAsg te (gName i)) S N R B C := fun D σ H g r =>
  h σ H r _ fun v H' x e o ⟨s0, s, h0, ht, q, p⟩ => g.nx _ H' _ (r.as e h0 ht o q) p
theorem set_isT {S : List Sl} {i j : Nat} {s0 t : Sl} (h0 : S[j]? = some s0) (ht : s0.isT = false) (hs : t.isT = false) : ∃ s, (S.set i t)[j]? = some s ∧ s.isT = false := by
  by_cases e : j = i
  · subst e
    exact ⟨t, List.getElem?_set_self (List.getElem?_eq_some_iff.mp h0).1, hs⟩
  · exact ⟨s0, by rw [List.getElem?_set_ne (fun z => e z.symm)]; exact h0, ht⟩
/-- a, b = e1, e2 -/
theorem wS_par {i j : Nat} {tr : TA} (h : wA K H0 tr S fun xs => npar S i j xs N) : wS K H0 (tPar i j tr) S N R B C := fun D σ H g r =>
  h σ H r _ fun vs H' xs e os ⟨d, e', s0, t0, e1, h0, ht, h0', ht', p⟩ => by
    subst e1
    cases os with
    | cons o1 os =>
      cases os with
      | cons o2 os =>
        cases os
        obtain ⟨s1, h1, ht1⟩ := set_isT (i := i) (t := .im d) h0' ht' rfl
        exact ⟨_, _, rfl, g.nx _ H' _ (((r.mono e).setIm h0 ht o1).setIm h1 ht1 o2) p⟩
/-- a, b = e -/
theorem wS_unp {i j : Nat} (h : wE K H0 te S fun x => nunp S i j x N) :
    wS K H0 (tAsg te (gTup K 2 (gCons (gName i) (gCons (gName j) gNil)))) S N R B C := fun D σ H g r =>
  h σ H r _ fun v H' x e o ⟨d, e', s0, t0, e1, h0, ht, h0', ht', p⟩ => by
    subst e1
    cases o with
    | tup hs hd =>
      cases hd with
      | cons o1 os =>
        cases os with
        | cons o2 os =>
          cases os
          obtain ⟨s1, h1, ht1⟩ := set_isT (i := i) (t := .im d) h0' ht' rfl
          exact ⟨_, _, rfl, hs, rfl, _, _, rfl, _, _, rfl, rfl, g.nx _ H' _ (((r.mono e).setIm h0 ht o1).setIm h1 ht1 o2) p⟩
theorem wS_unp3 {i j k : Nat} (h : wE K H0 te S fun x => ∃ d e f s0 t0 u0, x = .im (.tuple [d, e, f]) ∧ S[i]? = some s0 ∧ s0.isT = false ∧ S[j]? = some t0 ∧ t0.isT = false ∧ S[k]? = some u0 ∧ u0.isT = false ∧ N (((S.set i (.im d)).set j (.im e)).set k (.im f))) :
    wS K H0 (tAsg te (gTup K 3 (gCons (gName i) (gCons (gName j) (gCons (gName k) gNil))))) S N R B C := fun D σ H g r =>
  h σ H r _ fun v H' x e o ⟨d, e', f, s0, t0, u0, e1, h0, ht, h0', ht', h0'', ht'', p⟩ => by
    subst e1
    cases o with
    | tup hs hd =>
      cases hd with
      | cons o1 os =>
        cases os with
        | cons o2 os =>
          cases os with
          | cons o3 os =>
            cases os
            obtain ⟨s1, h1, ht1⟩ := set_isT (i := i) (t := .im d) h0' ht' rfl
            obtain ⟨s2, h2, ht2⟩ := set_isT (i := i) (t := .im d) h0'' ht'' rfl
            obtain ⟨s3, h3, ht3⟩ := set_isT (i := j) (t := .im e') h2 ht2 rfl
            exact ⟨_, _, rfl, hs, rfl, _, _, rfl, _, _, rfl, _, _, rfl, rfl, g.nx _ H' _ ((((r.mono e).setIm h0 ht o1).setIm h1 ht1 o2).setIm h3 ht3 o3) p⟩
theorem wS_if (h : wT K H0 c S fun b => if b = true then wS K H0 t S N R B C else wS K H0 u S N R B C) : wS K H0 (tIfS c t u) S N R B C := fun D σ H g r => h σ H r _ fun b H' e k => by
  cases b with
  | true => exact k D σ H' g (r.mono e)
  | false => exact k D σ H' g (r.mono e)
/-- x += e -/
theorem wS_aug {i : Nat} {f : Int → Int → Int} {a : Int} (h0 : S[i]? = some (.im (.int a))) (h : wE K H0 te S fun x => n1 x fun b => N (S.set i (.im (.int (f a b))))) : wS K H0 (tAug i te (ipI f)) S N R B C := fun D σ H g r => by
  obtain ⟨v, e1, q⟩ := r.ok i _ h0
  have ev := im_int q
  subst ev
  exact ⟨_, e1, h σ H r _ fun w H' x e o ⟨b, e2, p⟩ => by
    subst e2
    exact ⟨a, b, rfl, im_int o, g.nx _ H' _ ((r.mono e).setIm h0 rfl (.int _)) p⟩⟩
/-- xs.append(e), xs a list of one's own -/
theorem wS_app {i : Nat} {ds : List PyData} (h0 : S[i]? = some (.own ds)) (hz : ds.length < 100000) (h : wE K H0 te S fun x => N (S.set i (.own (ds ++ [x.it])))) :
    wS K H0 (tDrop (tBM K "list" rAppend (tVar i) (tCons te tNil))) S N R B C := fun D σ H g r => by
  obtain ⟨a, vs, e1, n0, ha, m⟩ := r.ok i _ h0
  refine ⟨_, e1, .inl ⟨rfl, vs, .inl (.inl ha)⟩, h σ H r _ fun w H' x e o p => ?_⟩
  refine ⟨a, vs, w, rfl, rfl, e _ _ ha, ?_, ?_⟩
  · rw [m.len]
    exact Nat.lt_of_lt_of_le hz (by decide)
  · exact g.nx _ _ _ ((r.mono e).chg h0 e1 ((Ims.mono (.of e) _ _ m).append (.cons (o.item (r.mono e)) .nil))) p
/-- xs[k] = e, xs a list of one's own -/
theorem wS_setL {i : Nat} {ds : List PyData} (h0 : S[i]? = some (.own ds)) (h : wE K H0 te S fun x => ∃ d, x = .im d ∧ wE K H0 tb S fun y => ∃ (k : Int) (j : Nat), y = .im (.int k) ∧ ixN ds.length k = some j ∧ N (S.set i (.own (ds.set j d)))) :
    wS K H0 (tAsg te (gSub (tVar i) tb rSetL)) S N R B C := fun D σ H g r => by
  obtain ⟨a, vs, e1, n0, ha, m⟩ := r.ok i _ h0
  refine h σ H r _ fun w H1 x e o ⟨d, e2, h1⟩ => ?_
  subst e2
  refine ⟨_, e1, h1 σ H1 (r.mono e) _ fun z H2 y e' o' ⟨k, j, e3, hk, p⟩ => ?_⟩
  subst e3
  have m2 := Ims.mono (.of (e.trans e')) _ _ m
  refine ⟨a, vs, k, j, rfl, im_int o', (e.trans e') _ _ ha, by rw [m.len]; exact hk, ?_⟩
  exact g.nx _ _ _ ((r.mono (e.trans e')).chg h0 e1 (Ims.set (Im.mono (.of e') _ _ o) j m2)) p

/-! ### loops -/
theorem wS_while {α : Type} (f : α → List Sl) (I : α → Prop) (μ : α → Nat) (x0 : α) (w0 : Wk S (f x0)) (i0 : I x0)
    (hs : ∀ x, I x → wT K H0 c (f x) fun b => if b = true then wS K H0 t (f x) (fun S' => ∃ y, Wk S' (f y) ∧ I y ∧ μ y < μ x) R N (fun S' => ∃ y, Wk S' (f y) ∧ I y ∧ μ y < μ x) else N (f x)) : wS K H0 (tWhile c t) S N R B C := fun D σ H g r => by
  refine ⟨fun m σ H => ∃ x, m = μ x ∧ I x ∧ SR K H0 H σ (f x), ⟨_, x0, rfl, i0, r.weak w0⟩, ?_⟩
  rintro m σ H ⟨x, rfl, ix, rx⟩
  refine hs x ix σ H rx _ fun b H' e k => ?_
  cases b with
  | true =>
    have nxt : ∀ σ' H' S', SR K H0 H' σ' S' → (∃ y, Wk S' (f y) ∧ I y ∧ μ y < μ x) → ∃ m', m' < μ x ∧ ∃ x', m' = μ x' ∧ I x' ∧ SR K H0 H' σ' (f x') := fun σ' H' S' r' ⟨y, w, iy, l⟩ => ⟨μ y, l, y, rfl, iy, r'.weak w⟩
    refine iteT ⟨fun σ' H' => ∃ m', m' < μ x ∧ ∃ x', m' = μ x' ∧ I x' ∧ SR K H0 H' σ' (f x'), fun _ _ q => q, ?_⟩
    exact k _ σ H' ⟨nxt, g.rt, g.nx, nxt⟩ (rx.mono e)
  | false => exact iteF (g.nx σ H' _ (rx.mono e) k)
theorem wS_for1 {tr : TA} {i : Nat} (h : wA K H0 tr S fun xs => ∃ (n : Int), xs = [.im (.int n)] ∧ n ≤ 1000000 ∧ -1000000 ≤ n ∧ ∃ (α : Type) (f : α → List Sl) (I : Nat → α → Prop) (x0 : α), Wk S (f x0) ∧ I 0 x0 ∧
      (∀ (k : Nat) x, (k : Int) < n → I k x → ∃ s0, (f x)[i]? = some s0 ∧ s0.isT = false ∧ wS K H0 t ((f x).set i (.im (.int k))) (fun S' => ∃ y, Wk S' (f y) ∧ I (k + 1) y) R N (fun S' => ∃ y, Wk S' (f y) ∧ I (k + 1) y)) ∧
      (∀ x, I n.toNat x → N (f x))) : wS K H0 (tFor (iRng1 tr) (gName i) t) S N R B C := fun D σ H g r => h σ H r _ fun vs H1 xs e os ⟨n, e1, n1, n2, α, f, I, x0, w0, i0, hs, hd⟩ => by
  subst e1
  cases os with
  | cons o os =>
    cases os
    have ev := im_int o
    subst ev
    refine ⟨n, rfl, by omega, by omega, for_range (lo := 0) (n := n.toNat) (fun k σ H => ∃ x, I k x ∧ SR K H0 H σ (f x)) ⟨x0, i0, (r.mono e).weak w0⟩ ?_ ?_⟩
    · rintro k σ' H' hk ⟨x, ik, rx⟩
      obtain ⟨s0, h0, ht, q⟩ := hs k x (by omega) ik
      have e0 : (0 : Int) + (k : Int) = (k : Int) := Int.zero_add _
      show t _ (σ'.set i (some (.int ((0 : Int) + (k : Int))))) H'
      rw [e0]
      refine q _ _ _ ⟨?_, g.rt, g.nx, ?_⟩ (rx.setIm h0 ht (.int _))
      · exact fun σ2 H2 S' r' ⟨y, w, iy⟩ => ⟨y, iy, r'.weak w⟩
      · exact fun σ2 H2 S' r' ⟨y, w, iy⟩ => ⟨y, iy, r'.weak w⟩
    · rintro σ' H' ⟨x, ik, rx⟩
      exact g.nx _ _ _ rx (hd x ik)
theorem wS_for2 {tr : TA} {i : Nat} (h : wA K H0 tr S fun xs => ∃ (lo n : Int), xs = [.im (.int lo), .im (.int n)] ∧ lo ≤ 1000000 ∧ -1000000 ≤ lo ∧ n ≤ 1000000 ∧ -1000000 ≤ n ∧ ∃ (α : Type) (f : α → List Sl) (I : Nat → α → Prop) (x0 : α), Wk S (f x0) ∧ I 0 x0 ∧
      (∀ (k : Nat) x, lo + (k : Int) < n → I k x → ∃ s0, (f x)[i]? = some s0 ∧ s0.isT = false ∧ wS K H0 t ((f x).set i (.im (.int (lo + k)))) (fun S' => ∃ y, Wk S' (f y) ∧ I (k + 1) y) R N (fun S' => ∃ y, Wk S' (f y) ∧ I (k + 1) y)) ∧
      (∀ x, I (n - lo).toNat x → N (f x))) : wS K H0 (tFor (iRng2 tr) (gName i) t) S N R B C := fun D σ H g r => h σ H r _ fun vs H1 xs e os ⟨lo, n, e1, n1, n2, n3, n4, α, f, I, x0, w0, i0, hs, hd⟩ => by
  subst e1
  cases os with
  | cons o os =>
    cases os with
    | cons o2 os =>
      cases os
      have ev := im_int o
      subst ev
      have ev := im_int o2
      subst ev
      refine ⟨lo, n, rfl, ⟨by omega, by omega, by omega, by omega⟩, for_range (lo := lo) (n := (n - lo).toNat) (fun k σ H => ∃ x, I k x ∧ SR K H0 H σ (f x)) ⟨x0, i0, (r.mono e).weak w0⟩ ?_ ?_⟩
      · rintro k σ' H' hk ⟨x, ik, rx⟩
        obtain ⟨s0, h0, ht, q⟩ := hs k x (by omega) ik
        refine q _ _ _ ⟨?_, g.rt, g.nx, ?_⟩ (rx.setIm h0 ht (.int _))
        · exact fun σ2 H2 S' r' ⟨y, w, iy⟩ => ⟨y, iy, r'.weak w⟩
        · exact fun σ2 H2 S' r' ⟨y, w, iy⟩ => ⟨y, iy, r'.weak w⟩
      · rintro σ' H' ⟨x, ik, rx⟩
        exact g.nx _ _ _ rx (hd x ik)
/-- a walk over data: from each letter, at each item, the body brings the next -/
def Walks (K : PySem.W.Frag) (H0 : Hp) (t : TS) (S : List Sl) (N : List Sl → Prop) (R : Sl → Prop) (i : Nat) (T : List Sl) (ds : List PyData) : Prop :=
  ∃ (α : Type) (f : α → List Sl) (I : Nat → α → Prop) (x0 : α), Wk S (f x0) ∧ S.length = (f x0).length ∧ I 0 x0 ∧
    (∀ (k : Nat) d x, ds[k]? = some d → I k x → ∃ s0, (f x ++ T)[i]? = some s0 ∧ s0.isT = false ∧ wS K H0 t ((f x ++ T).set i (.im d)) (fun S' => ∃ y, Wk S' (f y ++ T) ∧ I (k + 1) y) R (fun S' => ∃ y, Wk S' (f y ++ T) ∧ N (f y)) (fun S' => ∃ y, Wk S' (f y ++ T) ∧ I (k + 1) y)) ∧
    (∀ x, I ds.length x → N (f x))
theorem walk_step {α : Type} {f : α → List Sl} {I : Nat → α → Prop} {T : List Sl} {D : Ends} {k i : Nat} {x : α} {d : PyData} {v : V} {σ : L2.St} {H : Hp} (g : Gd K H0 D N R B C)
    (h : ∃ s0, (f x ++ T)[i]? = some s0 ∧ s0.isT = false ∧ wS K H0 t ((f x ++ T).set i (.im d)) (fun S' => ∃ y, Wk S' (f y ++ T) ∧ I (k + 1) y) R (fun S' => ∃ y, Wk S' (f y ++ T) ∧ N (f y)) (fun S' => ∃ y, Wk S' (f y ++ T) ∧ I (k + 1) y)) (r : SR K H0 H σ (f x ++ T)) (m : Im K H v d) :
    gName i v σ H fun σ2 H2 => t { D with nx := fun σ H => ∃ y, I (k + 1) y ∧ SR K H0 H σ (f y ++ T), ct := fun σ H => ∃ y, I (k + 1) y ∧ SR K H0 H σ (f y ++ T), bk := D.nx } σ2 H2 := by
  obtain ⟨s0, h0, ht, q⟩ := h
  refine q _ _ _ ⟨?_, g.rt, ?_, ?_⟩ (r.setIm h0 ht m)
  · exact fun σ2 H2 S' r' ⟨y, w, iy⟩ => ⟨y, iy, r'.weak w⟩
  · exact fun σ2 H2 S' r' ⟨y, w, p⟩ => g.nx _ _ _ ((r'.weak w).weak Wk.app) p
  · exact fun σ2 H2 S' r' ⟨y, w, iy⟩ => ⟨y, iy, r'.weak w⟩
theorem last_push (S : List Sl) (t : Sl) : (S ++ [t])[S.length]? = some t := by simp
/-- over a list that stood at the entry -/
theorem wS_forB {tl : TE} {i : Nat} (h : wE K H0 tl S fun x => ∃ ds, x = .bor ds ∧ ∀ a vs, Walks K H0 t S N R i [.tmb a vs ds] ds) : wS K H0 (tFor (iList K tl) (gName i) t) S N R B C := fun D σ H g r => h σ H r _ fun v H1 xv e o ⟨ds, e1, h2⟩ => by
  subst e1
  obtain ⟨a, vs, rfl, hl, m⟩ := o
  obtain ⟨α, f, I, x0, w0, l0, i0, hs, hd⟩ := h2 a vs
  refine ⟨a, rfl, ⟨vs, sql_same (r.ex.trans e) hl⟩, for_list (xs := vs) (fun k σ H => ∃ x, I k x ∧ SR K H0 H σ (f x ++ [.tmb a vs ds])) ⟨x0, i0, ((r.mono e).pushB hl m).weak (Wk.push l0 w0)⟩ ?_ ?_ ?_⟩
  · rintro k σ' H' _ ⟨x, _, rx⟩
    exact sql_same rx.ex hl
  · rintro k y σ' H' hk ⟨x, ik, rx⟩
    obtain ⟨_, z⟩ := rx.ok _ _ (last_push _ _)
    obtain ⟨d, hd', md⟩ := z.get' hk
    exact walk_step g (hs k d x hd' ik) rx md
  · rintro σ' H' ⟨x, ik, rx⟩
    rw [m.len] at ik
    exact g.nx _ _ _ (rx.weak Wk.app) (hd x ik)
/-- over a tuple -/
theorem wS_forT {tl : TE} {i : Nat} (h : wE K H0 tl S fun x => ∃ ds, x = .im (.tuple ds) ∧ ∀ a vs, Walks K H0 t S N R i [.tmt a vs ds] ds) : wS K H0 (tFor (iTup K tl) (gName i) t) S N R B C := fun D σ H g r => h σ H r _ fun v H1 xv e o ⟨ds, e1, h2⟩ => by
  subst e1
  cases o with
  | @tup a vs _ hl m =>
    obtain ⟨α, f, I, x0, w0, l0, i0, hs, hd⟩ := h2 a vs
    refine ⟨a, rfl, ⟨vs, hl⟩, for_tup (xs := vs) (fun k σ H => ∃ x, I k x ∧ SR K H0 H σ (f x ++ [.tmt a vs ds])) ⟨x0, i0, ((r.mono e).pushT hl m).weak (Wk.push l0 w0)⟩ ?_ ?_ ?_⟩
    · rintro k σ' H' _ ⟨x, _, rx⟩
      exact (rx.ok _ _ (last_push _ _)).1
    · rintro k y σ' H' hk ⟨x, ik, rx⟩
      obtain ⟨_, z⟩ := rx.ok _ _ (last_push _ _)
      obtain ⟨d, hd', md⟩ := z.get' hk
      exact walk_step g (hs k d x hd' ik) rx md
    · rintro σ' H' ⟨x, ik, rx⟩
      rw [m.len] at ik
      exact g.nx _ _ _ (rx.weak Wk.app) (hd x ik)
/-- over a new list -/
theorem wS_forN {tl : TE} {i : Nat} (h : wE K H0 tl S fun x => ∃ ds, x = .new ds ∧ ∀ a vs, Walks K H0 t S N R i [.tmp a vs ds] ds) : wS K H0 (tFor (iList K tl) (gName i) t) S N R B C := fun D σ H g r => h σ H r _ fun v H1 xv e o ⟨ds, e1, h2⟩ => by
  subst e1
  obtain ⟨a, vs, rfl, na, hl, m⟩ := o
  obtain ⟨α, f, I, x0, w0, l0, i0, hs, hd⟩ := h2 a vs
  refine ⟨a, rfl, ⟨vs, .inl (.inl hl)⟩, for_list (xs := vs) (fun k σ H => ∃ x, I k x ∧ SR K H0 H σ (f x ++ [.tmp a vs ds])) ⟨x0, i0, (r.push e na hl m).weak (Wk.push l0 w0)⟩ ?_ ?_ ?_⟩
  · rintro k σ' H' _ ⟨x, _, rx⟩
    exact .inl (.inl (rx.ok _ _ (last_push _ _)).2.1)
  · rintro k y σ' H' hk ⟨x, ik, rx⟩
    obtain ⟨d, hd', md⟩ := (rx.ok _ _ (last_push _ _)).2.2.get' hk
    exact walk_step g (hs k d x hd' ik) rx md
  · rintro σ' H' ⟨x, ik, rx⟩
    rw [m.len] at ik
    exact g.nx _ _ _ (rx.weak Wk.app) (hd x ik)
/-- over the list of one's own at the name j, which the body leaves -/
theorem wS_forO {i j : Nat} {ds : List PyData} (h0 : S[j]? = some (.own ds)) (h : ∀ a vs, ∃ (α : Type) (f : α → List Sl) (I : Nat → α → Prop) (x0 : α), Wk (S.set j (.hld a vs ds)) (f x0) ∧ I 0 x0 ∧ (∀ x, (f x)[j]? = some (.hld a vs ds)) ∧
    (∀ (k : Nat) d x, ds[k]? = some d → I k x → ∃ s0, (f x)[i]? = some s0 ∧ s0.isT = false ∧ wS K H0 t ((f x).set i (.im d)) (fun S' => ∃ y, Wk S' (f y) ∧ I (k + 1) y) R (fun S' => S'[j]? = some (.hld a vs ds) ∧ N (S'.set j (.own ds))) (fun S' => ∃ y, Wk S' (f y) ∧ I (k + 1) y)) ∧
    (∀ x, I ds.length x → N ((f x).set j (.own ds)))) : wS K H0 (tFor (iList K (tVar j)) (gName i) t) S N R B C := fun D σ H g r => by
  obtain ⟨a, vs, e1, n0, ha, m⟩ := r.ok j _ h0
  obtain ⟨α, f, I, x0, w0, i0, hj, hs, hd⟩ := h a vs
  refine ⟨_, e1, a, rfl, ⟨vs, .inl (.inl ha)⟩, for_list (xs := vs) (fun k σ H => ∃ x, I k x ∧ SR K H0 H σ (f x)) ⟨x0, i0, (r.hold h0 e1 ha).weak w0⟩ ?_ ?_ ?_⟩
  · rintro k σ' H' _ ⟨x, _, rx⟩
    exact .inl (.inl (rx.ok _ _ (hj x)).2.2.1)
  · rintro k y σ' H' hk ⟨x, ik, rx⟩
    obtain ⟨d, hd', md⟩ := (rx.ok _ _ (hj x)).2.2.2.get' hk
    obtain ⟨s0, hi, ht, q⟩ := hs k d x hd' ik
    refine q _ _ _ ⟨?_, g.rt, ?_, ?_⟩ (rx.setIm hi ht md)
    · exact fun σ2 H2 S' r' ⟨y, w, iy⟩ => ⟨y, iy, r'.weak w⟩
    · exact fun σ2 H2 S' r' ⟨q1, q2⟩ => g.nx _ _ _ (r'.unhold q1) q2
    · exact fun σ2 H2 S' r' ⟨y, w, iy⟩ => ⟨y, iy, r'.weak w⟩
  · rintro σ' H' ⟨x, ik, rx⟩
    rw [m.len] at ik
    exact g.nx _ _ _ (rx.unhold (hj x)) (hd x ik)
/-- over a text, sign by sign -/
theorem wS_forS {tl : TE} {i : Nat} (h : wE K H0 tl S fun x => ∃ z : Str, x = .im (.str z) ∧ ∃ (α : Type) (f : α → List Sl) (I : Nat → α → Prop) (x0 : α), Wk S (f x0) ∧ I 0 x0 ∧
    (∀ (k : Nat) c x, z.cps[k]? = some c → I k x → ∃ s0, (f x)[i]? = some s0 ∧ s0.isT = false ∧ wS K H0 t ((f x).set i (.im (.str ⟨#[c]⟩))) (fun S' => ∃ y, Wk S' (f y) ∧ I (k + 1) y) R N (fun S' => ∃ y, Wk S' (f y) ∧ I (k + 1) y)) ∧
    (∀ x, I z.cps.size x → N (f x))) : wS K H0 (tFor (iStr tl) (gName i) t) S N R B C := fun D σ H g r => h σ H r _ fun v H1 xv e o ⟨z, e1, α, f, I, x0, w0, i0, hs, hd⟩ => by
  subst e1
  have ev := im_str o
  subst ev
  refine ⟨z, rfl, fun k m σ H => m = z.cps.size - k ∧ k ≤ z.cps.size ∧ ∃ x, I k x ∧ SR K H0 H σ (f x), ⟨_, rfl, Nat.zero_le _, x0, i0, (r.mono e).weak w0⟩, ?_⟩
  rintro k m σ' H' ⟨rfl, hk, x, ik, rx⟩
  by_cases hlt : k < z.cps.size
  · refine .inr ⟨hlt, fun σ H => ∃ x, I (k + 1) x ∧ SR K H0 H σ (f x), fun σ2 H2 q => ⟨z.cps.size - (k + 1), by omega, rfl, hlt, q⟩, fun y H2 q => ?_⟩
    obtain ⟨e2, c, hc, ec⟩ := q
    subst e2 ec
    obtain ⟨s0, hi, ht, q⟩ := hs k c x hc ik
    refine q _ _ _ ⟨?_, g.rt, g.nx, ?_⟩ (rx.setIm hi ht (.str _))
    · exact fun σ2 H2 S' r' ⟨y, w, iy⟩ => ⟨y, iy, r'.weak w⟩
    · exact fun σ2 H2 S' r' ⟨y, w, iy⟩ => ⟨y, iy, r'.weak w⟩
  · have ek : k = z.cps.size := by omega
    subst ek
    exact .inl ⟨Nat.le_refl _, g.nx _ _ _ rx (hd x ik)⟩
end
end Z

namespace Z
open PySem PySem.Spec L2

/-! ### what a def promises -/
def AOk (K : PySem.W.Frag) (H : Hp) (v : V) : Sl → Prop
  | .im d => Im K H v d
  | .bor ds => ∃ a vs, v = .ref a ∧ SqL K H a vs ∧ Ims K H vs ds
  | _ => False
inductive AOks (K : PySem.W.Frag) (H : Hp) : List V → List Sl → Prop
  | nil : AOks K H [] []
  | cons {v : V} {vs : List V} {s : Sl} {ss : List Sl} : AOk K H v s → AOks K H vs ss → AOks K H (v :: vs) (s :: ss)
/-- from arguments of the shape args g, where pre g holds, an answer of which post g holds, or an error of a class C with exc g C -/
def SpD (K : PySem.W.Frag) {α : Type} (args : α → List Sl) (pre : α → Prop) (post : α → Sl → Prop) (exc : α → Addr → Prop) : Sp := fun vs H Q E =>
  ∃ g, AOks K H vs (args g) ∧ pre g ∧ (∀ v H' r, Same H H' → ROk K H H' v r → post g r → Q v H') ∧ ∀ C H', Same H H' → exc g C → E (.ref C) none H'
abbrev noX {α : Type} : α → Addr → Prop := fun _ _ => False
section
variable {K : PySem.W.Frag} {H0 : Hp} {S : List Sl} {ta tb te : TE} {t u : TS} {c : TT} {P : Xd → Prop}
theorem AOks.len {H : Hp} : ∀ {vs : List V} {ss : List Sl}, AOks K H vs ss → vs.length = ss.length
  | _, _, .nil => rfl
  | _, _, .cons _ r => by rw [List.length_cons, List.length_cons, r.len]
theorem SpD.len {α : Type} {args : α → List Sl} {pre : α → Prop} {post : α → Sl → Prop} {exc : α → Addr → Prop} {n : Nat} (h : ∀ g, (args g).length = n) : ∀ vs H Q E, SpD K args pre post exc vs H Q E → vs.length = n := fun vs H Q E ⟨g, a, _⟩ => by rw [a.len, h g]
/-- the arguments stand in the first places -/
theorem AOks.start {H : Hp} : ∀ {vs : List V} {ss : List Sl} (n : Nat), AOks K H vs ss → SR K H H (vs.map some ++ List.replicate n none) (ss ++ List.replicate n .un) := fun {vs ss} n h => by
  have hl := h.len
  have at0 : ∀ {vs : List V} {ss : List Sl} {i : Nat} {s : Sl}, AOks K H vs ss → ss[i]? = some s → ∃ v, vs[i]? = some v ∧ AOk K H v s := by
    intro vs ss i s h
    induction h generalizing i with
    | nil => intro e; simp at e
    | cons h r ih =>
      intro e
      cases i with
      | zero =>
        simp at e
        subst e
        exact ⟨_, rfl, h⟩
      | succ i =>
        obtain ⟨v, hv, q⟩ := ih (by simpa using e)
        exact ⟨v, by simpa using hv, q⟩
  have look : ∀ {i : Nat} {s : Sl}, (ss ++ List.replicate n Sl.un)[i]? = some s → (∃ v, (vs.map some ++ List.replicate n none)[i]? = some (some v) ∧ AOk K H v s) ∨ (s = .un ∧ i < vs.length + n) := fun {i s} q => by
    by_cases hi : i < ss.length
    · rw [List.getElem?_append_left hi] at q
      obtain ⟨v, hv, z⟩ := at0 h q
      refine .inl ⟨v, ?_, z⟩
      rw [List.getElem?_append_left (by rw [List.length_map, hl]; exact hi), List.getElem?_map, hv]
      rfl
    · have hi' : ss.length ≤ i := Nat.le_of_not_lt hi
      rw [List.getElem?_append_right hi', List.getElem?_replicate] at q
      split at q
      · cases q
        exact .inr ⟨rfl, by omega⟩
      · cases q
  refine ⟨.refl H, fun i s q z => ?_, fun i s q => ?_, fun i j s t a hij hi hj ai aj => ?_⟩
  · have := (List.getElem?_eq_some_iff.mp q).1
    simp at this ⊢
    omega
  · rcases look q with ⟨v, hv, z⟩ | ⟨z, _⟩
    · rw [hv]
      cases s with
      | im d => exact ⟨v, rfl, z⟩
      | bor ds =>
        obtain ⟨a, us, e, z1, z2⟩ := z
        subst e
        exact ⟨a, us, rfl, z1, z2⟩
      | un => trivial
      | own _ => exact z.elim
      | hld _ _ _ => exact z.elim
      | tmp _ _ _ => exact z.elim
      | tmb _ _ _ => exact z.elim
      | tmt _ _ _ => exact z.elim
    · subst z
      trivial
  · rcases look hi with ⟨v, hv, z⟩ | ⟨z, _⟩
    · cases s with
      | own _ => exact z.elim
      | hld _ _ _ => exact z.elim
      | tmp _ _ _ => exact z.elim
      | _ => exact ai
    · subst z
      exact ai
/-- a body keeps its promise -/
theorem entry {α : Type} {args : α → List Sl} {pre : α → Prop} {post : α → Sl → Prop} {exc : α → Addr → Prop} {vs : List V} {H : Hp} {Q : VK} {E : XK} {N : List Str} {U : List Sl} (hU : ∀ g, List.replicate (N.length - (args g).length) Sl.un = U) (h : SpD K args pre post exc vs H Q E)
    (body : ∀ g, pre g → (∀ C H', Same H H' → exc g C → E (.ref C) none H') → wS K H t (args g ++ U) (fun _ => post g (.im .none)) (post g) (fun _ => False) (fun _ => False)) :
    t { nx := fun _ H' => Q .non H', rt := Q } (start N vs) H := by
  obtain ⟨g, a, p, k, x⟩ := h
  have s0 := a.start (N.length - (args g).length)
  rw [← a.len] at s0
  have b := body g p x
  rw [← hU g, ← a.len] at b
  refine b _ _ H ⟨fun σ H' S' r q => k _ _ (.im .none) r.ex .non q, fun v H' r e o q => k v H' r e o q, fun _ _ _ _ q => q.elim, fun _ _ _ _ q => q.elim⟩ s0
/-- an answer of a call -/
@[reducible] def Sl.x : Sl → Xd
  | .im d => .im d
  | .own ds => .new ds
  | _ => .im .none
theorem ROk.x {H H' : Hp} {σ : L2.St} {v : V} : ∀ {r : Sl}, ROk K H H' v r → XOk K H0 H H' σ S v r.x
  | .im d, h => h
  | .own ds, h => h
  | .un, h => h.elim
  | .bor _, h => h.elim
  | .hld _ _ _, h => h.elim
  | .tmp _ _ _, h => h.elim
  | .tmb _ _ _, h => h.elim
  | .tmt _ _ _, h => h.elim
theorem XOk.arg {H H' : Hp} {σ : L2.St} {v : V} (r : SR K H0 H' σ S) : ∀ {x : Xd}, XOk K H0 H H' σ S v x → AOk K H' v x.sl
  | .im d, h => h
  | .bor ds, h => XOk.lst r h (rfl : (Xd.bor ds).ls = some ds)
  | .at i ds, h => XOk.lst r h (rfl : (Xd.at i ds).ls = some ds)
  | .new ds, h => XOk.lst r h (rfl : (Xd.new ds).ls = some ds)
theorem XOks.args {H H' : Hp} {σ : L2.St} (r : SR K H0 H' σ S) : ∀ {vs : List V} {xs : List Xd}, XOks K H0 H H' σ S vs xs → AOks K H' vs (xs.map Xd.sl)
  | _, _, .nil => .nil
  | _, _, .cons h t => .cons (h.arg r) (XOks.args r t)
/-- a call: the letters, that they fit, and what follows of the answer -/
def cal {α : Type} (xs : List Xd) (args : α → List Sl) (pre : α → Prop) (post : α → Sl → Prop) (exc : α → Addr → Prop) (P : Xd → Prop) : Prop := ∃ g, xs.map Xd.sl = args g ∧ pre g ∧ (∀ C, ¬ exc g C) ∧ ∀ r, post g r → P r.x
theorem wE_call {α : Type} {args : α → List Sl} {pre : α → Prop} {post : α → Sl → Prop} {exc : α → Addr → Prop} {E : XK} {tr : TA}
    (h : wA K H0 tr S fun xs => cal xs args pre post exc P) : wE K H0 (tCall (SpD K args pre post exc) [] E tr) S P := fun σ H s Q q => h σ H s _ fun vs H1 xs e os ⟨g, e1, p, nx, k⟩ => by
  refine ⟨g, ?_, p, fun v H' r e2 o z => q v H' r.x (e.trans e2) (ROk.x o |>.pre e) (k r z), fun C H' _ z => (nx C z).elim⟩
  rw [List.append_nil, ← e1]
  exact os.args (s.mono e)
/-- a call that may raise, in a def that may -/
theorem wE_callX {α : Type} {args : α → List Sl} {pre : α → Prop} {post : α → Sl → Prop} {exc : α → Addr → Prop} {E : L2.St → XK} {tr : TA}
    (h : wA K H0 tr S fun xs => ∃ g, xs.map Xd.sl = args g ∧ pre g ∧ (∀ σ C H', Same H0 H' → exc g C → E σ (.ref C) none H') ∧ ∀ r, post g r → P r.x) : wE K H0 (tCallS (SpD K args pre post exc) E tr) S P := fun σ H s Q q => h σ H s _ fun vs H1 xs e os ⟨g, e1, p, nx, k⟩ => by
  refine ⟨g, ?_, p, fun v H' r e2 o z => q v H' r.x (e.trans e2) (ROk.x o |>.pre e) (k r z), fun C H' e2 z => nx σ C H' ((s.ex.trans e).trans e2) z⟩
  rw [← e1]
  exact os.args (s.mono e)
/-- a call without arguments -/
theorem wE_call0 {α : Type} {args : α → List Sl} {pre : α → Prop} {post : α → Sl → Prop} {exc : α → Addr → Prop} {E : XK} {te : TE} (he : ∀ σ H Q, SpD K args pre post exc [] H Q E → te σ H Q)
    (h : ∃ g, args g = [] ∧ pre g ∧ (∀ C, ¬ exc g C) ∧ ∀ r, post g r → P r.x) : wE K H0 te S P := fun σ H s Q q => by
  obtain ⟨g, e1, p, nx, k⟩ := h
  refine he σ H Q ⟨g, ?_, p, fun v H' r e2 o z => q v H' r.x e2 (ROk.x o) (k r z), fun C H' _ z => (nx C z).elim⟩
  rw [e1]
  exact .nil

/-! ### built-ins -/
abbrev rLen' (K : PySem.W.Frag) : List V → Hp → VK → Prop := fun xs H Q => ∃ x n, xs = [x] ∧ LenV K x H n ∧ Q (.int n) H
/-- the length: of a list, of a tuple, of a text -/
def Xd.len : Xd → Option Nat
  | .im (.tuple ds) => some ds.length
  | .im (.str z) => if z.length ≤ sizeLine then some z.length else none
  | .im _ => none
  | .bor ds => some ds.length
  | .at _ ds => some ds.length
  | .new ds => some ds.length
def nlen (x : Xd) (k : Nat → Prop) : Prop := ∃ n, x.len = some n ∧ k n
theorem nlen_mk {x : Xd} {n : Nat} {k : Nat → Prop} (e : x.len = some n) (h : k n) : nlen x k := ⟨n, e, h⟩
theorem wE_len (h : wE K H0 te S fun x => nlen x fun n => P (.im (.int n))) : wE K H0 (tCB (rLen' K) (tCons te tNil)) S P := fun σ H s Q q => h σ H s _ fun v H1 x e o ⟨n, e1, p⟩ => by
  refine ⟨v, n, rfl, ?_, q _ _ (.im _) e (.int _) p⟩
  have r := s.mono e
  have lst : ∀ {ds : List PyData}, x.ls = some ds → n = ds.length → LenV K v H1 n := fun {ds} k z => by
    obtain ⟨a, vs, rfl, m, t⟩ := o.lst r k
    exact .inl ⟨vs, m, by rw [t.len, z]⟩
  cases x with
  | bor ds => exact lst rfl (Option.some.inj e1).symm
  | «at» i ds => exact lst rfl (Option.some.inj e1).symm
  | new ds => exact lst rfl (Option.some.inj e1).symm
  | im d =>
    cases d with
    | tuple ds =>
      cases o with
      | tup hs hd => exact .inr ⟨_, hs, by rw [hd.len]; exact (Option.some.inj e1).symm⟩
    | str z =>
      have ev := im_str o
      subst ev
      have e2 : (if z.length ≤ sizeLine then some z.length else none) = some n := e1
      split at e2
      · rename_i hz
        exact ⟨hz, (Option.some.inj e2).symm⟩
      · cases e2
    | _ => cases e1
abbrev rAbs' : List V → Hp → VK → Prop := fun xs H Q => ∃ i, xs = [.int i] ∧ Q (.int (if i < 0 then -i else i)) H
theorem wE_abs (h : wE K H0 te S fun x => n1 x fun i => P (.im (.int (if i < 0 then -i else i)))) : wE K H0 (tCB rAbs' (tCons te tNil)) S P := fun σ H s Q q => h σ H s _ fun v H1 x e o ⟨n, e1, p⟩ => by
  subst e1
  have ev := im_int o
  subst ev
  exact ⟨n, rfl, q _ _ (.im _) e (.int _) p⟩
abbrev rTwo' (f : Int → Int → Int) : List V → Hp → VK → Prop := fun xs H Q => ∃ i j, xs = [.int i, .int j] ∧ Q (.int (f i j)) H
theorem wE_max2 (h : wE K H0 ta S fun x => wE K H0 tb S fun y => n2 x y fun i j => P (.im (.int (max i j)))) : wE K H0 (tCB (fun xs H Q => ∃ i j, xs = [.int i, .int j] ∧ Q (.int (if j > i then j else i)) H) (tCons ta (tCons tb tNil))) S P :=
  fun σ H s Q q => h σ H s _ fun v H1 x e o h1 => h1 σ H1 (s.mono e) _ fun w H2 y e2 o2 ⟨i, j, e3, e4, p⟩ => by
    dsimp only at p
    subst e3 e4
    have ev := im_int o
    subst ev
    have ev := im_int o2
    subst ev
    have em : (if j > i then j else i) = max i j := by split <;> omega
    rw [← em] at p
    exact ⟨i, j, rfl, q _ _ (.im _) (e.trans e2) (.int _) p⟩
theorem wE_min2 (h : wE K H0 ta S fun x => wE K H0 tb S fun y => n2 x y fun i j => P (.im (.int (min i j)))) : wE K H0 (tCB (fun xs H Q => ∃ i j, xs = [.int i, .int j] ∧ Q (.int (if j < i then j else i)) H) (tCons ta (tCons tb tNil))) S P :=
  fun σ H s Q q => h σ H s _ fun v H1 x e o h1 => h1 σ H1 (s.mono e) _ fun w H2 y e2 o2 ⟨i, j, e3, e4, p⟩ => by
    dsimp only at p
    subst e3 e4
    have ev := im_int o
    subst ev
    have ev := im_int o2
    subst ev
    have em : (if j < i then j else i) = min i j := by split <;> omega
    rw [← em] at p
    exact ⟨i, j, rfl, q _ _ (.im _) (e.trans e2) (.int _) p⟩
/-- the greatest common divisor -/
abbrev gc (u l : Int) : Int := (Int.gcd u l : Nat)
/-- gcd -/
theorem wE_gcd (h : wE K H0 ta S fun x => wE K H0 tb S fun y => n2 x y fun i j => P (.im (.int (gc i j)))) : wE K H0 (tCB rGcd (tCons ta (tCons tb tNil))) S P :=
  fun σ H s Q q => h σ H s _ fun v H1 x e o h1 => h1 σ H1 (s.mono e) _ fun w H2 y e2 o2 ⟨i, j, e3, e4, p⟩ => by
    subst e3 e4
    have ev := im_int o
    subst ev
    have ev := im_int o2
    subst ev
    exact ⟨i, j, rfl, q _ _ (.im _) (e.trans e2) (.int _) p⟩
/-- isinstance(x, T), T a built-in class -/
def tyD : PyData → String
  | .none => "NoneType"
  | .bool _ => "bool"
  | .int _ => "int"
  | .str _ => "str"
  | .list _ => "list"
  | .tuple _ => "tuple"
  | .dict _ => "dict"
def Xd.ty : Xd → String
  | .im d => tyD d
  | _ => "list"
theorem sql_ty {H : Hp} {a : Addr} {xs : List V} (h : SqL K H a xs) : TyX K H (.ref a) (.type "list") := by
  rcases h with (h | ⟨o, h⟩) | ⟨o, _, _, h, c, _⟩
  · exact .base (.lst h)
  · exact .base (.frz h)
  · exact .kList h c
theorem sqt_ty {H : Hp} {a : Addr} {xs : List V} (h : SqT K H a xs) : TyX K H (.ref a) (.type "tuple") := by
  rcases h with (h | ⟨o, h⟩) | ⟨o, _, _, h, c, _⟩
  · exact .base (.tup h)
  · exact .fTuple h
  · exact .kTuple h c
theorem im_ty {H : Hp} {v : V} : ∀ {d : PyData}, Im K H v d → TyX K H v (.type (tyD d))
  | .none, h => by cases h; exact .base .non
  | .bool b, h => by cases h; exact .base (.bl b)
  | .int b, h => by cases h; exact .base (.int b)
  | .str b, h => by cases h; exact .base (.str b)
  | .list _, h => by
    cases h with
    | anyL h =>
      obtain ⟨xs, h⟩ := h
      exact sql_ty h
  | .dict _, h => by
    cases h with
    | anyD h =>
      obtain ⟨xs, h⟩ := h
      exact .base (.dK h)
  | .tuple _, h => by
    cases h with
    | tup h _ => exact sqt_ty h
theorem xok_ty {H H' : Hp} {σ : L2.St} {v : V} (r : SR K H0 H' σ S) : ∀ {x : Xd}, XOk K H0 H H' σ S v x → TyX K H' v (.type x.ty)
  | .im d, h => im_ty h
  | .bor ds, h => by
    obtain ⟨a, vs, rfl, m, _⟩ := XOk.lst r h (rfl : (Xd.bor ds).ls = some ds)
    exact sql_ty m
  | .at i ds, h => by
    obtain ⟨a, vs, rfl, m, _⟩ := XOk.lst r h (rfl : (Xd.at i ds).ls = some ds)
    exact sql_ty m
  | .new ds, h => by
    obtain ⟨a, vs, rfl, m, _⟩ := XOk.lst r h (rfl : (Xd.new ds).ls = some ds)
    exact sql_ty m
def nisi (x : Xd) (n : String) (k : Bool → Prop) : Prop := ∃ b, kitB x.ty n = some b ∧ k b
theorem nisi_mk {x : Xd} {n : String} {b : Bool} {k : Bool → Prop} (e : kitB x.ty n = some b) (h : k b) : nisi x n k := ⟨b, e, h⟩
theorem wE_isi {n : String} (h : wE K H0 te S fun x => nisi x n fun b => P (.im (.bool b))) : wE K H0 (tCB (rIsi K) (tCons te (tCons (tC (.ty n)) tNil))) S P := fun σ H s Q q => h σ H s _ fun v H1 x e o ⟨b, e1, p⟩ =>
  ⟨v, .ty n, .type x.ty, .type n, b, rfl, .ty n, xok_ty (s.mono e) o, kit_ty e1, q _ _ (.im _) e (.bl _) p⟩
def nls (x : Xd) (k : List PyData → Prop) : Prop := ∃ ds, x.ls = some ds ∧ k ds
theorem nls_mk {x : Xd} {ds : List PyData} {k : List PyData → Prop} (e : x.ls = some ds) (h : k ds) : nls x k := ⟨ds, e, h⟩
/-- list(xs) -/
theorem wE_listOf (h : wE K H0 te S fun x => nls x fun ds => P (.new ds)) : wE K H0 (tCB (fun xs H Q => ∃ p ys, xs = [.ref p] ∧ (SqL K H p ys ∨ SqT K H p ys) ∧ ∀ l, H l = none → Q (.ref l) (upd H l (.lst ys))) (tCons te tNil)) S P := fun σ H s Q q =>
  h σ H s _ fun v H1 x e o ⟨ds, e1, p⟩ => by
    obtain ⟨a, vs, rfl, m, t⟩ := o.lst (s.mono e) e1
    exact ⟨a, vs, rfl, .inl m, fun l hl => q _ _ (.new ds) (e.trans (same_upd hl)) ⟨l, vs, rfl, free_back e hl, upd_same, Ims.mono (.of (same_upd hl)) _ _ t⟩ p⟩
end
end Z

namespace Z
open PySem PySem.Spec L2 PyProof.Rows

/-! ### sizes -/
/-- the figures of n, base two -/
def lgA : Nat → Nat → Nat
  | 0, _ => 0
  | f + 1, n => if n = 0 then 0 else lgA f (n / 2) + 1
theorem lgA_lt : ∀ (f n : Nat), n < f → n < 2 ^ lgA f n
  | 0, _, h => by omega
  | f + 1, n, h => by
    unfold lgA
    split
    · rename_i e
      subst e
      decide
    · have := lgA_lt f (n / 2) (by omega)
      rw [Nat.pow_succ]
      omega
/-- below 2 ^ k in size -/
class Bd (k : outParam Nat) (i : Int) : Prop where
  abs : i.natAbs < 2 ^ k
section
variable {k l : Nat} {i j : Int}
theorem Bd.mono (h : Bd k i) (hl : k ≤ l) : Bd l i := ⟨Nat.lt_of_lt_of_le h.abs (Nat.pow_le_pow_right (by decide) hl)⟩
theorem Bd.mul (h : Bd k i) (h' : Bd l j) : Bd (k + l) (i * j) := ⟨by
  rw [Int.natAbs_mul, Nat.pow_add]
  exact Nat.mul_lt_mul'' h.abs h'.abs⟩
theorem Bd.add (h : Bd k i) (h' : Bd l j) : Bd (k + l + 1) (i + j) := ⟨by
  have h1 : (i + j).natAbs ≤ i.natAbs + j.natAbs := Int.natAbs_add_le i j
  have h2 : 2 ^ k ≤ 2 ^ (k + l) := Nat.pow_le_pow_right (by decide) (by omega)
  have h3 : 2 ^ l ≤ 2 ^ (k + l) := Nat.pow_le_pow_right (by decide) (by omega)
  have h4 := h.abs
  have h5 := h'.abs
  rw [Nat.pow_succ]
  omega⟩
theorem Bd.neg (h : Bd k i) : Bd k (-i) := ⟨by rw [Int.natAbs_neg]; exact h.abs⟩
theorem Bd.sub (h : Bd k i) (h' : Bd l j) : Bd (k + l + 1) (i - j) := by
  rw [Int.sub_eq_add_neg]
  exact h.add h'.neg
theorem Bd.of (h0 : 0 ≤ i) (h : i < 2 ^ k) : Bd k i := ⟨by
  have e : ((2 ^ k : Nat) : Int) = 2 ^ k := by simp
  omega⟩
theorem Bd.of2 (h0 : - 2 ^ k < i) (h : i < 2 ^ k) : Bd k i := ⟨by
  have e : ((2 ^ k : Nat) : Int) = 2 ^ k := by simp
  omega⟩
theorem Bd.lt (h : Bd k i) : i < 2 ^ k := by
  have e : ((2 ^ k : Nat) : Int) = 2 ^ k := by simp
  have := h.abs
  omega
theorem Bd.le (h : Bd k j) (h0 : 0 ≤ i) (h1 : i ≤ j) : Bd k i := ⟨by have := h.abs; omega⟩
theorem Bd.div (h : Bd k i) (h0 : 0 ≤ i) (h1 : 0 ≤ j) : Bd k (i / j) := h.le (Int.ediv_nonneg h0 h1) (Int.ediv_le_self _ h0)
theorem Bd.bits (h : Bd k i) (hk : k ≤ 2 ^ 20) : Builtin.Int.intBits i ≤ 2 ^ 20 := by
  have h := h.abs
  unfold Builtin.Int.intBits
  by_cases h0 : i = 0
  · simp [h0]
  · have : i.natAbs ≠ 0 := by omega
    have := (Nat.log2_lt this).mpr h
    split <;> omega
theorem Bd.mulOk (h : Bd k i) (h' : Bd l j) (hk : k ≤ 500000) (hl : l ≤ 500000) : IntMulOk i j := IntMulOk.of_bits (h.bits (by omega)) (h'.bits (by omega))
theorem Bd.divOk {i j : Int} (h : Bd k j) (hj : 0 < j) (hk : k ≤ 9000) : CDivW i j := by
  have h := h.abs
  have : j.natAbs ≠ 0 := by omega
  have := (Nat.log2_lt this).mpr h
  exact ⟨hj, by omega⟩
instance Bd.mulI [h : Bd k i] [h' : Bd l j] : Bd (k + l) (i * j) := h.mul h'
instance Bd.addI [h : Bd k i] [h' : Bd l j] : Bd (k + l + 1) (i + j) := h.add h'
instance Bd.subI [h : Bd k i] [h' : Bd l j] : Bd (k + l + 1) (i - j) := h.sub h'
instance Bd.negI [h : Bd k i] : Bd k (-i) := h.neg
instance Bd.litI {n : Nat} : Bd (lgA (n + 1) n) (no_index (OfNat.ofNat n : Int)) := ⟨by
  show (n : Int).natAbs < _
  rw [Int.natAbs_natCast]
  exact lgA_lt _ _ (Nat.lt_succ_self n)⟩
instance Bd.powI {n : Nat} [h : Bd k i] : Bd (k * n + 1) (i ^ n) := ⟨by
  rw [Int.natAbs_pow]
  have h1 : i.natAbs ^ n ≤ (2 ^ k) ^ n := Nat.pow_le_pow_left (Nat.le_of_lt h.abs) n
  rw [← Nat.pow_mul] at h1
  refine Nat.lt_of_le_of_lt h1 (Nat.pow_lt_pow_right (by decide) (Nat.lt_succ_self _))⟩
theorem Bd.mulI' (hi : Bd k i) (hj : Bd l j) (hk : Nat.ble (k + l) 500000 = true) : IntMulOk i j := by
  have := Nat.le_of_ble_eq_true hk
  exact hi.mulOk hj (by omega) (by omega)
theorem Bd.divI' (hj : Bd l j) (h0 : 0 < j) (hl : Nat.ble l 9000 = true) : CDivW i j := hj.divOk h0 (Nat.le_of_ble_eq_true hl)
end
theorem op_mulK {X : Cx} : OpR X (binaryOp .Mult) (rI IntMulOk fun i j => .int (i * j)) := opI fun _ _ _ _ _ _ _ hc q => mul_int q hc
theorem mulOk_l {i j : Int} (h : -(2 ^ 64) < i ∧ i < 2 ^ 64) : IntMulOk i j := CMul.ok (.inl h)
theorem mulOk_r {i j : Int} (h : -(2 ^ 64) < j ∧ j < 2 ^ 64) : IntMulOk i j := CMul.ok (.inr h)

/-! ### equality of data -/
mutual
/-- neither True nor False in it, nor what is known by its kind alone -/
def nob : PyData → Bool
  | .none => true
  | .bool _ => false
  | .int _ => true
  | .str _ => true
  | .list ds => nobs ds
  | .tuple ds => nobs ds
  | .dict _ => false
def nobs : List PyData → Bool
  | [] => true
  | d :: ds => nob d && nobs ds
end
mutual
theorem eqv_iff : ∀ (d e : PyData), nob d = true → nob e = true → (PyData.eqv d e = true ↔ d = e)
  | .none, e, _, h => by cases e <;> simp_all [PyData.eqv, nob]
  | .bool _, _, h, _ => by simp [nob] at h
  | .int i, e, _, h => by cases e <;> simp_all [PyData.eqv, nob]
  | .str i, e, _, h => by cases e <;> simp_all [PyData.eqv, nob]
  | .dict _, _, h, _ => by simp [nob] at h
  | .list ds, e, h1, h2 => by
    cases e with
    | list es =>
      have := eqvs_iff ds es (by simpa [nob] using h1) (by simpa [nob] using h2)
      simp [PyData.eqv, this]
    | _ => simp_all [PyData.eqv, nob]
  | .tuple ds, e, h1, h2 => by
    cases e with
    | tuple es =>
      have := eqvs_iff ds es (by simpa [nob] using h1) (by simpa [nob] using h2)
      simp [PyData.eqv, this]
    | _ => simp_all [PyData.eqv, nob]
theorem eqvs_iff : ∀ (ds es : List PyData), nobs ds = true → nobs es = true → (PyData.eqvAll ds es = true ↔ ds = es)
  | [], es, _, _ => by cases es <;> simp [PyData.eqvAll]
  | d :: ds, es, h1, h2 => by
    cases es with
    | nil => simp [PyData.eqvAll]
    | cons e es =>
      have h1' : nob d = true ∧ nobs ds = true := by simpa [nobs] using h1
      have h2' : nob e = true ∧ nobs es = true := by simpa [nobs] using h2
      have q1 := eqv_iff d e h1'.1 h2'.1
      have q2 := eqvs_iff ds es h1'.2 h2'.2
      simp [PyData.eqvAll, q1, q2]
end
theorem ite_q {d e : PyData} {A B : Prop} (hd : nob d = true) (he : nob e = true) (h1 : d = e → A) (h2 : d ≠ e → B) : if PyData.eqv d e = true then A else B := by
  by_cases h : PyData.eqv d e = true
  · rw [if_pos h]
    exact h1 ((eqv_iff d e hd he).mp h)
  · rw [if_neg h]
    exact h2 fun z => h ((eqv_iff d e hd he).mpr z)
theorem ite_qn {d e : PyData} {A B : Prop} (hd : nob d = true) (he : nob e = true) (h1 : d ≠ e → A) (h2 : d = e → B) : if (!PyData.eqv d e) = true then A else B := by
  by_cases h : PyData.eqv d e = true
  · rw [h]
    exact iteF (h2 ((eqv_iff d e hd he).mp h))
  · have h' : PyData.eqv d e = false := by simpa using h
    rw [h']
    exact iteT (h1 fun z => h ((eqv_iff d e hd he).mpr z))
theorem eqv_ii {i j : Int} : PyData.eqv (.int i) (.int j) = decide (i = j) := by
  unfold PyData.eqv
  by_cases h : i = j
  · simp [h]
  · simp [h]
theorem neq_ii {i j : Int} {k : Bool → Prop} (h : k (decide (i = j))) : neq (.im (.int i)) (.im (.int j)) k := ⟨⟨rfl, rfl⟩, ⟨rfl, rfl⟩, by show k (PyData.eqv (.int i) (.int j)); rw [eqv_ii]; exact h⟩
theorem eqv_pp {a b c d : Int} : PyData.eqv (.tuple [.int a, .int b]) (.tuple [.int c, .int d]) = decide (a = c ∧ b = d) := by
  have h := eqv_iff (.tuple [.int a, .int b]) (.tuple [.int c, .int d]) rfl rfl
  rw [Bool.eq_iff_iff, h]
  simp
theorem neq_pp {a b c d : Int} {k : Bool → Prop} (h : k (decide (a = c ∧ b = d))) : neq (.im (.tuple [.int a, .int b])) (.im (.tuple [.int c, .int d])) k := ⟨⟨rfl, rfl⟩, ⟨rfl, rfl⟩, by
  show k (PyData.eqv (.tuple [.int a, .int b]) (.tuple [.int c, .int d]))
  rw [eqv_pp]
  exact h⟩
theorem eqv_ss {x y : Str} : PyData.eqv (.str x) (.str y) = decide (x = y) := by
  have h := eqv_iff (.str x) (.str y) rfl rfl
  rw [Bool.eq_iff_iff, h]
  simp
theorem iteNT {A B : Prop} (h : B) : if (!true) = true then A else B := iteF h
theorem iteNF {A B : Prop} (h : A) : if (!false) = true then A else B := iteT h

section
variable {K : PySem.W.Frag} {H0 : Hp} {S : List Sl} {ta tb te : TE} {P : Xd → Prop}
/-! ### is True, is None -/
def nb2 (x y : Xd) (k : Bool → Bool → Prop) : Prop := ∃ a b, x = .im (.bool a) ∧ y = .im (.bool b) ∧ k a b
theorem nb2_mk {a b : Bool} {k : Bool → Bool → Prop} (h : k a b) : nb2 (.im (.bool a)) (.im (.bool b)) k := ⟨a, b, rfl, rfl, h⟩
theorem wE_isB (h : wE K H0 ta S fun x => wE K H0 tb S fun y => nb2 x y fun a b => P (.im (.bool (decide (a = b))))) : wE K H0 (tOp rIsB ta tb) S P :=
  wE_two (h.imp fun x hx => hx.imp fun y ⟨i, j, e1, e2, p⟩ σ H1 H2 H v w r _ _ o1 o2 Q q => by
    subst e1 e2
    exact ⟨i, j, im_bl o1, im_bl o2, q _ _ (.im _) (.refl _) (.bl _) p⟩)
theorem wE_notB (h : wE K H0 ta S fun x => wE K H0 tb S fun y => nb2 x y fun a b => P (.im (.bool (!decide (a = b))))) : wE K H0 (tOp rNotB ta tb) S P :=
  wE_two (h.imp fun x hx => hx.imp fun y ⟨i, j, e1, e2, p⟩ σ H1 H2 H v w r _ _ o1 o2 Q q => by
    subst e1 e2
    exact ⟨i, j, im_bl o1, im_bl o2, q _ _ (.im _) (.refl _) (.bl _) p⟩)
theorem wE_isT (h : wE K H0 ta S fun x => nb x fun a => P (.im (.bool a))) : wE K H0 (tOp rIsB ta (tC (.bl true))) S P :=
  wE_isB (h.imp fun x ⟨a, e, p⟩ => wE_bl ⟨a, true, e, rfl, by
    have q : decide (a = true) = a := by cases a <;> rfl
    dsimp only
    rw [q]
    exact p⟩)
theorem wE_isF (h : wE K H0 ta S fun x => nb x fun a => P (.im (.bool (!a)))) : wE K H0 (tOp rIsB ta (tC (.bl false))) S P :=
  wE_isB (h.imp fun x ⟨a, e, p⟩ => wE_bl ⟨a, false, e, rfl, by
    have q : decide (a = false) = !a := by cases a <;> rfl
    dsimp only
    rw [q]
    exact p⟩)
theorem wE_notT (h : wE K H0 ta S fun x => nb x fun a => P (.im (.bool (!a)))) : wE K H0 (tOp rNotB ta (tC (.bl true))) S P :=
  wE_notB (h.imp fun x ⟨a, e, p⟩ => wE_bl ⟨a, true, e, rfl, by
    have q : (!decide (a = true)) = !a := by cases a <;> rfl
    dsimp only
    rw [q]
    exact p⟩)
theorem wE_notF (h : wE K H0 ta S fun x => nb x fun a => P (.im (.bool a))) : wE K H0 (tOp rNotB ta (tC (.bl false))) S P :=
  wE_notB (h.imp fun x ⟨a, e, p⟩ => wE_bl ⟨a, false, e, rfl, by
    have q : (!decide (a = false)) = a := by cases a <;> rfl
    dsimp only
    rw [q]
    exact p⟩)
/-- is it None -/
def Xd.isN : Xd → Bool
  | .im .none => true
  | _ => false
theorem xok_non {H H' : Hp} {σ : L2.St} {v : V} (r : SR K H0 H' σ S) : ∀ {x : Xd}, XOk K H0 H H' σ S v x → decide (v = .non) = x.isN := by
  intro x o
  cases x with
  | im d =>
    cases d with
    | none => cases o; rfl
    | bool _ => cases o; rfl
    | int _ => cases o; rfl
    | str _ => cases o; rfl
    | list _ => cases o; rfl
    | tuple _ => cases o; rfl
    | dict _ => cases o; rfl
  | bor ds =>
    obtain ⟨a, vs, rfl, _⟩ := o.lst r (rfl : (Xd.bor ds).ls = some ds)
    rfl
  | «at» i ds =>
    obtain ⟨a, vs, rfl, _⟩ := o.lst r (rfl : (Xd.at i ds).ls = some ds)
    rfl
  | new ds =>
    obtain ⟨a, vs, rfl, _⟩ := o.lst r (rfl : (Xd.new ds).ls = some ds)
    rfl
theorem wE_isN (h : wE K H0 ta S fun x => P (.im (.bool x.isN))) : wE K H0 (tOp (fun x y H Q => y = .non ∧ Q (.bl (decide (x = .non))) H) ta (tC .non)) S P := fun σ H s Q q => h σ H s _ fun v H1 x e o p => by
  refine ⟨rfl, ?_⟩
  rw [xok_non (s.mono e) o]
  exact q _ _ (.im _) e (.bl _) p
theorem wE_notN (h : wE K H0 ta S fun x => P (.im (.bool (!x.isN)))) : wE K H0 (tOp (fun x y H Q => y = .non ∧ Q (.bl (!decide (x = .non))) H) ta (tC .non)) S P := fun σ H s Q q => h σ H s _ fun v H1 x e o p => by
  refine ⟨rfl, ?_⟩
  rw [xok_non (s.mono e) o]
  exact q _ _ (.im _) e (.bl _) p
end
/-! ### isinstance, by kinds -/
def kt (a b : String) : Bool := decide (a = b) || (decide (a = "bool") && decide (b = "int"))
theorem kit_tab : (["NoneType", "bool", "int", "str", "list", "tuple", "dict"].all fun a => ["bool", "int", "str", "list", "tuple", "dict"].all fun b => kitB a b == some (kt a b)) = true := by decide +kernel
theorem kit_at {a b : String} (ha : a ∈ ["NoneType", "bool", "int", "str", "list", "tuple", "dict"]) (hb : b ∈ ["bool", "int", "str", "list", "tuple", "dict"]) : kitB a b = some (kt a b) := by
  have h := List.all_eq_true.mp (List.all_eq_true.mp kit_tab a ha) b hb
  exact eq_of_beq h
theorem ty_mem (x : Xd) : x.ty ∈ ["NoneType", "bool", "int", "str", "list", "tuple", "dict"] := by
  cases x with
  | im d => cases d <;> simp [Xd.ty, tyD]
  | _ => simp [Xd.ty]
theorem nisi_at {x : Xd} {n : String} {k : Bool → Prop} (hb : n ∈ ["bool", "int", "str", "list", "tuple", "dict"]) (h : k (kt x.ty n)) : nisi x n k := ⟨_, kit_at (ty_mem x) hb, h⟩
theorem nisi_is {x : Xd} {n : String} {k : Bool → Prop} {b : Bool} (hb : n ∈ ["bool", "int", "str", "list", "tuple", "dict"]) (e : kt x.ty n = b) (h : k b) : nisi x n k := nisi_at hb (by rw [e]; exact h)
section
variable {K : PySem.W.Frag} {H0 : Hp} {S : List Sl} {ta tb te : TE} {P : Xd → Prop}
/-! == of two numbers, of two texts -/
def nsc (x y : Xd) (k : Bool → Prop) : Prop := (∃ i j, x = .im (.int i) ∧ y = .im (.int j) ∧ k (decide (i = j))) ∨ ∃ a b, x = .im (.str a) ∧ y = .im (.str b) ∧ k (decide (a = b))
theorem nsc_ii {i j : Int} {k : Bool → Prop} (h : k (decide (i = j))) : nsc (.im (.int i)) (.im (.int j)) k := .inl ⟨i, j, rfl, rfl, h⟩
theorem nsc_ss {i j : Str} {k : Bool → Prop} (h : k (decide (i = j))) : nsc (.im (.str i)) (.im (.str j)) k := .inr ⟨i, j, rfl, rfl, h⟩
theorem wE_eqS (h : wE K H0 ta S fun x => wE K H0 tb S fun y => nsc x y fun b => P (.im (.bool b))) : wE K H0 (tOp rEq ta tb) S P :=
  wE_two (h.imp fun x hx => hx.imp fun y hy σ H1 H2 H v w r _ _ o1 o2 Q q => by
    rcases hy with ⟨i, j, e1, e2, p⟩ | ⟨i, j, e1, e2, p⟩
    · subst e1 e2
      have ev := im_int o1
      have ew := im_int o2
      subst ev ew
      refine ⟨rfl, ?_⟩
      have e : decide (V.int i = V.int j) = decide (i = j) := by rw [decide_eq_decide]; simp
      rw [e]
      exact q _ _ (.im _) (.refl _) (.bl _) p
    · subst e1 e2
      have ev := im_str o1
      have ew := im_str o2
      subst ev ew
      refine ⟨rfl, ?_⟩
      have e : decide (V.str i = V.str j) = decide (i = j) := by rw [decide_eq_decide]; simp
      rw [e]
      exact q _ _ (.im _) (.refl _) (.bl _) p)
theorem wE_neS (h : wE K H0 ta S fun x => wE K H0 tb S fun y => nsc x y fun b => P (.im (.bool (!b)))) : wE K H0 (tOp rNe ta tb) S P :=
  wE_two (h.imp fun x hx => hx.imp fun y hy σ H1 H2 H v w r _ _ o1 o2 Q q => by
    rcases hy with ⟨i, j, e1, e2, p⟩ | ⟨i, j, e1, e2, p⟩
    · subst e1 e2
      have ev := im_int o1
      have ew := im_int o2
      subst ev ew
      refine ⟨rfl, ?_⟩
      have e : decide (V.int i = V.int j) = decide (i = j) := by rw [decide_eq_decide]; simp
      rw [e]
      exact q _ _ (.im _) (.refl _) (.bl _) p
    · subst e1 e2
      have ev := im_str o1
      have ew := im_str o2
      subst ev ew
      refine ⟨rfl, ?_⟩
      have e : decide (V.str i = V.str j) = decide (i = j) := by rw [decide_eq_decide]; simp
      rw [e]
      exact q _ _ (.im _) (.refl _) (.bl _) p)
end
section
variable {K : PySem.W.Frag} {H0 : Hp} {S : List Sl} {ta tb te : TE} {P : Xd → Prop}
/-! lists joined, an empty dict -/
def Xd.lo : Xd → Option (List PyData)
  | .at _ ds => some ds
  | .new ds => some ds
  | _ => none
theorem XOk.lo {H H' : Hp} {σ : L2.St} {v : V} (r : SR K H0 H' σ S) : ∀ {x : Xd} {ds : List PyData}, XOk K H0 H H' σ S v x → x.lo = some ds → ∃ a vs, v = .ref a ∧ H' a = some (.lst vs) ∧ Ims K H' vs ds
  | .im _, _, _, e => by cases e
  | .bor _, _, _, e => by cases e
  | .at i _, _, ⟨h1, h2⟩, e => by
    cases e
    obtain ⟨a, vs, h, z, g, t⟩ := r.ok i _ h1
    rw [h2] at h
    cases h
    exact ⟨a, vs, rfl, g, t⟩
  | .new _, _, ⟨a, vs, h, n, g, t⟩, e => by
    cases e
    exact ⟨a, vs, h, g, t⟩
def ncat (x y : Xd) (k : List PyData → Prop) : Prop := ∃ ds es, x.lo = some ds ∧ y.lo = some es ∧ ds.length + es.length ≤ 100000 ∧ k (ds ++ es)
theorem ncat_mk {x y : Xd} {ds es : List PyData} {k : List PyData → Prop} (e1 : x.lo = some ds) (e2 : y.lo = some es) (h : ds.length + es.length ≤ 100000) (p : k (ds ++ es)) : ncat x y k := ⟨ds, es, e1, e2, h, p⟩
theorem wE_cat (h : wE K H0 ta S fun x => wE K H0 tb S fun y => ncat x y fun ds => P (.new ds)) : wE K H0 (tOp rCat ta tb) S P :=
  wE_two (h.imp fun x hx => hx.imp fun y ⟨ds, es, e1, e2, hl, p⟩ σ H1 H2 H v w r _ _ o1 o2 Q q => by
    obtain ⟨a, vs, rfl, g1, t1⟩ := o1.lo r e1
    obtain ⟨b, us, rfl, g2, t2⟩ := o2.lo r e2
    refine ⟨a, b, vs, us, rfl, rfl, g1, g2, by rw [t1.len, t2.len]; exact Nat.le_trans hl (by decide), fun l hl => q _ _ (.new (ds ++ es)) (same_upd hl) ⟨l, vs ++ us, rfl, hl, upd_same, ?_⟩ p⟩
    exact Ims.mono (.of (same_upd hl)) _ _ (t1.append t2))
theorem wE_dict (p : P (.im (.dict []))) : wE K H0 tDNewK S P := fun σ H s Q q l hl => q _ _ (.im (.dict [])) (same_upd hl) (.anyD ⟨[], upd_same⟩) p
end
section
variable {K : PySem.W.Frag} {H0 : Hp} {S : List Sl} {ta tb te : TE} {P : Xd → Prop}
/-! x in t, t a tuple or a list of flat things -/
def flatD : PyData → Bool
  | .none => true
  | .bool _ => true
  | .int _ => true
  | .str _ => true
  | _ => false
def inD (d : PyData) (ds : List PyData) : Bool := ds.any fun e => PyData.eqv e d
theorem im_flat {H : Hp} {v : V} {d : PyData} (h : Im K H v d) (f : flatD d = true) : flatV v = true := by
  cases h <;> first | rfl | cases f
theorem ims_flat {H : Hp} : ∀ {vs : List V} {ds : List PyData}, Ims K H vs ds → ds.all flatD = true → vs.all flatV = true
  | _, [], h, _ => by cases h; rfl
  | _, d :: ds, h, f => by
    cases h with
    | cons h1 h2 =>
      rw [List.all_cons, Bool.and_eq_true_iff] at f
      rw [List.all_cons, Bool.and_eq_true_iff]
      exact ⟨im_flat h1 f.1, ims_flat h2 f.2⟩
theorem eqV_eqv {H : Hp} {v w : V} {d e : PyData} (h : Im K H v d) (k : Im K H w e) (f : flatD d = true) (g : flatD e = true) : eqV v w = PyData.eqv d e := by
  cases h <;> first | (cases k <;> first | rfl | cases g) | cases f
theorem inV_inD {H : Hp} {v : V} {d : PyData} (h : Im K H v d) (f : flatD d = true) : ∀ {vs : List V} {ds : List PyData}, Ims K H vs ds → ds.all flatD = true → inV v vs = inD d ds
  | _, [], h, _ => by cases h; rfl
  | _, e :: ds, k, g => by
    cases k with
    | cons k1 k2 =>
      rw [List.all_cons, Bool.and_eq_true_iff] at g
      have ih := inV_inD h f k2 g.2
      unfold inV inD at *
      rw [List.any_cons, List.any_cons, ih, eqV_eqv k1 h g.1 f]
/-- the items -/
def Xd.sq : Xd → Option (List PyData)
  | .im (.tuple ds) => some ds
  | .im _ => none
  | .bor ds => some ds
  | .at _ ds => some ds
  | .new ds => some ds
def nin (x y : Xd) (k : Bool → Prop) : Prop := ∃ d ds, x = .im d ∧ y.sq = some ds ∧ flatD d = true ∧ ds.all flatD = true ∧ k (inD d ds)
theorem nin_mk {d : PyData} {y : Xd} {ds : List PyData} {k : Bool → Prop} (e : y.sq = some ds) (f : flatD d = true) (g : ds.all flatD = true) (h : k (inD d ds)) : nin (.im d) y k := ⟨d, ds, rfl, e, f, g, h⟩
theorem XOk.sq {H H' : Hp} {σ : L2.St} {v : V} (r : SR K H0 H' σ S) : ∀ {x : Xd} {ds : List PyData}, XOk K H0 H H' σ S v x → x.sq = some ds → ∃ a vs, v = .ref a ∧ (SqL K H' a vs ∨ SqT K H' a vs) ∧ Ims K H' vs ds
  | .im (.tuple _), _, o, e => by
    cases e
    cases o with
    | tup hs hd => exact ⟨_, _, rfl, .inr hs, hd⟩
  | .im .none, _, _, e => by cases e
  | .im (.bool _), _, _, e => by cases e
  | .im (.int _), _, _, e => by cases e
  | .im (.str _), _, _, e => by cases e
  | .im (.list _), _, _, e => by cases e
  | .im (.dict _), _, _, e => by cases e
  | .bor ds, _, o, e => by
    cases e
    obtain ⟨a, vs, rfl, q, t⟩ := XOk.lst r o (rfl : (Xd.bor ds).ls = some ds)
    exact ⟨a, vs, rfl, .inl q, t⟩
  | .at i ds, _, o, e => by
    cases e
    obtain ⟨a, vs, rfl, q, t⟩ := XOk.lst r o (rfl : (Xd.at i ds).ls = some ds)
    exact ⟨a, vs, rfl, .inl q, t⟩
  | .new ds, _, o, e => by
    cases e
    obtain ⟨a, vs, rfl, q, t⟩ := XOk.lst r o (rfl : (Xd.new ds).ls = some ds)
    exact ⟨a, vs, rfl, .inl q, t⟩
theorem wE_in (h : wE K H0 ta S fun x => wE K H0 tb S fun y => nin x y fun b => P (.im (.bool b))) : wE K H0 (tOp (rIn K false) ta tb) S P :=
  wE_two (h.imp fun x hx => hx.imp fun y ⟨d, ds, e1, e2, f, g, p⟩ σ H1 H2 H v w r _ _ o1 o2 Q q => by
    subst e1
    obtain ⟨a, vs, rfl, hq, t⟩ := o2.sq r e2
    refine ⟨a, vs, rfl, hq, im_flat o1 f, ims_flat t g, ?_⟩
    rw [inV_inD o1 f t g]
    exact q _ _ (.im _) (.refl _) (.bl _) p)
theorem wE_notIn (h : wE K H0 ta S fun x => wE K H0 tb S fun y => nin x y fun b => P (.im (.bool (!b)))) : wE K H0 (tOp (rIn K true) ta tb) S P :=
  wE_two (h.imp fun x hx => hx.imp fun y ⟨d, ds, e1, e2, f, g, p⟩ σ H1 H2 H v w r _ _ o1 o2 Q q => by
    subst e1
    obtain ⟨a, vs, rfl, hq, t⟩ := o2.sq r e2
    refine ⟨a, vs, rfl, hq, im_flat o1 f, ims_flat t g, ?_⟩
    rw [inV_inD o1 f t g]
    exact q _ _ (.im _) (.refl _) (.bl _) p)
end
end Z

namespace Z
open PySem PySem.Spec L2 PyProof.Rows

/-! ### errors -/
theorem passNL {X : Cx} : Passes (L2N.CX X.prog X.w) X E0 := fun _ _ _ _ _ _ _ h => by
  obtain ⟨_, _, _, _, _, _, _, _, _, _, _, _, z⟩ := h
  exact z.elim
section
variable {P : Program} {w : World} {K : PySem.W.Frag} {mg : Str → Option Value} {base : Heap}
/-- a def that may raise where nothing is handled -/
theorem _root_.L2.Fun.okN {x qual : Str} {st : Stmt} {f : Addr} {fd : FuncData} {N ps : List Str} {k : Nat} {sp : Sp} (F : Fun K x qual st f fd) (S : FnScope N ps (defScope st)) (len : ∀ vs H Q E, sp vs H Q E → vs.length = ps.length)
    (hbody : ∀ (cdv : Value) (A : Around) (outer : List Env) (s : Shared) (H : Hp) (vs : List V) (Q : VK) (E : XK), Room k (A.deeper (envOfC qual (defScope st) s.heap.objs.size f cdv)) → sp vs H Q E →
      ∃ t, PSs (cxOf (L2N.CX P w) P w K mg base N qual (defScope st) f cdv A outer s H E) (defBody st) t ∧ t { nx := fun _ H' => Q .non H', rt := Q } (start N vs) H) : FnOk P w K mg base (L2N.CX P w) (k + 1) f fd ps sp := by
  obtain ⟨oc, od, kV, doc, pm, an, cdv, ct, osl, rfl, lk, hcd⟩ := F.ex
  exact fn_of lk hcd S len (hbody cdv)
end
section
variable {K : PySem.W.Frag} {H0 : Hp} {S : List Sl} {N : List Sl → Prop} {R : Sl → Prop} {B C' : List Sl → Prop}
theorem wS_raise {C : Addr} {E : XK} (h : ∀ H, Same H0 H → E (.ref C) none H) : wS K H0 (fun _ σ H => (fun (_ : L2.St) (H : Hp) (Q : XK) => Q (.ref C) none H) σ H fun cls d H' => (fun (cls : Value) (d : Option Addr) (_ : L2.St) (H : Hp) => E cls d H) cls d σ H') S N R B C' := fun D σ H g r => h H r.ex
end
end Z

namespace Z
open PySem PySem.Spec L2 PyProof.Rows

/-! ### whole numbers, fractions -/
def whD (d : PyData) : Bool := kt (tyD d) "int" && !kt (tyD d) "bool"
theorem whD_int {i : Int} : whD (.int i) = true := rfl
theorem whD_iff {d : PyData} : whD d = true ↔ ∃ i, d = .int i := by
  cases d with
  | int i => exact ⟨fun _ => ⟨i, rfl⟩, fun _ => rfl⟩
  | bool b => exact ⟨fun h => (Bool.false_ne_true h).elim, fun ⟨i, h⟩ => by cases h⟩
  | none => exact ⟨fun h => (Bool.false_ne_true h).elim, fun ⟨i, h⟩ => by cases h⟩
  | str s => exact ⟨fun h => (Bool.false_ne_true h).elim, fun ⟨i, h⟩ => by cases h⟩
  | list s => exact ⟨fun h => (Bool.false_ne_true h).elim, fun ⟨i, h⟩ => by cases h⟩
  | tuple s => exact ⟨fun h => (Bool.false_ne_true h).elim, fun ⟨i, h⟩ => by cases h⟩
  | dict s => exact ⟨fun h => (Bool.false_ne_true h).elim, fun ⟨i, h⟩ => by cases h⟩
abbrev fr (u l : Int) : PyData := .tuple [.int u, .int l]
abbrev iL (ns : List Int) : List PyData := ns.map .int
theorem gc_pos {u l : Int} (h : 1 ≤ l) : 1 ≤ gc u l := by
  have : 0 < Int.gcd u l := Int.gcd_pos_of_ne_zero_right u (by omega)
  show 1 ≤ ((Int.gcd u l : Nat) : Int)
  omega
theorem gc_le {u l : Int} (h : 1 ≤ l) : gc u l ≤ l := Int.le_of_dvd (by omega) (Int.gcd_dvd_right u l)
theorem gc_one {u : Int} : gc u 1 = 1 := by
  show ((Int.gcd u 1 : Nat) : Int) = 1
  rw [Int.gcd_one_right]
  rfl
theorem gc_leL {u l : Int} (h : 1 ≤ u) : gc u l ≤ u := Int.le_of_dvd (by omega) (Int.gcd_dvd_left u l)
theorem gc_step {a b : Int} (ha : 0 ≤ a) (hb : 0 < b) : gc b (a % b) = gc a b := by
  show ((Int.gcd b (a % b) : Nat) : Int) = ((Int.gcd a b : Nat) : Int)
  have h := Int.gcd_add_mul_right_right b (a % b) (a / b)
  have e : a % b + a / b * b = a := by
    have := Int.mul_ediv_add_emod a b
    rw [Int.mul_comm (a / b) b]
    omega
  rw [e] at h
  rw [Int.gcd_comm a b, h]
theorem gc_zero {a : Int} (ha : 0 ≤ a) : gc a 0 = a := by
  show ((Int.gcd a 0 : Nat) : Int) = a
  rw [Int.gcd_zero_right]
  omega
/-- the fraction's parts -/
theorem fr_ok {u l : Int} (hu : 0 ≤ u) (hl : 1 ≤ l) : 0 ≤ u / gc u l ∧ 1 ≤ l / gc u l ∧ gc (u / gc u l) (l / gc u l) = 1 ∧ u / gc u l * l = u * (l / gc u l) ∧ u / gc u l ≤ u ∧ l / gc u l ≤ l := by
  have g1 := gc_pos (u := u) hl
  have gl := gc_le (u := u) hl
  obtain ⟨a, ha⟩ := Int.gcd_dvd_left u l
  obtain ⟨b, hb⟩ := Int.gcd_dvd_right u l
  have ha' : u = gc u l * a := ha
  have hb' : l = gc u l * b := hb
  have gn : gc u l ≠ 0 := by omega
  have ea : u / gc u l = a := by
    conv => lhs; lhs; rw [ha']
    exact Int.mul_ediv_cancel_left a gn
  have eb : l / gc u l = b := by
    conv => lhs; lhs; rw [hb']
    exact Int.mul_ediv_cancel_left b gn
  rw [ea, eb]
  have hb0 : 1 ≤ b := by
    by_cases h : 1 ≤ b
    · exact h
    · have : gc u l * b ≤ 0 := Int.mul_nonpos_of_nonneg_of_nonpos (by omega) (by omega)
      omega
  have ha0 : 0 ≤ a := by
    by_cases h : 0 ≤ a
    · exact h
    · have : gc u l * a < 0 := Int.mul_neg_of_pos_of_neg (by omega) (by omega)
      omega
  have e1 : gc a b = 1 := by
    have q := Int.gcd_ediv_gcd_ediv_gcd (i := u) (j := l) (by have h : 1 ≤ ((Int.gcd u l : Nat) : Int) := g1; omega)
    show ((Int.gcd a b : Nat) : Int) = 1
    have q' : Int.gcd (u / gc u l) (l / gc u l) = 1 := q
    rw [ea, eb] at q'
    rw [q']
    rfl
  refine ⟨ha0, hb0, e1, ?_, ?_, ?_⟩
  · calc a * l = a * (gc u l * b) := congrArg (a * ·) hb'
      _ = gc u l * a * b := by rw [Int.mul_comm (gc u l) a, Int.mul_assoc]
      _ = u * b := congrArg (· * b) ha'.symm
  · conv => rhs; rw [ha']
    have := Int.mul_le_mul_of_nonneg_right g1 ha0
    rw [Int.one_mul] at this
    exact this
  · conv => rhs; rw [hb']
    have := Int.mul_le_mul_of_nonneg_right g1 (show 0 ≤ b by omega)
    rw [Int.one_mul] at this
    exact this
/-- the script -/
theorem at_cell {ns : List Int} {k : Int} (h0 : 0 ≤ k) (h : k < ((iL ns).length : Int)) : ∃ c : Int, atI (iL ns) k = some (.int c) := by
  rw [List.length_map] at h
  obtain ⟨j, rfl⟩ : ∃ j : Nat, k = (j : Int) := ⟨k.toNat, by omega⟩
  have hj : j < ns.length := by omega
  exact ⟨ns[j], atI_nat (by rw [List.getElem?_map, List.getElem?_eq_getElem hj]; rfl)⟩
end Z

namespace Z
open PySem PySem.Spec L2 PyProof.Rows

/-! ### defs that are called while an exception is handled -/
/-- the promise may speak of the handled exception: where it stands, its object -/
structure FnP (P : Program) (w : World) (K : PySem.W.Frag) (mg : Str → Option Value) (base : Heap) (ZX : CXT) (k : Nat) (f : Addr) (fd : FuncData) (ps : List Str) (sp : Addr × Obj → Sp) : Prop where
  ln : ∀ p vs H Q E, sp p vs H Q E → vs.length = ps.length
  go : ∀ (A : Around) (outs : List Env) (s : Shared) (H : Hp) (ar : Args) (us : List Value) (vs : List V) (Q : VK) (E : XK) (p : Addr × Obj), L2H.RoomH k A → L2H.Hot1 A p → L2H.PinOk outs H s p →
    Env0 P w K mg base A outs s H → BindsTo s fd ar (ps.zip us) → Vals vs us → sp p vs H Q E → codeAny (model P w) A (.call (.ref f) ar) (CR ZX outs P w H s Q E) s
/-- its body keeps it -/
theorem fnp_of {P : Program} {w : World} {K : PySem.W.Frag} {mg : Str → Option Value} {base : Heap} {x q : Str} {st : Stmt} {f : Addr} {fd : FuncData} {N ps : List Str} {k : Nat} {ZX : CXT} {sp : Addr × Obj → Sp}
    (F : Fun K x q st f fd) (S : FnScope N ps (defScope st)) (ln : ∀ p vs H Q E, sp p vs H Q E → vs.length = ps.length)
    (hb : ∀ (cdv : Value) (A : Around) (outs : List Env) (s : Shared) (H : Hp) (vs : List V) (Q : VK) (E : XK) (p : Addr × Obj), L2H.Hot1 A p → L2H.RoomH k (A.deeper (envOfC q (defScope st) s.heap.objs.size f cdv)) → sp p vs H Q E →
      ∃ t, PSs (L2H.cxH ZX P w K mg base N q (defScope st) f cdv A outs s H E p) (defBody st) t ∧ t { nx := fun _ G => Q .non G, rt := Q } (L2.start N vs) H) : FnP P w K mg base ZX (k + 1) f fd ps sp := by
  obtain ⟨oc, od, kV, doc, pm, an, cdv, ct, osl, rfl, lk, hcd⟩ := F.ex
  constructor
  · exact ln
  intro A outs s H ar us vs Q E p room hot pin e0 bnd rv hs
  have inK : K.In s.heap := e0.mod.kin.keeps fun b o e => (e0.bs b o e).1
  have nol : s.heap.NoLimit := e0.mod.nolimit.keeps fun b o e => (e0.bs b o e).1
  have hl := ln p vs H Q E hs
  refine codeAny_call_function room.depth (inK f _ lk) rfl S.co S.gen rfl (PySem.W.codeRec_of inK hcd) (bnd _ _ _ _ (wpAny_newFunctionEnv_cells S.kind ?_ ?_))
  · rintro ⟨n, v⟩ hm
    have hn : n ∈ ps := (List.of_mem_zip hm).1
    cases S.par n hn with
    | inl z => exact Or.inl z
    | inr z => exact Or.inr ⟨z, PySem.W.cellsFrom_some _ _ _ (Or.inl z)⟩
  · intro env en s1 call
    subst en
    refine ⟨nol.keeps call.toInCall.keep, codeAny_func ?_⟩
    obtain ⟨t, ht, tq⟩ := hb cdv A outs s H vs Q E p hot (room.deeper _) hs
    have I0 := L2H.inv_startH (CX := ZX) (E := E) S pin e0 hl rv call
    refine wpAny_mono (ht.run [] s1 _ H _ I0 tq) ?_ fun _ _ z => z
    intro fl s2 h2
    cases fl with
    | next =>
      obtain ⟨σ2, G, J, z⟩ := h2
      exact ⟨.non, G, J.os, J.bare, J.base, J.hok, rfl, z⟩
    | ret u =>
      obtain ⟨v, σ2, G, J, r2, z⟩ := h2
      exact ⟨v, G, J.os, J.bare, J.base, J.hok, r2, z⟩
    | brk => exact h2.elim fun _ a => a.elim fun _ b => b.2.elim
    | cont => exact h2.elim fun _ a => a.elim fun _ b => b.2.elim
section
variable {X : Cx} {k : Nat} {f : Addr} {fd : FuncData} {ps : List Str} {sp : Addr × Obj → Sp} {x : Str} {q pos : Pos} {e : Expr} {es : List Expr} {t : TA} {p : Addr × Obj}
/-- a call of such a def, by a name of the module, where p's exception is handled; nothing is let out -/
theorem pe_callP (F : FnP X.prog X.w X.K X.mg X.base CX0 k f fd ps sp) (hr : L2H.RoomH k X.A) (hot : L2H.Hot1 X.A p) (hp : p ∈ X.pn) (hg : Gl X x) (hm : X.mg x = some (.ref f)) (hk : PySem.W.keepIn X.K (.ref f) = true) (hb : Binds X.K fd ps [])
    (ha : PA X (e :: es) t) (hd : (x == ("__debug__" : Str)) = false := by decide) (h1 : starEach (e :: es) X.env = (false, eval e X.env) :: starEach es X.env := by rfl) (h2 : (backTo pos (starEach es X.env)).any (·.1) = false := by rfl) :
    PE X (.Call (.Name x q) (e :: es) [] pos) (tCall (sp p) [] E0 t) := by
  constructor
  intro pins s σ H Q I h
  refine wpAny_Call_Name_kw (ld_glob I hg hm (PySem.W.callWith_K (h₀ := X.base) I.ok.mod.kin hk (thn (ha.run pos pins s σ H _ I h) ?_) h1 h2) hd)
  rintro us s1 ⟨vs, H1, I1, rv, hs⟩
  refine ⟨I1.kIn, ?_⟩
  rw [List.append_nil] at hs
  have bn := hb s1 us I1.kIn (by rw [List.append_nil, ← rv.length]; exact F.ln _ _ _ _ _ hs)
  rw [List.append_nil] at bn
  obtain ⟨g1, g2, g3, g4, g5⟩ := I1.pin p (List.mem_append_left _ hp)
  have pin : L2H.PinOk X.stack H1 s1 p := ⟨g1, g2, fun z => (List.mem_cons.mp (I1.stkSub p.1 z)).elim g3 g4, g5⟩
  refine wpAny_call (codeAny_mono (F.go X.A X.stack s1 H1 ⟨us, []⟩ us vs Q E0 p hr hot pin I1.env0 bn rv hs) ?_)
  intro r s2 z
  cases r with
  | error _ => exact z.elim
  | ok fl =>
    cases fl with
    | ret u => exact I1.after z
    | next => exact z.elim
    | brk => exact z.elim
    | cont => exact z.elim
/-- isinstance(e, C), e the exception at a -/
theorem call_isP {a D : Addr} {oe : Obj} (C : ExcC X.K D) (hp : (a, oe) ∈ X.pn) (hz : Zc (.ref D) none oe) (hf : ∃ vs, oe.data = .fields vs) : CallR X (.builtin "isinstance") (rIsE X.K D a) := by
  intro pins s σ H xs us Q I r h
  obtain ⟨c, cv, b, rfl, hcv, e, q⟩ := h
  rcases r with _ | ⟨r1, _ | ⟨r2, _ | _⟩⟩
  cases (show _ = Value.ref a from r1)
  cases hcv _ r2
  obtain ⟨ga, _⟩ := I.pin (a, oe) (List.mem_append_left _ hp)
  have J : PySem.W.InstAt s.heap a oe D none := by
    obtain ⟨vs, hv⟩ := hf
    refine ⟨ga, hz.1, ?_, ?_⟩
    · unfold PySem.W.notCls
      rw [hv]
    · rw [hz.2]
      trivial
  exact PySem.W.kia_one (PySem.W.handS_kitx_exc C.hg C.hk C.hs C.hd C.ha C.hn C.ht C.hm) I.kIn J e (fun z => nomatch z) fun tk => ⟨.bl b, H, I.kept (t' := tk) fun _ _ z => z, rfl, q⟩
/-- xs.count(True), xs a list of True and False -/
def rCntB (K : PySem.W.Frag) : V → List V → Hp → VK → Prop := fun x xs H Q => ∃ (p : Addr) (bs : List Bool), x = .ref p ∧ xs = [.bl true] ∧ SqL K H p (bs.map V.bl) ∧ Q (.int (bs.count true : Nat)) H
def isTr (v : Value) : Bool := match v with
  | .bool b => b == true
  | _ => false
theorem isTr_count : ∀ bs : List Bool, (bs.map Value.bool).countP isTr = bs.count true
  | [] => rfl
  | b :: r => by
    rw [List.map_cons, List.countP_cons, List.count_cons, isTr_count r]
    rfl
theorem mt_countB : MtR X "list.count" (rCntB X.K) := by
  intro pins s σ H x xs v us Q I rx rxs h
  obtain ⟨p, bs, rfl, rfl, hs, q⟩ := h
  cases rx
  obtain ⟨u, rfl, ru⟩ := rxs.one
  cases (show u = Value.bool true from ru)
  obtain ⟨its, rv, ⟨⟨cls, dd, data, sl⟩, n, ho, hc, hdn, hd⟩, _⟩ := I.list hs
  dsimp only at hc hd
  subst hc hd
  have hi := rv.bls
  refine call_meets PySem.F.slot_list_count ⟨_, ho, rfl⟩ PySem.F.entry_list_count (PySem.F.args_list_count_2 _ _) (SeqAt.list_countAt p its.toArray n dd sl (.bool true) isTr) ⟨ho, ?_, ?_⟩
  · intro y hy
    have hy' : y ∈ bs.map Value.bool := by
      rw [← hi]
      simpa using hy
    obtain ⟨b, _, rfl⟩ := List.mem_map.mp hy'
    exact SeqAt.EqAt.bool_bool b true
  · have ec : its.toArray.toList.countP isTr = bs.count true := by
      show its.countP isTr = _
      rw [hi]
      exact isTr_count bs
    refine ⟨.int (bs.count true : Nat), H, I.tok _, ⟨s.toks, ?_⟩, q⟩
    rw [ec]
end
/-- a weaker reading -/
theorem PSs.imp {X : Cx} {b : List Stmt} {t t' : TS} (h : PSs X b t) (k : ∀ D σ H, t' D σ H → t D σ H) : PSs X b t' := ⟨fun pins s σ H D I q => h.run pins s σ H D I (k D σ H q)⟩
theorem PSs.when {X : Cx} {b : List Stmt} {t : TS} {c : Prop} (h : c → PSs X b t) : PSs X b (fun D σ H => c ∧ t D σ H) := ⟨fun pins s σ H D I q => (h q.1).run pins s σ H D I q.2⟩
theorem takes0N {X : Cx} : L2N.Takes X (fun _ _ _ _ => False) := fun _ _ x => by
  obtain ⟨_, _, _, _, _, _, _, _, _, _, _, _, _, _, _, _, z⟩ := x
  exact z.elim
/-- the seven kinds of refusal, told apart -/
structure Kinds (K : PySem.W.Frag) (D : Addr) (cs : List Addr) (bs : List Bool) : Prop where
  ex : ExcC K D
  ks : ∀ (i : Nat) (c : Addr) (b : Bool), cs[i]? = some c → bs[i]? = some b → PySem.W.kitOne K (.ref D) (.ref c) = some b
  ve : PySem.W.kitOne K (.ref D) (.type "ValueError") = some true
theorem kit_own {K : PySem.W.Frag} {D C : Addr} {b : Bool} (s0 : PySem.W.subIn K (.ref D) (.ref D) = some true) (s1 : PySem.W.subIn K (.ref D) (.ref C) = some b) (ic : PySem.W.isClsIn K C = true) (tc : PySem.W.typeIn K (.ref C) = some (.type "type")) : PySem.W.kitOne K (.ref D) (.ref C) = some b := by
  unfold PySem.W.kitOne
  split
  · rename_i h
    have e : D = C := Value.ref.inj (beq_iff_eq.mp h)
    rw [← e, s0] at s1
    exact s1
  · have ic' : (PySem.W.clsIn K C).isSome = true := ic
    have h2 : ((PySem.W.clsIn K C).isSome && PySem.W.typeIn K (.ref C) == some (.type "type")) = true := by
      rw [ic', tc] <;> rfl
    show (if ((PySem.W.clsIn K C).isSome && PySem.W.typeIn K (.ref C) == some (.type "type")) = true then PySem.W.subIn K (.ref D) (.ref C) else none) = some b
    rw [if_pos h2]
    exact s1
theorem kit_ve {K : PySem.W.Frag} {D : Addr} (s : PySem.W.subIn K (.ref D) (.type "ValueError") = some true) : PySem.W.kitOne K (.ref D) (.type "ValueError") = some true := by
  unfold PySem.W.kitOne
  split
  · rfl
  · have m : PySem.W.kitMeta "ValueError" = true := by decide +kernel
    show (if PySem.W.kitMeta "ValueError" = true then PySem.W.subIn K (.ref D) (.type "ValueError") else none) = some true
    rw [if_pos m]
    exact s
theorem kinds7 {K : PySem.W.Frag} {D c0 c1 c2 c3 c4 c5 c6 : Addr} {b0 b1 b2 b3 b4 b5 b6 : Bool} (h0 : PySem.W.kitOne K (.ref D) (.ref c0) = some b0) (h1 : PySem.W.kitOne K (.ref D) (.ref c1) = some b1) (h2 : PySem.W.kitOne K (.ref D) (.ref c2) = some b2)
    (h3 : PySem.W.kitOne K (.ref D) (.ref c3) = some b3) (h4 : PySem.W.kitOne K (.ref D) (.ref c4) = some b4) (h5 : PySem.W.kitOne K (.ref D) (.ref c5) = some b5) (h6 : PySem.W.kitOne K (.ref D) (.ref c6) = some b6) :
    ∀ (i : Nat) (c : Addr) (b : Bool), [c0, c1, c2, c3, c4, c5, c6][i]? = some c → [b0, b1, b2, b3, b4, b5, b6][i]? = some b → PySem.W.kitOne K (.ref D) (.ref c) = some b := fun i c b e f => by
  match i, e, f with
  | 0, e, f => cases e; cases f; exact h0
  | 1, e, f => cases e; cases f; exact h1
  | 2, e, f => cases e; cases f; exact h2
  | 3, e, f => cases e; cases f; exact h3
  | 4, e, f => cases e; cases f; exact h4
  | 5, e, f => cases e; cases f; exact h5
  | 6, e, f => cases e; cases f; exact h6
  | i + 7, e, f => simp at e
theorem kinds1 {K : PySem.W.Frag} {D : Addr} (h0 : PySem.W.kitOne K (.ref D) (.ref D) = some true) :
    ∀ (i : Nat) (c : Addr) (b : Bool), [D][i]? = some c → [true][i]? = some b → PySem.W.kitOne K (.ref D) (.ref c) = some b := fun i c b e f => by
  match i, e, f with
  | 0, e, f => cases e; cases f; exact h0
  | i + 1, e, f => simp at e
/-- the handled error is of the class at D, at p -/
def spAl (D : Addr) (p : Addr × Obj) : Sp := fun vs H Q _ => vs = [.ref p.1] ∧ Zc (.ref D) none p.2 ∧ (∃ fs, p.2.data = .fields fs) ∧ ∀ H', Same H H' → Q (.bl true) H'
/-- what the clause that catches it says: it is of the class at D, and the second part holds -/
def tsR (K : PySem.W.Frag) (D : Addr) (i : Nat) (te : Addr → Obj → TE) : Addr → Value → Option Addr → TS := fun a cls d Dn σ H =>
  (cls = .ref D ∧ d = none) ∧ ∀ oe, L2N.Zn cls d oe → (∃ fs, oe.data = .fields fs) → tRet (tAndV (tCB (rIsE K D a) (tCons (tVar i) (tCons (tC (.ref D)) tNil))) (te a oe)) Dn σ H
section
variable {K : PySem.W.Frag} {H0 : Hp} {S : List Sl} {N : List Sl → Prop} {R : Sl → Prop} {B C : List Sl → Prop} {D F : Addr} {i : Nat} {te : Addr → Obj → TE}
/-- try: f(..) / except F as e: return isinstance(e, D) and ..: f raises an error of the class at D -/
theorem wS_refused {α : Type} {args : α → List Sl} {pre : α → Prop} {post : α → Sl → Prop} {exc : α → Addr → Prop} {tr : TA} (ki : PySem.W.kitOne K (.ref D) (.ref D) = some true) (em : PySem.W.exmOne K (.ref D) (.ref F) = some true)
    (ht : ∀ (a : Addr) (oe : Obj) (σ : L2.St) (H : Hp) (Q : VK), i < σ.length → σ[i]? = some (some (.ref a)) → Zc (.ref D) none oe → (∃ fs, oe.data = .fields fs) → (∀ H', Same H H' → Q (.bl true) H') → te a oe σ H Q)
    {s0 : Sl} (hi : S[i]? = some s0) (hi2 : s0.isT = false) (hR : R (.im (.bool true)))
    (h : wA K H0 tr S fun xs => ∃ g, xs.map Xd.sl = args g ∧ pre g ∧ (∀ r, ¬ post g r) ∧ ∀ C, exc g C → C = D) :
    wS K H0 (fun Dn σ H => tDrop (tCallS (SpD K args pre post exc) (WE (wAs K (.ref F) i (tsR K D i te) (fun _ _ _ _ => False) Dn)) tr) Dn σ H) S N R B C := fun Dn σ H g r => by
  have hl := r.len i s0 hi hi2
  refine h σ H r _ fun vs H1 xs e os ⟨gh, e1, p, np, nx⟩ => ⟨gh, ?_, p, fun v H' r _ _ z => (np r z).elim, fun C' H' e2 z => ?_⟩
  · rw [← e1]
    exact os.args (r.mono e)
  · have ec := nx C' z
    subst ec
    refine ⟨true, em, fun _ a na => ⟨⟨rfl, rfl⟩, fun oe zn zf => ?_⟩, fun q => (Bool.noConfusion q)⟩
    have hs : (σ.set i (some (.ref a)))[i]? = some (some (.ref a)) := List.getElem?_set_self hl
    refine ⟨_, hs, _, _, true, rfl, fun _ z => z, ki, true, rfl, ?_⟩
    refine iteT ?_
    refine ht a oe _ H' _ (by rw [List.length_set]; exact hl) hs ⟨zn.1, zn.2.1⟩ zf fun H2 e3 => ?_
    exact g.rt (.bl true) H2 (.im (.bool true)) (((r.ex.trans e).trans e2).trans e3) (.bl true) hR
end
end Z

namespace Z
open PySem PySem.Spec L2 PyProof.Rows

/-! ### the tree: runs, and the neighbours between which they end -/
/-- right? and how often -/
abbrev PRun := Bool × Int
abbrev wayS (b : Bool) : Str := if b = true then "right" else "left"
abbrev runD (r : PRun) : PyData := .tuple [.str (wayS r.1), .int r.2]
abbrev runsD (rs : List PRun) : List PyData := rs.map runD
theorem runsD_app (rs : List PRun) (x : PRun) : runsD rs ++ [runD x] = runsD (rs ++ [x]) := by
  show _ = List.map runD _
  rw [List.map_append]
  rfl
/-- the left neighbour's parts, the right one's -/
structure Ends4 where
  p : Int
  q : Int
  r : Int
  s : Int
def top4 : Ends4 := ⟨0, 1, 1, 0⟩
def Ends4.step (M : Ends4) (x : PRun) : Ends4 := if x.1 = true then ⟨M.p + x.2 * M.r, M.q + x.2 * M.s, M.r, M.s⟩ else ⟨M.p, M.q, M.r + x.2 * M.p, M.s + x.2 * M.q⟩
def ends (rs : List PRun) : Ends4 := rs.foldl Ends4.step top4
/-- neighbours: not below nought, unlike by one -/
structure Ends4.Ok (M : Ends4) : Prop where
  p : 0 ≤ M.p
  q : 1 ≤ M.q
  r : 1 ≤ M.r
  s : 0 ≤ M.s
  d : M.r * M.q - M.p * M.s = 1
theorem top4_ok : top4.Ok := ⟨by decide, by decide, by decide, by decide, by decide⟩
theorem Ends4.Ok.step {M : Ends4} (h : M.Ok) {x : PRun} (hx : 0 ≤ x.2) : (M.step x).Ok := by
  obtain ⟨b, n⟩ := x
  have hn : 0 ≤ n := hx
  obtain ⟨h1, h2, h3, h4, h5⟩ := h
  have e1 : 0 ≤ n * M.r := Int.mul_nonneg hn (by omega)
  have e2 : 0 ≤ n * M.s := Int.mul_nonneg hn h4
  have e3 : 0 ≤ n * M.p := Int.mul_nonneg hn h1
  have e4 : 0 ≤ n * M.q := Int.mul_nonneg hn (by omega)
  cases b with
  | true =>
    show Ends4.Ok ⟨M.p + n * M.r, M.q + n * M.s, M.r, M.s⟩
    refine ⟨by show 0 ≤ M.p + n * M.r; omega, by show 1 ≤ M.q + n * M.s; omega, h3, h4, ?_⟩
    show M.r * (M.q + n * M.s) - (M.p + n * M.r) * M.s = 1
    have : M.r * (n * M.s) = n * M.r * M.s := by rw [← Int.mul_assoc, Int.mul_comm M.r n]
    rw [Int.mul_add, Int.add_mul, this]
    omega
  | false =>
    show Ends4.Ok ⟨M.p, M.q, M.r + n * M.p, M.s + n * M.q⟩
    refine ⟨h1, h2, by show 1 ≤ M.r + n * M.p; omega, by show 0 ≤ M.s + n * M.q; omega, ?_⟩
    show (M.r + n * M.p) * M.q - M.p * (M.s + n * M.q) = 1
    have : M.p * (n * M.q) = n * M.p * M.q := by rw [← Int.mul_assoc, Int.mul_comm M.p n]
    rw [Int.mul_add, Int.add_mul, this]
    omega
theorem ends_append (rs : List PRun) (x : PRun) : ends (rs ++ [x]) = (ends rs).step x := by
  unfold ends
  rw [List.foldl_append]
  rfl
theorem ends_ok : ∀ (rs : List PRun), (∀ x ∈ rs, 0 ≤ x.2) → (ends rs).Ok := by
  have gen : ∀ (rs : List PRun) (M : Ends4), M.Ok → (∀ x ∈ rs, 0 ≤ x.2) → (rs.foldl Ends4.step M).Ok := by
    intro rs
    induction rs with
    | nil => exact fun M h _ => h
    | cons x r ih => exact fun M h k => ih _ (h.step (k x List.mem_cons_self)) fun y hy => k y (List.mem_cons_of_mem _ hy)
  exact fun rs k => gen rs top4 top4_ok k
/-- a path: counts from one on, no way twice one behind the other -/
def okRuns : Option Bool → List PRun → Prop
  | _, [] => True
  | a, x :: r => 1 ≤ x.2 ∧ a ≠ some x.1 ∧ okRuns (some x.1) r
def Path (rs : List PRun) : Prop := okRuns none rs
theorem okRuns_append : ∀ (a : Option Bool) (rs : List PRun) (x : PRun), okRuns a rs → 1 ≤ x.2 → (rs.getLast?.map (·.1)).or a ≠ some x.1 → okRuns a (rs ++ [x])
  | a, [], x, _, h, k => ⟨h, k, trivial⟩
  | a, y :: r, x, ⟨h1, h2, h3⟩, h, k => by
    refine ⟨h1, h2, okRuns_append (some y.1) r x h3 h ?_⟩
    cases r with
    | nil => exact k
    | cons z t =>
      rw [List.getLast?_cons_cons] at k
      have e : ((z :: t).getLast?.map (·.1)).isSome = true := by simp [List.getLast?_cons]
      cases q : (z :: t).getLast?.map (·.1) with
      | none => rw [q] at e; cases e
      | some w => rw [q] at k; exact k
theorem okRuns_pos : ∀ {a : Option Bool} {rs : List PRun}, okRuns a rs → ∀ x ∈ rs, 1 ≤ x.2
  | _, [], _ => fun x h => by cases h
  | _, y :: r, ⟨h1, _, h3⟩ => fun x h => by
    rcases List.mem_cons.mp h with e | h
    · rw [e]; exact h1
    · exact okRuns_pos h3 x h
theorem Path.ends {rs : List PRun} (h : Path rs) : (ends rs).Ok := ends_ok rs fun x hx => by have := okRuns_pos h x hx; omega
/-- on the way down to a / b: u and l are left to go -/
structure Down (a b u l : Int) (rs : List PRun) : Prop where
  ku : 1 ≤ u
  kl : 1 ≤ l
  kg : gc u l = 1
  ka : a = l * (ends rs).p + u * (ends rs).r
  kb : b = l * (ends rs).q + u * (ends rs).s
  kok : Path rs
  klr : rs.getLast?.map (·.1) = some true → u ≤ l
  kll : rs.getLast?.map (·.1) = some false → l ≤ u
  ksz : 2 ^ rs.length * (u * l) ≤ a * b
  kub : u ≤ a
  klb : l ≤ b
theorem Down.start {a b : Int} (ha : 1 ≤ a) (hb : 1 ≤ b) (g : gc a b = 1) : Down a b a b [] :=
  ⟨ha, hb, g, by show a = b * 0 + a * 1; omega, by show b = b * 1 + a * 0; omega, trivial, fun h => (by cases h), fun h => (by cases h), by show 2 ^ 0 * (a * b) ≤ a * b; rw [Int.pow_zero, Int.one_mul]; exact Int.le_refl _, Int.le_refl _, Int.le_refl _⟩
theorem gc_sub {u l t : Int} : gc (u - t * l) l = gc u l := by
  show ((Int.gcd (u - t * l) l : Nat) : Int) = _
  rw [Int.gcd_sub_mul_right_left]
theorem gc_comm {u l : Int} : gc u l = gc l u := by
  show ((Int.gcd u l : Nat) : Int) = ((Int.gcd l u : Nat) : Int)
  rw [Int.gcd_comm]
theorem last_app (rs : List PRun) (x : PRun) : (rs ++ [x]).getLast?.map (·.1) = some x.1 := by rw [List.getLast?_append]; rfl
/-- the whole number of times that fits -/
theorem fit {u l : Int} (hl : 1 ≤ l) (h : l < u) : 1 ≤ (u - 1) / l ∧ 1 ≤ u - (u - 1) / l * l ∧ u - (u - 1) / l * l ≤ l ∧ 2 * (u - (u - 1) / l * l) ≤ u := by
  have e := Int.mul_ediv_add_emod (u - 1) l
  have m0 := Int.emod_nonneg (u - 1) (show l ≠ 0 by omega)
  have m1 := Int.emod_lt_of_pos (u - 1) (show 0 < l by omega)
  have t1 : 1 ≤ (u - 1) / l := Int.le_ediv_of_mul_le (by omega) (by omega)
  rw [Int.mul_comm] at e
  have k : l ≤ (u - 1) / l * l := by
    have := Int.mul_le_mul_of_nonneg_right t1 (show 0 ≤ l by omega)
    rwa [Int.one_mul] at this
  refine ⟨t1, by omega, by omega, by omega⟩
theorem half_step {n : Nat} {x y u l m : Int} (h : 2 ^ n * (u * l) ≤ m) (hx : 2 * (x * y) ≤ u * l) : 2 ^ (n + 1) * (x * y) ≤ m := by
  have p : (0 : Int) ≤ 2 ^ n := Int.pow_nonneg (by decide)
  have := Int.mul_le_mul_of_nonneg_left hx p
  rw [Int.pow_succ, Int.mul_assoc]
  omega
theorem Down.right {a b u l : Int} {rs : List PRun} (h : Down a b u l rs) (k : l < u) : Down a b (u - (u - 1) / l * l) l (rs ++ [(true, (u - 1) / l)]) := by
  obtain ⟨t1, f1, f2, f3⟩ := fit h.kl k
  refine ⟨f1, h.kl, by rw [gc_sub]; exact h.kg, ?_, ?_, okRuns_append _ _ _ h.kok t1 ?_, fun _ => f2, fun e => (by rw [last_app] at e; cases e), ?_, by have := h.kub; omega, h.klb⟩
  · rw [ends_append]
    show a = l * ((ends rs).p + (u - 1) / l * (ends rs).r) + (u - (u - 1) / l * l) * (ends rs).r
    rw [Int.mul_add, Int.sub_mul, ← Int.mul_assoc, Int.mul_comm l ((u - 1) / l)]
    have := h.ka
    omega
  · rw [ends_append]
    show b = l * ((ends rs).q + (u - 1) / l * (ends rs).s) + (u - (u - 1) / l * l) * (ends rs).s
    rw [Int.mul_add, Int.sub_mul, ← Int.mul_assoc, Int.mul_comm l ((u - 1) / l)]
    have := h.kb
    omega
  · rw [Option.or_none]
    intro e
    have := h.klr e
    omega
  · rw [List.length_append]
    refine half_step h.ksz ?_
    rw [← Int.mul_assoc]
    exact Int.mul_le_mul_of_nonneg_right f3 (by have := h.kl; omega)
theorem Down.left {a b u l : Int} {rs : List PRun} (h : Down a b u l rs) (k : u < l) : Down a b u (l - (l - 1) / u * u) (rs ++ [(false, (l - 1) / u)]) := by
  obtain ⟨t1, f1, f2, f3⟩ := fit h.ku k
  refine ⟨h.ku, f1, by rw [gc_comm, gc_sub, gc_comm]; exact h.kg, ?_, ?_, okRuns_append _ _ _ h.kok t1 ?_, fun e => (by rw [last_app] at e; cases e), fun _ => f2, ?_, h.kub, by have := h.klb; omega⟩
  · rw [ends_append]
    show a = (l - (l - 1) / u * u) * (ends rs).p + u * ((ends rs).r + (l - 1) / u * (ends rs).p)
    rw [Int.mul_add, Int.sub_mul, ← Int.mul_assoc, Int.mul_comm u ((l - 1) / u)]
    have := h.ka
    omega
  · rw [ends_append]
    show b = (l - (l - 1) / u * u) * (ends rs).q + u * ((ends rs).s + (l - 1) / u * (ends rs).q)
    rw [Int.mul_add, Int.sub_mul, ← Int.mul_assoc, Int.mul_comm u ((l - 1) / u)]
    have := h.kb
    omega
  · rw [Option.or_none]
    intro e
    have := h.kll e
    omega
  · rw [List.length_append]
    refine half_step h.ksz ?_
    rw [← Int.mul_assoc, Int.mul_comm 2 u, Int.mul_assoc]
    exact Int.mul_le_mul_of_nonneg_left f3 (by have := h.ku; omega)
theorem Down.done {a b u l : Int} {rs : List PRun} (h : Down a b u l rs) (k : u = l) : (ends rs).p + (ends rs).r = a ∧ (ends rs).q + (ends rs).s = b := by
  subst k
  have e : u = 1 := by
    have g := h.kg
    have q : gc u u = u := by
      show ((Int.gcd u u : Nat) : Int) = u
      rw [Int.gcd_self]
      have := h.ku
      omega
    omega
  have ha := h.ka
  have hb := h.kb
  rw [e] at ha hb
  omega
theorem Down.len {a b u l : Int} {rs : List PRun} {k : Nat} (h : Down a b u l rs) (ha : Bd k a) (hb : Bd k b) : rs.length < 2 * k := by
  have h1 := (ha.mul hb).lt
  have h2 := h.ksz
  have h3 : 1 ≤ u * l := Int.le_trans h.ku (by have := Int.mul_le_mul_of_nonneg_left h.kl (show 0 ≤ u by have := h.ku; omega); rwa [Int.mul_one] at this)
  have p : (0 : Int) ≤ 2 ^ rs.length := Int.pow_nonneg (by decide)
  have h4 := Int.mul_le_mul_of_nonneg_left h3 p
  rw [Int.mul_one] at h4
  have h5 : (2 : Int) ^ rs.length < 2 ^ (k + k) := by omega
  have h6 : (2 : Nat) ^ rs.length < 2 ^ (k + k) := by
    have e1 : ((2 ^ rs.length : Nat) : Int) = 2 ^ rs.length := by simp
    have e2 : ((2 ^ (k + k) : Nat) : Int) = 2 ^ (k + k) := by simp
    omega
  have := (Nat.pow_lt_pow_iff_right (by decide : 1 < 2)).mp h6
  omega
/-! ### the child at a path's end -/
def chd : List PRun → Int × Int
  | [] => (1, 1)
  | (true, n) :: r => ((chd r).1 + n * (chd r).2, (chd r).2)
  | (false, n) :: r => ((chd r).1, (chd r).2 + n * (chd r).1)
theorem fold_chd : ∀ (rs : List PRun) (M : Ends4), (rs.foldl Ends4.step M).p + (rs.foldl Ends4.step M).r = (chd rs).2 * M.p + (chd rs).1 * M.r ∧ (rs.foldl Ends4.step M).q + (rs.foldl Ends4.step M).s = (chd rs).2 * M.q + (chd rs).1 * M.s
  | [], M => by
    show M.p + M.r = 1 * M.p + 1 * M.r ∧ M.q + M.s = 1 * M.q + 1 * M.s
    simp
  | (true, n) :: r, M => by
    have ih := fold_chd r (M.step (true, n))
    refine ⟨ih.1.trans ?_, ih.2.trans ?_⟩
    · show (chd r).2 * (M.p + n * M.r) + (chd r).1 * M.r = (chd r).2 * M.p + ((chd r).1 + n * (chd r).2) * M.r
      rw [Int.mul_add, Int.add_mul, ← Int.mul_assoc, Int.mul_comm (chd r).2 n]; omega
    · show (chd r).2 * (M.q + n * M.s) + (chd r).1 * M.s = (chd r).2 * M.q + ((chd r).1 + n * (chd r).2) * M.s
      rw [Int.mul_add, Int.add_mul, ← Int.mul_assoc, Int.mul_comm (chd r).2 n]; omega
  | (false, n) :: r, M => by
    have ih := fold_chd r (M.step (false, n))
    refine ⟨ih.1.trans ?_, ih.2.trans ?_⟩
    · show (chd r).2 * M.p + (chd r).1 * (M.r + n * M.p) = ((chd r).2 + n * (chd r).1) * M.p + (chd r).1 * M.r
      rw [Int.mul_add, Int.add_mul, ← Int.mul_assoc, Int.mul_comm (chd r).1 n]; omega
    · show (chd r).2 * M.q + (chd r).1 * (M.s + n * M.q) = ((chd r).2 + n * (chd r).1) * M.q + (chd r).1 * M.s
      rw [Int.mul_add, Int.add_mul, ← Int.mul_assoc, Int.mul_comm (chd r).1 n]; omega
theorem ends_chd (rs : List PRun) : (ends rs).p + (ends rs).r = (chd rs).1 ∧ (ends rs).q + (ends rs).s = (chd rs).2 := by
  have h := fold_chd rs top4
  have e1 : (chd rs).2 * top4.p + (chd rs).1 * top4.r = (chd rs).1 := by
    show (chd rs).2 * 0 + (chd rs).1 * 1 = _
    omega
  have e2 : (chd rs).2 * top4.q + (chd rs).1 * top4.s = (chd rs).2 := by
    show (chd rs).2 * 1 + (chd rs).1 * 0 = _
    omega
  exact ⟨h.1.trans e1, h.2.trans e2⟩
theorem mul_ge {n b : Int} (hn : 1 ≤ n) (hb : 1 ≤ b) : b ≤ n * b := by
  have := Int.mul_le_mul_of_nonneg_right hn (show 0 ≤ b by omega)
  rwa [Int.one_mul] at this
theorem chd_pos : ∀ {rs : List PRun}, (∀ x ∈ rs, 0 ≤ x.2) → 1 ≤ (chd rs).1 ∧ 1 ≤ (chd rs).2
  | [], _ => ⟨by decide, by decide⟩
  | (true, n) :: r, h => by
    have ih := chd_pos (rs := r) fun y hy => h y (List.mem_cons_of_mem _ hy)
    have hn : 0 ≤ n := h _ List.mem_cons_self
    have := Int.mul_nonneg hn (show 0 ≤ (chd r).2 by omega)
    exact ⟨by show 1 ≤ (chd r).1 + n * (chd r).2; omega, ih.2⟩
  | (false, n) :: r, h => by
    have ih := chd_pos (rs := r) fun y hy => h y (List.mem_cons_of_mem _ hy)
    have hn : 0 ≤ n := h _ List.mem_cons_self
    have := Int.mul_nonneg hn (show 0 ≤ (chd r).1 by omega)
    exact ⟨ih.1, by show 1 ≤ (chd r).2 + n * (chd r).1; omega⟩
/-- what stands behind a run to one way lies to the other -/
theorem chd_side : ∀ {a : Bool} {rs : List PRun}, okRuns (some a) rs → if a = true then (chd rs).1 ≤ (chd rs).2 else (chd rs).2 ≤ (chd rs).1
  | a, [], _ => by split <;> exact Int.le_refl _
  | a, (b, n) :: r, h => by
    obtain ⟨h1, h2, h3⟩ := h
    have hp := chd_pos (rs := r) fun y hy => by have := okRuns_pos h3 y hy; omega
    have h1' : 1 ≤ n := h1
    cases a with
    | true =>
      cases b with
      | true => exact absurd rfl h2
      | false =>
        have := mul_ge h1' hp.1
        show (chd r).1 ≤ (chd r).2 + n * (chd r).1
        omega
    | false =>
      cases b with
      | false => exact absurd rfl h2
      | true =>
        have := mul_ge h1' hp.2
        show (chd r).2 ≤ (chd r).1 + n * (chd r).2
        omega
theorem count_eq {x y n m b : Int} (hb : 1 ≤ b) (hx : 1 ≤ x) (hy : 1 ≤ y) (xb : x ≤ b) (yb : y ≤ b) (e : x + n * b = y + m * b) : n = m := by
  by_cases h : n < m
  · have := Int.mul_le_mul_of_nonneg_right (show n + 1 ≤ m by omega) (show 0 ≤ b by omega)
    rw [Int.add_mul, Int.one_mul] at this
    omega
  · by_cases k : m < n
    · have := Int.mul_le_mul_of_nonneg_right (show m + 1 ≤ n by omega) (show 0 ≤ b by omega)
      rw [Int.add_mul, Int.one_mul] at this
      omega
    · omega
/-- one path alone leads there -/
theorem chd_inj : ∀ {a b : Option Bool} {rs ts : List PRun}, okRuns a rs → okRuns b ts → chd rs = chd ts → rs = ts
  | _, _, [], [], _, _, _ => rfl
  | a, b, [], (w, m) :: t, _, h, e => by
    exfalso
    obtain ⟨h1, _, h3⟩ := h
    have h1' : 1 ≤ m := h1
    have hp := chd_pos (rs := t) fun y hy => by have := okRuns_pos h3 y hy; omega
    have e1 := congrArg Prod.fst e
    have e2 := congrArg Prod.snd e
    cases w with
    | true =>
      have := mul_ge h1' hp.2
      have e1' : 1 = (chd t).1 + m * (chd t).2 := e1
      omega
    | false =>
      have := mul_ge h1' hp.1
      have e2' : 1 = (chd t).2 + m * (chd t).1 := e2
      omega
  | a, b, (w, m) :: t, [], h, _, e => by
    exfalso
    obtain ⟨h1, _, h3⟩ := h
    have h1' : 1 ≤ m := h1
    have hp := chd_pos (rs := t) fun y hy => by have := okRuns_pos h3 y hy; omega
    have e1 := congrArg Prod.fst e
    have e2 := congrArg Prod.snd e
    cases w with
    | true =>
      have := mul_ge h1' hp.2
      have e1' : (chd t).1 + m * (chd t).2 = 1 := e1
      omega
    | false =>
      have := mul_ge h1' hp.1
      have e2' : (chd t).2 + m * (chd t).1 = 1 := e2
      omega
  | a, b, (v, n) :: r, (w, m) :: t, h, k, e => by
    obtain ⟨h1, _, h3⟩ := h
    obtain ⟨k1, _, k3⟩ := k
    have h1' : 1 ≤ n := h1
    have k1' : 1 ≤ m := k1
    have hp := chd_pos (rs := r) fun y hy => by have := okRuns_pos h3 y hy; omega
    have kp := chd_pos (rs := t) fun y hy => by have := okRuns_pos k3 y hy; omega
    have e1 := congrArg Prod.fst e
    have e2 := congrArg Prod.snd e
    have hs := chd_side h3
    have ks := chd_side k3
    cases v with
    | true =>
      have hs' : (chd r).1 ≤ (chd r).2 := hs
      cases w with
      | true =>
        have ks' : (chd t).1 ≤ (chd t).2 := ks
        have e1' : (chd r).1 + n * (chd r).2 = (chd t).1 + m * (chd t).2 := e1
        have e2' : (chd r).2 = (chd t).2 := e2
        rw [← e2'] at e1' ks'
        have en := count_eq hp.2 hp.1 kp.1 hs' ks' e1'
        subst en
        have er : chd r = chd t := Prod.ext (by omega) e2'
        rw [chd_inj h3 k3 er]
      | false =>
        exfalso
        have ks' : (chd t).2 ≤ (chd t).1 := ks
        have e1' : (chd r).1 + n * (chd r).2 = (chd t).1 := e1
        have e2' : (chd r).2 = (chd t).2 + m * (chd t).1 := e2
        have := mul_ge h1' hp.2
        have := mul_ge k1' kp.1
        omega
    | false =>
      have hs' : (chd r).2 ≤ (chd r).1 := hs
      cases w with
      | true =>
        exfalso
        have e1' : (chd r).1 = (chd t).1 + m * (chd t).2 := e1
        have e2' : (chd r).2 + n * (chd r).1 = (chd t).2 := e2
        have := mul_ge h1' hp.1
        have := mul_ge k1' kp.2
        omega
      | false =>
        have ks' : (chd t).2 ≤ (chd t).1 := ks
        have e1' : (chd r).1 = (chd t).1 := e1
        have e2' : (chd r).2 + n * (chd r).1 = (chd t).2 + m * (chd t).1 := e2
        rw [← e1'] at e2' ks'
        have en := count_eq hp.1 hp.2 kp.2 hs' ks' e2'
        subst en
        have er : chd r = chd t := Prod.ext e1' (by omega)
        rw [chd_inj h3 k3 er]
/-! ### the neighbours along a path stay below its child's parts -/
structure Ends4.Le (M N : Ends4) : Prop where
  p : M.p ≤ N.p
  q : M.q ≤ N.q
  r : M.r ≤ N.r
  s : M.s ≤ N.s
theorem Ends4.Le.rfl {M : Ends4} : M.Le M := ⟨Int.le_refl _, Int.le_refl _, Int.le_refl _, Int.le_refl _⟩
theorem Ends4.Le.trans {M N O : Ends4} (a : M.Le N) (b : N.Le O) : M.Le O := ⟨Int.le_trans a.p b.p, Int.le_trans a.q b.q, Int.le_trans a.r b.r, Int.le_trans a.s b.s⟩
theorem Ends4.Ok.le {M : Ends4} (h : M.Ok) {x : PRun} (hx : 0 ≤ x.2) : M.Le (M.step x) := by
  obtain ⟨b, n⟩ := x
  have hn : 0 ≤ n := hx
  obtain ⟨h1, h2, h3, h4, _⟩ := h
  have e1 : 0 ≤ n * M.r := Int.mul_nonneg hn (by omega)
  have e2 : 0 ≤ n * M.s := Int.mul_nonneg hn h4
  have e3 : 0 ≤ n * M.p := Int.mul_nonneg hn h1
  have e4 : 0 ≤ n * M.q := Int.mul_nonneg hn (by omega)
  cases b with
  | true => exact ⟨by show M.p ≤ M.p + n * M.r; omega, by show M.q ≤ M.q + n * M.s; omega, Int.le_refl _, Int.le_refl _⟩
  | false => exact ⟨Int.le_refl _, Int.le_refl _, by show M.r ≤ M.r + n * M.p; omega, by show M.s ≤ M.s + n * M.q; omega⟩
theorem fold_le : ∀ (rs : List PRun) {M : Ends4}, M.Ok → (∀ x ∈ rs, 0 ≤ x.2) → M.Le (rs.foldl Ends4.step M)
  | [], _, _, _ => .rfl
  | x :: r, M, h, k => (h.le (k x List.mem_cons_self)).trans (fold_le r (h.step (k x List.mem_cons_self)) fun y hy => k y (List.mem_cons_of_mem _ hy))
theorem take_more {α : Type} {l : List α} {i : Nat} {x : α} (h : l[i]? = some x) : l.take (i + 1) = l.take i ++ [x] := by
  rw [List.take_add_one, h]
  rfl
/-- at the k-th run of a path -/
structure Along (rs : List PRun) (k : Nat) (x : PRun) : Prop where
  ok : (ends (rs.take k)).Ok
  nx : ends (rs.take (k + 1)) = (ends (rs.take k)).step x
  le : (ends (rs.take (k + 1))).Le (ends rs)
  le0 : (ends (rs.take k)).Le (ends rs)
  n : 0 ≤ x.2
  nb : x.2 ≤ (chd rs).1 ∨ x.2 ≤ (chd rs).2
theorem along {rs : List PRun} (h : ∀ x ∈ rs, 0 ≤ x.2) {k : Nat} {x : PRun} (hx : rs[k]? = some x) : Along rs k x := by
  have hs : ∀ j, ∀ y ∈ rs.take j, 0 ≤ y.2 := fun j y hy => h y (List.mem_of_mem_take hy)
  have n := h x (List.mem_of_getElem? hx)
  have lj : ∀ j, (ends (rs.take j)).Le (ends rs) := fun j => by
    have e : ends rs = (rs.drop j).foldl Ends4.step (ends (rs.take j)) := by
      unfold ends
      rw [← List.foldl_append, List.take_append_drop]
    rw [e]
    exact fold_le _ (ends_ok _ (hs j)) fun y hy => h y (List.mem_of_mem_drop hy)
  have ok := ends_ok _ (hs k)
  have nx : ends (rs.take (k + 1)) = (ends (rs.take k)).step x := by rw [take_more hx, ends_append]
  have ok2 := ends_ok rs h
  have le := lj (k + 1)
  have ec := ends_chd rs
  refine ⟨ok, nx, le, lj k, n, ?_⟩
  rw [nx] at le
  obtain ⟨b, m⟩ := x
  have hm : 0 ≤ m := n
  cases b with
  | true =>
    have l1 : (ends (rs.take k)).p + m * (ends (rs.take k)).r ≤ (ends rs).p := le.p
    have := Int.mul_le_mul_of_nonneg_left ok.r hm
    rw [Int.mul_one] at this
    have := ok.p
    have := ok2.r
    exact .inl (by show m ≤ _; omega)
  | false =>
    have l1 : (ends (rs.take k)).s + m * (ends (rs.take k)).q ≤ (ends rs).s := le.s
    have := Int.mul_le_mul_of_nonneg_left ok.q hm
    rw [Int.mul_one] at this
    have := ok.s
    have := ok2.q
    exact .inr (by show m ≤ _; omega)
/-! ### the data of a path, as == asks -/
theorem nob_runs : ∀ (rs : List PRun), nobs (runsD rs) = true
  | [] => rfl
  | x :: r => by
    show (nob (runD x) && nobs (runsD r)) = true
    rw [nob_runs r]
    rfl
theorem pl_runs : ∀ (rs : List PRun), pls (runsD rs) = true
  | [] => rfl
  | x :: r => by
    show (pl (runD x) && pls (runsD r)) = true
    rw [pl_runs r]
    rfl
theorem way_ok (b : Bool) : PyData.strOk (wayS b) = true := by
  cases b <;> decide +kernel
theorem lay_runs : ∀ (rs : List PRun), PyData.canLayAll0 (runsD rs) = true
  | [] => rfl
  | (b, n) :: r => by
    show ((PyData.strOk (wayS b) && (true && true)) && PyData.canLayAll0 (runsD r)) = true
    rw [lay_runs r, way_ok b]
    rfl
theorem depth_runs : ∀ (rs : List PRun), PyData.depthAll (runsD rs) ≤ 1
  | [] => by decide
  | (b, n) :: r => by
    show max (PyData.depth (runD (b, n))) (PyData.depthAll (runsD r)) ≤ 1
    have := depth_runs r
    have e : PyData.depth (runD (b, n)) = 1 := by cases b <;> rfl
    omega
theorem shaped_runs (rs : List PRun) : SeqAt.shaped (.list (runsD rs)) = true := by
  unfold SeqAt.shaped
  rw [Bool.and_eq_true_iff]
  refine ⟨lay_runs rs, ?_⟩
  refine decide_eq_true ?_
  show PyData.depthAll (runsD rs) + 1 ≤ 64
  have := depth_runs rs
  omega
theorem way_inj {a b : Bool} (h : wayS a = wayS b) : a = b := by
  cases a <;> cases b <;> first | rfl | (revert h; decide)
theorem runsD_inj : ∀ {rs ts : List PRun}, runsD rs = runsD ts → rs = ts
  | [], [], _ => rfl
  | [], _ :: _, h => by cases h
  | _ :: _, [], h => by cases h
  | (a, n) :: r, (b, m) :: t, h => by
    have h' : runD (a, n) :: runsD r = runD (b, m) :: runsD t := h
    injection h' with h1 h2
    have h3 : PyData.tuple [.str (wayS a), .int n] = .tuple [.str (wayS b), .int m] := h1
    injection h3 with h4
    injection h4 with h5 h6
    injection h5 with h7
    injection h6 with h8 _
    injection h8 with h9
    rw [runsD_inj h2, way_inj h7, h9]
theorem neq_runs {x y : Xd} {rs ts : List PRun} {k : Bool → Prop} (hx : x.ls = some (runsD rs)) (hy : y.ls = some (runsD ts)) (h : k (decide (rs = ts))) : neq x y k := by
  have px : x.pd = .list (runsD rs) ∧ x.pl = true := by
    cases x with
    | im d => cases hx
    | bor ds => cases hx; exact ⟨rfl, pl_runs rs⟩
    | «at» i ds => cases hx; exact ⟨rfl, pl_runs rs⟩
    | new ds => cases hx; exact ⟨rfl, pl_runs rs⟩
  have py : y.pd = .list (runsD ts) ∧ y.pl = true := by
    cases y with
    | im d => cases hy
    | bor ds => cases hy; exact ⟨rfl, pl_runs ts⟩
    | «at» i ds => cases hy; exact ⟨rfl, pl_runs ts⟩
    | new ds => cases hy; exact ⟨rfl, pl_runs ts⟩
  refine ⟨⟨px.2, by rw [px.1]; exact shaped_runs rs⟩, ⟨py.2, by rw [py.1]; exact shaped_runs ts⟩, ?_⟩
  rw [px.1, py.1]
  have e : PyData.eqv (.list (runsD rs)) (.list (runsD ts)) = decide (rs = ts) := by
    have q := eqv_iff (.list (runsD rs)) (.list (runsD ts)) (nob_runs rs) (nob_runs ts)
    rw [Bool.eq_iff_iff, q]
    constructor
    · intro z
      injection z with z
      exact decide_eq_true (runsD_inj z)
    · intro z
      rw [of_decide_eq_true z]
  rw [e]
  exact h
theorem runs_get {rs : List PRun} {k : Nat} {d : PyData} (h : (runsD rs)[k]? = some d) : ∃ x, rs[k]? = some x ∧ d = runD x := by
  rw [List.getElem?_map] at h
  cases e : rs[k]? with
  | none => rw [e] at h; cases h
  | some x => rw [e] at h; exact ⟨x, rfl, (Option.some.inj h).symm⟩
theorem inD_way (b : Bool) : inD (.str (wayS b)) [.str "left", .str "right"] = true := by
  cases b <;> decide +kernel
theorem drop_more {α : Type} {l : List α} {i : Nat} {x : α} (h : l[i]? = some x) : l.drop i = x :: l.drop (i + 1) := by
  obtain ⟨hi, e⟩ := List.getElem?_eq_some_iff.mp h
  rw [List.drop_eq_getElem_cons hi, e]
/-- the way of the run ahead, as a text -/
def ahS : Option Bool → Str
  | none => ""
  | some b => wayS b
theorem ahS_ne {a : Option Bool} {b : Bool} (h : a ≠ some b) : wayS b ≠ ahS a := by
  cases a with
  | none => cases b <;> decide
  | some c => exact fun z => h (congrArg some (way_inj z).symm)
/-- a path of n runs leads to parts whose product is at least 2 ^ n -/
theorem chd_len : ∀ {a : Option Bool} {rs : List PRun}, okRuns a rs → 2 ^ rs.length ≤ (chd rs).1 * (chd rs).2
  | _, [], _ => by decide
  | _, (b, n) :: r, h => by
    obtain ⟨h1, _, h3⟩ := h
    have h1' : 1 ≤ n := h1
    have hp := chd_pos (rs := r) fun y hy => by have := okRuns_pos h3 y hy; omega
    have ih := chd_len h3
    have hs := chd_side h3
    rw [List.length_cons, Int.pow_succ]
    cases b with
    | true =>
      have hs' : (chd r).1 ≤ (chd r).2 := hs
      have := mul_ge h1' hp.2
      show 2 ^ r.length * 2 ≤ ((chd r).1 + n * (chd r).2) * (chd r).2
      have k := Int.mul_le_mul_of_nonneg_right (show 2 * (chd r).1 ≤ (chd r).1 + n * (chd r).2 by omega) (show 0 ≤ (chd r).2 by omega)
      rw [Int.mul_assoc] at k
      omega
    | false =>
      have hs' : (chd r).2 ≤ (chd r).1 := hs
      have := mul_ge h1' hp.1
      show 2 ^ r.length * 2 ≤ (chd r).1 * ((chd r).2 + n * (chd r).1)
      have k := Int.mul_le_mul_of_nonneg_left (show 2 * (chd r).2 ≤ (chd r).2 + n * (chd r).1 by omega) (show 0 ≤ (chd r).1 by omega)
      rw [← Int.mul_assoc, Int.mul_comm (chd r).1 2, Int.mul_assoc] at k
      omega
theorem path_len {rs : List PRun} {k : Nat} (h : Path rs) (ha : Bd k (chd rs).1) (hb : Bd k (chd rs).2) : rs.length < 2 * k := by
  have h1 := (ha.mul hb).lt
  have h2 := chd_len h
  have h6 : (2 : Nat) ^ rs.length < 2 ^ (k + k) := by
    have e1 : ((2 ^ rs.length : Nat) : Int) = 2 ^ rs.length := by simp
    have e2 : ((2 ^ (k + k) : Nat) : Int) = 2 ^ (k + k) := by simp
    omega
  have := (Nat.pow_lt_pow_iff_right (by decide : 1 < 2)).mp h6
  omega
theorem path_bd {rs : List PRun} {k : Nat} (h : Path rs) (ha : Bd k (chd rs).1) (hb : Bd k (chd rs).2) : ∀ x ∈ rs, Bd k x.2 := fun x hx => by
  have p : ∀ y ∈ rs, 0 ≤ y.2 := fun y hy => by have := okRuns_pos h y hy; omega
  obtain ⟨i, hi⟩ := List.getElem?_of_mem hx
  have al := along p hi
  rcases al.nb with z | z
  · exact ha.le (p x hx) z
  · exact hb.le (p x hx) z
/-- runs as they are handed in: any text, any count -/
abbrev RawR := Str × Int
abbrev rawD (r : RawR) : PyData := .tuple [.str r.1, .int r.2]
abbrev rawsD (rs : List RawR) : List PyData := rs.map rawD
abbrev toRaw (rs : List PRun) : List RawR := rs.map fun x => (wayS x.1, x.2)
theorem rawsD_toRaw (rs : List PRun) : rawsD (toRaw rs) = runsD rs := by
  show List.map _ (List.map _ rs) = _
  rw [List.map_map]
  rfl
theorem toRaw_inj : ∀ {rs ts : List PRun}, toRaw rs = toRaw ts → rs = ts
  | [], [], _ => rfl
  | [], _ :: _, h => by cases h
  | _ :: _, [], h => by cases h
  | (a, n) :: r, (b, m) :: t, h => by
    have h' : (wayS a, n) :: toRaw r = (wayS b, m) :: toRaw t := h
    injection h' with h1 h2
    injection h1 with h3 h4
    rw [toRaw_inj h2, way_inj h3, h4]
/-- Fibonacci's numbers, one behind the other -/
def fibP : Nat → Int × Int
  | 0 => (1, 1)
  | k + 1 => ((fibP k).1 + (fibP k).2, (fibP k).1)
theorem fib_gc : ∀ k, 1 ≤ (fibP k).1 ∧ 1 ≤ (fibP k).2 ∧ gc (fibP k).1 (fibP k).2 = 1
  | 0 => ⟨by decide, by decide, by decide⟩
  | k + 1 => by
    obtain ⟨h1, h2, h3⟩ := fib_gc k
    refine ⟨by show 1 ≤ (fibP k).1 + (fibP k).2; omega, h1, ?_⟩
    show gc ((fibP k).1 + (fibP k).2) (fibP k).1 = 1
    have e := gc_sub (u := (fibP k).1 + (fibP k).2) (l := (fibP k).1) (t := 1)
    have e2 : (fibP k).1 + (fibP k).2 - 1 * (fibP k).1 = (fibP k).2 := by omega
    rw [e2] at e
    rw [← e, gc_comm]
    exact h3
theorem fib_small : ∀ k, k < 286 → (fibP k).1 < 2 ^ 199 ∧ (fibP k).2 < 2 ^ 199 := by decide +kernel
end Z

namespace Z
open PySem PySem.Spec L2 PyProof.Rows

/-! ### neighbours about a target -/
/-- its size -/
abbrev ab (i : Int) : Int := if i < 0 then -i else i
theorem ab_nn (i : Int) : 0 ≤ ab i := by
  show 0 ≤ if i < 0 then -i else i
  split <;> omega
theorem ab_of {i : Int} (h : 0 ≤ i) : ab i = i := by
  show (if i < 0 then -i else i) = i
  split <;> omega
theorem ab_ofN {i : Int} (h : i ≤ 0) : ab i = -i := by
  show (if i < 0 then -i else i) = -i
  split <;> omega
theorem ab_mul (k i : Int) (h : 0 ≤ k) : ab (k * i) = k * ab i := by
  show (if k * i < 0 then -(k * i) else k * i) = k * (if i < 0 then -i else i)
  by_cases hi : i < 0
  · rw [if_pos hi]
    have := Int.mul_nonneg h (show 0 ≤ -i by omega)
    rw [Int.mul_neg] at this ⊢
    split <;> omega
  · rw [if_neg hi]
    have := Int.mul_nonneg h (show 0 ≤ i by omega)
    split <;> omega
theorem mul_pos' {a b : Int} (ha : 1 ≤ a) (hb : 1 ≤ b) : 1 ≤ a * b := by
  have := Int.mul_le_mul_of_nonneg_right ha (show 0 ≤ b by omega)
  omega
theorem le_of_mul_le {a b k : Int} (hk : 1 ≤ k) (h : a * k ≤ b * k) : a ≤ b := Int.le_of_mul_le_mul_right h (by omega)
theorem lt_of_mul_lt {a b k : Int} (hk : 1 ≤ k) (h : a * k < b * k) : a < b := Int.lt_of_mul_lt_mul_right h (by omega)
theorem mul_lt {a b k : Int} (hk : 1 ≤ k) (h : a < b) : a * k < b * k := Int.mul_lt_mul_of_pos_right h (by omega)
theorem mul_le {a b k : Int} (hk : 0 ≤ k) (h : a ≤ b) : a * k ≤ b * k := Int.mul_le_mul_of_nonneg_right h hk
/-- strictly between neighbours lie only fractions with parts of at least both together -/
theorem between {a b c d p q : Int} (h : c * b - a * d = 1) (h1 : a * q < p * b) (h2 : p * d < c * q) (hb : 0 ≤ b) (hd : 0 ≤ d) : b + d ≤ q := by
  have e : q = b * (c * q - p * d) + d * (p * b - a * q) := by grind
  have := Int.mul_le_mul_of_nonneg_left (show 1 ≤ c * q - p * d by omega) hb
  have := Int.mul_le_mul_of_nonneg_left (show 1 ≤ p * b - a * q by omega) hd
  omega
theorem betweenU {a b c d p q : Int} (h : c * b - a * d = 1) (h1 : a * q < p * b) (h2 : p * d < c * q) (ha : 0 ≤ a) (hc : 0 ≤ c) : a + c ≤ p := by
  have e : p = a * (c * q - p * d) + c * (p * b - a * q) := by grind
  have := Int.mul_le_mul_of_nonneg_left (show 1 ≤ c * q - p * d by omega) ha
  have := Int.mul_le_mul_of_nonneg_left (show 1 ≤ p * b - a * q by omega) hc
  omega
/-- less than, over a third one -/
theorem lt_tr {a b x y c d : Int} (hb : 1 ≤ b) (hd : 1 ≤ d) (hy : 1 ≤ y) (h1 : a * y ≤ x * b) (h2 : x * d < c * y) : a * d < c * b := by
  refine lt_of_mul_lt hy ?_
  have e1 := mul_le (show 0 ≤ d by omega) h1
  have e2 := mul_lt hb h2
  have : a * d * y = a * y * d := by grind
  have : x * b * d = x * d * b := by grind
  have : c * b * y = c * y * b := by grind
  omega
theorem lt_tr' {a b x y c d : Int} (hb : 1 ≤ b) (hd : 1 ≤ d) (hy : 1 ≤ y) (h1 : a * y < x * b) (h2 : x * d ≤ c * y) : a * d < c * b := by
  refine lt_of_mul_lt hy ?_
  have e1 := mul_lt hd h1
  have e2 := mul_le (show 0 ≤ b by omega) h2
  have : a * d * y = a * y * d := by grind
  have : x * b * d = x * d * b := by grind
  have : c * b * y = c * y * b := by grind
  omega
theorem le_tr {a b x y c d : Int} (hb : 1 ≤ b) (hd : 1 ≤ d) (hy : 1 ≤ y) (h1 : a * y ≤ x * b) (h2 : x * d ≤ c * y) : a * d ≤ c * b := by
  refine le_of_mul_le hy ?_
  have e1 := mul_le (show 0 ≤ d by omega) h1
  have e2 := mul_le (show 0 ≤ b by omega) h2
  have : a * d * y = a * y * d := by grind
  have : x * b * d = x * d * b := by grind
  have : c * b * y = c * y * b := by grind
  omega
theorem co_dvd {x y b : Int} (g : gc x y = 1) (h : y ∣ x * b) : y ∣ b := by
  have g' : Nat.Coprime y.natAbs x.natAbs := by
    have : ((Int.gcd x y : Nat) : Int) = 1 := g
    have e : Int.gcd y x = Nat.gcd y.natAbs x.natAbs := rfl
    have : Int.gcd y x = 1 := by rw [Int.gcd_comm]; omega
    show Nat.gcd y.natAbs x.natAbs = 1
    omega
  have h' : y.natAbs ∣ x.natAbs * b.natAbs := by
    rw [← Int.natAbs_mul]
    exact Int.natAbs_dvd_natAbs.mpr h
  exact Int.natAbs_dvd_natAbs.mp (g'.dvd_of_dvd_mul_left h')
/-- alike in value and both in lowest parts: alike -/
theorem co_eq {a b p q : Int} (hb : 1 ≤ b) (hq : 1 ≤ q) (g : gc a b = 1) (k : gc p q = 1) (h : a * q = p * b) : a = p ∧ b = q := by
  have d1 : b ∣ q := co_dvd g ⟨p, by rw [h, Int.mul_comm]⟩
  have d2 : q ∣ b := co_dvd k ⟨a, by rw [← h, Int.mul_comm]⟩
  have e : b = q := by
    have := Int.le_of_dvd (by omega) d1
    have := Int.le_of_dvd (by omega) d2
    omega
  subst e
  exact ⟨Int.eq_of_mul_eq_mul_right (by omega) h, rfl⟩
/-- a multiple that makes one: in lowest parts -/
theorem co_of {a b c d : Int} (hb : 1 ≤ b) (h : c * b - a * d = 1) : gc a b = 1 := by
  have g1 := gc_pos (u := a) hb
  have d1 : gc a b ∣ a := Int.gcd_dvd_left a b
  have d2 : gc a b ∣ b := Int.gcd_dvd_right a b
  have : gc a b ∣ 1 := by
    rw [← h]
    exact Int.dvd_sub (Int.dvd_trans d2 ⟨c, Int.mul_comm c b⟩) (Int.dvd_trans d1 (Int.dvd_mul_right a d))
  have := Int.le_of_dvd (by omega) this
  omega
theorem co_of' {a b c d : Int} (hd : 1 ≤ d) (h : c * b - a * d = 1) : gc c d = 1 := by
  have g1 := gc_pos (u := c) hd
  have d1 : gc c d ∣ c := Int.gcd_dvd_left c d
  have d2 : gc c d ∣ d := Int.gcd_dvd_right c d
  have : gc c d ∣ 1 := by
    rw [← h]
    exact Int.dvd_sub (Int.dvd_trans d1 (Int.dvd_mul_right c b)) (Int.dvd_trans d2 ⟨a, Int.mul_comm a d⟩)
  have := Int.le_of_dvd (by omega) this
  omega
theorem no_hit {x y a b : Int} (g : gc x y = 1) (hb : 1 ≤ b) (h : a * y = x * b) : y ≤ b :=
  Int.le_of_dvd (by omega) (co_dvd g ⟨a, by rw [← h, Int.mul_comm]⟩)
/-- neighbours a / b below, c / d above the target x / y -/
structure Nb (x y m a b c d : Int) : Prop where
  a0 : 0 ≤ a
  b1 : 1 ≤ b
  d1 : 1 ≤ d
  bm : b ≤ m
  dm : d ≤ m
  det : c * b - a * d = 1
  lo : a * y < x * b
  hi : x * d < c * y
section
variable {x y m a b c d n : Int}
theorem Nb.c1 (h : Nb x y m a b c d) : 1 ≤ c := by
  have h1 := Int.mul_nonneg h.a0 (show 0 ≤ d by have := h.d1; omega)
  have h2 := h.det
  by_cases hc : 1 ≤ c
  · exact hc
  · have := Int.mul_nonneg (show 0 ≤ -c by omega) (show 0 ≤ b by have := h.b1; omega)
    rw [Int.neg_mul] at this
    omega
theorem Nb.coL (h : Nb x y m a b c d) : gc a b = 1 := co_of h.b1 h.det
theorem Nb.coR (h : Nb x y m a b c d) : gc c d = 1 := co_of' h.d1 h.det
theorem Nb.start (hx : 0 ≤ x) (hy : 1 < y) (hm : 1 ≤ m) (g : gc x y = 1) : Nb x y m (x / y) 1 (x / y + 1) 1 := by
  have e := Int.mul_ediv_add_emod x y
  have m0 := Int.emod_nonneg x (show y ≠ 0 by omega)
  have m1 := Int.emod_lt_of_pos x (show 0 < y by omega)
  have k : x / y * y = y * (x / y) := Int.mul_comm _ _
  have k2 : (x / y + 1) * y = y * (x / y) + y := by rw [Int.add_mul]; omega
  refine ⟨Int.ediv_nonneg hx (by omega), by omega, by omega, hm, hm, by omega, ?_, by omega⟩
  have ne : x % y ≠ 0 := fun z => by
    have : y ≤ 1 := no_hit (a := x / y) g (by omega) (by omega)
    omega
  omega
theorem Nb.left (h : Nb x y m a b c d) (g : gc x y = 1) (hy : m < y) (hn : 0 ≤ n) (h1 : n ≤ (m - b) / d) (h2 : n ≤ (x * b - a * y) / (c * y - x * d)) : Nb x y m (a + n * c) (b + n * d) c d := by
  obtain ⟨a0, b1, d1, bm, dm, det, lo, hi⟩ := h
  have c1 : 1 ≤ c := Nb.c1 ⟨a0, b1, d1, bm, dm, det, lo, hi⟩
  have k1 : n * d ≤ m - b := Int.mul_le_of_le_ediv (by omega) h1
  have k2 : n * (c * y - x * d) ≤ x * b - a * y := Int.mul_le_of_le_ediv (by omega) h2
  have e1 : 0 ≤ n * c := Int.mul_nonneg hn (by omega)
  have e2 : 0 ≤ n * d := Int.mul_nonneg hn (by omega)
  have le : (a + n * c) * y ≤ x * (b + n * d) := by
    have : n * (c * y - x * d) = n * c * y - x * (n * d) := by grind
    rw [Int.add_mul, Int.mul_add]
    omega
  refine ⟨by omega, by omega, d1, by omega, dm, by grind, ?_, hi⟩
  have ne : (a + n * c) * y ≠ x * (b + n * d) := fun z => by
    have := no_hit g (show 1 ≤ b + n * d by omega) z
    omega
  omega
theorem Nb.right (h : Nb x y m a b c d) (g : gc x y = 1) (hy : m < y) (hn : 0 ≤ n) (h1 : n ≤ (m - d) / b) (h2 : n ≤ (c * y - x * d) / (x * b - a * y)) : Nb x y m a b (c + n * a) (d + n * b) := by
  obtain ⟨a0, b1, d1, bm, dm, det, lo, hi⟩ := h
  have c1 : 1 ≤ c := Nb.c1 ⟨a0, b1, d1, bm, dm, det, lo, hi⟩
  have k1 : n * b ≤ m - d := Int.mul_le_of_le_ediv (by omega) h1
  have k2 : n * (x * b - a * y) ≤ c * y - x * d := Int.mul_le_of_le_ediv (by omega) h2
  have e1 : 0 ≤ n * a := Int.mul_nonneg hn (by omega)
  have e2 : 0 ≤ n * b := Int.mul_nonneg hn (by omega)
  have le : x * (d + n * b) ≤ (c + n * a) * y := by
    have : n * (x * b - a * y) = x * (n * b) - n * a * y := by grind
    rw [Int.add_mul, Int.mul_add]
    omega
  refine ⟨a0, b1, by omega, bm, by omega, by grind, lo, ?_⟩
  have ne : (c + n * a) * y ≠ x * (d + n * b) := fun z => by
    have := no_hit g (show 1 ≤ d + n * b by omega) z
    omega
  omega
/-- the lower parts' sum grows at one side, at least -/
theorem Nb.grow (h : Nb x y m a b c d) (hr : b + d ≤ m) : 1 ≤ min ((m - b) / d) ((x * b - a * y) / (c * y - x * d)) ∨ 1 ≤ min ((m - d) / b) ((c * y - x * d) / (x * b - a * y)) := by
  obtain ⟨a0, b1, d1, bm, dm, det, lo, hi⟩ := h
  have r1 : 1 ≤ (m - b) / d := Int.le_ediv_of_mul_le (by omega) (by omega)
  have r2 : 1 ≤ (m - d) / b := Int.le_ediv_of_mul_le (by omega) (by omega)
  by_cases k : c * y - x * d ≤ x * b - a * y
  · have : 1 ≤ (x * b - a * y) / (c * y - x * d) := Int.le_ediv_of_mul_le (by omega) (by omega)
    exact .inl (by omega)
  · have : 1 ≤ (c * y - x * d) / (x * b - a * y) := Int.le_ediv_of_mul_le (by omega) (by omega)
    exact .inr (by omega)
/-- the upper parts stay small -/
theorem Nb.small (h : Nb x y m a b c d) (hx : 0 ≤ x) (hy : m < y) : a ≤ x ∧ c ≤ x + 1 := by
  obtain ⟨a0, b1, d1, bm, dm, det, lo, hi⟩ := h
  have y1 : 1 ≤ y := by omega
  constructor
  · refine le_of_mul_le y1 ?_
    have := Int.mul_le_mul_of_nonneg_left (show b ≤ y by omega) hx
    omega
  · have e : y = b * (c * y - x * d) + d * (x * b - a * y) := by grind
    have k1 := Int.mul_le_mul_of_nonneg_right b1 (show 0 ≤ c * y - x * d by omega)
    have k2 := Int.mul_nonneg (show 0 ≤ d by omega) (show 0 ≤ x * b - a * y by omega)
    have k3 := Int.mul_le_mul_of_nonneg_left (show d ≤ y by omega) hx
    refine le_of_mul_le y1 ?_
    rw [Int.add_mul]
    omega
/-- no fraction with so small a lower part lies between -/
theorem Nb.out (h : Nb x y m a b c d) (hs : m < b + d) {p q : Int} (hq : q ≤ m) : p * b ≤ a * q ∨ c * q ≤ p * d := by
  by_cases h1 : a * q < p * b
  · by_cases h2 : p * d < c * q
    · have := between h.det h1 h2 (by have := h.b1; omega) (by have := h.d1; omega)
      omega
    · exact .inr (by omega)
  · exact .inl (by omega)
theorem Nb.y1 (h : Nb x y m a b c d) (hy : m < y) : 1 ≤ y := by
  have := h.b1
  have := h.bm
  omega
theorem Nb.one {a' b' c' d' : Int} (h : Nb x y m a b c d) (hs : m < b + d) (k : Nb x y m a' b' c' d') (ks : m < b' + d') (hy : m < y) : a = a' ∧ b = b' ∧ c = c' ∧ d = d' := by
  have y1 := h.y1 hy
  have l1 : a' * b ≤ a * b' := by
    rcases h.out hs (p := a') k.bm with z | z
    · exact z
    · have := lt_tr k.b1 h.d1 y1 (Int.le_of_lt k.lo) h.hi
      omega
  have l2 : a * b' ≤ a' * b := by
    rcases k.out ks (p := a) h.bm with z | z
    · exact z
    · have := lt_tr h.b1 k.d1 y1 (Int.le_of_lt h.lo) k.hi
      omega
  have r1 : c * d' ≤ c' * d := by
    rcases h.out hs (p := c') k.dm with z | z
    · have := lt_tr h.b1 k.d1 y1 (Int.le_of_lt h.lo) k.hi
      omega
    · exact z
  have r2 : c' * d ≤ c * d' := by
    rcases k.out ks (p := c) h.dm with z | z
    · have := lt_tr k.b1 h.d1 y1 (Int.le_of_lt k.lo) h.hi
      omega
    · exact z
  obtain ⟨e1, e2⟩ := co_eq h.b1 k.b1 h.coL k.coL (by omega)
  obtain ⟨e3, e4⟩ := co_eq h.d1 k.d1 h.coR k.coR (by omega)
  exact ⟨e1, e2, e3, e4⟩
end
/-- what around tells -/
structure Ar (x y m a b c d : Int) : Prop where
  k : (y ≤ m ∧ a = x ∧ b = y ∧ c = x ∧ d = y) ∨ (m < y ∧ Nb x y m a b c d ∧ m < b + d)
theorem Ar.one {x y m a b c d a' b' c' d' : Int} (h : Ar x y m a b c d) (k : Ar x y m a' b' c' d') : a = a' ∧ b = b' ∧ c = c' ∧ d = d' := by
  rcases h.k with ⟨h0, h1, h2, h3, h4⟩ | ⟨h0, h1, h2⟩
  · rcases k.k with ⟨k0, k1, k2, k3, k4⟩ | ⟨k0, _, _⟩
    · omega
    · omega
  · rcases k.k with ⟨k0, k1, k2, k3, k4⟩ | ⟨k0, k1, k2⟩
    · omega
    · exact h1.one h2 k1 k2 h0
/-- both lie in the fractions, with lower parts of at most m -/
theorem Ar.fr {x y m a b c d : Int} (h : Ar x y m a b c d) (hx : 0 ≤ x) (hy : 1 ≤ y) (g : gc x y = 1) : (0 ≤ a ∧ 1 ≤ b ∧ b ≤ m ∧ gc a b = 1 ∧ a ≤ x) ∧ (0 ≤ c ∧ 1 ≤ d ∧ d ≤ m ∧ gc c d = 1 ∧ c ≤ x + 1) ∧ b ≤ y ∧ d ≤ y := by
  rcases h.k with ⟨h0, rfl, rfl, rfl, rfl⟩ | ⟨h0, h1, h2⟩
  · exact ⟨⟨hx, hy, h0, g, by omega⟩, ⟨hx, hy, h0, g, by omega⟩, by omega, by omega⟩
  · have s := h1.small hx h0
    have := h1.bm
    have := h1.dm
    exact ⟨⟨h1.a0, h1.b1, h1.bm, h1.coL, s.1⟩, ⟨by have := h1.c1; omega, h1.d1, h1.dm, h1.coR, s.2⟩, by omega, by omega⟩
/-! ### the nearest -/
/-- f / g lies no farther from x / y than p / q, and comes first where both lie as far -/
def Beats (x y f g p q : Int) : Prop := ab (f * y - x * g) * q < ab (p * y - x * q) * g ∨ (ab (f * y - x * g) * q = ab (p * y - x * q) * g ∧ (g < q ∨ (g = q ∧ f ≤ p)))
structure Near (x y m f g : Int) : Prop where
  f0 : 0 ≤ f
  g1 : 1 ≤ g
  gm : g ≤ m
  co : gc f g = 1
  best : ∀ p q : Int, 0 ≤ p → 1 ≤ q → q ≤ m → gc p q = 1 → Beats x y f g p q
section
variable {x y m f g p q k : Int}
theorem Beats.refl : Beats x y f g f g := .inr ⟨rfl, .inr ⟨rfl, Int.le_refl _⟩⟩
theorem Beats.one (h : Beats x y f g p q) (k : Beats x y p q f g) : f = p ∧ g = q := by
  rcases h with h | ⟨h1, h2⟩
  · rcases k with k | ⟨k1, k2⟩ <;> omega
  · rcases k with k | ⟨k1, k2⟩
    · omega
    · omega
theorem Near.one {f' g' : Int} (h : Near x y m f g) (k : Near x y m f' g') : f = f' ∧ g = g' := (h.best f' g' k.f0 k.g1 k.gm k.co).one (k.best f g h.f0 h.g1 h.gm h.co)
theorem Ar.near {a b c d : Int} (h : Ar x y m a b c d) (hx : 0 ≤ x) (hy : 1 ≤ y) (co : gc x y = 1) :
    ((ab (a * y - x * b) * d < ab (c * y - x * d) * b ∨ (ab (a * y - x * b) * d = ab (c * y - x * d) * b ∧ b ≤ d)) → Near x y m a b) ∧ ((ab (c * y - x * d) * b < ab (a * y - x * b) * d ∨ (ab (a * y - x * b) * d = ab (c * y - x * d) * b ∧ d < b)) → Near x y m c d) := by
  obtain ⟨⟨a0, b1, bm, cab, _⟩, ⟨c0, d1, dm, ccd, _⟩, _⟩ := h.fr hx hy co
  rcases h.k with ⟨h0, ea, eb, ec, ed⟩ | ⟨h0, hn, hs⟩
  · have z : ab (x * y - x * y) = 0 := by rw [Int.sub_self]; rfl
    have n : Near x y m x y := ⟨hx, hy, h0, co, fun p q hp hq hm hc => by
      have e : ab (x * y - x * y) * q = 0 := by rw [z, Int.zero_mul]
      have nn := Int.mul_nonneg (ab_nn (p * y - x * q)) (show 0 ≤ y by omega)
      by_cases k : ab (p * y - x * q) * y = 0
      · have k2 : ab (p * y - x * q) = 0 := by
          rcases Int.mul_eq_zero.mp k with w | w
          · exact w
          · omega
        have k3 : x * q = p * y := by
          by_cases w : p * y - x * q ≤ 0
          · rw [ab_ofN w] at k2; omega
          · rw [ab_of (by omega)] at k2; omega
        obtain ⟨e1, e2⟩ := co_eq hy hq co hc k3
        rw [← e1, ← e2]
        exact .refl
      · exact .inl (by omega)⟩
    rw [ea, eb, ec, ed]
    exact ⟨fun _ => n, fun _ => n⟩
  · have lo := hn.lo
    have hi := hn.hi
    have el : ab (a * y - x * b) = x * b - a * y := by rw [ab_ofN (by omega)]; omega
    have er : ab (c * y - x * d) = c * y - x * d := ab_of (by omega)
    rw [el, er]
    -- how far the others lie
    have left : ∀ p q : Int, 1 ≤ q → p * b ≤ a * q → ab (p * y - x * q) = x * q - p * y ∧ (x * q - p * y) * b = (x * b - a * y) * q + (a * q - p * b) * y := fun p q hq hp => by
      constructor
      · have := le_tr (a := p) (b := q) (x := a) (y := b) (c := x) (d := y) hq hy b1 hp (by omega)
        rw [ab_ofN (by omega)]
        omega
      · grind
    have right : ∀ p q : Int, 1 ≤ q → c * q ≤ p * d → ab (p * y - x * q) = p * y - x * q ∧ (p * y - x * q) * d = (c * y - x * d) * q + (p * d - c * q) * y := fun p q hq hp => by
      constructor
      · have := le_tr (a := x) (b := y) (x := c) (y := d) (c := p) (d := q) hy hq d1 (by omega) hp
        rw [ab_of (by omega)]
      · grind
    have out : ∀ {p q : Int}, q ≤ m → p * b ≤ a * q ∨ c * q ≤ p * d := fun hq => hn.out hs hq
    constructor
    · intro hw
      have hw' : (x * b - a * y) * d ≤ (c * y - x * d) * b := by omega
      refine ⟨a0, b1, bm, cab, fun p q hp hq hm hc => ?_⟩
      unfold Beats
      rw [el]
      rcases out (p := p) hm with z | z
      · obtain ⟨e1, e2⟩ := left p q hq z
        rw [e1]
        by_cases w : p * b = a * q
        · obtain ⟨e3, e4⟩ := co_eq b1 hq cab hc w.symm
          rw [← e3, ← e4]
          exact .inr ⟨rfl, .inr ⟨rfl, Int.le_refl _⟩⟩
        · have := mul_pos' (show 1 ≤ a * q - p * b by omega) hy
          exact .inl (by omega)
      · obtain ⟨e1, e2⟩ := right p q hq z
        rw [e1]
        by_cases w : p * d = c * q
        · obtain ⟨e3, e4⟩ := co_eq d1 hq ccd hc w.symm
          rw [← e3, ← e4]
          by_cases v : (x * b - a * y) * d < (c * y - x * d) * b
          · exact .inl v
          · refine .inr ⟨by omega, ?_⟩
            have bd : b ≤ d := by omega
            by_cases bd2 : b = d
            · refine .inr ⟨bd2, ?_⟩
              have := lt_tr' (a := a) (b := b) (x := x) (y := y) (c := c) (d := d) b1 d1 hy lo (by omega)
              subst bd2
              exact Int.le_of_lt (lt_of_mul_lt b1 this)
            · exact .inl (by omega)
        · refine .inl ?_
          have k1 := mul_pos' (show 1 ≤ p * d - c * q by omega) hy
          have k2 := mul_le (show 0 ≤ q by omega) hw'
          refine lt_of_mul_lt d1 ?_
          have e3 : (x * b - a * y) * q * d = (x * b - a * y) * d * q := by grind
          have e4 : (p * y - x * q) * b * d = (p * y - x * q) * d * b := by grind
          rw [e3, e4, e2, Int.add_mul]
          have e5 : (c * y - x * d) * q * b = (c * y - x * d) * b * q := by grind
          have := mul_pos' k1 b1
          omega
    · intro hw
      have hw' : (c * y - x * d) * b ≤ (x * b - a * y) * d := by omega
      refine ⟨c0, d1, dm, ccd, fun p q hp hq hm hc => ?_⟩
      unfold Beats
      rw [er]
      rcases out (p := p) hm with z | z
      · obtain ⟨e1, e2⟩ := left p q hq z
        rw [e1]
        by_cases w : p * b = a * q
        · obtain ⟨e3, e4⟩ := co_eq b1 hq cab hc w.symm
          rw [← e3, ← e4]
          by_cases v : (c * y - x * d) * b < (x * b - a * y) * d
          · exact .inl v
          · refine .inr ⟨by omega, .inl ?_⟩
            omega
        · refine .inl ?_
          have k1 := mul_pos' (show 1 ≤ a * q - p * b by omega) hy
          have k2 := mul_le (show 0 ≤ q by omega) hw'
          refine lt_of_mul_lt b1 ?_
          have e3 : (c * y - x * d) * q * b = (c * y - x * d) * b * q := by grind
          have e4 : (x * q - p * y) * d * b = (x * q - p * y) * b * d := by grind
          rw [e3, e4, e2, Int.add_mul]
          have e5 : (x * b - a * y) * q * d = (x * b - a * y) * d * q := by grind
          have := mul_pos' k1 d1
          omega
      · obtain ⟨e1, e2⟩ := right p q hq z
        rw [e1]
        by_cases w : p * d = c * q
        · obtain ⟨e3, e4⟩ := co_eq d1 hq ccd hc w.symm
          rw [← e3, ← e4]
          exact .inr ⟨rfl, .inr ⟨rfl, Int.le_refl _⟩⟩
        · have := mul_pos' (show 1 ≤ p * d - c * q by omega) hy
          exact .inl (by omega)
/-- others, not in lowest parts -/
theorem Near.any (h : Near x y m f g) (hp : 0 ≤ p) (hq : 1 ≤ q) (hm : q ≤ m) : ab (f * y - x * g) * q ≤ ab (p * y - x * q) * g ∧ (ab (f * y - x * g) * q = ab (p * y - x * q) * g → g < q / gc p q ∨ (g = q / gc p q ∧ f ≤ p / gc p q)) := by
  obtain ⟨f1, f2, f3, f4, f5, f6⟩ := fr_ok hp hq
  have g1 := gc_pos (u := p) hq
  have ep : p = gc p q * (p / gc p q) := (Int.mul_ediv_cancel' (Int.gcd_dvd_left p q)).symm
  have eq : q = gc p q * (q / gc p q) := (Int.mul_ediv_cancel' (Int.gcd_dvd_right p q)).symm
  have b := h.best _ _ f1 f2 (by omega) f3
  have d1 : ab (p * y - x * q) = gc p q * ab (p / gc p q * y - x * (q / gc p q)) := by
    rw [← ab_mul _ _ (by omega)]
    congr 1
    conv => lhs; rw [ep, eq]
    grind
  have d2 : ab (f * y - x * g) * q = gc p q * (ab (f * y - x * g) * (q / gc p q)) := by
    conv => lhs; rw [eq]
    grind
  have d3 : ab (p * y - x * q) * g = gc p q * (ab (p / gc p q * y - x * (q / gc p q)) * g) := by
    rw [d1, Int.mul_assoc]
  rw [d2, d3]
  rcases b with b | ⟨b1, b2⟩
  · have := Int.mul_lt_mul_of_pos_left b (show 0 < gc p q by omega)
    exact ⟨by omega, fun z => by omega⟩
  · exact ⟨by rw [b1]; exact Int.le_refl _, fun _ => b2⟩
/-- of two fractions the lesser one is as near where the target lies low enough -/
theorem near_lt (hg : 1 ≤ g) (hq : 1 ≤ q) (h : f * q < p * g) (hy : 1 ≤ y) : (ab (f * y - x * g) * q < ab (p * y - x * q) * g ↔ 2 * (x * (g * q)) < y * (f * q + p * g)) ∧ (ab (f * y - x * g) * q = ab (p * y - x * q) * g ↔ 2 * (x * (g * q)) = y * (f * q + p * g)) := by
  have e1 : ab (f * y - x * g) * q = ab (f * q * y - x * (g * q)) := by
    rw [Int.mul_comm, ← ab_mul _ _ (by omega)]
    congr 1
    grind
  have e2 : ab (p * y - x * q) * g = ab (p * g * y - x * (g * q)) := by
    rw [Int.mul_comm, ← ab_mul _ _ (by omega)]
    congr 1
    grind
  have e3 : y * (f * q + p * g) = f * q * y + p * g * y := by grind
  have l := mul_lt hy h
  rw [e1, e2, e3]
  generalize f * q * y = u at *
  generalize p * g * y = v at *
  generalize x * (g * q) = w at *
  show ((if u - w < 0 then -(u - w) else u - w) < (if v - w < 0 then -(v - w) else v - w) ↔ _) ∧ ((if u - w < 0 then -(u - w) else u - w) = (if v - w < 0 then -(v - w) else v - w) ↔ _)
  split <;> split <;> omega
theorem near_gt (hg : 1 ≤ g) (hq : 1 ≤ q) (h : p * g < f * q) (hy : 1 ≤ y) : (ab (f * y - x * g) * q < ab (p * y - x * q) * g ↔ y * (f * q + p * g) < 2 * (x * (g * q))) ∧ (ab (f * y - x * g) * q = ab (p * y - x * q) * g ↔ 2 * (x * (g * q)) = y * (f * q + p * g)) := by
  have e1 : ab (f * y - x * g) * q = ab (f * q * y - x * (g * q)) := by
    rw [Int.mul_comm, ← ab_mul _ _ (by omega)]
    congr 1
    grind
  have e2 : ab (p * y - x * q) * g = ab (p * g * y - x * (g * q)) := by
    rw [Int.mul_comm, ← ab_mul _ _ (by omega)]
    congr 1
    grind
  have e3 : y * (f * q + p * g) = f * q * y + p * g * y := by grind
  have l := mul_lt hy h
  rw [e1, e2, e3]
  generalize f * q * y = u at *
  generalize p * g * y = v at *
  generalize x * (g * q) = w at *
  show ((if u - w < 0 then -(u - w) else u - w) < (if v - w < 0 then -(v - w) else v - w) ↔ _) ∧ ((if u - w < 0 then -(u - w) else u - w) = (if v - w < 0 then -(v - w) else v - w) ↔ _)
  split <;> split <;> omega
/-- what is nearest to both bounds is nearest to all between -/
theorem Near.mid {l0 l1 h0 h1 : Int} (hl : Near l0 l1 m f g) (hh : Near h0 h1 m f g) (L1 : 1 ≤ l1) (H1 : 1 ≤ h1) (hy : 1 ≤ y) (lx : l0 * y ≤ x * l1) (xh : x * h1 ≤ h0 * y) : Near x y m f g := by
  refine ⟨hl.f0, hl.g1, hl.gm, hl.co, fun p q hp hq hm hc => ?_⟩
  have g1 := hl.g1
  have gq := mul_pos' g1 hq
  by_cases k : f * q < p * g
  · have b := hh.best p q hp hq hm hc
    obtain ⟨n1, n2⟩ := near_lt (x := h0) g1 hq k H1
    obtain ⟨t1, t2⟩ := near_lt (x := x) g1 hq k hy
    have e := mul_le (show 0 ≤ 2 * (g * q) by omega) xh
    have e1 : x * h1 * (2 * (g * q)) = 2 * (x * (g * q)) * h1 := by grind
    have e2 : h0 * y * (2 * (g * q)) = 2 * (h0 * (g * q)) * y := by grind
    have e3 : h1 * (f * q + p * g) * y = y * (f * q + p * g) * h1 := by grind
    rcases b with b | ⟨b, b2⟩
    · have w := mul_lt hy (n1.mp b)
      exact .inl (t1.mpr (lt_of_mul_lt H1 (by omega)))
    · have w := n2.mp b
      have w2 : 2 * (h0 * (g * q)) * y = h1 * (f * q + p * g) * y := by rw [w]
      by_cases z : 2 * (x * (g * q)) = y * (f * q + p * g)
      · exact .inr ⟨t2.mpr z, b2⟩
      · refine .inl (t1.mpr ?_)
        have : 2 * (x * (g * q)) ≤ y * (f * q + p * g) := le_of_mul_le H1 (by omega)
        omega
  · by_cases k2 : p * g < f * q
    · have b := hl.best p q hp hq hm hc
      obtain ⟨n1, n2⟩ := near_gt (x := l0) g1 hq k2 L1
      obtain ⟨t1, t2⟩ := near_gt (x := x) g1 hq k2 hy
      have e := mul_le (show 0 ≤ 2 * (g * q) by omega) lx
      have e1 : x * l1 * (2 * (g * q)) = 2 * (x * (g * q)) * l1 := by grind
      have e2 : l0 * y * (2 * (g * q)) = 2 * (l0 * (g * q)) * y := by grind
      have e3 : l1 * (f * q + p * g) * y = y * (f * q + p * g) * l1 := by grind
      rcases b with b | ⟨b, b2⟩
      · have w := mul_lt hy (n1.mp b)
        exact .inl (t1.mpr (lt_of_mul_lt L1 (by omega)))
      · have w := n2.mp b
        have w2 : 2 * (l0 * (g * q)) * y = l1 * (f * q + p * g) * y := by rw [w]
        by_cases z : 2 * (x * (g * q)) = y * (f * q + p * g)
        · exact .inr ⟨t2.mpr z, b2⟩
        · refine .inl (t1.mpr ?_)
          have : y * (f * q + p * g) ≤ 2 * (x * (g * q)) := le_of_mul_le L1 (by omega)
          omega
    · obtain ⟨e3, e4⟩ := co_eq g1 hq hl.co hc (show f * q = p * g by omega)
      rw [← e3, ← e4]
      exact .refl
/-- one lower part more: a nearer one, or none -/
theorem Near.new (h : Near x y k f g) (hp : 0 ≤ p) (hk : 1 ≤ k) (ne : ab (p * y - x * (k + 1)) * g < ab (f * y - x * g) * (k + 1)) (least : ∀ p' : Int, 0 ≤ p' → ab (p * y - x * (k + 1)) ≤ ab (p' * y - x * (k + 1)) ∧ (ab (p * y - x * (k + 1)) = ab (p' * y - x * (k + 1)) → p ≤ p')) : Near x y (k + 1) p (k + 1) := by
  have g1 := h.g1
  have co : gc p (k + 1) = 1 := by
    by_cases z : gc p (k + 1) = 1
    · exact z
    · exfalso
      have c1 := gc_pos (u := p) (l := k + 1) (by omega)
      obtain ⟨f1, f2, f3, f4, f5, f6⟩ := fr_ok hp (show 1 ≤ k + 1 by omega)
      have eq : k + 1 = gc p (k + 1) * ((k + 1) / gc p (k + 1)) := (Int.mul_ediv_cancel' (Int.gcd_dvd_right p (k + 1))).symm
      have ep : p = gc p (k + 1) * (p / gc p (k + 1)) := (Int.mul_ediv_cancel' (Int.gcd_dvd_left p (k + 1))).symm
      have le : (k + 1) / gc p (k + 1) ≤ k := by
        have := Int.mul_le_mul_of_nonneg_right (show 2 ≤ gc p (k + 1) by omega) (show 0 ≤ (k + 1) / gc p (k + 1) by omega)
        omega
      have b := (h.any f1 f2 le).1
      have d1 : ab (p * y - x * (k + 1)) = gc p (k + 1) * ab (p / gc p (k + 1) * y - x * ((k + 1) / gc p (k + 1))) := by
        rw [← ab_mul _ _ (by omega)]
        congr 1
        conv => lhs; rw [ep, eq]
        grind
      have d2 : ab (f * y - x * g) * (k + 1) = gc p (k + 1) * (ab (f * y - x * g) * ((k + 1) / gc p (k + 1))) := by
        conv => lhs; rw [eq]
        grind
      have d3 : ab (p * y - x * (k + 1)) * g = gc p (k + 1) * (ab (p / gc p (k + 1) * y - x * ((k + 1) / gc p (k + 1))) * g) := by rw [d1, Int.mul_assoc]
      have := Int.mul_le_mul_of_nonneg_left b (show 0 ≤ gc p (k + 1) by omega)
      omega
  refine ⟨hp, by omega, Int.le_refl _, co, fun p' q' hp' hq' hm hc => ?_⟩
  by_cases w : q' = k + 1
  · subst w
    obtain ⟨l1, l2⟩ := least p' hp'
    by_cases e : ab (p * y - x * (k + 1)) = ab (p' * y - x * (k + 1))
    · exact .inr ⟨by rw [e], .inr ⟨rfl, l2 e⟩⟩
    · exact .inl (mul_lt (by omega) (by omega))
  · have b := (h.any hp' hq' (by omega)).1
    refine .inl ?_
    refine lt_of_mul_lt g1 ?_
    have k1 := mul_lt hq' ne
    have k2 := mul_le (show 0 ≤ k + 1 by omega) b
    have e1 : ab (p * y - x * (k + 1)) * q' * g = ab (p * y - x * (k + 1)) * g * q' := by grind
    have e2 : ab (p' * y - x * q') * (k + 1) * g = ab (p' * y - x * q') * g * (k + 1) := by grind
    have e3 : ab (f * y - x * g) * (k + 1) * q' = ab (f * y - x * g) * q' * (k + 1) := by grind
    omega
theorem Near.old (h : Near x y k f g) (least : ∀ p' : Int, 0 ≤ p' → ab (f * y - x * g) * (k + 1) ≤ ab (p' * y - x * (k + 1)) * g) : Near x y (k + 1) f g := by
  refine ⟨h.f0, h.g1, by have := h.gm; omega, h.co, fun p' q' hp' hq' hm hc => ?_⟩
  by_cases w : q' = k + 1
  · subst w
    have := least p' hp'
    by_cases e : ab (f * y - x * g) * (k + 1) = ab (p' * y - x * (k + 1)) * g
    · exact .inr ⟨e, .inl (by have := h.gm; omega)⟩
    · exact .inl (by omega)
  · exact h.best p' q' hp' hq' (by omega) hc
/-- of the fractions with the lower part n the whole below and the one above are nearest -/
theorem floor_least (hy : 1 ≤ y) (n p : Int) : (p ≤ x * n / y → ab (x * n / y * y - x * n) ≤ ab (p * y - x * n) ∧ (ab (x * n / y * y - x * n) = ab (p * y - x * n) → p = x * n / y)) ∧ (x * n / y + 1 ≤ p → ab ((x * n / y + 1) * y - x * n) ≤ ab (p * y - x * n) ∧ (ab ((x * n / y + 1) * y - x * n) = ab (p * y - x * n) → p = x * n / y + 1)) ∧ ab (x * n / y * y - x * n) = x * n - x * n / y * y ∧ ab ((x * n / y + 1) * y - x * n) = y - (x * n - x * n / y * y) ∧ 0 ≤ x * n - x * n / y * y ∧ x * n - x * n / y * y < y := by
  have e := Int.mul_ediv_add_emod (x * n) y
  have m0 := Int.emod_nonneg (x * n) (show y ≠ 0 by omega)
  have m1 := Int.emod_lt_of_pos (x * n) (show 0 < y by omega)
  rw [Int.mul_comm] at e
  have a1 : ab (x * n / y * y - x * n) = x * n - x * n / y * y := by rw [ab_ofN (by omega)]; omega
  have a2 : ab ((x * n / y + 1) * y - x * n) = y - (x * n - x * n / y * y) := by rw [Int.add_mul, ab_of (by omega)]; omega
  refine ⟨fun h => ?_, fun h => ?_, a1, a2, by omega, by omega⟩
  · have k := mul_le (show 0 ≤ y by omega) h
    rw [a1, ab_ofN (by omega)]
    refine ⟨by omega, fun z => ?_⟩
    exact Int.eq_of_mul_eq_mul_right (by omega) (show p * y = x * n / y * y by omega)
  · have k := mul_le (show 0 ≤ y by omega) h
    rw [Int.add_mul] at k
    rw [a2, ab_of (by omega)]
    refine ⟨by omega, fun z => ?_⟩
    exact Int.eq_of_mul_eq_mul_right (b := p) (show y ≠ 0 by omega) (show p * y = (x * n / y + 1) * y by rw [Int.add_mul]; omega)
end
theorem ab_bd {k : Nat} {i : Int} (h : Bd k i) : Bd k (ab i) := by
  show Bd k (if i < 0 then -i else i)
  split
  · exact h.neg
  · exact h
end Z

namespace Z
open PySem PySem.Spec L2 PyProof.Rows

/-! ### the path that two have in common, and the simplest between -/
def share : List PRun → List PRun → List PRun
  | (w, n) :: r, (v, m) :: t => if w = v then (w, min n m) :: (if n = m then share r t else []) else []
  | _, _ => []
def Ends4.tr (n : Int) (M : Ends4) : Ends4 := ⟨M.p + n * M.q, M.q, M.r + n * M.s, M.s⟩
def Ends4.tl (n : Int) (M : Ends4) : Ends4 := ⟨M.p, M.q + n * M.p, M.r, M.s + n * M.r⟩
theorem tr_step (n : Int) (M : Ends4) (x : PRun) : (M.tr n).step x = (M.step x).tr n := by
  obtain ⟨b, k⟩ := x
  cases b with
  | true =>
    show Ends4.mk (M.p + n * M.q + k * (M.r + n * M.s)) (M.q + k * M.s) (M.r + n * M.s) M.s = ⟨M.p + k * M.r + n * (M.q + k * M.s), M.q + k * M.s, M.r + n * M.s, M.s⟩
    congr 1
    grind
  | false =>
    show Ends4.mk (M.p + n * M.q) M.q (M.r + n * M.s + k * (M.p + n * M.q)) (M.s + k * M.q) = ⟨M.p + n * M.q, M.q, M.r + k * M.p + n * (M.s + k * M.q), M.s + k * M.q⟩
    congr 1
    grind
theorem tl_step (n : Int) (M : Ends4) (x : PRun) : (M.tl n).step x = (M.step x).tl n := by
  obtain ⟨b, k⟩ := x
  cases b with
  | true =>
    show Ends4.mk (M.p + k * M.r) (M.q + n * M.p + k * (M.s + n * M.r)) M.r (M.s + n * M.r) = ⟨M.p + k * M.r, M.q + k * M.s + n * (M.p + k * M.r), M.r, M.s + n * M.r⟩
    congr 1
    grind
  | false =>
    show Ends4.mk M.p (M.q + n * M.p) (M.r + k * M.p) (M.s + n * M.r + k * (M.q + n * M.p)) = ⟨M.p, M.q + n * M.p, M.r + k * M.p, M.s + k * M.q + n * (M.r + k * M.p)⟩
    congr 1
    grind
theorem fold_tr (n : Int) : ∀ (rs : List PRun) (M : Ends4), rs.foldl Ends4.step (M.tr n) = (rs.foldl Ends4.step M).tr n
  | [], _ => rfl
  | x :: r, M => by
    show r.foldl Ends4.step ((M.tr n).step x) = (r.foldl Ends4.step (M.step x)).tr n
    rw [tr_step]
    exact fold_tr n r _
theorem fold_tl (n : Int) : ∀ (rs : List PRun) (M : Ends4), rs.foldl Ends4.step (M.tl n) = (rs.foldl Ends4.step M).tl n
  | [], _ => rfl
  | x :: r, M => by
    show r.foldl Ends4.step ((M.tl n).step x) = (r.foldl Ends4.step (M.step x)).tl n
    rw [tl_step]
    exact fold_tl n r _
theorem ends_tr (n : Int) (rs : List PRun) : ends ((true, n) :: rs) = (ends rs).tr n := by
  have e : top4.step (true, n) = top4.tr n := by
    show Ends4.mk (0 + n * 1) (1 + n * 0) 1 0 = ⟨0 + n * 1, 1, 1 + n * 0, 0⟩
    congr 1 <;> omega
  show rs.foldl Ends4.step (top4.step (true, n)) = _
  rw [e]
  exact fold_tr n rs _
theorem ends_tl (n : Int) (rs : List PRun) : ends ((false, n) :: rs) = (ends rs).tl n := by
  have e : top4.step (false, n) = top4.tl n := by
    show Ends4.mk 0 1 (1 + n * 0) (0 + n * 1) = ⟨0, 1 + n * 0, 1, 0 + n * 1⟩
    congr 1 <;> omega
  show rs.foldl Ends4.step (top4.step (false, n)) = _
  rw [e]
  exact fold_tl n rs _
/-- the bounds l, h lie between the neighbours, their child between the bounds -/
structure Sim (l0 l1 h0 h1 : Int) (M : Ends4) : Prop where
  lo : M.p * l1 < l0 * M.q
  lf : l0 * (M.q + M.s) ≤ (M.p + M.r) * l1
  fh : (M.p + M.r) * h1 ≤ h0 * (M.q + M.s)
  hi : h0 * M.s < M.r * h1
section
variable {l0 l1 h0 h1 : Int} {M : Ends4}
theorem Sim.tr (h : Sim l0 l1 h0 h1 M) (n : Int) : Sim (l0 + n * l1) l1 (h0 + n * h1) h1 (M.tr n) := by
  obtain ⟨a1, a2, a3, a4⟩ := h
  refine ⟨?_, ?_, ?_, ?_⟩
  · show (M.p + n * M.q) * l1 < (l0 + n * l1) * M.q
    grind
  · show (l0 + n * l1) * (M.q + M.s) ≤ (M.p + n * M.q + (M.r + n * M.s)) * l1
    grind
  · show (M.p + n * M.q + (M.r + n * M.s)) * h1 ≤ (h0 + n * h1) * (M.q + M.s)
    grind
  · show (h0 + n * h1) * M.s < (M.r + n * M.s) * h1
    grind
theorem Sim.tl (h : Sim l0 l1 h0 h1 M) (n : Int) : Sim l0 (l1 + n * l0) h0 (h1 + n * h0) (M.tl n) := by
  obtain ⟨a1, a2, a3, a4⟩ := h
  refine ⟨?_, ?_, ?_, ?_⟩
  · show M.p * (l1 + n * l0) < l0 * (M.q + n * M.p)
    grind
  · show l0 * (M.q + n * M.p + (M.s + n * M.r)) ≤ (M.p + M.r) * (l1 + n * l0)
    grind
  · show (M.p + M.r) * (h1 + n * h0) ≤ h0 * (M.q + n * M.p + (M.s + n * M.r))
    grind
  · show h0 * (M.s + n * M.r) < M.r * (h1 + n * h0)
    grind
theorem Sim.top (a : 1 ≤ l0) (b : l0 ≤ l1) (c : h1 ≤ h0) (d : 1 ≤ h1) : Sim l0 l1 h0 h1 top4 := by
  refine ⟨?_, ?_, ?_, ?_⟩
  · show 0 * l1 < l0 * 1; omega
  · show l0 * (1 + 0) ≤ (0 + 1) * l1; omega
  · show (0 + 1) * h1 ≤ h0 * (1 + 0); omega
  · show h0 * 0 < 1 * h1; omega
end
theorem ends_nil : ends [] = top4 := rfl
theorem pos_of {a : Option Bool} {r : List PRun} (h : okRuns a r) : ∀ x ∈ r, 0 ≤ x.2 := fun x hx => by have := okRuns_pos h x hx; omega
/-- a fraction's first way tells where it lies to one -/
theorem chd_ways {a : Option Bool} {w : Bool} {n : Int} {r : List PRun} (h : okRuns a ((w, n) :: r)) : if w = true then (chd ((w, n) :: r)).2 < (chd ((w, n) :: r)).1 else (chd ((w, n) :: r)).1 < (chd ((w, n) :: r)).2 := by
  obtain ⟨h1, _, h3⟩ := h
  have h1' : 1 ≤ n := h1
  have hp := chd_pos (pos_of h3)
  cases w with
  | true =>
    have := mul_ge h1' hp.2
    show (chd r).2 < (chd r).1 + n * (chd r).2
    omega
  | false =>
    have := mul_ge h1' hp.1
    show (chd r).1 < (chd r).2 + n * (chd r).1
    omega
theorem not_le {a b c d : Int} (hb : 1 ≤ b) (hd : 1 ≤ d) (h1 : b < a) (h2 : c ≤ d) : ¬ a * d ≤ c * b := fun h => by
  have k1 := mul_lt hd h1
  have k2 := mul_le (show 0 ≤ b by omega) h2
  have : b * d = d * b := Int.mul_comm _ _
  omega
theorem not_le' {a b c d : Int} (hb : 1 ≤ b) (hd : 1 ≤ d) (h1 : b ≤ a) (h2 : c < d) : ¬ a * d ≤ c * b := fun h => by
  have k1 := mul_le (show 0 ≤ d by omega) h1
  have k2 := mul_lt hb h2
  have : b * d = d * b := Int.mul_comm _ _
  omega
theorem share_sim : ∀ {a b : Option Bool} {P Q : List PRun}, okRuns a P → okRuns b Q → (chd P).1 * (chd Q).2 ≤ (chd Q).1 * (chd P).2 → Sim (chd P).1 (chd P).2 (chd Q).1 (chd Q).2 (ends (share P Q))
  | _, _, [], [], _, _, _ => Sim.top (by decide) (by decide) (by decide) (by decide)
  | a, b, [], (w, m) :: t, _, k, le => by
    have kp := chd_pos (pos_of k)
    have kw := chd_ways k
    refine Sim.top (by decide) (by decide) ?_ kp.2
    have le' : 1 * (chd ((w, m) :: t)).2 ≤ (chd ((w, m) :: t)).1 * 1 := le
    omega
  | a, b, (w, n) :: r, [], h, _, le => by
    have hp := chd_pos (pos_of h)
    refine Sim.top hp.1 ?_ (by decide) (by decide)
    have le' : (chd ((w, n) :: r)).1 * 1 ≤ 1 * (chd ((w, n) :: r)).2 := le
    omega
  | a, b, (w, n) :: r, (v, m) :: t, h, k, le => by
    have hp := chd_pos (pos_of h)
    have kp := chd_pos (pos_of k)
    have hw := chd_ways h
    have kw := chd_ways k
    obtain ⟨h1, _, h3⟩ := h
    obtain ⟨k1, _, k3⟩ := k
    have h1' : 1 ≤ n := h1
    have k1' : 1 ≤ m := k1
    have rp := chd_pos (pos_of h3)
    have tp := chd_pos (pos_of k3)
    have rs := chd_side h3
    have ts := chd_side k3
    by_cases wv : w = v
    · subst wv
      have es : share ((w, n) :: r) ((w, m) :: t) = (w, min n m) :: (if n = m then share r t else []) := by
        show (if w = w then _ else _) = _
        rw [if_pos rfl]
      rw [es]
      by_cases nm : n = m
      · subst nm
        rw [if_pos rfl, Int.min_self]
        cases w with
        | true =>
          rw [ends_tr]
          refine Sim.tr (share_sim h3 k3 ?_) n
          have le' : ((chd r).1 + n * (chd r).2) * (chd t).2 ≤ ((chd t).1 + n * (chd t).2) * (chd r).2 := le
          grind
        | false =>
          rw [ends_tl]
          refine Sim.tl (share_sim h3 k3 ?_) n
          have le' : (chd r).1 * ((chd t).2 + n * (chd t).1) ≤ (chd t).1 * ((chd r).2 + n * (chd r).1) := le
          grind
      · rw [if_neg nm]
        cases w with
        | true =>
          rw [ends_tr, ends_nil]
          have rs' : (chd r).1 ≤ (chd r).2 := rs
          have ts' : (chd t).1 ≤ (chd t).2 := ts
          have le' : ((chd r).1 + n * (chd r).2) * (chd t).2 ≤ ((chd t).1 + m * (chd t).2) * (chd r).2 := le
          by_cases lt : n < m
          · have e := (Sim.top (l0 := (chd r).1) (l1 := (chd r).2) (h0 := (chd t).1 + (m - n) * (chd t).2) (h1 := (chd t).2) rp.1 rs' (by have := mul_ge (show 1 ≤ m - n by omega) tp.2; omega) tp.2).tr n
            have e2 : (chd t).1 + (m - n) * (chd t).2 + n * (chd t).2 = (chd t).1 + m * (chd t).2 := by grind
            rw [e2] at e
            rw [Int.min_eq_left (by omega)]
            exact e
          · exfalso
            have := mul_ge (show 1 ≤ n - m by omega) rp.2
            refine not_le (a := (chd r).1 + (n - m) * (chd r).2) (b := (chd r).2) (c := (chd t).1) (d := (chd t).2) rp.2 tp.2 (by omega) ts' ?_
            grind
        | false =>
          rw [ends_tl, ends_nil]
          have rs' : (chd r).2 ≤ (chd r).1 := rs
          have ts' : (chd t).2 ≤ (chd t).1 := ts
          have le' : (chd r).1 * ((chd t).2 + m * (chd t).1) ≤ (chd t).1 * ((chd r).2 + n * (chd r).1) := le
          by_cases lt : m < n
          · have e := (Sim.top (l0 := (chd r).1) (l1 := (chd r).2 + (n - m) * (chd r).1) (h0 := (chd t).1) (h1 := (chd t).2) rp.1 (by have := mul_ge (show 1 ≤ n - m by omega) rp.1; omega) ts' tp.2).tl m
            have e2 : (chd r).2 + (n - m) * (chd r).1 + m * (chd r).1 = (chd r).2 + n * (chd r).1 := by grind
            rw [e2] at e
            rw [Int.min_eq_right (by omega)]
            exact e
          · exfalso
            have := mul_ge (show 1 ≤ m - n by omega) tp.1
            refine not_le' (a := (chd r).1) (b := (chd r).2) (c := (chd t).1) (d := (chd t).2 + (m - n) * (chd t).1) rp.2 (by omega) rs' (by omega) ?_
            grind
    · have es : share ((w, n) :: r) ((v, m) :: t) = [] := by
        show (if w = v then _ else _) = _
        rw [if_neg wv]
      rw [es, ends_nil]
      cases w with
      | true =>
        cases v with
        | true => exact absurd rfl wv
        | false =>
          exfalso
          exact not_le hp.2 kp.2 hw (Int.le_of_lt kw) le
      | false =>
        cases v with
        | false => exact absurd rfl wv
        | true => exact Sim.top hp.1 (Int.le_of_lt hw) (Int.le_of_lt kw) kp.2
theorem share_ok : ∀ {a b : Option Bool} {P Q : List PRun}, okRuns a P → okRuns b Q → okRuns a (share P Q)
  | _, _, [], _, _, _ => by unfold share; trivial
  | _, _, _ :: _, [], _, _ => by unfold share; trivial
  | a, b, (w, n) :: r, (v, m) :: t, ⟨h1, h2, h3⟩, ⟨k1, k2, k3⟩ => by
    have h1' : 1 ≤ n := h1
    have k1' : 1 ≤ m := k1
    show okRuns a (if w = v then (w, min n m) :: (if n = m then share r t else []) else [])
    split
    · refine ⟨by show 1 ≤ min n m; omega, h2, ?_⟩
      split
      · exact share_ok h3 k3
      · trivial
    · trivial
theorem share_len : ∀ (P Q : List PRun), (share P Q).length ≤ P.length
  | [], _ => by unfold share; exact Nat.le_refl _
  | _ :: _, [] => by unfold share; exact Nat.zero_le _
  | (w, n) :: r, (v, m) :: t => by
    show (if w = v then (w, min n m) :: (if n = m then share r t else []) else []).length ≤ _
    split
    · split
      · have := share_len r t
        simp
        omega
      · simp
    · exact Nat.zero_le _
theorem share_bd {k : Nat} : ∀ {P Q : List PRun}, (∀ x ∈ P, Bd k x.2 ∧ 0 ≤ x.2) → (∀ x ∈ Q, 0 ≤ x.2) → ∀ x ∈ share P Q, Bd k x.2
  | [], _, _, _ => fun x hx => by unfold share at hx; cases hx
  | _ :: _, [], _, _ => fun x hx => by unfold share at hx; cases hx
  | (w, n) :: r, (v, m) :: t, h, k => fun x hx => by
    have hx' : x ∈ (if w = v then (w, min n m) :: (if n = m then share r t else []) else []) := hx
    split at hx'
    · rcases List.mem_cons.mp hx' with e | hx2
      · subst e
        have b := h _ List.mem_cons_self
        have k0 : 0 ≤ m := k _ List.mem_cons_self
        have n0 : 0 ≤ n := b.2
        exact b.1.le (by show 0 ≤ min n m; omega) (by show min n m ≤ n; omega)
      · split at hx2
        · exact share_bd (fun y hy => h y (List.mem_cons_of_mem _ hy)) (fun y hy => k y (List.mem_cons_of_mem _ hy)) x hx2
        · cases hx2
    · cases hx'
/-- all between has parts of at least those of the child -/
theorem Sim.least {l0 l1 h0 h1 p q : Int} {M : Ends4} (h : Sim l0 l1 h0 h1 M) (ok : M.Ok) (L1 : 1 ≤ l1) (H1 : 1 ≤ h1) (hq : 1 ≤ q) (lo : l0 * q ≤ p * l1) (hi : p * h1 ≤ h0 * q) : M.q + M.s ≤ q ∧ M.p + M.r ≤ p := by
  have q1 := ok.q
  have s0 := ok.s
  have a1 : M.p * q < p * M.q := lt_tr' q1 hq L1 h.lo lo
  have a2 : p * M.s < M.r * q := by
    refine lt_of_mul_lt H1 ?_
    have k1 := mul_le s0 hi
    have k2 := mul_lt hq h.hi
    have e1 : p * M.s * h1 = p * h1 * M.s := by grind
    have e2 : h0 * q * M.s = h0 * M.s * q := by grind
    have e3 : M.r * q * h1 = M.r * h1 * q := by grind
    omega
  exact ⟨between ok.d a1 a2 (by omega) s0, betweenU ok.d a1 a2 ok.p (by have := ok.r; omega)⟩
theorem Ends4.Ok.co {M : Ends4} (h : M.Ok) : gc (M.p + M.r) (M.q + M.s) = 1 :=
  co_of (c := M.r) (d := M.s) (by have := h.q; have := h.s; omega) (by have := h.d; grind)
theorem Ends4.Ok.one {M N : Ends4} (h : M.Ok) (k : N.Ok) (e1 : M.p + M.r = N.p + N.r) (e2 : M.q + M.s = N.q + N.s) : M.p = N.p ∧ M.q = N.q ∧ M.r = N.r ∧ M.s = N.s := by
  have hd := h.d
  have kd := k.d
  have h1 := h.q
  have h2 := h.s
  have k1 := k.q
  have k2 := k.s
  have e3 : (M.p + M.r) * (M.q - N.q) = (M.q + M.s) * (M.p - N.p) := by
    have a : (M.p + M.r) * M.q - M.p * (M.q + M.s) = 1 := by grind
    have b : (N.p + N.r) * N.q - N.p * (N.q + N.s) = 1 := by grind
    rw [← e1, ← e2] at b
    grind
  have dv : (M.q + M.s) ∣ (M.q - N.q) := co_dvd h.co ⟨M.p - N.p, e3⟩
  have q0 : M.q - N.q = 0 := by
    obtain ⟨c, hc⟩ := dv
    by_cases c0 : c = 0
    · rw [hc, c0, Int.mul_zero]
    · exfalso
      by_cases cp : 1 ≤ c
      · have := Int.mul_le_mul_of_nonneg_left cp (show 0 ≤ M.q + M.s by omega)
        omega
      · have := Int.mul_le_mul_of_nonneg_left (show c ≤ -1 by omega) (show 0 ≤ M.q + M.s by omega)
        omega
  have p0 : M.p - N.p = 0 := by
    rw [q0, Int.mul_zero] at e3
    rcases Int.mul_eq_zero.mp e3.symm with z | z
    · omega
    · exact z
  omega
end Z

namespace Z
open PySem PySem.Spec L2 PyProof.Rows

/-! ### loops with a target of two names -/
section
variable {K : PySem.W.Frag} {H0 : Hp} {S : List Sl} {t : TS} {N : List Sl → Prop} {R : Sl → Prop} {B C : List Sl → Prop}
/-- data comes to a target -/
def wG (K : PySem.W.Frag) (H0 : Hp) (g : TG) (S : List Sl) (d : PyData) (N : List Sl → Prop) : Prop :=
  ∀ (σ : L2.St) (H : Hp) (v : V), SR K H0 H σ S → Im K H v d → ∀ Q : L2.St → Hp → Prop, (∀ σ' S', SR K H0 H σ' S' → N S' → Q σ' H) → g v σ H Q
theorem wG_name {i : Nat} {d : PyData} {s0 : Sl} (h0 : S[i]? = some s0) (ht : s0.isT = false) (p : N (S.set i (.im d))) : wG K H0 (gName i) S d N := fun σ H v r m Q q => q _ _ (r.setIm h0 ht m) p
theorem wG_pair {i j : Nat} {d1 d2 : PyData} {s0 t0 : Sl} (h0 : S[i]? = some s0) (ht : s0.isT = false) (h0' : S[j]? = some t0) (ht' : t0.isT = false) (p : N ((S.set i (.im d1)).set j (.im d2))) :
    wG K H0 (gTup K 2 (gCons (gName i) (gCons (gName j) gNil))) S (.tuple [d1, d2]) N := fun σ H v r m Q q => by
  cases m with
  | tup hs hd =>
    cases hd with
    | cons o1 os =>
      cases os with
      | cons o2 os =>
        cases os
        obtain ⟨s1, h1, ht1⟩ := set_isT (i := i) (t := .im d1) h0' ht' rfl
        exact ⟨_, _, rfl, hs, rfl, _, _, rfl, _, _, rfl, rfl, q _ _ ((r.setIm h0 ht o1).setIm h1 ht1 o2) p⟩
/-- a walk over data, to any target -/
def WalksG (K : PySem.W.Frag) (H0 : Hp) (g : TG) (t : TS) (S : List Sl) (N : List Sl → Prop) (R : Sl → Prop) (T : List Sl) (ds : List PyData) : Prop :=
  ∃ (α : Type) (f : α → List Sl) (I : Nat → α → Prop) (x0 : α), Wk S (f x0) ∧ S.length = (f x0).length ∧ I 0 x0 ∧
    (∀ (k : Nat) d x, ds[k]? = some d → I k x → wG K H0 g (f x ++ T) d fun S1 => wS K H0 t S1 (fun S' => ∃ y, Wk S' (f y ++ T) ∧ I (k + 1) y) R (fun S' => ∃ y, Wk S' (f y ++ T) ∧ N (f y)) (fun S' => ∃ y, Wk S' (f y ++ T) ∧ I (k + 1) y)) ∧
    (∀ x, I ds.length x → N (f x))
theorem Wk.app2 : ∀ {S T : List Sl}, Wk (S ++ T) S
  | [], _ => by cases ‹List Sl› <;> trivial
  | _ :: _, _ => ⟨.inl (Eq.refl _), Wk.app2⟩
theorem walkG_step {α : Type} {g : TG} {f : α → List Sl} {I : Nat → α → Prop} {T : List Sl} {D : Ends} {k : Nat} {x : α} {d : PyData} {v : V} {σ : L2.St} {H : Hp} (gd : Gd K H0 D N R B C)
    (h : wG K H0 g (f x ++ T) d fun S1 => wS K H0 t S1 (fun S' => ∃ y, Wk S' (f y ++ T) ∧ I (k + 1) y) R (fun S' => ∃ y, Wk S' (f y ++ T) ∧ N (f y)) (fun S' => ∃ y, Wk S' (f y ++ T) ∧ I (k + 1) y)) (r : SR K H0 H σ (f x ++ T)) (m : Im K H v d) :
    g v σ H fun σ2 H2 => t { D with nx := fun σ H => ∃ y, I (k + 1) y ∧ SR K H0 H σ (f y ++ T), ct := fun σ H => ∃ y, I (k + 1) y ∧ SR K H0 H σ (f y ++ T), bk := D.nx } σ2 H2 := by
  refine h σ H v r m _ fun σ' S' r' q => ?_
  refine q _ _ _ ⟨?_, gd.rt, ?_, ?_⟩ r'
  · exact fun σ2 H2 S' r' ⟨y, w, iy⟩ => ⟨y, iy, r'.weak w⟩
  · exact fun σ2 H2 S' r' ⟨y, w, p⟩ => gd.nx _ _ _ ((r'.weak w).weak Wk.app2) p
  · exact fun σ2 H2 S' r' ⟨y, w, iy⟩ => ⟨y, iy, r'.weak w⟩
/-- over a list that stood at the entry -/
theorem wS_forBg {tl : TE} {g : TG} (h : wE K H0 tl S fun x => ∃ ds, x = .bor ds ∧ ∀ a vs, WalksG K H0 g t S N R [.tmb a vs ds] ds) : wS K H0 (tFor (iList K tl) g t) S N R B C := fun D σ H gd r => h σ H r _ fun v H1 xv e o ⟨ds, e1, h2⟩ => by
  subst e1
  obtain ⟨a, vs, rfl, hl, m⟩ := o
  obtain ⟨α, f, I, x0, w0, l0, i0, hs, hd⟩ := h2 a vs
  refine ⟨a, rfl, ⟨vs, sql_same (r.ex.trans e) hl⟩, for_list (xs := vs) (fun k σ H => ∃ x, I k x ∧ SR K H0 H σ (f x ++ [.tmb a vs ds])) ⟨x0, i0, ((r.mono e).pushB hl m).weak (Wk.push l0 w0)⟩ ?_ ?_ ?_⟩
  · rintro k σ' H' _ ⟨x, _, rx⟩
    exact sql_same rx.ex hl
  · rintro k y σ' H' hk ⟨x, ik, rx⟩
    obtain ⟨_, z⟩ := rx.ok _ _ (last_push _ _)
    obtain ⟨d, hd', md⟩ := z.get' hk
    exact walkG_step gd (hs k d x hd' ik) rx md
  · rintro σ' H' ⟨x, ik, rx⟩
    rw [m.len] at ik
    exact gd.nx _ _ _ (rx.weak Wk.app2) (hd x ik)
/-- over a new list -/
theorem wS_forNg {tl : TE} {g : TG} (h : wE K H0 tl S fun x => ∃ ds, x = .new ds ∧ ∀ a vs, WalksG K H0 g t S N R [.tmp a vs ds] ds) : wS K H0 (tFor (iList K tl) g t) S N R B C := fun D σ H gd r => h σ H r _ fun v H1 xv e o ⟨ds, e1, h2⟩ => by
  subst e1
  obtain ⟨a, vs, rfl, na, hl, m⟩ := o
  obtain ⟨α, f, I, x0, w0, l0, i0, hs, hd⟩ := h2 a vs
  refine ⟨a, rfl, ⟨vs, .inl (.inl hl)⟩, for_list (xs := vs) (fun k σ H => ∃ x, I k x ∧ SR K H0 H σ (f x ++ [.tmp a vs ds])) ⟨x0, i0, (r.push e na hl m).weak (Wk.push l0 w0)⟩ ?_ ?_ ?_⟩
  · rintro k σ' H' _ ⟨x, _, rx⟩
    exact .inl (.inl (rx.ok _ _ (last_push _ _)).2.1)
  · rintro k y σ' H' hk ⟨x, ik, rx⟩
    obtain ⟨d, hd', md⟩ := (rx.ok _ _ (last_push _ _)).2.2.get' hk
    exact walkG_step gd (hs k d x hd' ik) rx md
  · rintro σ' H' ⟨x, ik, rx⟩
    rw [m.len] at ik
    exact gd.nx _ _ _ (rx.weak Wk.app2) (hd x ik)
/-- two lists, place by place -/
def zipD : List PyData → List PyData → List PyData
  | d :: ds, e :: es => .tuple [d, e] :: zipD ds es
  | _, _ => []
theorem zipD_get : ∀ {ds es : List PyData} {k : Nat} {d e : PyData}, ds[k]? = some d → es[k]? = some e → (zipD ds es)[k]? = some (.tuple [d, e])
  | [], _, _, _, _, h, _ => by simp at h
  | _ :: _, [], _, _, _, _, h => by simp at h
  | d :: ds, e :: es, 0, _, _, h, k => by
    simp at h k
    subst h k
    rfl
  | d :: ds, e :: es, i + 1, _, _, h, k => by
    show (zipD ds es)[i]? = _
    exact zipD_get (by simpa using h) (by simpa using k)
theorem zipD_len : ∀ (ds es : List PyData), (zipD ds es).length = min ds.length es.length
  | [], _ => by unfold zipD; simp
  | _ :: _, [] => by unfold zipD; simp
  | d :: ds, e :: es => by
    show (zipD ds es).length + 1 = _
    rw [zipD_len ds es]
    simp
theorem Ims.at {H : Hp} {vs : List V} {ds : List PyData} (m : Ims K H vs ds) {k : Nat} (h : k < vs.length) : ∃ v d, vs[k]? = some v ∧ ds[k]? = some d ∧ Im K H v d := by
  have e : vs[k]? = some vs[k] := List.getElem?_eq_getElem h
  obtain ⟨d, hd, q⟩ := m.get' e
  exact ⟨_, d, e, hd, q⟩
/-- over zip of two lists that stood at the entry -/
theorem wS_forZ {tr : TA} {g : TG} (h : wA K H0 tr S fun xs => ∃ ds es, xs = [.bor ds, .bor es] ∧ ∀ a vs b us, WalksG K H0 g t S N R [.tmb a vs ds, .tmb b us es] (zipD ds es)) : wS K H0 (tFor (iZip K tr) g t) S N R B C := fun D σ H gd r => h σ H r _ fun ws H1 xs e os ⟨ds, es, e1, h2⟩ => by
  subst e1
  cases os with
  | cons o1 os =>
    cases os with
    | cons o2 os =>
      cases os
      obtain ⟨a, vs, rfl, hl, m⟩ := o1
      obtain ⟨b, us, rfl, hk, m2⟩ := o2
      obtain ⟨α, f, I, x0, w0, l0, i0, hs, hd⟩ := h2 a vs b us
      have r1 := ((r.mono e).pushB hl m).pushB hk m2
      rw [List.append_assoc] at r1
      have wk : Wk (S ++ ([.tmb a vs ds] ++ [.tmb b us es])) (f x0 ++ [.tmb a vs ds, .tmb b us es]) := by
        have := Wk.push (t := Sl.tmb b us es) (by rw [List.length_append, List.length_append, l0]) (Wk.push (t := Sl.tmb a vs ds) l0 w0)
        rw [List.append_assoc, List.append_assoc] at this
        exact this
      refine ⟨a, b, vs, us, rfl, sql_same (r.ex.trans e) hl, sql_same (r.ex.trans e) hk, ?_⟩
      have mid : ∀ x, (f x ++ [Sl.tmb a vs ds, .tmb b us es])[(f x).length]? = some (.tmb a vs ds) := fun x => by simp
      have fin : ∀ x, (f x ++ [Sl.tmb a vs ds, .tmb b us es])[(f x).length + 1]? = some (.tmb b us es) := fun x => by simp
      refine ⟨fun i m σ H => m = vs.length - i ∧ i ≤ vs.length ∧ i ≤ us.length ∧ ∃ x, I i x ∧ SR K H0 H σ (f x ++ [.tmb a vs ds, .tmb b us es]), ⟨_, rfl, Nat.zero_le _, Nat.zero_le _, x0, i0, r1.weak wk⟩, ?_⟩
      rintro i n σ' H' ⟨rfl, hi, hj, x, ix, rx⟩
      have qx := sql_same rx.ex hl
      have qy := sql_same rx.ex hk
      by_cases hlt : i < vs.length ∧ i < us.length
      · obtain ⟨_, z1⟩ := rx.ok _ _ (mid x)
        obtain ⟨_, z2⟩ := rx.ok _ _ (fin x)
        obtain ⟨v, d, hv, hdv, md⟩ := z1.at hlt.1
        obtain ⟨u, d2, hu, hdu, md2⟩ := z2.at hlt.2
        refine .inr ⟨⟨vs, us, _, _, qx, qy, hv, hu⟩, fun σ H => ∃ y, I (i + 1) y ∧ SR K H0 H σ (f y ++ [.tmb a vs ds, .tmb b us es]), fun σ2 H2 p => ⟨vs.length - (i + 1), by omega, rfl, hlt.1, hlt.2, p⟩, fun w H2 y => ?_⟩
        obtain ⟨T, x', y', rfl, hT, rfl, f1, f2⟩ := y
        have ex := f1 vs qx
        have ey := f2 us qy
        rw [hv] at ex
        rw [hu] at ey
        cases ex
        cases ey
        refine walkG_step gd (hs i _ x (zipD_get hdv hdu) ix) (rx.mono (same_upd hT)) ?_
        exact .tup (.inl (.inl upd_same)) (.cons (Im.mono (.of (same_upd hT)) _ _ md) (.cons (Im.mono (.of (same_upd hT)) _ _ md2) .nil))
      · have en : i = (zipD ds es).length := by
          rw [zipD_len, ← m.len, ← m2.len]
          omega
        rw [en] at ix
        refine .inl ⟨⟨vs, us, qx, qy, by omega⟩, gd.nx _ _ _ (rx.weak Wk.app2) (hd x ix)⟩
end
end Z

namespace Z
open PySem PySem.Spec L2 PyProof.Rows

/-! ### runs as they are handed in: is it a path? -/
def isWay (w : Str) : Bool := decide (w = "left") || decide (w = "right")
def rawOk : Option Str → List RawR → Bool
  | _, [] => true
  | a, (w, n) :: r => isWay w && (decide (1 ≤ n) && (!decide (a = some w) && rawOk (some w) r))
theorem inD_isWay (w : Str) : inD (.str w) [.str "left", .str "right"] = isWay w := by
  unfold inD isWay
  show (PyData.eqv (.str "left") (.str w) || (PyData.eqv (.str "right") (.str w) || false)) = _
  rw [eqv_ss, eqv_ss, Bool.or_false]
  congr 1
  · rw [decide_eq_decide]; exact ⟨fun h => h.symm, fun h => h.symm⟩
  · rw [decide_eq_decide]; exact ⟨fun h => h.symm, fun h => h.symm⟩
theorem isWay_of {w : Str} (h : isWay w = true) : ∃ b, w = wayS b := by
  unfold isWay at h
  rw [Bool.or_eq_true] at h
  rcases h with h | h
  · exact ⟨false, of_decide_eq_true h⟩
  · exact ⟨true, of_decide_eq_true h⟩
theorem isWay_way (b : Bool) : isWay (wayS b) = true := by cases b <;> decide +kernel
theorem raw_path : ∀ {a : Option Bool} {g : List RawR}, rawOk (a.map wayS) g = true → ∃ rs : List PRun, g = toRaw rs ∧ okRuns a rs
  | _, [], _ => ⟨[], rfl, trivial⟩
  | a, (w, n) :: r, h => by
    have h' : (isWay w && (decide (1 ≤ n) && (!decide (a.map wayS = some w) && rawOk (some w) r))) = true := h
    rw [Bool.and_eq_true, Bool.and_eq_true, Bool.and_eq_true] at h'
    obtain ⟨h1, h2, h3, h4⟩ := h'
    obtain ⟨b, rfl⟩ := isWay_of h1
    obtain ⟨rs, rfl, ok⟩ := raw_path (a := some b) h4
    refine ⟨(b, n) :: rs, rfl, of_decide_eq_true h2, fun e => ?_, ok⟩
    subst e
    simp at h3
theorem path_raw : ∀ {a : Option Bool} {rs : List PRun}, okRuns a rs → rawOk (a.map wayS) (toRaw rs) = true
  | _, [], _ => rfl
  | a, (b, n) :: r, ⟨h1, h2, h3⟩ => by
    show (isWay (wayS b) && (decide (1 ≤ n) && (!decide (a.map wayS = some (wayS b)) && rawOk (some (wayS b)) (toRaw r)))) = true
    have ih : rawOk (some (wayS b)) (toRaw r) = true := path_raw (a := some b) h3
    rw [isWay_way, ih, decide_eq_true h1]
    have : ¬ a.map wayS = some (wayS b) := fun e => by
      cases a with
      | none => cases e
      | some c =>
        have e' : wayS c = wayS b := Option.some.inj e
        exact h2 (congrArg some (way_inj e'))
    rw [decide_eq_false this]
    rfl
theorem raw_iff {g : List RawR} : rawOk none g = true ↔ ∃ rs : List PRun, g = toRaw rs ∧ Path rs :=
  ⟨fun h => raw_path (a := none) h, fun ⟨rs, e, p⟩ => by subst e; exact path_raw (a := none) p⟩
theorem raws_get {rs : List RawR} {k : Nat} {d : PyData} (h : (rawsD rs)[k]? = some d) : ∃ x, rs[k]? = some x ∧ d = rawD x := by
  rw [List.getElem?_map] at h
  cases e : rs[k]? with
  | none => rw [e] at h; cases h
  | some x => rw [e] at h; exact ⟨x, rfl, (Option.some.inj h).symm⟩
/-- None or a text -/
def ahD : Option Str → PyData
  | none => .none
  | some s => .str s
theorem neq_ah {w : Str} {a : Option Str} {k : Bool → Prop} (hs : PyData.strOk w = true) (ha : ∀ v, a = some v → PyData.strOk v = true) (h : k (decide (a = some w))) : neq (.im (.str w)) (.im (ahD a)) k := by
  have sh : ∀ {z : Str}, PyData.strOk z = true → SeqAt.shaped (.str z) = true := fun {z} q => by
    unfold SeqAt.shaped
    rw [Bool.and_eq_true_iff]
    exact ⟨q, rfl⟩
  cases a with
  | none =>
    refine ⟨⟨rfl, sh hs⟩, ⟨rfl, rfl⟩, ?_⟩
    have e : decide (none = some w) = false := decide_eq_false (fun z => by cases z)
    rw [e] at h
    exact h
  | some v =>
    refine ⟨⟨rfl, sh hs⟩, ⟨rfl, sh (ha v rfl)⟩, ?_⟩
    show k (PyData.eqv (.str w) (.str v))
    rw [eqv_ss]
    have e : decide (w = v) = decide (some v = some w) := by rw [decide_eq_decide]; exact ⟨fun z => by rw [z], fun z => (Option.some.inj z).symm⟩
    rw [e]
    exact h
/-- how great the child of a path can be -/
theorem chd_bd {k : Nat} : ∀ {rs : List PRun}, (∀ x ∈ rs, Bd k x.2 ∧ 0 ≤ x.2) → Bd ((k + 1) * rs.length + 1) (chd rs).1 ∧ Bd ((k + 1) * rs.length + 1) (chd rs).2
  | [], _ => ⟨⟨by show 1 < 2 ^ (0 + 1); decide⟩, ⟨by show 1 < 2 ^ (0 + 1); decide⟩⟩
  | (b, n) :: r, h => by
    have ih := chd_bd (rs := r) fun y hy => h y (List.mem_cons_of_mem _ hy)
    have hn := h _ List.mem_cons_self
    have hn1 : Bd k n := hn.1
    have hn0 : 0 ≤ n := hn.2
    have hp := chd_pos (rs := r) fun y hy => (h y (List.mem_cons_of_mem _ hy)).2
    have grow : ∀ {c d : Int}, 1 ≤ c → 1 ≤ d → Bd ((k + 1) * r.length + 1) c → Bd ((k + 1) * r.length + 1) d → Bd ((k + 1) * (r.length + 1) + 1) (c + n * d) := fun {c d} hc hd bc bd => by
      refine Bd.of (by have := Int.mul_nonneg hn0 (show 0 ≤ d by omega); omega) ?_
      have l1 := bc.lt
      have l2 := bd.lt
      have l3 := hn1.lt
      have e : (k + 1) * (r.length + 1) + 1 = k + 1 + ((k + 1) * r.length + 1) := by rw [Nat.mul_add]; omega
      have p1 : (1 : Int) ≤ 2 ^ k := by have : (0 : Int) < 2 ^ k := Int.pow_pos (by decide); omega
      have p2 : (0 : Int) < 2 ^ ((k + 1) * r.length + 1) := Int.pow_pos (by decide)
      rw [e, Int.pow_add, Int.pow_add 2 k 1]
      generalize (2 : Int) ^ ((k + 1) * r.length + 1) = X at *
      generalize (2 : Int) ^ k = Y at *
      have m1 : n * d ≤ (Y - 1) * d := Int.mul_le_mul_of_nonneg_right (by omega) (by omega)
      have m2 : (Y - 1) * d ≤ (Y - 1) * X := Int.mul_le_mul_of_nonneg_left (by omega) (by omega)
      rw [Int.sub_mul, Int.one_mul] at m2
      rw [Int.sub_mul, Int.one_mul] at m2
      have m4 : (1 : Int) * X ≤ Y * X := Int.mul_le_mul_of_nonneg_right p1 (by omega)
      have m3 : Y * 2 ^ 1 * X = Y * X + Y * X := by grind
      rw [Int.sub_mul, Int.one_mul] at m1
      omega
    have same : ∀ {c : Int}, Bd ((k + 1) * r.length + 1) c → Bd ((k + 1) * (r.length + 1) + 1) c := fun bc => bc.mono (by rw [Nat.mul_add]; omega)
    cases b with
    | true => exact ⟨grow hp.1 hp.2 ih.1 ih.2, same ih.2⟩
    | false => exact ⟨same ih.1, grow hp.2 hp.1 ih.2 ih.1⟩
end Z

namespace Z
open PySem PySem.Spec L2 PyProof.Rows

/-! ### int of a truth value, slices of lists and texts -/
def lo0 (n : Nat) : Option Int → Nat
  | none => 0
  | some v => if v < 0 then (v + (n : Int)).toNat else min v.toNat n
def hi0 (n : Nat) : Option Int → Nat
  | none => n
  | some v => if v < 0 then (v + (n : Int)).toNat else min v.toNat n
def cutL {α : Type} (xs : List α) (lo hi : Option Int) : List α := (xs.drop (lo0 xs.length lo)).take (hi0 xs.length hi - lo0 xs.length lo)
theorem cutV_cutL (xs : List V) (lo hi : Option Int) : cutV xs lo hi = cutL xs lo hi := by
  unfold cutV cutL
  cases lo <;> cases hi <;> rfl
theorem cutL_to {α : Type} {xs : List α} {k : Nat} (h : k ≤ xs.length) : cutL xs none (some (k : Int)) = xs.take k := by
  unfold cutL lo0 hi0
  dsimp only
  rw [if_neg (by omega), List.drop_zero, Int.toNat_natCast, Nat.min_eq_left h, Nat.sub_zero]
theorem cutL_from {α : Type} {xs : List α} {k : Nat} : cutL xs (some (k : Int)) none = xs.drop k := by
  unfold cutL lo0 hi0
  dsimp only
  rw [if_neg (by omega), Int.toNat_natCast]
  by_cases h : k ≤ xs.length
  · rw [Nat.min_eq_left h]
    exact List.take_of_length_le (by rw [List.length_drop]; exact Nat.le_refl _)
  · rw [Nat.min_eq_right (by omega), List.drop_of_length_le (Nat.le_refl _), List.drop_of_length_le (by omega)]
    simp
section
variable {K : PySem.W.Frag} {H0 : Hp} {S : List Sl} {ta tb te : TE} {P : Xd → Prop}
theorem wE_intB (h : wE K H0 te S fun x => nb x fun b => P (.im (.int (if b = true then 1 else 0)))) : wE K H0 (tCB (fun xs H Q => (∃ i, xs = [V.int i] ∧ Q (V.int i) H) ∨ ∃ k, xs = [V.bl k] ∧ Q (V.int (if k = true then 1 else 0)) H) (tCons te tNil)) S P := fun σ H s Q q => h σ H s _ fun v H1 x e o ⟨b, e1, p⟩ => by
  subst e1
  have ev := im_bl o
  subst ev
  exact .inr ⟨b, rfl, q _ _ (.im _) e (.int _) p⟩
/-- a slice's part -/
def wO (K : PySem.W.Frag) (H0 : Hp) (t : TO) (S : List Sl) (P : Option Int → Prop) : Prop := ∀ (σ : L2.St) (H : Hp), SR K H0 H σ S → ∀ Q : Option Int → Hp → Prop, (∀ o H', Same H H' → P o → Q o H') → t σ H Q
variable {PO' : Option Int → Prop} {tl th : TO}
theorem wO_none (p : PO' none) : wO K H0 tNoPart S PO' := fun σ H s Q q => q none H (.refl H) p
theorem wO_some (h : wE K H0 te S fun x => n1 x fun i => PO' (some i)) : wO K H0 (tPart te) S PO' := fun σ H s Q q => h σ H s _ fun v H1 x e o ⟨i, e1, p⟩ => by
  subst e1
  exact ⟨i, im_int o, q _ _ e p⟩
theorem wE_slL (h : wE K H0 te S fun x => wO K H0 tl S fun lo => wO K H0 th S fun hi => nls x fun ds => P (.new (cutL ds lo hi))) : wE K H0 (tSl (rSlL K) te tl th) S P := fun σ H s Q q =>
  h σ H s _ fun v H1 x e o h1 => h1 σ H1 (s.mono e) _ fun lo H2 e2 h2 => h2 σ H2 ((s.mono e).mono e2) _ fun hi H3 e3 ⟨ds, ed, p⟩ => by
    obtain ⟨a, vs, rfl, m, t⟩ := ((o.mono e2).mono e3).lst (((s.mono e).mono e2).mono e3) ed
    have e4 := (e.trans e2).trans e3
    refine ⟨a, vs, rfl, m, fun l hl => q _ _ (.new (cutL ds lo hi)) (e4.trans (same_upd hl)) ⟨l, cutV vs lo hi, rfl, free_back e4 hl, upd_same, ?_⟩ p⟩
    rw [cutV_cutL]
    unfold cutL
    rw [t.len]
    exact Ims.mono (.of (same_upd hl)) _ _ (Ims.take _ (Ims.drop _ t))
/-! texts -/
theorem wE_slS (h : wE K H0 te S fun x => wO K H0 tl S fun lo => wO K H0 th S fun hi => ns x fun z => nside (z.length ≤ sizeLine) (P (.im (.str (cutS z lo hi))))) : wE K H0 (tSl rSlS te tl th) S P := fun σ H s Q q =>
  h σ H s _ fun v H1 x e o h1 => h1 σ H1 (s.mono e) _ fun lo H2 e2 h2 => h2 σ H2 ((s.mono e).mono e2) _ fun hi H3 e3 ⟨z, ez, c, p⟩ => by
    subst ez
    have ev := im_str o
    subst ev
    exact ⟨z, rfl, c, q _ _ (.im _) ((e.trans e2).trans e3) (.str _) p⟩
theorem wE_addS (h : wE K H0 ta S fun x => wE K H0 tb S fun y => ns2 x y fun i j => nside (i.length + j.length ≤ sizeLine) (P (.im (.str (i ++ j))))) : wE K H0 (tOp (fun x y H Q => ∃ i j, x = V.str i ∧ y = V.str j ∧ i.length + j.length ≤ sizeLine ∧ Q (V.str (i ++ j)) H) ta tb) S P :=
  wE_two (h.imp fun x hx => hx.imp fun y ⟨i, j, e1, e2, c, p⟩ σ H1 H2 H v w r _ _ o1 o2 Q q => by
    subst e1 e2
    exact ⟨i, j, im_str o1, im_str o2, c, q _ _ (.im _) (.refl _) (.str _) p⟩)
theorem wE_strI (h : wE K H0 te S fun x => n1 x fun i => nside (i.natAbs.log2 < 1920) (P (.im (.str (toString i))))) : wE K H0 (tCB (fun xs H Q => ∃ i, xs = [V.int i] ∧ i.natAbs.log2 < 1920 ∧ Q (V.str (toString i)) H) (tCons te tNil)) S P := fun σ H s Q q => h σ H s _ fun v H1 x e o ⟨i, e1, c, p⟩ => by
  subst e1
  have ev := im_int o
  subst ev
  exact ⟨i, rfl, c, q _ _ (.im _) e (.str _) p⟩
def nixS (x y : Xd) (k : Str → Prop) : Prop := ∃ z i c, x = .im (.str z) ∧ y = .im (.int i) ∧ z.length ≤ sizeLine ∧ atI z.cps.toList i = some c ∧ k ⟨#[c]⟩
theorem nixS_mk {z : Str} {i : Int} {c : Nat} {k : Str → Prop} (hz : z.length ≤ sizeLine) (e : atI z.cps.toList i = some c) (h : k ⟨#[c]⟩) : nixS (.im (.str z)) (.im (.int i)) k := ⟨z, i, c, rfl, rfl, hz, e, h⟩
theorem wE_ixS (h : wE K H0 ta S fun x => wE K H0 tb S fun y => nixS x y fun d => P (.im (.str d))) : wE K H0 (tOp rIxS ta tb) S P :=
  wE_two (h.imp fun x hx => hx.imp fun y ⟨z, i, c, e1, e2, hz, a, p⟩ σ H1 H2 H v w r _ _ o1 o2 Q q => by
    subst e1 e2
    exact ⟨z, i, c, im_str o1, im_int o2, hz, a, q _ _ (.im _) (.refl _) (.str _) p⟩)
end
/-! ### the script's cells, by a function -/
def cell (ns : List Int) (k : Int) : Int := ns.getD k.toNat 0
def wayI (ns : List Int) (k q : Int) : Int := (cell ns k * 48271 + 7919 * (ns.length : Int)) % 2147483647 % q
theorem cell_at {ns : List Int} {k : Int} (h0 : 0 ≤ k) (h : k < ((iL ns).length : Int)) : atI (iL ns) k = some (.int (cell ns k)) := by
  rw [List.length_map] at h
  obtain ⟨j, rfl⟩ : ∃ j : Nat, k = (j : Int) := ⟨k.toNat, by omega⟩
  have hj : j < ns.length := by omega
  refine atI_nat ?_
  rw [List.getElem?_map, List.getElem?_eq_getElem hj]
  unfold cell
  rw [Int.toNat_natCast, List.getD_eq_getElem?_getD, List.getElem?_eq_getElem hj]
  rfl
theorem cell_out {ns : List Int} {k : Int} (h0 : 0 ≤ k) (h : ¬ k < ((iL ns).length : Int)) : cell ns k = 0 := by
  rw [List.length_map] at h
  unfold cell
  rw [List.getD_eq_getElem?_getD, List.getElem?_eq_none (by omega)]
  rfl
theorem wayI_in {ns : List Int} {k q : Int} (h : 0 < q) : 0 ≤ wayI ns k q ∧ wayI ns k q < q := ⟨Int.emod_nonneg _ (by omega), Int.emod_lt_of_pos _ h⟩
/-! ### a path drawn run by run -/
/-- what the loop has made by turn k: counts from 1 to m, the ways in turn from c -/
structure Drawn (c m : Int) (k : Nat) (rs : List PRun) : Prop where
  len : rs.length = k
  path : Path rs
  cnt : ∀ x ∈ rs, 1 ≤ x.2 ∧ x.2 ≤ m
  last : ∀ b, rs.getLast?.map (·.1) = some b → b = decide ((c + k - 1) % 2 = 1)
theorem Drawn.start (c m : Int) : Drawn c m 0 [] := ⟨rfl, trivial, fun _ h => (by cases h), fun b h => (by cases h)⟩
theorem Drawn.more {c m n : Int} {k : Nat} {rs : List PRun} (h : Drawn c m k rs) (h1 : 1 ≤ n) (h2 : n ≤ m) : Drawn c m (k + 1) (rs ++ [(decide ((c + k) % 2 = 1), n)]) := by
  refine ⟨by rw [List.length_append, h.len]; rfl, okRuns_append _ _ _ h.path h1 ?_, fun x hx => ?_, fun b hb => ?_⟩
  · rw [Option.or_none]
    intro e
    have q := h.last _ e
    have : ((c + k) % 2 = 1) ↔ ((c + k - 1) % 2 = 1) := decide_eq_decide.mp q
    omega
  · rcases List.mem_append.mp hx with z | z
    · exact h.cnt x z
    · rw [List.mem_singleton.mp z]
      exact ⟨h1, h2⟩
  · rw [last_app] at hb
    cases hb
    rw [decide_eq_decide]
    omega
theorem wayS_mod {i : Int} : atI [PyData.str "left", .str "right"] (i % 2) = some (.str (wayS (decide (i % 2 = 1)))) := by
  have : i % 2 = 0 ∨ i % 2 = 1 := by omega
  rcases this with h | h
  · rw [h]; rfl
  · rw [h]; rfl
/-- one count becomes another -/
theorem okRuns_set : ∀ {a : Option Bool} {rs : List PRun} {i : Nat} {x : PRun} {n : Int}, okRuns a rs → rs[i]? = some x → 1 ≤ n → okRuns a (rs.set i (x.1, n))
  | _, [], i, _, _, _, e, _ => by simp at e
  | a, y :: r, 0, x, n, ⟨h1, h2, h3⟩, e, hn => by
    simp at e
    subst e
    exact ⟨hn, h2, h3⟩
  | a, y :: r, i + 1, x, n, ⟨h1, h2, h3⟩, e, hn => by
    have e' : r[i]? = some x := by simpa using e
    exact ⟨h1, h2, okRuns_set h3 e' hn⟩
theorem runsD_set (rs : List PRun) (i : Nat) (x : PRun) : (runsD rs).set i (runD x) = runsD (rs.set i x) := (List.map_set).symm
theorem ixN_nat {n j : Nat} (h : j < n) : ixN n (j : Int) = some j := by
  unfold ixN
  rw [if_pos (by omega), if_pos (by omega), Int.toNat_natCast]
/-! ### a run that can't stand there -/
theorem shaped_raw {w : Str} {n : Int} (h : PyData.strOk w = true) : SeqAt.shaped (rawD (w, n)) = true := by
  unfold SeqAt.shaped
  rw [Bool.and_eq_true_iff]
  refine ⟨?_, ?_⟩
  · show (PyData.strOk w && (true && true)) = true
    rw [h]
    rfl
  · exact decide_eq_true (Nat.le_of_ble_eq_true rfl)
theorem neq_raw {w v : Str} {n m : Int} {k : Bool → Prop} (hw : PyData.strOk w = true) (hv : PyData.strOk v = true) (h : k (decide (w = v ∧ n = m))) : neq (.im (rawD (w, n))) (.im (rawD (v, m))) k := by
  refine ⟨⟨rfl, shaped_raw hw⟩, ⟨rfl, shaped_raw hv⟩, ?_⟩
  have e : PyData.eqv (rawD (w, n)) (rawD (v, m)) = decide (w = v ∧ n = m) := by
    have q := eqv_iff (rawD (w, n)) (rawD (v, m)) rfl rfl
    rw [Bool.eq_iff_iff, q]
    simp
  show k (PyData.eqv (rawD (w, n)) (rawD (v, m)))
  rw [e]
  exact h
theorem rawOk_bad {w : Str} {n : Int} (h : isWay w = false ∨ n < 1) : ∀ (a : Option Str) (xs ys : List RawR), rawOk a (xs ++ [(w, n)] ++ ys) = false
  | a, [], ys => by
    show (isWay w && (decide (1 ≤ n) && (!decide (a = some w) && rawOk (some w) ys))) = false
    rcases h with h | h
    · rw [h]; rfl
    · rw [decide_eq_false (show ¬ 1 ≤ n by omega), Bool.false_and, Bool.and_false]
  | a, (v, m) :: r, ys => by
    show (isWay v && (decide (1 ≤ m) && (!decide (a = some v) && rawOk (some v) (r ++ [(w, n)] ++ ys)))) = false
    rw [rawOk_bad h (some v) r ys, Bool.and_false, Bool.and_false, Bool.and_false]
theorem flip_bad : ∀ {a : Option Bool} {rs : List PRun} {j : Nat} {b : Bool} {m n : Int}, okRuns a rs → rs[j]? = some (b, m) → 2 ≤ rs.length → ¬ okRuns a (rs.set j (!b, n))
  | _, [], _, _, _, _, _, e, _ => by simp at e
  | a, [x], _, _, _, _, _, _, l => by simp at l
  | a, x :: y :: r, 0, b, m, n, ⟨_, _, _, h2, _⟩, e, _ => by
    simp at e
    subst e
    rintro ⟨_, _, _, k2, _⟩
    apply k2
    have h2' : b ≠ y.1 := fun z => h2 (congrArg some z)
    show some (!b) = some y.1
    congr 1
    revert h2'
    cases b <;> cases y.1 <;> simp
  | a, x :: y :: r, 1, b, m, n, ⟨_, _, _, h2, _⟩, e, _ => by
    simp at e
    subst e
    rintro ⟨_, _, _, k2, _⟩
    apply k2
    have h2' : x.1 ≠ b := fun z => h2 (congrArg some z)
    show some x.1 = some (!b)
    congr 1
    revert h2'
    cases b <;> cases x.1 <;> simp
  | a, x :: y :: r, j + 2, b, m, n, ⟨_, _, h3⟩, e, _ => by
    rintro ⟨_, _, k3⟩
    have e' : (y :: r)[j + 1]? = some (b, m) := by simpa using e
    have l' : 2 ≤ (y :: r).length := by
      have := (List.getElem?_eq_some_iff.mp e').1
      omega
    exact flip_bad h3 e' l' k3
/-- the path with the run at j in its place -/
def putRaw (rs : List PRun) (j : Nat) (x : RawR) : List RawR := toRaw (rs.take j) ++ [x] ++ toRaw (rs.drop (j + 1))
theorem putRaw_data (rs : List PRun) (j : Nat) (x : RawR) : rawsD (putRaw rs j x) = (runsD rs).take j ++ [rawD x] ++ (runsD rs).drop (j + 1) := by
  unfold putRaw
  rw [← List.map_take, ← List.map_drop]
  show List.map rawD _ = _
  rw [List.map_append, List.map_append]
  have e1 := rawsD_toRaw (rs.take j)
  have e2 := rawsD_toRaw (rs.drop (j + 1))
  show rawsD (toRaw (rs.take j)) ++ _ ++ rawsD (toRaw (rs.drop (j + 1))) = _
  rw [e1, e2]
  rfl
theorem putRaw_set {rs : List PRun} {j : Nat} (h : j < rs.length) (b : Bool) (n : Int) : putRaw rs j (wayS b, n) = toRaw (rs.set j (b, n)) := by
  unfold putRaw
  rw [List.set_eq_take_append_cons_drop, if_pos h]
  show _ = List.map _ _
  rw [List.map_append, List.map_cons, List.append_assoc]
  rfl
theorem putRaw_bad {rs : List PRun} {j : Nat} {b : Bool} {m n : Int} {w : Str} (path : Path rs) (h : rs[j]? = some (b, m)) (k : (isWay w = false ∨ n < 1) ∨ (w = wayS (!b) ∧ 2 ≤ rs.length)) : rawOk none (putRaw rs j (w, n)) = false := by
  rcases k with k | ⟨rfl, k⟩
  · exact rawOk_bad k _ _ _
  · have jl := (List.getElem?_eq_some_iff.mp h).1
    rw [putRaw_set jl]
    cases q : rawOk none (toRaw (rs.set j (!b, n))) with
    | false => rfl
    | true =>
      obtain ⟨ts, e, p⟩ := raw_iff.mp q
      rw [← toRaw_inj e] at p
      exact absurd p (flip_bad path h k)
theorem putRaw_mem {rs : List PRun} {j : Nat} {x : RawR} {k : Nat} (h : ∀ y ∈ rs, Bd k y.2) (hx : Bd k x.2) : ∀ y ∈ putRaw rs j x, Bd k y.2 := fun y hy => by
  unfold putRaw at hy
  rcases List.mem_append.mp hy with z | z
  · rcases List.mem_append.mp z with z | z
    · obtain ⟨u, hu, rfl⟩ := List.mem_map.mp z
      exact h u (List.mem_of_mem_take hu)
    · rw [List.mem_singleton.mp z]; exact hx
  · obtain ⟨u, hu, rfl⟩ := List.mem_map.mp z
    exact h u (List.mem_of_mem_drop hu)
theorem putRaw_len {rs : List PRun} {j : Nat} {x : RawR} (h : j < rs.length) : (putRaw rs j x).length = rs.length := by
  unfold putRaw
  rw [List.length_append, List.length_append, List.length_map, List.length_map, List.length_take, List.length_drop, List.length_singleton]
  omega
theorem chd_co {rs : List PRun} (h : Path rs) : gc (chd rs).1 (chd rs).2 = 1 := by
  have ec := ends_chd rs
  rw [← ec.1, ← ec.2]
  exact h.ends.co
/-! ### pairs of fractions -/
theorem neq_p4 {a b c d a' b' c' d' : Int} {k : Bool → Prop} (h : k (decide ((a = a' ∧ b = b') ∧ c = c' ∧ d = d'))) : neq (.im (.tuple [fr a b, fr c d])) (.im (.tuple [fr a' b', fr c' d'])) k := ⟨⟨rfl, rfl⟩, ⟨rfl, rfl⟩, by
  have e : PyData.eqv (.tuple [fr a b, fr c d]) (.tuple [fr a' b', fr c' d']) = decide ((a = a' ∧ b = b') ∧ c = c' ∧ d = d') := by
    have q := eqv_iff (.tuple [fr a b, fr c d]) (.tuple [fr a' b', fr c' d']) rfl rfl
    rw [Bool.eq_iff_iff, q]
    simp [fr]
  show k (PyData.eqv (.tuple [fr a b, fr c d]) (.tuple [fr a' b', fr c' d']))
  rw [e]
  exact h⟩
instance Bd.iteI {k : Nat} {i : Int} [h : Bd k i] : Bd k (if i < 0 then -i else i) := ab_bd h
theorem frac_lt {A B C D n1 d1 n2 d2 : Int} (hB : 1 ≤ B) (hD : 1 ≤ D) (h1 : 1 ≤ d1) (h2 : 1 ≤ d2) (e1 : n1 * B = A * d1) (e2 : n2 * D = C * d2) : n1 * d2 < n2 * d1 ↔ A * D < C * B := by
  have q1 : n1 * d2 * (B * D) = A * D * (d1 * d2) := by grind
  have q2 : n2 * d1 * (B * D) = C * B * (d1 * d2) := by grind
  have pB := mul_pos' hB hD
  have pd := mul_pos' h1 h2
  constructor
  · intro h
    have := mul_lt pB h
    exact lt_of_mul_lt pd (by omega)
  · intro h
    have := mul_lt pd h
    exact lt_of_mul_lt pB (by omega)
/-- how far two fractions lie from a third one, as apart and less tell -/
theorem near_less {A C b d y : Int} (hA : 0 ≤ A) (hC : 0 ≤ C) (hb : 1 ≤ b) (hd : 1 ≤ d) (hy : 1 ≤ y) :
    A / gc A (b * y) * (d * y / gc C (d * y)) < C / gc C (d * y) * (b * y / gc A (b * y)) ↔ A * d < C * b := by
  obtain ⟨_, f2, _, f4, _, _⟩ := fr_ok hA (mul_pos' hb hy)
  obtain ⟨_, g2, _, g4, _, _⟩ := fr_ok hC (mul_pos' hd hy)
  rw [frac_lt (mul_pos' hb hy) (mul_pos' hd hy) f2 g2 f4 g4]
  have e1 : A * (d * y) = A * d * y := by grind
  have e2 : C * (b * y) = C * b * y := by grind
  rw [e1, e2]
  exact ⟨fun h => lt_of_mul_lt hy h, fun h => mul_lt hy h⟩
theorem gc_odd {x : Int} (h : 0 ≤ x) : gc (2 * x + 1) 2 = 1 := by
  have g1 := gc_pos (u := 2 * x + 1) (l := 2) (by decide)
  have g2 := gc_le (u := 2 * x + 1) (l := 2) (by decide)
  have dv : gc (2 * x + 1) 2 ∣ 2 * x + 1 := Int.gcd_dvd_left _ _
  by_cases e : gc (2 * x + 1) 2 = 1
  · exact e
  · have e2 : gc (2 * x + 1) 2 = 2 := by omega
    rw [e2] at dv
    omega
end Z

namespace Z
open PySem PySem.Spec L2 PyProof.Rows

/-! ### the fractions nearer than all with lesser lower parts -/
/-- of the lower part n: the nearest upper part, how far off -/
def cand (x y n : Int) : Int × Int := if y - (x * n - x * n / y * y) < x * n - x * n / y * y then (x * n / y + 1, y - (x * n - x * n / y * y)) else (x * n / y, x * n - x * n / y * y)
structure Cand (x y n p o : Int) : Prop where
  p0 : 0 ≤ p
  eo : o = ab (p * y - x * n)
  o0 : 0 ≤ o
  oy : o ≤ y
  least : ∀ p' : Int, ab (p * y - x * n) ≤ ab (p' * y - x * n) ∧ (ab (p * y - x * n) = ab (p' * y - x * n) → p ≤ p')
theorem cand_ok {x y n : Int} (hx : 0 ≤ x) (hy : 1 ≤ y) (hn : 1 ≤ n) : Cand x y n (cand x y n).1 (cand x y n).2 := by
  have u0 : 0 ≤ x * n / y := Int.ediv_nonneg (Int.mul_nonneg hx (by omega)) (by omega)
  have fl := fun p => floor_least (x := x) hy n p
  obtain ⟨_, _, a1, a2, o0, o1⟩ := fl 0
  unfold cand
  by_cases h : y - (x * n - x * n / y * y) < x * n - x * n / y * y
  · rw [if_pos h]
    refine ⟨by dsimp only; omega, a2.symm, by dsimp only; omega, by dsimp only; omega, fun p' => ?_⟩
    dsimp only
    obtain ⟨l, r, _⟩ := fl p'
    by_cases k : p' ≤ x * n / y
    · have := (l k).1
      omega
    · have := r (by omega)
      exact ⟨this.1, fun e => by have := this.2 e; omega⟩
  · rw [if_neg h]
    refine ⟨u0, a1.symm, by dsimp only; omega, by dsimp only; omega, fun p' => ?_⟩
    dsimp only
    obtain ⟨l, r, _⟩ := fl p'
    by_cases k : p' ≤ x * n / y
    · have := l k
      exact ⟨this.1, fun e => by have := this.2 e; omega⟩
    · have := (r (by omega)).1
      omega
def lastQ (l : List (Int × Int)) : Int := (l.getLast?.map (·.2)).getD 0
def due (x y : Int) : Nat → List (Int × Int) × Int
  | 0 => ([], 0)
  | k + 1 => if (due x y k).1 = [] ∨ (cand x y (k + 1 : Nat)).2 * lastQ (due x y k).1 < (due x y k).2 * (k + 1 : Nat) then ((due x y k).1 ++ [((cand x y (k + 1 : Nat)).1, ((k + 1 : Nat) : Int))], (cand x y (k + 1 : Nat)).2) else due x y k
/-- what stands after the lower parts up to k -/
structure DueOk (x y : Int) (k : Nat) (l : List (Int × Int)) (b : Int) : Prop where
  last : 1 ≤ k → ∃ l' f g, l = l' ++ [(f, g)] ∧ Near x y k f g ∧ b = ab (f * y - x * g)
  zero : k = 0 → l = []
  all : ∀ p ∈ l, 0 ≤ p.1 ∧ 1 ≤ p.2 ∧ gc p.1 p.2 = 1
  len : l.length ≤ k
  bd : 0 ≤ b ∧ b ≤ y
theorem lastQ_app (l : List (Int × Int)) (f g : Int) : lastQ (l ++ [(f, g)]) = g := by
  unfold lastQ
  rw [List.getLast?_append]
  rfl
theorem due_step {x y : Int} (hx : 0 ≤ x) (hy : 1 ≤ y) {k : Nat} (h : DueOk x y k (due x y k).1 (due x y k).2) :
    DueOk x y (k + 1) (due x y (k + 1)).1 (due x y (k + 1)).2 ∧ ∀ f' g', Near x y (k + 1 : Nat) f' g' → (due x y (k + 1)).1 = if g' = ((k + 1 : Nat) : Int) then (due x y k).1 ++ [(f', g')] else (due x y k).1 := by
  have c := cand_ok hx hy (n := ((k + 1 : Nat) : Int)) (by omega)
  have ek : ((k + 1 : Nat) : Int) = (k : Int) + 1 := by omega
  have ed : due x y (k + 1) = if (due x y k).1 = [] ∨ (cand x y (k + 1 : Nat)).2 * lastQ (due x y k).1 < (due x y k).2 * (k + 1 : Nat) then ((due x y k).1 ++ [((cand x y (k + 1 : Nat)).1, ((k + 1 : Nat) : Int))], (cand x y (k + 1 : Nat)).2) else due x y k := rfl
  generalize hl : (due x y k).1 = l at h ed ⊢
  generalize hb : (due x y k).2 = b at h ed ⊢
  obtain ⟨p0, eo, o0, oy, least⟩ := c
  generalize hp : (cand x y ((k + 1 : Nat) : Int)).1 = p at p0 eo least ed ⊢
  generalize ho : (cand x y ((k + 1 : Nat) : Int)).2 = o at eo o0 oy ed ⊢
  -- what is appended is nearest
  have app : Near x y ((k + 1 : Nat) : Int) p ((k + 1 : Nat) : Int) → DueOk x y (k + 1) (l ++ [(p, ((k + 1 : Nat) : Int))]) o ∧ ∀ f' g', Near x y ((k + 1 : Nat) : Int) f' g' → l ++ [(p, ((k + 1 : Nat) : Int))] = if g' = ((k + 1 : Nat) : Int) then l ++ [(f', g')] else l := fun n => by
    refine ⟨⟨fun _ => ⟨l, p, _, rfl, n, eo⟩, fun z => (by omega), fun q hq => ?_, ?_, ⟨o0, oy⟩⟩, fun f' g' n' => ?_⟩
    · rcases List.mem_append.mp hq with z | z
      · exact h.all q z
      · rw [List.mem_singleton.mp z]
        exact ⟨n.f0, n.g1, n.co⟩
    · rw [List.length_append, List.length_singleton]
      have := h.len
      omega
    · obtain ⟨e1, e2⟩ := n.one n'
      rw [← e1, ← e2, if_pos rfl]
  by_cases k0 : k = 0
  · have e0 := h.zero k0
    have nr : Near x y ((k + 1 : Nat) : Int) p ((k + 1 : Nat) : Int) := by
      subst k0
      refine ⟨p0, by omega, Int.le_refl _, gc_one, fun p' q' hp' hq' hm _ => ?_⟩
      have eq : q' = ((0 + 1 : Nat) : Int) := by omega
      subst eq
      obtain ⟨l1, l2⟩ := least p'
      by_cases e : ab (p * y - x * ((0 + 1 : Nat) : Int)) = ab (p' * y - x * ((0 + 1 : Nat) : Int))
      · exact .inr ⟨by rw [e], .inr ⟨rfl, l2 e⟩⟩
      · exact .inl (mul_lt (by omega) (by omega))
    rw [ed, if_pos (.inl e0)]
    exact app nr
  · obtain ⟨l', f, g, el, near, eb⟩ := h.last (by omega)
    have eq : lastQ l = g := by rw [el, lastQ_app]
    have ne : l ≠ [] := by rw [el]; simp
    have g1 := near.g1
    by_cases w : o * g < b * ((k + 1 : Nat) : Int)
    · rw [ed, if_pos (.inr (by rw [eq]; exact w))]
      refine app ?_
      rw [ek] at least eo w ⊢
      exact near.new p0 (by omega) (by rw [← eo, ← eb]; exact w) fun p' _ => least p'
    · have nr : Near x y ((k + 1 : Nat) : Int) f g := by
        rw [ek] at least eo w ⊢
        refine near.old fun p' _ => ?_
        have l1 := (least p').1
        rw [← eo] at l1
        have := mul_le (show 0 ≤ g by omega) l1
        rw [← eb]
        omega
      rw [ed, if_neg (fun z => z.elim ne (fun z => w (by rw [eq] at z; exact z)))]
      have hd : due x y k = (l, b) := Prod.ext hl hb
      rw [hd]
      refine ⟨⟨fun _ => ⟨l', f, g, el, nr, eb⟩, fun z => (by omega), h.all, (by have := h.len; show l.length ≤ k + 1; omega), h.bd⟩, fun f' g' n' => ?_⟩
      obtain ⟨e1, e2⟩ := nr.one n'
      have := near.gm
      rw [← e1, ← e2, if_neg (by omega)]
theorem due_ok {x y : Int} (hx : 0 ≤ x) (hy : 1 ≤ y) : ∀ k : Nat, DueOk x y k (due x y k).1 (due x y k).2
  | 0 => ⟨fun h => (by omega), fun _ => rfl, fun p h => (by cases h), Nat.le_refl _, ⟨Int.le_refl _, by show 0 ≤ y; omega⟩⟩
  | k + 1 => (due_step hx hy (due_ok hx hy k)).1
/-- behind the target's own lower part no more -/
theorem due_stop {x y : Int} (hx : 0 ≤ x) (hy : 1 ≤ y) (co : gc x y = 1) {k : Nat} (h : y ≤ (k : Int)) : (due x y (k + 1)).1 = (due x y k).1 := by
  have self : Near x y ((k + 1 : Nat) : Int) x y := ((⟨.inl ⟨by omega, rfl, rfl, rfl, rfl⟩⟩ : Ar x y ((k + 1 : Nat) : Int) x y x y).near hx hy co).1 (.inr ⟨rfl, Int.le_refl _⟩)
  rw [(due_step hx hy (due_ok hx hy k)).2 x y self, if_neg (by omega)]
theorem due_more {x y : Int} (hx : 0 ≤ x) (hy : 1 ≤ y) (co : gc x y = 1) {k : Nat} (h : y ≤ (k : Int)) : ∀ n : Nat, (due x y (k + n)).1 = (due x y k).1
  | 0 => rfl
  | n + 1 => by
    rw [show k + (n + 1) = k + n + 1 by omega, due_stop hx hy co (by omega)]
    exact due_more hx hy co h n
theorem due_min {x y : Int} (hx : 0 ≤ x) (hy : 1 ≤ y) (co : gc x y = 1) {m : Int} (hm : 1 ≤ m) : (due x y (min m y).toNat).1 = (due x y m.toNat).1 := by
  by_cases h : m ≤ y
  · rw [Int.min_eq_left h]
  · rw [Int.min_eq_right (by omega)]
    have e : m.toNat = y.toNat + (m.toNat - y.toNat) := by omega
    rw [e, due_more hx hy co (by omega)]
/-! lists of fractions as data -/
abbrev frD (p : Int × Int) : PyData := fr p.1 p.2
abbrev frsD (l : List (Int × Int)) : List PyData := l.map frD
theorem frsD_app (l : List (Int × Int)) (p : Int × Int) : frsD l ++ [frD p] = frsD (l ++ [p]) := by
  show _ = List.map frD _
  rw [List.map_append]
  rfl
theorem nob_frs : ∀ (l : List (Int × Int)), nobs (frsD l) = true
  | [] => rfl
  | x :: r => by
    show (nob (frD x) && nobs (frsD r)) = true
    rw [nob_frs r]
    rfl
theorem pl_frs : ∀ (l : List (Int × Int)), pls (frsD l) = true
  | [] => rfl
  | x :: r => by
    show (pl (frD x) && pls (frsD r)) = true
    rw [pl_frs r]
    rfl
theorem lay_frs : ∀ (l : List (Int × Int)), PyData.canLayAll0 (frsD l) = true
  | [] => rfl
  | x :: r => by
    show ((true && (true && true)) && PyData.canLayAll0 (frsD r)) = true
    rw [lay_frs r]
    rfl
theorem depth_frs : ∀ (l : List (Int × Int)), PyData.depthAll (frsD l) ≤ 1
  | [] => by decide
  | x :: r => by
    show max (PyData.depth (frD x)) (PyData.depthAll (frsD r)) ≤ 1
    have := depth_frs r
    have e : PyData.depth (frD x) = 1 := rfl
    omega
theorem shaped_frs (l : List (Int × Int)) : SeqAt.shaped (.list (frsD l)) = true := by
  unfold SeqAt.shaped
  rw [Bool.and_eq_true_iff]
  refine ⟨lay_frs l, ?_⟩
  refine decide_eq_true ?_
  show PyData.depthAll (frsD l) + 1 ≤ 64
  have := depth_frs l
  omega
theorem frsD_inj : ∀ {l k : List (Int × Int)}, frsD l = frsD k → l = k
  | [], [], _ => rfl
  | [], _ :: _, h => by cases h
  | _ :: _, [], h => by cases h
  | (a, b) :: r, (c, d) :: t, h => by
    have h' : frD (a, b) :: frsD r = frD (c, d) :: frsD t := h
    injection h' with h1 h2
    have h3 : PyData.tuple [.int a, .int b] = .tuple [.int c, .int d] := h1
    injection h3 with h4
    injection h4 with h5 h6
    injection h5 with h7
    injection h6 with h8 _
    injection h8 with h9
    rw [frsD_inj h2, h7, h9]
theorem neq_frs {x y : Xd} {l k : List (Int × Int)} {c : Bool → Prop} (hx : x.ls = some (frsD l)) (hy : y.ls = some (frsD k)) (h : c (decide (l = k))) : neq x y c := by
  have px : x.pd = .list (frsD l) ∧ x.pl = true := by
    cases x with
    | im d => cases hx
    | bor ds => cases hx; exact ⟨rfl, pl_frs l⟩
    | «at» i ds => cases hx; exact ⟨rfl, pl_frs l⟩
    | new ds => cases hx; exact ⟨rfl, pl_frs l⟩
  have py : y.pd = .list (frsD k) ∧ y.pl = true := by
    cases y with
    | im d => cases hy
    | bor ds => cases hy; exact ⟨rfl, pl_frs k⟩
    | «at» i ds => cases hy; exact ⟨rfl, pl_frs k⟩
    | new ds => cases hy; exact ⟨rfl, pl_frs k⟩
  refine ⟨⟨px.2, by rw [px.1]; exact shaped_frs l⟩, ⟨py.2, by rw [py.1]; exact shaped_frs k⟩, ?_⟩
  rw [px.1, py.1]
  have e : PyData.eqv (.list (frsD l)) (.list (frsD k)) = decide (l = k) := by
    have q := eqv_iff (.list (frsD l)) (.list (frsD k)) (nob_frs l) (nob_frs k)
    rw [Bool.eq_iff_iff, q]
    constructor
    · intro z
      injection z with z
      exact decide_eq_true (frsD_inj z)
    · intro z
      rw [of_decide_eq_true z]
  rw [e]
  exact h
theorem frs_get {l : List (Int × Int)} {k : Nat} {d : PyData} (h : (frsD l)[k]? = some d) : ∃ x, l[k]? = some x ∧ d = frD x := by
  rw [List.getElem?_map] at h
  cases e : l[k]? with
  | none => rw [e] at h; cases h
  | some x => rw [e] at h; exact ⟨x, rfl, (Option.some.inj h).symm⟩
end Z

namespace Z
open PySem PySem.Spec L2 PyProof.Rows

/-! ### the nearest, found by going through the lower parts -/
def fb1 (x y n : Int) (b : Int × Int) (p : Int) : Int × Int := if ab (p * y - x * n) * b.2 < ab (b.1 * y - x * b.2) * n then (p, n) else b
structure FbOk (x y : Int) (k : Nat) (b : Int × Int) : Prop where
  zero : k = 0 → b = (x / y, 1)
  near : 1 ≤ k → Near x y k b.1 b.2
theorem fb_step {x y : Int} (hx : 0 ≤ x) (hy : 1 ≤ y) {k : Nat} {b : Int × Int} (h : FbOk x y k b) :
    FbOk x y (k + 1) (fb1 x y (k + 1 : Nat) (fb1 x y (k + 1 : Nat) b (x * (k + 1 : Nat) / y)) (x * (k + 1 : Nat) / y + 1)) := by
  have ek : ((k + 1 : Nat) : Int) = (k : Int) + 1 := by omega
  have xn : 0 ≤ x * ((k + 1 : Nat) : Int) := Int.mul_nonneg hx (by omega)
  have u0 : 0 ≤ x * ((k + 1 : Nat) : Int) / y := Int.ediv_nonneg xn (by omega)
  have fl := fun p => floor_least (x := x) hy ((k + 1 : Nat) : Int) p
  obtain ⟨_, _, a1, a2, o0, o1⟩ := fl 0
  refine ⟨fun z => (by omega), fun _ => ?_⟩
  by_cases k0 : k = 0
  · have e0 := h.zero k0
    subst k0 e0
    have e1 : ((0 + 1 : Nat) : Int) = 1 := rfl
    rw [e1] at fl a1 a2 o0 o1 u0 ⊢
    rw [Int.mul_one] at fl a1 a2 o0 o1 u0 ⊢
    have s0 : fb1 x y 1 (x / y, 1) (x / y) = (x / y, 1) := by
      unfold fb1
      rw [if_neg (by dsimp only; rw [Int.mul_one]; omega)]
    rw [s0]
    have base : ∀ p : Int, 0 ≤ p → (∀ p' : Int, ab (p * y - x) ≤ ab (p' * y - x) ∧ (ab (p * y - x) = ab (p' * y - x) → p ≤ p')) → Near x y 1 p 1 := fun p hp l =>
      ⟨hp, Int.le_refl _, Int.le_refl _, gc_one, fun p' q' hp' hq' hm _ => by
        have eq : q' = 1 := by omega
        subst eq
        obtain ⟨l1, l2⟩ := l p'
        unfold Beats
        rw [Int.mul_one, Int.mul_one, Int.mul_one]
        by_cases e : ab (p * y - x) = ab (p' * y - x)
        · exact .inr ⟨e, .inr ⟨rfl, l2 e⟩⟩
        · exact .inl (by omega)⟩
    unfold fb1
    dsimp only
    rw [Int.mul_one, Int.mul_one, Int.mul_one]
    by_cases w : ab ((x / y + 1) * y - x) < ab (x / y * y - x)
    · rw [if_pos w]
      refine base _ (by omega) fun p' => ?_
      dsimp only
      obtain ⟨l, r, _⟩ := fl p'
      by_cases z : p' ≤ x / y
      · have := (l z).1
        omega
      · have := r (by omega)
        exact ⟨this.1, fun e => by have := this.2 e; omega⟩
    · rw [if_neg w]
      refine base _ u0 fun p' => ?_
      dsimp only
      obtain ⟨l, r, _⟩ := fl p'
      by_cases z : p' ≤ x / y
      · have := l z
        exact ⟨this.1, fun e => by have := this.2 e; omega⟩
      · have := (r (by omega)).1
        exact ⟨by omega, fun e => by omega⟩
  · have near := h.near (by omega)
    obtain ⟨f, g⟩ := b
    dsimp only at near
    have g1 := near.g1
    rw [ek] at fl a1 a2 o0 o1 u0 ⊢
    generalize hu : x * ((k : Int) + 1) / y = u at fl a1 a2 o0 o1 u0 ⊢
    generalize hD : ab (f * y - x * g) * ((k : Int) + 1) = Df
    have up : ∀ p : Int, 0 ≤ p → ab (p * y - x * ((k : Int) + 1)) * g < Df → (∀ p' : Int, ab (p * y - x * ((k : Int) + 1)) ≤ ab (p' * y - x * ((k : Int) + 1)) ∧ (ab (p * y - x * ((k : Int) + 1)) = ab (p' * y - x * ((k : Int) + 1)) → p ≤ p')) → Near x y ((k : Int) + 1) p ((k : Int) + 1) := fun p hp hlt l =>
      near.new hp (by omega) (by rw [hD]; exact hlt) fun p' _ => l p'
    by_cases A : ab (u * y - x * ((k : Int) + 1)) * g < Df
    · have s0 : fb1 x y ((k : Int) + 1) (f, g) u = (u, (k : Int) + 1) := by
        unfold fb1
        dsimp only
        rw [hD, if_pos A]
      rw [s0]
      unfold fb1
      dsimp only
      by_cases w : ab ((u + 1) * y - x * ((k : Int) + 1)) < ab (u * y - x * ((k : Int) + 1))
      · rw [if_pos (mul_lt (by omega) w)]
        refine up (u + 1) (by omega) ?_ fun p' => ?_
        · have := mul_le (show 0 ≤ g by omega) (Int.le_of_lt w)
          omega
        · obtain ⟨l, r, _⟩ := fl p'
          by_cases z : p' ≤ u
          · have := (l z).1
            omega
          · have := r (by omega)
            exact ⟨this.1, fun e => by have := this.2 e; omega⟩
      · rw [if_neg (fun q => w (lt_of_mul_lt (show 1 ≤ (k : Int) + 1 by omega) q))]
        refine up u u0 A fun p' => ?_
        obtain ⟨l, r, _⟩ := fl p'
        by_cases z : p' ≤ u
        · have := l z
          exact ⟨this.1, fun e => by have := this.2 e; omega⟩
        · have := (r (by omega)).1
          exact ⟨by omega, fun e => by omega⟩
    · have s0 : fb1 x y ((k : Int) + 1) (f, g) u = (f, g) := by
        unfold fb1
        dsimp only
        rw [hD, if_neg A]
      rw [s0]
      unfold fb1
      dsimp only
      rw [hD]
      by_cases w : ab ((u + 1) * y - x * ((k : Int) + 1)) * g < Df
      · rw [if_pos w]
        have lt : ab ((u + 1) * y - x * ((k : Int) + 1)) < ab (u * y - x * ((k : Int) + 1)) := lt_of_mul_lt g1 (by omega)
        refine up (u + 1) (by omega) w fun p' => ?_
        obtain ⟨l, r, _⟩ := fl p'
        by_cases z : p' ≤ u
        · have := (l z).1
          omega
        · have := r (by omega)
          exact ⟨this.1, fun e => by have := this.2 e; omega⟩
      · rw [if_neg w]
        refine near.old fun p' _ => ?_
        rw [hD]
        obtain ⟨l, r, _⟩ := fl p'
        by_cases z : p' ≤ u
        · have := mul_le (show 0 ≤ g by omega) (l z).1
          omega
        · have := mul_le (show 0 ≤ g by omega) (r (by omega)).1
          omega
/-! ### between two fractions -/
/-- halfway: reduced, between -/
theorem mid_between {a b c d u l : Int} (hb : 1 ≤ b) (hd : 1 ≤ d) (hl : 1 ≤ l) (h : a * d ≤ c * b) (e : u * (2 * b * d) = (a * d + c * b) * l) : a * l ≤ u * b ∧ u * d ≤ c * l := by
  have bd := mul_pos' hb hd
  constructor
  · refine le_of_mul_le (k := 2 * d) (by omega) ?_
    have e1 : u * b * (2 * d) = (a * d + c * b) * l := by rw [← e]; grind
    have e2 : a * l * (2 * d) = a * d * l + a * d * l := by grind
    have := mul_le (show 0 ≤ l by omega) h
    rw [e1, e2, Int.add_mul]
    omega
  · refine le_of_mul_le (k := 2 * b) (by omega) ?_
    have e1 : u * d * (2 * b) = (a * d + c * b) * l := by rw [← e]; grind
    have e2 : c * l * (2 * b) = c * b * l + c * b * l := by grind
    have := mul_le (show 0 ≤ l by omega) h
    rw [e1, e2, Int.add_mul]
    omega
/-- sums of both parts: between -/
theorem mix_between {a b c d i j u l : Int} (hb : 1 ≤ b) (hd : 1 ≤ d) (hl : 1 ≤ l) (hi : 0 ≤ i) (hj : 1 ≤ j) (h : a * d ≤ c * b) (e : u * (i * b + j * d) = (i * a + j * c) * l) : a * l ≤ u * b ∧ u * d ≤ c * l := by
  have k1 : 1 ≤ i * b + j * d := by
    have := Int.mul_nonneg hi (show 0 ≤ b by omega)
    have := mul_pos' hj hd
    omega
  have q1 := Int.mul_le_mul_of_nonneg_left (mul_le (show 0 ≤ l by omega) h) (show 0 ≤ j by omega)
  have q2 := Int.mul_le_mul_of_nonneg_left (mul_le (show 0 ≤ l by omega) h) hi
  constructor
  · refine le_of_mul_le k1 ?_
    have e1 : u * b * (i * b + j * d) = (i * a + j * c) * l * b := by rw [← e]; grind
    rw [e1]
    have e2 : a * l * (i * b + j * d) = i * a * l * b + j * (a * d * l) := by grind
    have e3 : (i * a + j * c) * l * b = i * a * l * b + j * (c * b * l) := by grind
    omega
  · refine le_of_mul_le k1 ?_
    have e1 : u * d * (i * b + j * d) = (i * a + j * c) * l * d := by rw [← e]; grind
    rw [e1]
    have e2 : (i * a + j * c) * l * d = i * (a * d * l) + j * c * l * d := by grind
    have e3 : c * l * (i * b + j * d) = i * (c * b * l) + j * c * l * d := by grind
    omega
/-- the pairs of two paths' runs -/
theorem zip_runs : ∀ {P Q : List PRun} {k : Nat} {d : PyData}, (zipD (runsD P) (runsD Q))[k]? = some d → ∃ x y, P[k]? = some x ∧ Q[k]? = some y ∧ d = .tuple [runD x, runD y]
  | [], _, _, _, h => by unfold zipD at h; simp at h
  | _ :: _, [], _, _, h => by
    have h' : ([] : List PyData)[_]? = some _ := h
    simp at h'
  | x :: P, y :: Q, 0, d, h => by
    have h' : some (PyData.tuple [runD x, runD y]) = some d := h
    cases h'
    exact ⟨x, y, rfl, rfl, rfl⟩
  | x :: P, y :: Q, k + 1, d, h => by
    have h' : (zipD (runsD P) (runsD Q))[k]? = some d := h
    obtain ⟨u, v, e1, e2, e3⟩ := zip_runs h'
    exact ⟨u, v, by simpa using e1, by simpa using e2, e3⟩
theorem neq_way {a b : Bool} {k : Bool → Prop} (h : k (decide (wayS a = wayS b))) : neq (.im (.str (wayS a))) (.im (.str (wayS b))) k := by
  have sh : ∀ c : Bool, SeqAt.shaped (.str (wayS c)) = true := fun c => by cases c <;> decide +kernel
  refine ⟨⟨rfl, sh a⟩, ⟨rfl, sh b⟩, ?_⟩
  show k (PyData.eqv (.str (wayS a)) (.str (wayS b)))
  rw [eqv_ss]
  exact h
/-- a sum lies above -/
theorem sum_above {x y p q c d : Int} (hy : 1 ≤ y) (hq : 1 ≤ q) (hp : 0 ≤ p) (hd : 1 ≤ d) (e : c * (y * q) = (x * q + p * y) * d) : x * d ≤ c * y := by
  have l := mul_pos' hy hq
  refine le_of_mul_le l ?_
  have e1 : c * y * (y * q) = (x * q + p * y) * d * y := by rw [← e]; grind
  rw [e1]
  have e2 : (x * q + p * y) * d * y = x * d * (y * q) + p * y * d * y := by grind
  have : 0 ≤ p * y * d * y := Int.mul_nonneg (Int.mul_nonneg (Int.mul_nonneg hp (by omega)) (by omega)) (by omega)
  omega
/-! ### a try whose suite tells the error's kind -/
section
variable {K : PySem.W.Frag} {H0 : Hp} {S : List Sl} {N : List Sl → Prop} {R : Sl → Prop} {B C : List Sl → Prop} {D F : Addr} {i : Nat} {t2 : Addr → Obj → TS}
def tsQ (D : Addr) (t2 : Addr → Obj → TS) : Addr → Value → Option Addr → TS := fun a cls d Dn σ H => (cls = .ref D ∧ d = none) ∧ ∀ oe, L2N.Zn cls d oe → (∃ fs, oe.data = .fields fs) → t2 a oe Dn σ H
theorem wS_told {α : Type} {args : α → List Sl} {pre : α → Prop} {post : α → Sl → Prop} {exc : α → Addr → Prop} {tr : TA} {z : Str} (em : PySem.W.exmOne K (.ref D) (.ref F) = some true)
    (ht : ∀ (a : Addr) (oe : Obj) (σ : L2.St) (H : Hp) (Dn : Ends), i < σ.length → σ[i]? = some (some (.ref a)) → Zc (.ref D) none oe → (∃ fs, oe.data = .fields fs) → (∀ H', Same H H' → Dn.rt (.str z) H') → t2 a oe Dn σ H)
    {s0 : Sl} (hi : S[i]? = some s0) (hi2 : s0.isT = false) (hR : R (.im (.str z)))
    (h : wA K H0 tr S fun xs => ∃ g, xs.map Xd.sl = args g ∧ pre g ∧ (∀ r, ¬ post g r) ∧ ∀ C, exc g C → C = D) :
    wS K H0 (fun Dn σ H => tDrop (tCallS (SpD K args pre post exc) (WE (wAs K (.ref F) i (tsQ D t2) (fun _ _ _ _ => False) Dn)) tr) Dn σ H) S N R B C := fun Dn σ H g r => by
  have hl := r.len i s0 hi hi2
  refine h σ H r _ fun vs H1 xs e os ⟨gh, e1, p, np, nx⟩ => ⟨gh, ?_, p, fun v H' r _ _ z => (np r z).elim, fun C' H' e2 z => ?_⟩
  · rw [← e1]
    exact os.args (r.mono e)
  · have ec := nx C' z
    subst ec
    refine ⟨true, em, fun _ a na => ⟨⟨rfl, rfl⟩, fun oe zn zf => ?_⟩, fun q => (Bool.noConfusion q)⟩
    have hs : (σ.set i (some (.ref a)))[i]? = some (some (.ref a)) := List.getElem?_set_self hl
    refine ht a oe _ H' _ (by rw [List.length_set]; exact hl) hs ⟨zn.1, zn.2.1⟩ zf fun H2 e3 => ?_
    exact g.rt (.str _) H2 (.im (.str _)) (((r.ex.trans e).trans e2).trans e3) (.str _) hR
end
end Z

namespace Z
open PySem PySem.Spec L2 PyProof.Rows

/-! ### the simplest between two bounds -/
structure SimpOk (a b c d f g : Int) : Prop where
  le : a * d ≤ c * b
  k : (a = 0 ∧ f = 0 ∧ g = 1) ∨ (1 ≤ a ∧ ∃ M : Ends4, M.Ok ∧ f = M.p + M.r ∧ g = M.q + M.s ∧ Sim a b c d M)
section
variable {a b c d f g p q : Int}
theorem SimpOk.fr (h : SimpOk a b c d f g) : 0 ≤ f ∧ 1 ≤ g ∧ gc f g = 1 := by
  rcases h.k with ⟨_, rfl, rfl⟩ | ⟨_, M, ok, rfl, rfl, _⟩
  · exact ⟨by decide, by decide, gc_one⟩
  · have := ok.p
    have := ok.q
    have := ok.r
    have := ok.s
    exact ⟨by omega, by omega, ok.co⟩
theorem SimpOk.lo (h : SimpOk a b c d f g) : a * g ≤ f * b := by
  rcases h.k with ⟨rfl, rfl, rfl⟩ | ⟨_, M, ok, rfl, rfl, s⟩
  · omega
  · exact s.lf
theorem SimpOk.hi (h : SimpOk a b c d f g) (hc : 0 ≤ c) : f * d ≤ c * g := by
  rcases h.k with ⟨rfl, rfl, rfl⟩ | ⟨_, M, ok, rfl, rfl, s⟩
  · omega
  · exact s.fh
theorem SimpOk.least (h : SimpOk a b c d f g) (hb : 1 ≤ b) (hd : 1 ≤ d) (hp : 0 ≤ p) (hq : 1 ≤ q) (lo : a * q ≤ p * b) (hi : p * d ≤ c * q) : g ≤ q ∧ f ≤ p := by
  rcases h.k with ⟨rfl, rfl, rfl⟩ | ⟨_, M, ok, rfl, rfl, s⟩
  · exact ⟨hq, hp⟩
  · exact s.least ok hb hd hq lo hi
theorem SimpOk.one {f' g' : Int} (h : SimpOk a b c d f g) (k : SimpOk a b c d f' g') (hb : 1 ≤ b) (hd : 1 ≤ d) (hc : 0 ≤ c) : f = f' ∧ g = g' := by
  obtain ⟨f0, g1, _⟩ := h.fr
  obtain ⟨f0', g1', _⟩ := k.fr
  have l1 := h.least hb hd f0' g1' k.lo (k.hi hc)
  have l2 := k.least hb hd f0 g1 h.lo (h.hi hc)
  omega
theorem SimpOk.self (h : SimpOk a b a b f g) (hb : 1 ≤ b) (ha : 0 ≤ a) (co : gc a b = 1) : f = a ∧ g = b := by
  obtain ⟨f0, g1, fg⟩ := h.fr
  have l1 := h.lo
  have l2 := h.hi ha
  obtain ⟨e1, e2⟩ := co_eq hb g1 co fg (show a * g = f * b by omega)
  exact ⟨e1.symm, e2.symm⟩
end
/-- the least upper part above a bound -/
theorem ceil_ok {a b n : Int} (hb : 1 ≤ b) : a * n ≤ -(-a * n / b) * b := by
  have e := Int.mul_ediv_add_emod (-a * n) b
  have m0 := Int.emod_nonneg (-a * n) (show b ≠ 0 by omega)
  have e2 : -(-a * n / b) * b = -(b * (-a * n / b)) := by rw [Int.neg_mul, Int.mul_comm]
  have e3 : -a * n = -(a * n) := Int.neg_mul a n
  rw [e2]
  omega
end Z

namespace Z
open PySem PySem.Spec L2 PyProof.Rows

/-! ### texts: what the hand layer has no rule for -/
section
variable {X : Cx}
/-- s.index(y), y within -/
def rIndexF : V → List V → Hp → VK → Prop := fun x xs H Q => ∃ (a b : Str) (k : Nat), x = .str a ∧ xs = [.str b] ∧ Txt.index0 a b = some k ∧ Q (.int (k : Nat)) H
theorem mt_indexF : MtR X "str.index" rIndexF := by
  intro pins s σ H x xs v us Q I rx rs h
  obtain ⟨a, b, k, rfl, rfl, hk, h⟩ := h
  obtain ⟨t, rfl⟩ := rx
  cases rs with
  | cons r1 rs =>
    cases rs
    obtain ⟨u, rfl⟩ := r1
    cases q : Builtin.Str.occurrences a b 0 a.length 1 with
    | nil =>
      unfold Txt.index0 at hk
      rw [q] at hk
      cases hk
    | cons k' rest =>
      have e : k' = k := by
        unfold Txt.index0 at hk
        rw [q] at hk
        exact Option.some.inj hk
      subst e
      exact PySem.SC.index q ⟨.int (k' : Nat), H, I.tok _, ⟨_, rfl⟩, h⟩
theorem pe_indexF {o e : Expr} {to te : TE} {apos pos : Pos} (ho : PE X o to) (he : PE X e te) (hs : starEach [e] X.env = [(false, eval e X.env)] := by rfl) (hbase : attributeBase o "index" X.env (eval o X.env) = eval o X.env := by rfl) (hline : (apos.endLine == pos.line) = true := by rfl) :
    PE X (.Call (.Attribute o "index" apos) [e] [] pos) (tM1 rIndexF to te) := pe_m1 PySem.F.slot_str_index PySem.F.type_str_index mt_indexF ho he hs hbase hline
theorem pe_isascii {o : Expr} {to : TE} {apos pos : Pos} (ho : PE X o to) (hbase : attributeBase o "isascii" X.env (eval o X.env) = eval o X.env := by rfl) (hline : (apos.endLine == pos.line) = true := by rfl) :
    PE X (.Call (.Attribute o "isascii" apos) [] [] pos) (tM0 (fun x xs H Q => ∃ a, x = .str a ∧ xs = [] ∧ True ∧ Q (.bl (Txt.isascii a)) H) to) := pe_m0 PySem.F.slot_str_isascii PySem.F.type_str_isascii mt_isascii ho hbase hline
theorem pe_isdigit {o : Expr} {to : TE} {apos pos : Pos} (ho : PE X o to) (hbase : attributeBase o "isdigit" X.env (eval o X.env) = eval o X.env := by rfl) (hline : (apos.endLine == pos.line) = true := by rfl) :
    PE X (.Call (.Attribute o "isdigit" apos) [] [] pos) (tM0 (fun x xs H Q => ∃ a, x = .str a ∧ xs = [] ∧ True ∧ Q (.bl (Txt.isdigit a)) H) to) := pe_m0 PySem.F.slot_str_isdigit PySem.F.type_str_isdigit mt_isdigit ho hbase hline
/-- c * n, c one sign -/
def rMulC : R2 := fun x y H Q => ∃ (c : Nat) (n : Int), x = .str ⟨#[c]⟩ ∧ y = .int n ∧ 0 ≤ n ∧ n ≤ 1000000 ∧ Q (.str (SX.S (List.replicate n.toNat c))) H
theorem rep_arr (c : Nat) : ∀ (k : Nat) (a : Array Nat), (List.replicate k #[c]).foldl (· ++ ·) a = a ++ (List.replicate k c).toArray
  | 0, a => by simp
  | k + 1, a => by
    rw [List.replicate_succ, List.foldl_cons, rep_arr c k, List.replicate_succ]
    apply Array.toList_inj.mp
    simp only [Array.toList_append, List.append_assoc]
    rfl
theorem op_mulC : OpR X (binaryOp .Mult) rMulC := by
  intro pins s σ H x y v u Q I rx ry h
  obtain ⟨c, n, rfl, rfl, h0, h1, q⟩ := h
  obtain ⟨t, rfl⟩ := rx
  obtain ⟨t', rfl⟩ := ry
  have hn1 : ¬ n < -(2 ^ 63 : Int) := by omega
  have hn2 : ¬ n ≥ 2 ^ 63 := by omega
  have fin : ∀ (z : Str), z = SX.S (List.replicate n.toNat c) → ∀ (t2 : Tok) (k : Nat), EP X pins σ Q (.str z t2) { s with toks := k } := fun z e t2 k => ⟨.str z, H, I.tok _, ⟨_, rfl⟩, by rw [e]; exact q⟩
  refine PySem.P.mul_str (by rw [decide_eq_false hn1, decide_eq_false hn2]; rfl) (fun h2 _ => ?_) (fun _ _ => ?_) ?_
  · have e : ((⟨#[c]⟩ : Str).length : Int) = 1 := rfl
    rw [e]
    have : 1 ≤ (2 ^ 63 - 1) / n := Int.le_ediv_of_mul_le (by omega) (by omega)
    omega
  · have e : (⟨#[c]⟩ : Str).length * n.toNat = n.toNat := by show 1 * n.toNat = _; omega
    rw [e]
    show decide _ = false
    refine decide_eq_false ?_
    have : sizeLine = 16777216 := by decide
    omega
  · by_cases h2 : n < 1
    · rw [if_pos h2]
      refine ⟨by decide, fin _ ?_ _ _⟩
      have e : n.toNat = 0 := by omega
      rw [e]
      rfl
    · rw [if_neg h2]
      by_cases h3 : n = 1
      · rw [if_pos (by rw [h3]; rfl)]
        subst h3
        exact fin _ rfl t s.toks
      · have e : (n == 1 || (⟨#[c]⟩ : Str).length == 0) = false := by
          rw [Bool.or_eq_false_iff]
          exact ⟨beq_eq_false_iff_ne.mpr h3, rfl⟩
        rw [e]
        have e2 : (⟨(List.replicate n.toNat (⟨#[c]⟩ : Str).cps).foldl (· ++ ·) #[]⟩ : Str) = SX.S (List.replicate n.toNat c) := by
          show (⟨(List.replicate n.toNat #[c]).foldl (· ++ ·) #[]⟩ : Str) = _
          rw [rep_arr]
          simp [SX.S]
        rw [if_neg Bool.false_ne_true]
        refine ⟨?_, fin _ e2 _ _⟩
        rw [e2, SX.S_len, List.length_replicate]
        have : sizeLine = 16777216 := by decide
        omega
end
section
variable {K : PySem.W.Frag} {H0 : Hp} {S : List Sl} {ta tb te to : TE} {P : Xd → Prop}
theorem wE_partition (h : wE K H0 to S fun x => ns x fun a => wE K H0 te S fun y => ns y fun b => nside ((b.length == 0) = false ∧ a.length ≤ sizeLine) (P (.im (.tuple [.str (Txt.partition a b).1, .str (Txt.partition a b).2.1, .str (Txt.partition a b).2.2])))) :
    wE K H0 (tM1 (fun x xs H Q => ∃ a b, x = V.str a ∧ xs = [V.str b] ∧ (b.length == 0) = false ∧ a.length ≤ sizeLine ∧ ∀ p, H p = none → Q (V.ref p) (upd H p (.tup [V.str (Txt.partition a b).1, V.str (Txt.partition a b).2.1, V.str (Txt.partition a b).2.2]))) to te) S P := fun σ H s Q q =>
  h σ H s _ fun v H1 x e o ⟨a, e3, h1⟩ => by
    subst e3
    refine ⟨⟨a, im_str o⟩, h1 σ H1 (s.mono e) _ fun w H2 y e2 o2 ⟨b, e4, c, p⟩ => ?_⟩
    subst e4
    refine ⟨a, b, im_str o, by rw [im_str o2], c.1, c.2, fun l hl => q _ _ (.im _) ((e.trans e2).trans (same_upd hl)) ?_ p⟩
    exact .tup (.inl (.inl upd_same)) (.cons (.str _) (.cons (.str _) (.cons (.str _) .nil)))
theorem ims_of_strs {H : Hp} : ∀ ys : List Str, Ims K H (ys.map V.str) (ys.map .str)
  | [] => .nil
  | y :: r => .cons (.str y) (ims_of_strs r)
theorem wE_split (h : wE K H0 to S fun x => ns x fun a => wE K H0 te S fun y => ns y fun b => nside ((b.length == 0) = false ∧ a.length + 2 ≤ sizeLine) (P (.new ((Txt.split a b).map .str)))) :
    wE K H0 (tM1 (fun x xs H Q => ∃ a b, x = V.str a ∧ xs = [V.str b] ∧ (b.length == 0) = false ∧ a.length + 2 ≤ sizeLine ∧ rNewStrs (Txt.split a b) H Q) to te) S P := fun σ H s Q q =>
  h σ H s _ fun v H1 x e o ⟨a, e3, h1⟩ => by
    subst e3
    refine ⟨⟨a, im_str o⟩, h1 σ H1 (s.mono e) _ fun w H2 y e2 o2 ⟨b, e4, c, p⟩ => ?_⟩
    subst e4
    refine ⟨a, b, im_str o, by rw [im_str o2], c.1, c.2, fun l hl => q _ _ (.new _) ((e.trans e2).trans (same_upd hl)) ⟨l, _, rfl, free_back (e.trans e2) hl, upd_same, ?_⟩ p⟩
    exact ims_of_strs _
theorem ims_strs {H : Hp} : ∀ {ys : List Str} {vs : List V}, Ims K H vs (ys.map .str) → vs = ys.map V.str
  | [], _, h => by cases h; rfl
  | y :: r, _, h => by
    cases h with
    | cons h1 h2 => rw [im_str h1, ims_strs h2]; rfl
def nstrs (x : Xd) (k : List Str → Prop) : Prop := ∃ ys : List Str, x.ls = some (ys.map .str) ∧ k ys
theorem wE_join (h : wE K H0 to S fun x => ns x fun a => wE K H0 te S fun y => nstrs y fun ys => nside ((ys.map (·.length)).sum + ys.length * a.length ≤ 16777216) (P (.im (.str (Txt.join a ys))))) :
    wE K H0 (tM1 (fun x xs H Q => ∃ a p, ∃ ys : List Str, x = V.str a ∧ xs = [V.ref p] ∧ (SqL K H p (ys.map V.str) ∨ SqT K H p (ys.map V.str)) ∧ (ys.map (·.length)).sum + ys.length * a.length ≤ 16777216 ∧ Q (V.str (Txt.join a ys)) H) to te) S P := fun σ H s Q q =>
  h σ H s _ fun v H1 x e o ⟨a, e3, h1⟩ => by
    subst e3
    refine ⟨⟨a, im_str o⟩, h1 σ H1 (s.mono e) _ fun w H2 y e2 o2 ⟨ys, ey, c, p⟩ => ?_⟩
    obtain ⟨l, us, rfl, m, t⟩ := o2.lst ((s.mono e).mono e2) ey
    have eu := ims_strs t
    subst eu
    exact ⟨a, l, ys, im_str o, rfl, .inl m, c, q _ _ (.im _) (e.trans e2) (.str _) p⟩
theorem wE_indexF (h : wE K H0 to S fun x => ns x fun a => wE K H0 te S fun y => ns y fun b => ∃ k : Nat, Txt.index0 a b = some k ∧ P (.im (.int (k : Nat)))) : wE K H0 (tM1 rIndexF to te) S P := fun σ H s Q q =>
  h σ H s _ fun v H1 x e o ⟨a, e3, h1⟩ => by
    subst e3
    refine ⟨⟨a, im_str o⟩, h1 σ H1 (s.mono e) _ fun w H2 y e2 o2 ⟨b, e4, k, hk, p⟩ => ?_⟩
    subst e4
    exact ⟨a, b, k, im_str o, by rw [im_str o2], hk, q _ _ (.im _) (e.trans e2) (.int _) p⟩
theorem wE_m0B {f : Str → Bool} (h : wE K H0 to S fun x => ns x fun a => P (.im (.bool (f a)))) : wE K H0 (tM0 (fun x xs H Q => ∃ a, x = V.str a ∧ xs = [] ∧ True ∧ Q (V.bl (f a)) H) to) S P := fun σ H s Q q =>
  h σ H s _ fun v H1 x e o ⟨a, e3, p⟩ => by
    subst e3
    exact ⟨⟨a, im_str o⟩, a, im_str o, rfl, trivial, q _ _ (.im _) e (.bl _) p⟩
theorem wE_intS (h : wE K H0 te S fun x => ns x fun a => ∃ n : Int, PySem.intText? a = some n ∧ a.length ≤ 640 ∧ P (.im (.int n))) : wE K H0 (tCB (fun xs H Q => ∃ a n, xs = [V.str a] ∧ PySem.intText? a = some n ∧ a.length ≤ 640 ∧ Q (V.int n) H) (tCons te tNil)) S P := fun σ H s Q q => h σ H s _ fun v H1 x e o ⟨a, e1, n, hn, hl, p⟩ => by
  subst e1
  have ev := im_str o
  subst ev
  exact ⟨a, n, rfl, hn, hl, q _ _ (.im _) e (.int _) p⟩
def nsign (x y : Xd) (k : Bool → Prop) : Prop := ∃ (c : Nat) (z : Str), x = .im (.str ⟨#[c]⟩) ∧ y = .im (.str z) ∧ k (decide (c ∈ z.cps.toList))
theorem nsign_mk {c : Nat} {z : Str} {k : Bool → Prop} (h : k (decide (c ∈ z.cps.toList))) : nsign (.im (.str ⟨#[c]⟩)) (.im (.str z)) k := ⟨c, z, rfl, rfl, h⟩
theorem wE_inS (h : wE K H0 ta S fun x => wE K H0 tb S fun y => nsign x y fun b => P (.im (.bool b))) : wE K H0 (tOp (fun x y H Q => ∃ (c : Nat) (z : Str), x = V.str ⟨#[c]⟩ ∧ y = V.str z ∧ Q (V.bl (decide (c ∈ z.cps.toList))) H) ta tb) S P :=
  wE_two (h.imp fun x hx => hx.imp fun y ⟨c, z, e1, e2, p⟩ σ H1 H2 H v w r _ _ o1 o2 Q q => by
    subst e1 e2
    exact ⟨c, z, im_str o1, im_str o2, q _ _ (.im _) (.refl _) (.bl _) p⟩)
theorem wE_notInS (h : wE K H0 ta S fun x => wE K H0 tb S fun y => nsign x y fun b => P (.im (.bool (!b)))) : wE K H0 (tOp (fun x y H Q => ∃ (c : Nat) (z : Str), x = V.str ⟨#[c]⟩ ∧ y = V.str z ∧ Q (V.bl (!decide (c ∈ z.cps.toList))) H) ta tb) S P :=
  wE_two (h.imp fun x hx => hx.imp fun y ⟨c, z, e1, e2, p⟩ σ H1 H2 H v w r _ _ o1 o2 Q q => by
    subst e1 e2
    exact ⟨c, z, im_str o1, im_str o2, q _ _ (.im _) (.refl _) (.bl _) p⟩)
def nmulC (x y : Xd) (k : Str → Prop) : Prop := ∃ (c : Nat) (n : Int), x = .im (.str ⟨#[c]⟩) ∧ y = .im (.int n) ∧ 0 ≤ n ∧ n ≤ 1000000 ∧ k (SX.S (List.replicate n.toNat c))
theorem wE_mulC (h : wE K H0 ta S fun x => wE K H0 tb S fun y => nmulC x y fun z => P (.im (.str z))) : wE K H0 (tOp rMulC ta tb) S P :=
  wE_two (h.imp fun x hx => hx.imp fun y ⟨c, n, e1, e2, h0, h1, p⟩ σ H1 H2 H v w r _ _ o1 o2 Q q => by
    subst e1 e2
    exact ⟨c, n, im_str o1, im_int o2, h0, h1, q _ _ (.im _) (.refl _) (.str _) p⟩)
end
/-! ### figures -/
abbrev tl (z : Str) : List Nat := z.cps.toList
def figB (l : List Nat) : Bool := !l.isEmpty && l.all fun c => decide (48 ≤ c) && decide (c ≤ 57)
theorem figB_iff {l : List Nat} : figB l = true ↔ l ≠ [] ∧ NumText.AllDigits l := by
  unfold figB NumText.AllDigits
  rw [Bool.and_eq_true, List.all_eq_true]
  constructor
  · rintro ⟨h1, h2⟩
    refine ⟨fun e => (by rw [e] at h1; cases h1), fun c hc => ?_⟩
    have := h2 c hc
    simpa using this
  · rintro ⟨h1, h2⟩
    have e : (!l.isEmpty) = true := by
      cases l with
      | nil => exact absurd rfl h1
      | cons _ _ => rfl
    refine ⟨e, fun c hc => ?_⟩
    have := h2 c hc
    simpa using this
theorem digit_ascii : ∀ c : Nat, c < 128 → Unicode.isDigit c = (decide (48 ≤ c) && decide (c ≤ 57)) := by decide +kernel
theorem ascii_digit (z : Str) : (Txt.isascii z && Txt.isdigit z) = figB (tl z) := by
  unfold Txt.isascii Txt.isdigit figB
  rw [← Array.all_toList, ← Array.all_toList]
  have e : decide (z.length > 0) = !(tl z).isEmpty := by
    have : z.length = (tl z).length := by simp [tl, Str.length]
    rw [this]
    cases tl z <;> simp
  rw [e]
  show ((tl z).all _ && (!(tl z).isEmpty && (tl z).all _)) = _
  generalize tl z = l
  have key : ∀ l : List Nat, (l.all (fun c => decide (c < 128)) && l.all Unicode.isDigit) = l.all (fun c => decide (48 ≤ c) && decide (c ≤ 57)) := by
    intro l
    induction l with
    | nil => rfl
    | cons c r ih =>
      rw [List.all_cons, List.all_cons, List.all_cons, ← ih]
      by_cases h : c < 128
      · rw [decide_eq_true h, digit_ascii c h]
        cases (decide (48 ≤ c) && decide (c ≤ 57)) <;> cases r.all (fun c => decide (c < 128)) <;> simp
      · rw [decide_eq_false h, decide_eq_false (show ¬ c ≤ 57 by omega)]
        simp
  rw [← key l]
  cases l.isEmpty <;> cases l.all (fun c => decide (c < 128)) <;> simp
/-- the figures' value -/
abbrev dv (l : List Nat) : Nat := NumText.digitsVal l
theorem dv_app (l : List Nat) (c : Nat) : dv (l ++ [c]) = dv l * 10 + (c - 48) := by
  show List.foldl _ 0 (l ++ [c]) = _
  rw [List.foldl_append]
  rfl
theorem dv_lt : ∀ {l : List Nat}, NumText.AllDigits l → dv l < 10 ^ l.length := by
  intro l h
  have gen : ∀ (l : List Nat) (a k : Nat), NumText.AllDigits l → a < 10 ^ k → l.foldl (fun acc c => acc * 10 + (c - 48)) a < 10 ^ (k + l.length) := by
    intro l
    induction l with
    | nil => exact fun a k _ h => h
    | cons c r ih =>
      intro a k hl ha
      have hc := hl c List.mem_cons_self
      have := ih (a * 10 + (c - 48)) (k + 1) (fun d hd => hl d (List.mem_cons_of_mem _ hd)) (by rw [Nat.pow_succ]; omega)
      rw [List.length_cons, show k + (r.length + 1) = k + 1 + r.length by omega]
      exact this
  have := gen l 0 0 h (by decide)
  rw [Nat.zero_add] at this
  exact this
theorem int_figs {z : Str} (h : figB (tl z) = true) (hl : z.length ≤ 640) : PySem.intText? z = some ((dv (tl z) : Nat) : Int) := by
  obtain ⟨h1, h2⟩ := figB_iff.mp h
  exact intText_digits h2 h1 (by omega)
theorem len_tl (z : Str) : z.length = (tl z).length := by simp [tl, Str.length]
theorem tl_app (a b : Str) : tl (a ++ b) = tl a ++ tl b := TL.tl_append a b
theorem ext_tl {a b : Str} (h : tl a = tl b) : a = b := TL.ext_tl h
theorem dv_zeros (k : Nat) : dv (49 :: List.replicate k 48) = 10 ^ k := by
  have gen : ∀ (k a : Nat), (List.replicate k 48).foldl (fun acc c => acc * 10 + (c - 48)) a = a * 10 ^ k := by
    intro k
    induction k with
    | zero => intro a; simp
    | succ k ih =>
      intro a
      rw [List.replicate_succ, List.foldl_cons, ih, Nat.pow_succ]
      simp [Nat.mul_assoc, Nat.mul_comm]
  show List.foldl _ (0 * 10 + (49 - 48)) (List.replicate k 48) = _
  rw [gen]
  omega
/-- the place of a figure among the ten -/
theorem idx_fig : ∀ c : Nat, c < 58 → 48 ≤ c → Txt.index0 "0123456789" ⟨#[c]⟩ = some (c - 48) := by decide +kernel
theorem mem_fig {c : Nat} : c ∈ ("0123456789" : Str).cps.toList ↔ 48 ≤ c ∧ c ≤ 57 := by
  have e : ("0123456789" : Str).cps.toList = [48, 49, 50, 51, 52, 53, 54, 55, 56, 57] := by decide +kernel
  rw [e]
  simp
  omega
end Z

namespace Z
open PySem PySem.Spec L2 PyProof.Rows

/-! ### decimals -/
def dHs (z : Str) : Str := (Txt.partition z ".").1
def dP (z : Str) : Str := (Txt.partition z ".").2.1
def dTs (z : Str) : Str := (Txt.partition z ".").2.2
abbrev dH (z : Str) : List Nat := tl (dHs z)
abbrev dT (z : Str) : List Nat := tl (dTs z)
theorem dp_or (z : Str) : ((dP z = "" ∧ dT z = []) ∨ dP z = ".") ∧ (dH z).length + (dT z).length ≤ z.length := by
  unfold dT dH dHs dTs dP
  unfold Txt.partition
  cases Builtin.Str.occurrences z "." 0 z.length 1 with
  | nil =>
    refine ⟨.inl ⟨(show Str.empty = ("" : Str) by decide +kernel), rfl⟩, ?_⟩
    dsimp only
    rw [len_tl z]
    show (tl z).length + 0 ≤ _
    omega
  | cons i r =>
    refine ⟨.inr rfl, ?_⟩
    dsimp only
    have e1 : tl (PySem.Builtin.Str.strSub z 0 i) = ((tl z).drop 0).take (i - 0) := TL.tl_strSub z 0 i
    have e2 : tl (PySem.Builtin.Str.strSub z (i + ("." : Str).length) z.length) = (tl z).drop (i + ("." : Str).length) := TL.tl_strSub_end z _
    have e3 : ("." : Str).length = 1 := by decide +kernel
    rw [e1, e2, len_tl z, e3, List.length_take, List.length_drop, List.length_drop]
    omega
def decB (z : Str) : Bool := figB (dH z) && (!(decide (1 < (dH z).length) && decide ((dH z).head? = some 48)) && (decide (dP z = "") || figB (dT z)))
def dN (z : Str) : Nat := dv (dH z ++ dT z)
theorem figB_app {a b : List Nat} (ha : figB a = true) (hb : b = [] ∨ figB b = true) : figB (a ++ b) = true := by
  obtain ⟨h1, h2⟩ := figB_iff.mp ha
  refine figB_iff.mpr ⟨by simp [h1], fun c hc => ?_⟩
  rcases List.mem_append.mp hc with z | z
  · exact h2 c z
  · rcases hb with rfl | hb
    · cases z
    · exact (figB_iff.mp hb).2 c z
theorem dec_figs {z : Str} (h : decB z = true) : figB (dH z) = true ∧ (dT z = [] ∨ figB (dT z) = true) ∧ figB (dH z ++ dT z) = true := by
  unfold decB at h
  rw [Bool.and_eq_true, Bool.and_eq_true, Bool.or_eq_true] at h
  obtain ⟨h1, _, h3⟩ := h
  have h4 : dT z = [] ∨ figB (dT z) = true := by
    rcases h3 with h3 | h3
    · rcases (dp_or z).1 with q | q
      · exact .inl q.2
      · have e := of_decide_eq_true h3
        rw [q] at e
        exact absurd e (by decide +kernel)
    · exact .inr h3
  exact ⟨h1, h4, figB_app h1 h4⟩
theorem figB_cons {l : List Nat} (h : figB l = true) : ∃ c r, l = c :: r ∧ 48 ≤ c ∧ c ≤ 57 := by
  obtain ⟨h1, h2⟩ := figB_iff.mp h
  cases l with
  | nil => exact absurd rfl h1
  | cons c r => exact ⟨c, r, rfl, h2 c List.mem_cons_self⟩
theorem nlen_str {z : Str} {k : Nat → Prop} (h : z.length ≤ sizeLine) (p : k z.length) : nlen (.im (.str z)) k := ⟨z.length, by show (if z.length ≤ sizeLine then some z.length else none) = _; rw [if_pos h], p⟩
theorem pow10_bd {k : Nat} (h : k ≤ 600) : Bd 2400 ((10 : Int) ^ k) := by
  refine Bd.of (Int.pow_nonneg (by decide)) ?_
  have h1 : (10 : Nat) ^ k ≤ 16 ^ k := Nat.pow_le_pow_left (by decide) k
  have h2 : (16 : Nat) ^ k = 2 ^ (4 * k) := by rw [Nat.pow_mul]
  have h3 : (2 : Nat) ^ (4 * k) ≤ 2 ^ 2400 := Nat.pow_le_pow_right (by decide) (by omega)
  have h4 : (2 : Nat) ^ (4 * k) < 2 ^ 2400 ∨ (2 : Nat) ^ (4 * k) = 2 ^ 2400 := by omega
  have e : (((10 : Nat) ^ k : Nat) : Int) = (10 : Int) ^ k := by simp
  have e2 : (((2 : Nat) ^ 2400 : Nat) : Int) = (2 : Int) ^ 2400 := by simp
  have h5 : (10 : Nat) ^ k < 2 ^ 2400 := by
    by_cases z : k = 0
    · subst z
      rw [Nat.pow_zero]
      exact Nat.one_lt_two_pow (by decide)
    · have : (10 : Nat) ^ k < 16 ^ k := Nat.pow_lt_pow_left (by decide) z
      omega
  omega
theorem dv_bd {l : List Nat} (h : NumText.AllDigits l) (hl : l.length ≤ 600) : Bd 2400 ((dv l : Nat) : Int) := by
  have h1 := dv_lt h
  have b := pow10_bd hl
  have e : (((10 : Nat) ^ l.length : Nat) : Int) = (10 : Int) ^ l.length := by simp
  exact b.le (by omega) (by omega)
theorem all_take {l : List Nat} {k c : Nat} (h : l[k]? = some c) : l.take (k + 1) = l.take k ++ [c] := by
  rw [List.take_add_one, h]
  rfl
theorem cps_get {z : Str} {k c : Nat} (h : z.cps[k]? = some c) : (tl z)[k]? = some c := by
  rw [Array.getElem?_toList]
  exact h
/-! ### numbers as texts -/
abbrev numS (n : Nat) : Str := Str.ofString (toString ((n : Nat) : Int))
theorem tl_numS (n : Nat) : tl (numS n) = TL.numL n := TL.tl_num n
theorem numL_fig (n : Nat) : figB (TL.numL n) = true := figB_iff.mpr ⟨TL.numL_ne n, TL.numL_digits n⟩
theorem numL_lead {n : Nat} (h : (TL.numL n).head? = some 48) : (TL.numL n).length = 1 := by
  cases e : TL.numL n with
  | nil => exact absurd e (TL.numL_ne n)
  | cons c r =>
    rw [e] at h
    have ec : c = 48 := by simpa using h
    subst ec
    cases r with
    | nil => rfl
    | cons d r' =>
      exfalso
      have hd := TL.numL_digits n
      rw [e] at hd
      have hr : NumText.AllDigits (d :: r') := fun x hx => hd x (List.mem_cons_of_mem _ hx)
      have hv := TL.numL_val n
      rw [e] at hv
      have e2 : NumText.digitsVal (48 :: d :: r') = dv (d :: r') := rfl
      rw [e2] at hv
      have lt := dv_lt hr
      rw [hv] at lt
      have := TL.numL_len (n := n) (k := (d :: r').length) (by simp) lt
      rw [e] at this
      simp at this
      omega
theorem numL_ge {n k : Nat} (h : 10 ^ k ≤ n) : k + 1 ≤ (TL.numL n).length := by
  have lt := dv_lt (TL.numL_digits n)
  have hv : dv (TL.numL n) = n := TL.numL_val n
  rw [hv] at lt
  have : (10 : Nat) ^ k < 10 ^ (TL.numL n).length := by omega
  have := (Nat.pow_lt_pow_iff_right (by decide : 1 < 10)).mp this
  omega
theorem log_ok {k : Nat} {i : Int} (h : Bd k i) (hk : k ≤ 1900) : i.natAbs.log2 < 1920 := by
  have h := h.abs
  by_cases z : i.natAbs = 0
  · rw [z]
    decide
  · have := (Nat.log2_lt z).mpr h
    omega
theorem dot_tl : tl ("." : Str) = 46 :: [] := by decide +kernel
theorem lead_of {a : Nat} : (!(decide (1 < (TL.numL a).length) && decide ((TL.numL a).head? = some 48))) = true := by
  by_cases h : (TL.numL a).head? = some 48
  · rw [numL_lead h]
    rfl
  · rw [decide_eq_false h, Bool.and_false]
    rfl
theorem dec_plain (a : Nat) : decB (numS a) = true ∧ dH (numS a) = TL.numL a ∧ dT (numS a) = [] := by
  have p : Txt.partition (numS a) "." = (numS a, Str.empty, Str.empty) := TL.partition_none dot_tl (by
    show 46 ∉ tl (numS a)
    rw [tl_numS]
    exact TL.numL_free (by omega))
  have e1 : dH (numS a) = TL.numL a := by
    unfold dH dHs
    rw [p]
    exact tl_numS a
  have e2 : dT (numS a) = [] := by
    unfold dT dTs
    rw [p]
    rfl
  have e3 : dP (numS a) = "" := by
    unfold dP
    rw [p]
    show Str.empty = ("" : Str)
    decide +kernel
  refine ⟨?_, e1, e2⟩
  unfold decB
  rw [e1, e2, e3, numL_fig, lead_of]
  rfl
theorem dec_point {a : Nat} {t : Str} (ht : figB (tl t) = true) : decB (numS a ++ "." ++ t) = true ∧ dH (numS a ++ "." ++ t) = TL.numL a ∧ dT (numS a ++ "." ++ t) = tl t := by
  have p : Txt.partition (numS a ++ "." ++ t) "." = (numS a, ("." : Str), t) := TL.partition_app dot_tl (by
    show 46 ∉ tl (numS a)
    rw [tl_numS]
    exact TL.numL_free (by omega))
  have e1 : dH (numS a ++ "." ++ t) = TL.numL a := by
    unfold dH dHs
    rw [p]
    exact tl_numS a
  have e2 : dT (numS a ++ "." ++ t) = tl t := by
    unfold dT dTs
    rw [p]
  refine ⟨?_, e1, e2⟩
  unfold decB
  rw [e1, e2, numL_fig, lead_of, ht, Bool.or_true]
  rfl
/-! ### slices of texts -/
theorem cutS_S (z : Str) (lo hi : Option Int) : tl (cutS z lo hi) = cutL (tl z) lo hi := by
  unfold cutS cutL
  show ((tl z).drop _).take _ = _
  have e : z.length = (tl z).length := len_tl z
  rw [e]
  cases lo <;> cases hi <;> rfl
theorem cutS_le (z : Str) (lo hi : Option Int) : (cutS z lo hi).length ≤ z.length := by
  rw [len_tl, cutS_S, len_tl z]
  unfold cutL
  rw [List.length_take, List.length_drop]
  omega
theorem len_app (a b : Str) : (a ++ b).length = a.length + b.length := by rw [len_tl, tl_app, List.length_append, ← len_tl, ← len_tl]
theorem len_one (c : Nat) : (⟨#[c]⟩ : Str).length = 1 := rfl
theorem at_in {l : List Nat} {k : Int} (h0 : 0 ≤ k) (h : k < (l.length : Int)) : ∃ c, atI l k = some c := by
  obtain ⟨j, rfl⟩ : ∃ j : Nat, k = (j : Int) := ⟨k.toNat, by omega⟩
  exact ⟨_, atI_nat (List.getElem?_eq_getElem (show j < l.length by omega))⟩
end Z

namespace Z
open PySem PySem.Spec L2 PyProof.Rows

/-! ### list comprehensions -/
section
variable {K : PySem.W.Frag} {H0 H H' : Hp} {σ : L2.St} {S : List Sl} {P : Xd → Prop}
/-- a name of which nothing is known may be taken away -/
theorem SR.gone (h : SR K H0 H σ S) {i : Nat} (h0 : S[i]? = some .un) : SR K H0 H (σ.set i Option.none) S := by
  have g : ∀ (j : Nat) (s : Sl), S[j]? = some s → (σ.set i Option.none)[j]? = σ[j]? ∨ s = .un := fun j s q => by
    by_cases e : i = j
    · subst e
      rw [h0] at q
      exact .inr (Option.some.inj q).symm
    · exact .inl (List.getElem?_set_ne e)
  refine ⟨h.ex, fun j s q z => ?_, fun j s q => ?_, fun j l s t a hjl hj hl aj al => ?_⟩
  · rw [List.length_set]
    exact h.len j s q z
  · rcases g j s q with e | e
    · rw [e]; exact h.ok j s q
    · subst e; trivial
  · rcases g j s hj with e | e
    · rw [e] at aj
      rcases g l t hl with e2 | e2
      · rw [e2] at al
        exact h.ap j l s t a hjl hj hl aj al
      · subst e2; exact al
    · subst e; exact aj
theorem SR.wiped : ∀ {vs : List Nat} {σ : L2.St}, SR K H0 H σ S → (∀ i ∈ vs, S[i]? = some .un) → SR K H0 H (wipe σ vs) S
  | [], _, h, _ => h
  | v :: vs, σ, h, k => (SR.wiped h fun i hi => k i (List.mem_cons_of_mem _ hi)  ).gone (k v List.mem_cons_self)
/-- the new list of a comprehension grows -/
theorem SR.grow {a : Addr} {vs us : List V} {ds es : List PyData} (h : SR K H0 H σ (S ++ [.tmp a vs ds])) (r : Ims K H us es) : SR K H0 (upd H a (.lst us)) σ (S ++ [.tmp a us es]) := by
  have z := h.ok _ _ (last_push S (.tmp a vs ds))
  obtain ⟨n0, hv, _⟩ := z
  have g : GeT K H (upd H a (.lst us)) := GeT.upd hv
  have ap' : ∀ j t, S[j]? = some t → ∀ b, Adr σ[j]? b t → b ≠ a := fun j t ht b q e => by
    subst e
    have hj : j < S.length := (List.getElem?_eq_some_iff.mp ht).1
    exact h.ap j S.length t (.tmp b vs ds) b (by omega) (by rw [List.getElem?_append_left hj]; exact ht) (last_push _ _) q rfl
  refine ⟨fun b o q => ?_, fun j t q z => ?_, fun j t q => ?_, fun j l s t b hjl hj hl aj al => ?_⟩
  · rw [upd_ne (ne_of_none q n0)]
    exact h.ex b o q
  · rcases get_push q with y | ⟨y, _⟩
    · exact h.len j t (by rw [List.getElem?_append_left (List.getElem?_eq_some_iff.mp y).1]; exact y) z
    · rw [y] at z; cases z
  · rcases get_push q with y | ⟨y, _⟩
    · exact (h.ok j t (by rw [List.getElem?_append_left (List.getElem?_eq_some_iff.mp y).1]; exact y)).mono g fun b z => upd_ne (ap' j t y b z)
    · rw [y]
      exact ⟨n0, upd_same, Ims.mono g _ _ r⟩
  · rcases get_push hj with y | ⟨y, y2⟩
    · rcases get_push hl with w | ⟨w, w2⟩
      · exact h.ap j l s t b hjl (by rw [List.getElem?_append_left (List.getElem?_eq_some_iff.mp y).1]; exact y) (by rw [List.getElem?_append_left (List.getElem?_eq_some_iff.mp w).1]; exact w) aj al
      · rw [w] at al
        exact ap' j s y b aj al
    · rcases get_push hl with w | ⟨w, w2⟩
      · rw [y] at aj
        exact ap' l t w b al aj
      · exact hjl (y2.trans w2.symm)
/-- what one turn of a comprehension gives -/
def wL (K : PySem.W.Frag) (H0 : Hp) (g : TG) (vs : List Nat) (te : TE) (S : List Sl) (d : PyData) (P : PyData → Prop) : Prop :=
  ∀ (σ : L2.St) (H : Hp) (v : V), SR K H0 H σ S → Im K H v d → ∀ Q : VK, (∀ w H' e, Same H H' → Im K H' w e → P e → Q w H') → g v (wipe σ vs) H fun σ2 H2 => wipe σ2 vs = wipe σ vs ∧ te σ2 H2 Q
theorem wipe_set1 (σ : L2.St) (i : Nat) (x : Option V) : wipe ((wipe σ [i]).set i x) [i] = wipe σ [i] := by
  show ((σ.set i Option.none).set i x).set i Option.none = σ.set i Option.none
  rw [List.set_set, List.set_set]
theorem wipe_set2 (σ : L2.St) {i j : Nat} (x y : Option V) (ne : i ≠ j) : wipe (((wipe σ [i, j]).set i x).set j y) [i, j] = wipe σ [i, j] := by
  show (((((σ.set j Option.none).set i Option.none).set i x).set j y).set j Option.none).set i Option.none = (σ.set j Option.none).set i Option.none
  refine List.ext_getElem? fun k => ?_
  simp only [List.getElem?_set, List.length_set]
  grind
theorem wL_name {i : Nat} {te : TE} {d : PyData} {P : PyData → Prop} (h0 : S[i]? = some .un) (h : wE K H0 te (S.set i (.im d)) fun x => P x.it) : wL K H0 (gName i) [i] te S d P := fun σ H v r m Q q => by
  have rw1 := r.wiped (vs := [i]) fun j hj => by rw [List.mem_singleton.mp hj]; exact h0
  refine ⟨wipe_set1 σ i (some v), ?_⟩
  have r2 := rw1.setIm h0 rfl m
  exact h _ H r2 Q fun w H' x e o p => q w H' x.it e (o.item (r2.mono e)) p
theorem wL_pair {i j : Nat} {te : TE} {d1 d2 : PyData} {P : PyData → Prop} (ne : i ≠ j) (h0 : S[i]? = some .un) (h1 : S[j]? = some .un) (h : wE K H0 te ((S.set i (.im d1)).set j (.im d2)) fun x => P x.it) :
    wL K H0 (gTup K 2 (gCons (gName i) (gCons (gName j) gNil))) [i, j] te S (.tuple [d1, d2]) P := fun σ H v r m Q q => by
  have rw1 := r.wiped (vs := [i, j]) fun k hk => by
    rcases List.mem_cons.mp hk with z | z
    · rw [z]; exact h0
    · rw [List.mem_singleton.mp z]; exact h1
  cases m with
  | tup hs hd =>
    cases hd with
    | cons o1 os =>
      cases os with
      | cons o2 os =>
        cases os
        refine ⟨_, _, rfl, hs, rfl, _, _, rfl, _, _, rfl, rfl, wipe_set2 σ _ _ ne, ?_⟩
        obtain ⟨s1, k1, kt1⟩ := set_isT (i := i) (t := .im d1) h1 rfl rfl
        have r2 := (rw1.setIm h0 rfl o1).setIm k1 kt1 o2
        exact h _ H r2 Q fun w H' x e o p => q w H' x.it e (o.item (r2.mono e)) p
theorem all_takeD {l : List PyData} {k : Nat} {c : PyData} (h : l[k]? = some c) : l.take (k + 1) = l.take k ++ [c] := by
  rw [List.take_add_one, h]
  rfl
theorem Ims.one {H : Hp} {v : V} {d : PyData} (h : Im K H v d) : Ims K H [v] [d] := .cons h .nil
/-- over a list that stood at the entry -/
theorem wE_lcB {tl te : TE} {g : TG} {vs : List Nat} (h : wE K H0 tl S fun x => ∃ ds, x = .bor ds ∧ ds.length ≤ 100000 ∧ ∃ es : List PyData, es.length = ds.length ∧ (∀ (k : Nat) (d : PyData), ds[k]? = some d → wL K H0 g vs te S d fun (e : PyData) => es[k]? = some e) ∧ P (.new es)) :
    wE K H0 (tLc (iList K tl) g tYes te vs) S P := fun σ H s Q q => h σ H s _ fun v H1 x e o ⟨ds, e1, hl, es, el, turn, p⟩ => by
  subst e1
  obtain ⟨a, xs, rfl, hq, m⟩ := o
  refine ⟨a, rfl, ⟨xs, sql_same (s.ex.trans e) hq⟩, fun D hD => ?_⟩
  have r1 : SR K H0 (upd H1 D (.lst [])) σ ((S ++ [.tmb a xs ds]) ++ [.tmp D [] []]) := ((s.mono e).pushB hq m).push (same_upd hD) hD upd_same .nil
  refine lc_list (xs := xs) (fun i H2 => Same H H2 ∧ ∃ us, SR K H0 H2 σ ((S ++ [.tmb a xs ds]) ++ [.tmp D us (es.take i)])) ⟨e.trans (same_upd hD), [], r1⟩ ?_ ?_ ?_
  · rintro i H2 _ ⟨_, us, r⟩
    exact sql_same r.ex hq
  · rintro i y H2 hy ⟨e2, us, r⟩
    obtain ⟨_, z⟩ := (r.weak Wk.app2).ok _ _ (last_push S (.tmb a xs ds))
    obtain ⟨d, hd, md⟩ := z.get' hy
    have t := turn i d hd σ H2 y ((r.weak Wk.app2).weak Wk.app2) md (fun w H4 => ∃ acc, H4 D = some (.lst acc) ∧ acc.length < sizeLine ∧ (Same H (upd H4 D (.lst (acc ++ [w]))) ∧ ∃ us, SR K H0 (upd H4 D (.lst (acc ++ [w]))) σ ((S ++ [.tmb a xs ds]) ++ [.tmp D us (es.take (i + 1))]))) fun w H4 e' e4 me pe => by
      have r4 := r.mono e4
      obtain ⟨n0, hv, mi⟩ := r4.ok _ _ (last_push _ (.tmp D us (es.take i)))
      have il : i < es.length := (List.getElem?_eq_some_iff.mp pe).1
      refine ⟨us, hv, ?_, ?_, us ++ [w], ?_⟩
      · have := mi.len
        rw [List.length_take] at this
        exact Nat.lt_of_le_of_lt (show us.length ≤ 100000 by omega) (by decide)
      · intro b o hb
        have nb : b ≠ D := fun z => by
          rw [z] at hb
          have := e _ _ hb
          rw [hD] at this
          cases this
        rw [upd_ne nb]
        exact e4 _ _ (e2 _ _ hb)
      · rw [all_takeD pe]
        exact r4.grow (mi.append (Ims.one me))
    exact t
  · rintro H2 ⟨e2, us, r⟩
    obtain ⟨n0, hv, mi⟩ := r.ok _ _ (last_push _ (.tmp D us (es.take xs.length)))
    rw [m.len, ← el, List.take_length] at mi
    exact q _ H2 (.new es) e2 ⟨D, us, rfl, free_back e hD, hv, mi⟩ p
/-- over a new list -/
theorem wE_lcN {tl te : TE} {g : TG} {vs : List Nat} (h : wE K H0 tl S fun x => ∃ ds, x = .new ds ∧ ds.length ≤ 100000 ∧ ∃ es : List PyData, es.length = ds.length ∧ (∀ (k : Nat) (d : PyData), ds[k]? = some d → wL K H0 g vs te S d fun (e : PyData) => es[k]? = some e) ∧ P (.new es)) :
    wE K H0 (tLc (iList K tl) g tYes te vs) S P := fun σ H s Q q => h σ H s _ fun v H1 x e o ⟨ds, e1, hl, es, el, turn, p⟩ => by
  subst e1
  obtain ⟨a, xs, rfl, na, ha, m⟩ := o
  refine ⟨a, rfl, ⟨xs, .inl (.inl ha)⟩, fun D hD => ?_⟩
  have r0 : SR K H0 H1 σ (S ++ [.tmp a xs ds]) := s.push e na ha m
  have r1 : SR K H0 (upd H1 D (.lst [])) σ ((S ++ [.tmp a xs ds]) ++ [.tmp D [] []]) := r0.push (same_upd hD) hD upd_same .nil
  refine lc_list (xs := xs) (fun i H2 => Same H H2 ∧ ∃ us, SR K H0 H2 σ ((S ++ [.tmp a xs ds]) ++ [.tmp D us (es.take i)])) ⟨e.trans (same_upd hD), [], r1⟩ ?_ ?_ ?_
  · rintro i H2 _ ⟨_, us, r⟩
    exact .inl (.inl ((r.weak Wk.app2).ok _ _ (last_push S (.tmp a xs ds))).2.1)
  · rintro i y H2 hy ⟨e2, us, r⟩
    obtain ⟨_, _, z⟩ := (r.weak Wk.app2).ok _ _ (last_push S (.tmp a xs ds))
    obtain ⟨d, hd, md⟩ := z.get' hy
    have t := turn i d hd σ H2 y ((r.weak Wk.app2).weak Wk.app2) md (fun w H4 => ∃ acc, H4 D = some (.lst acc) ∧ acc.length < sizeLine ∧ (Same H (upd H4 D (.lst (acc ++ [w]))) ∧ ∃ us, SR K H0 (upd H4 D (.lst (acc ++ [w]))) σ ((S ++ [.tmp a xs ds]) ++ [.tmp D us (es.take (i + 1))]))) fun w H4 e' e4 me pe => by
      have r4 := r.mono e4
      obtain ⟨n0, hv, mi⟩ := r4.ok _ _ (last_push _ (.tmp D us (es.take i)))
      have il : i < es.length := (List.getElem?_eq_some_iff.mp pe).1
      refine ⟨us, hv, ?_, ?_, us ++ [w], ?_⟩
      · have := mi.len
        rw [List.length_take] at this
        exact Nat.lt_of_le_of_lt (show us.length ≤ 100000 by omega) (by decide)
      · intro b o hb
        have nb : b ≠ D := fun z => by
          rw [z] at hb
          have := e _ _ hb
          rw [hD] at this
          cases this
        rw [upd_ne nb]
        exact e4 _ _ (e2 _ _ hb)
      · rw [all_takeD pe]
        exact r4.grow (mi.append (Ims.one me))
    exact t
  · rintro H2 ⟨e2, us, r⟩
    obtain ⟨n0, hv, mi⟩ := r.ok _ _ (last_push _ (.tmp D us (es.take xs.length)))
    rw [m.len, ← el, List.take_length] at mi
    exact q _ H2 (.new es) e2 ⟨D, us, rfl, free_back e hD, hv, mi⟩ p
end
/-! ### dicts of the module's top: texts by texts -/
section
variable {X : Cx}
/-- z in d -/
def rInDct (K : PySem.W.Frag) (w : World) (neg : Bool) : R2 := fun x y H Q => ∃ (z : Str) (p : Addr) (b : Bool), x = .str z ∧ y = .ref p ∧ ((b = true ∧ (∃ v, KDct K w p z v) ∧ (p == sysModules) = false) ∨ (b = false ∧ KMiss K w p z)) ∧ Q (.bl (neg ^^ b)) H
theorem op_notInDct : OpR X (compareOp .NotIn) (rInDct X.K X.w true) := by
  intro pins s σ H x y v u Q I rx ry h
  obtain ⟨z, p, b, rfl, rfl, hb, q⟩ := h
  obtain ⟨t, rfl⟩ := rx
  obtain rfl : u = Value.ref p := ry
  rcases hb with ⟨rfl, ⟨v, es, n, u, hl, hk, hn, _⟩, low⟩ | ⟨rfl, es, n, hl, hk, low, hn⟩
  · refine wpAny_notIn_of (strKind_is X.prog X.w z t) low (PySem.W.mapOf_K (prog := X.prog) (w := X.w) I.kIn hl hk) ?_
    rw [PySem.W.find_K hl hn]
    exact ⟨.bl false, H, I.tok _, rfl, q⟩
  · refine wpAny_notIn_of (strKind_is X.prog X.w z t) low (PySem.W.mapOf_K (prog := X.prog) (w := X.w) I.kIn hl hk) ?_
    rw [PySem.W.find_K hl hn]
    exact ⟨.bl true, H, I.tok _, rfl, q⟩
end
section
variable {K : PySem.W.Frag} {H0 : Hp} {S : List Sl} {ta tb : TE} {P : Xd → Prop} {w : World} {k : Addr}
theorem wE_ixDct (h : wE K H0 tb S fun y => ns y fun z => ∃ u : Str, KDct K w k z (.str u) ∧ P (.im (.str u))) : wE K H0 (tOp (rIxD K w) (tC (.ref k)) tb) S P := fun σ H s Q q => h σ H s _ fun v H1 x e o ⟨z, ez, u, kd, p⟩ => by
  subst ez
  exact ⟨k, z, _, rfl, im_str o, kd, q _ _ (.im _) e (.str _) p⟩
def kdct (K : PySem.W.Frag) (w : World) (k : Addr) (z : Str) (b : Bool) : Prop := (b = true ∧ (∃ v, KDct K w k z v) ∧ (k == sysModules) = false) ∨ (b = false ∧ KMiss K w k z)
theorem wE_notInDct (h : wE K H0 ta S fun x => ns x fun z => ∃ b, kdct K w k z b ∧ P (.im (.bool (!b)))) : wE K H0 (tOp (rInDct K w true) ta (tC (.ref k))) S P := fun σ H s Q q => h σ H s _ fun v H1 x e o ⟨z, ez, b, kd, p⟩ => by
  subst ez
  refine ⟨z, k, b, im_str o, rfl, kd, ?_⟩
  rw [Bool.true_xor]
  exact q _ _ (.im _) e (.bl _) p
end
/-- a module's dict of two texts -/
structure Dct (K : PySem.W.Frag) (w : World) (k : Addr) (a b c d : Str) : Prop where
  ga : KDct K w k a (.str b)
  gc : KDct K w k c (.str d)
  low : (k == sysModules) = false
  miss : ∀ z, z ≠ a → z ≠ c → KMiss K w k z
theorem dct_mk {K : PySem.W.Frag} {w : World} {k : Addr} {a b c d : Str} {es : Array DictEntry} {n : Nat} {ta tc : Tok} {u v : Value} (hl : K.lookup k = some ⟨.type "dict", none, .dict es n, #[]⟩) (hk : PySem.W.KeysLit w.params es.toList) (low : (k == sysModules) = false)
    (ha : PySem.W.nsIn K k a = some (some u)) (hc : PySem.W.nsIn K k c = some (some v)) (ru : RelV (.str b) u) (rv : RelV (.str d) v) (he : es.toList.map (·.key) = [.str a ta, .str c tc]) : Dct K w k a b c d := by
  refine ⟨⟨es, n, u, hl, hk, ha, ru⟩, ⟨es, n, v, hl, hk, hc, rv⟩, low, fun z za zc => ⟨es, n, hl, hk, low, ?_⟩⟩
  unfold PySem.W.nsIn
  rw [hl]
  dsimp only
  have two : ∃ e1 e2, es.toList = [e1, e2] ∧ e1.key = .str a ta ∧ e2.key = .str c tc := by
    generalize es.toList = l at he
    rcases l with _ | ⟨e1, _ | ⟨e2, _ | ⟨e3, r⟩⟩⟩
    · exact absurd he (by simp)
    · exact absurd he (by simp)
    · exact ⟨e1, e2, rfl, (List.cons.inj he).1, (List.cons.inj (List.cons.inj he).2).1⟩
    · exact absurd he (by simp)
  obtain ⟨e1, e2, hs, k1, k2⟩ := two
  have n1 : e1.key.isStr z = false := by rw [k1]; exact beq_eq_false_iff_ne.mpr (Ne.symm za)
  have n2 : e2.key.isStr z = false := by rw [k2]; exact beq_eq_false_iff_ne.mpr (Ne.symm zc)
  have r1 : e1.refKey = false := by unfold DictEntry.refKey; rw [k1]
  have r2 : e2.refKey = false := by unfold DictEntry.refKey; rw [k2]
  rw [hs, List.find?_cons, n1]
  dsimp only
  rw [List.find?_cons, n2]
  dsimp only
  rw [List.find?_nil]
  dsimp only
  rw [List.any_cons, r1, List.any_cons, r2, List.any_nil]
  rfl
end Z

namespace Z
open PySem PySem.Spec L2 PyProof.Rows

/-! ### a path as a text -/
abbrev sgn (b : Bool) : Str := if b = true then "R" else "L"
def sg (b : Bool) : Nat := if b = true then 82 else 76
theorem tl_sgn (b : Bool) : tl (sgn b) = [sg b] := by cases b <;> decide +kernel
def word (x : PRun) : Str := sgn x.1 ++ Str.ofString (toString x.2)
theorem tl_word {b : Bool} {n : Int} (h : 0 ≤ n) : tl (word (b, n)) = sg b :: TL.numL n.toNat := by
  obtain ⟨k, rfl⟩ : ∃ k : Nat, n = (k : Int) := ⟨n.toNat, by omega⟩
  show tl (sgn b ++ numS k) = _
  rw [tl_app, tl_sgn, tl_numS]
  rfl
theorem sg_or (b : Bool) : sg b = 76 ∨ sg b = 82 := by cases b <;> decide
theorem word_free {x : PRun} (h : 0 ≤ x.2) : 32 ∉ tl (word x) := by
  rw [tl_word h]
  intro q
  rcases List.mem_cons.mp q with z | z
  · rcases sg_or x.1 with e | e <;> omega
  · exact TL.numL_free (by omega) z
theorem word_len {x : PRun} {k : Nat} (h : 0 ≤ x.2) (hk : x.2 < 10 ^ k) (k1 : 1 ≤ k) : (tl (word x)).length ≤ k + 1 := by
  rw [tl_word h, List.length_cons]
  have := TL.numL_len (n := x.2.toNat) (k := k) (by omega) (by
    have e : (((10 : Nat) ^ k : Nat) : Int) = (10 : Int) ^ k := by simp
    omega)
  omega
theorem bd_ten {n : Int} (h : Bd 210 n) : n < 10 ^ 64 := Int.lt_of_lt_of_le h.lt (by decide)
/-- figures that don't begin with a nought -/
def figOk (l : List Nat) : Bool := figB l && !decide (l.head? = some 48)
/-- a word, read -/
def runL : List Nat → Option PRun
  | [] => none
  | c :: f => if c = 76 then (if figOk f = true then some (false, ((dv f : Nat) : Int)) else none) else if c = 82 then (if figOk f = true then some (true, ((dv f : Nat) : Int)) else none) else none
theorem numL_ok {n : Nat} (h : 1 ≤ n) : figOk (TL.numL n) = true := by
  unfold figOk
  rw [numL_fig, Bool.true_and]
  by_cases e : (TL.numL n).head? = some 48
  · exfalso
    have l := numL_lead e
    have hv := TL.numL_val n
    cases q : TL.numL n with
    | nil => rw [q] at l; cases l
    | cons c r =>
      rw [q] at e l hv
      have ec : c = 48 := by simpa using e
      have er : r = [] := by cases r with | nil => rfl | cons _ _ => simp at l
      subst ec er
      have : (0 : Nat) = n := hv
      omega
  · rw [decide_eq_false e]
    rfl
theorem run_word {x : PRun} (h : 1 ≤ x.2) : runL (tl (word x)) = some x := by
  obtain ⟨b, n⟩ := x
  obtain ⟨k, rfl⟩ : ∃ k : Nat, n = (k : Int) := ⟨n.toNat, by omega⟩
  have h' : 1 ≤ k := by have : (1 : Int) ≤ (k : Int) := h; omega
  rw [tl_word (by omega)]
  have e : ((k : Int)).toNat = k := by omega
  have v : dv (TL.numL k) = k := TL.numL_val k
  rw [e]
  cases b with
  | true =>
    show (if sg true = 76 then (if figOk (TL.numL k) = true then some (false, ((dv (TL.numL k) : Nat) : Int)) else none) else if sg true = 82 then (if figOk (TL.numL k) = true then some (true, ((dv (TL.numL k) : Nat) : Int)) else none) else none) = _
    rw [if_neg (by decide), if_pos (by decide), if_pos (numL_ok h'), v]
  | false =>
    show (if sg false = 76 then (if figOk (TL.numL k) = true then some (false, ((dv (TL.numL k) : Nat) : Int)) else none) else if sg false = 82 then (if figOk (TL.numL k) = true then some (true, ((dv (TL.numL k) : Nat) : Int)) else none) else none) = _
    rw [if_pos (by decide), if_pos (numL_ok h'), v]
/-- the line of a path -/
def lineS : List PRun → Str
  | [] => "top"
  | x :: r => Txt.join " " ((x :: r).map word)
theorem lineS_ne {rs : List PRun} (h : rs ≠ []) : lineS rs = Txt.join " " (rs.map word) := by
  cases rs with
  | nil => exact absurd rfl h
  | cons x r => rfl
theorem bl_tl : tl (" " : Str) = 32 :: [] := by decide +kernel
theorem split_line {rs : List PRun} (h : rs ≠ []) (hp : ∀ x ∈ rs, 0 ≤ x.2) : Txt.split (lineS rs) " " = rs.map word := by
  rw [lineS_ne h]
  refine TL.split_join bl_tl (by decide +kernel) (fun e => h (List.map_eq_nil_iff.mp e)) fun p q => ?_
  obtain ⟨x, hx, rfl⟩ := List.mem_map.mp q
  exact word_free (hp x hx)
theorem join_len (a : Str) : ∀ ys : List Str, (Txt.join a ys).length ≤ (ys.map (·.length)).sum + ys.length * a.length := by
  intro ys
  rw [TL.join_eq, len_tl]
  show (TL.tl (Str.join a ys)).length ≤ _
  rw [TL.tl_join]
  have gen : ∀ ys : List Str, (TL.joinL (TL.tl a) (ys.map TL.tl)).length ≤ (ys.map (·.length)).sum + ys.length * a.length := by
    intro ys
    induction ys with
    | nil => exact Nat.zero_le _
    | cons x r ih =>
      cases r with
      | nil =>
        show (TL.tl x).length ≤ ([x].map (·.length)).sum + 1 * a.length
        have : x.length = (TL.tl x).length := len_tl x
        simp only [List.map_cons, List.map_nil, List.sum_cons, List.sum_nil]
        clear ih
        omega
      | cons z r =>
        show (TL.tl x ++ (TL.tl a ++ TL.joinL (TL.tl a) ((z :: r).map TL.tl))).length ≤ _
        rw [List.length_append, List.length_append, show ((x :: z :: r).map (fun x : Str => x.length)).sum = x.length + ((z :: r).map (fun x : Str => x.length)).sum from rfl, show (x :: z :: r).length = (z :: r).length + 1 from rfl, Nat.add_mul, Nat.one_mul]
        have e1 : x.length = (TL.tl x).length := len_tl x
        have e2 : a.length = (TL.tl a).length := len_tl a
        omega
  exact gen ys
theorem sum_le {k : Nat} : ∀ {rs : List PRun}, (∀ x ∈ rs, (word x).length ≤ k) → ((rs.map word).map (·.length)).sum ≤ k * rs.length
  | [], _ => Nat.zero_le _
  | x :: r, h => by
    have := sum_le (k := k) (rs := r) fun y hy => h y (List.mem_cons_of_mem _ hy)
    have := h x List.mem_cons_self
    simp only [List.map_cons, List.sum_cons, List.length_cons, Nat.mul_add] at *
    omega
/-- counts of a path that is written -/
def Wr (rs : List PRun) : Prop := (∀ x ∈ rs, 1 ≤ x.2 ∧ Bd 210 x.2) ∧ rs.length ≤ 1000
theorem Wr.word {rs : List PRun} (h : Wr rs) : ∀ x ∈ rs, (word x).length ≤ 65 := fun x hx => by
  have := h.1 x hx
  rw [len_tl]
  exact word_len (by omega) (bd_ten this.2) (by decide)
theorem Wr.sum {rs : List PRun} (h : Wr rs) : ((rs.map Z.word).map (·.length)).sum + (rs.map Z.word).length * (" " : Str).length ≤ 16777216 := by
  have := sum_le h.word
  have l : (" " : Str).length = 1 := by decide +kernel
  have := h.2
  rw [l, List.length_map]
  omega
theorem Wr.line {rs : List PRun} (h : Wr rs) : (lineS rs).length ≤ 66000 := by
  by_cases e : rs = []
  · subst e
    decide +kernel
  · rw [lineS_ne e]
    have := sum_le h.word
    have l : (" " : Str).length = 1 := by decide +kernel
    have := h.2
    have j := join_len " " (rs.map Z.word)
    rw [l, List.length_map] at j
    omega
theorem line_head {rs : List PRun} (h : rs ≠ []) (hp : ∀ x ∈ rs, 0 ≤ x.2) : lineS rs ≠ "top" := fun e => by
  cases rs with
  | nil => exact h rfl
  | cons x r =>
    have q := congrArg tl e
    have t : tl ("top" : Str) = [116, 111, 112] := by decide +kernel
    have j : tl (lineS (x :: r)) = TL.joinL (TL.tl " ") (((x :: r).map word).map TL.tl) := by
      show TL.tl (Txt.join " " _) = _
      rw [TL.join_eq, TL.tl_join]
    have hd : (tl (word x)).head? = some (sg x.1) := by rw [tl_word (hp x List.mem_cons_self)]; rfl
    have hj : (tl (lineS (x :: r))).head? = some (sg x.1) := by
      rw [j]
      cases r with
      | nil => exact hd
      | cons y r =>
        show (TL.tl (word x) ++ _).head? = _
        rw [List.head?_append]
        show ((tl (word x)).head?.or _) = _
        rw [hd]
        rfl
    rw [q, t] at hj
    have : (116 : Nat) = sg x.1 := Option.some.inj hj
    rcases sg_or x.1 with z | z <;> omega
/-! ### lists of texts -/
abbrev strsD (ys : List Str) : List PyData := ys.map .str
theorem strsD_app (ys : List Str) (y : Str) : strsD ys ++ [.str y] = strsD (ys ++ [y]) := by
  show _ = List.map _ _
  rw [List.map_append]
  rfl
theorem nob_strs : ∀ ys : List Str, nobs (strsD ys) = true
  | [] => rfl
  | x :: r => by
    show (nob (.str x) && nobs (strsD r)) = true
    rw [nob_strs r]
    rfl
theorem pl_strs : ∀ ys : List Str, pls (strsD ys) = true
  | [] => rfl
  | x :: r => by
    show (pl (.str x) && pls (strsD r)) = true
    rw [pl_strs r]
    rfl
theorem lay_strs : ∀ {ys : List Str}, (∀ y ∈ ys, PyData.strOk y = true) → PyData.canLayAll0 (strsD ys) = true
  | [], _ => rfl
  | x :: r, h => by
    show (PyData.strOk x && PyData.canLayAll0 (strsD r)) = true
    rw [lay_strs fun y hy => h y (List.mem_cons_of_mem _ hy), h x List.mem_cons_self]
    rfl
theorem depth_strs : ∀ ys : List Str, PyData.depthAll (strsD ys) ≤ 1
  | [] => by decide
  | x :: r => by
    show max (PyData.depth (.str x)) (PyData.depthAll (strsD r)) ≤ 1
    have := depth_strs r
    have e : PyData.depth (.str x) = 0 := rfl
    omega
theorem shaped_strs {ys : List Str} (h : ∀ y ∈ ys, PyData.strOk y = true) : SeqAt.shaped (.list (strsD ys)) = true := by
  unfold SeqAt.shaped
  rw [Bool.and_eq_true_iff]
  refine ⟨lay_strs h, ?_⟩
  refine decide_eq_true ?_
  show PyData.depthAll (strsD ys) + 1 ≤ 64
  have := depth_strs ys
  omega
/-- words == [] -/
theorem neq_nilS {x y : Xd} {ys : List Str} {k : Bool → Prop} (hx : x.ls = some (strsD ys)) (hy : y.ls = some []) (ok : ∀ y ∈ ys, PyData.strOk y = true) (h : k (decide (ys = []))) : neq x y k := by
  have px : x.pd = .list (strsD ys) ∧ x.pl = true := by
    cases x with
    | im d => cases hx
    | bor ds => cases hx; exact ⟨rfl, pl_strs ys⟩
    | «at» i ds => cases hx; exact ⟨rfl, pl_strs ys⟩
    | new ds => cases hx; exact ⟨rfl, pl_strs ys⟩
  have py : y.pd = .list [] ∧ y.pl = true := by
    cases y with
    | im d => cases hy
    | bor ds => cases hy; exact ⟨rfl, rfl⟩
    | «at» i ds => cases hy; exact ⟨rfl, rfl⟩
    | new ds => cases hy; exact ⟨rfl, rfl⟩
  refine ⟨⟨px.2, by rw [px.1]; exact shaped_strs ok⟩, ⟨py.2, by rw [py.1]; rfl⟩, ?_⟩
  rw [px.1, py.1]
  have e : PyData.eqv (.list (strsD ys)) (.list []) = decide (ys = []) := by
    have q := eqv_iff (.list (strsD ys)) (.list []) (nob_strs ys) rfl
    rw [Bool.eq_iff_iff, q]
    constructor
    · intro z
      injection z with z
      exact decide_eq_true (List.map_eq_nil_iff.mp z)
    · intro z
      rw [of_decide_eq_true z]
      rfl
  rw [e]
  exact h
theorem strOk_tl {z : Str} (h : ∀ c ∈ tl z, c < 0x110000) : PyData.strOk z = true := by
  unfold PyData.strOk
  rw [← Array.all_toList, List.all_eq_true]
  exact fun c hc => decide_eq_true (h c hc)
theorem word_ok {x : PRun} (h : 0 ≤ x.2) : PyData.strOk (word x) = true := strOk_tl fun c hc => by
  rw [tl_word h] at hc
  rcases List.mem_cons.mp hc with z | z
  · rcases sg_or x.1 with e | e <;> omega
  · have := TL.numL_digits _ c z
    omega
theorem okRuns_setW {a : Option Bool} {rs : List PRun} {i : Nat} {x : PRun} {n : Int} (h : okRuns a rs) (e : rs[i]? = some x) (hn : 1 ≤ n) : okRuns a (rs.set i (x.1, n)) := okRuns_set h e hn
/-! ### a word cut in two -/
theorem cut_two (g : Str) : tl (cutS g none (some 1)) = (tl g).take 1 ∧ tl (cutS g (some 1) none) = (tl g).drop 1 := by
  rw [cutS_S, cutS_S]
  refine ⟨?_, cutL_from (k := 1)⟩
  cases tl g with
  | nil => rfl
  | cons c r => exact cutL_to (k := 1) (by simp)
theorem run_cut (g : Str) : (∃ b, cutS g none (some 1) = sgn b ∧ runL (tl g) = if figOk (tl (cutS g (some 1) none)) = true then some (b, ((dv (tl (cutS g (some 1) none)) : Nat) : Int)) else none) ∨
    (cutS g none (some 1) ≠ "L" ∧ cutS g none (some 1) ≠ "R" ∧ runL (tl g) = none) := by
  obtain ⟨e1, e2⟩ := cut_two g
  rw [e2]
  cases h : tl g with
  | nil =>
    rw [h] at e1
    refine .inr ⟨fun e => ?_, fun e => ?_, rfl⟩
    · rw [e] at e1
      exact absurd e1 (by decide +kernel)
    · rw [e] at e1
      exact absurd e1 (by decide +kernel)
  | cons c r =>
    rw [h] at e1
    have t76 : tl ("L" : Str) = [76] := by decide +kernel
    have t82 : tl ("R" : Str) = [82] := by decide +kernel
    have e1' : tl (cutS g none (some 1)) = [c] := e1
    show (∃ b, _ ∧ (if c = 76 then (if figOk r = true then some (false, ((dv r : Nat) : Int)) else none) else if c = 82 then (if figOk r = true then some (true, ((dv r : Nat) : Int)) else none) else none) = if figOk r = true then some (b, ((dv r : Nat) : Int)) else none) ∨
      (_ ∧ _ ∧ (if c = 76 then (if figOk r = true then some (false, ((dv r : Nat) : Int)) else none) else if c = 82 then (if figOk r = true then some (true, ((dv r : Nat) : Int)) else none) else none) = none)
    by_cases h1 : c = 76
    · refine .inl ⟨false, ext_tl (by rw [e1', h1]; exact t76.symm), by rw [if_pos h1]⟩
    by_cases h2 : c = 82
    · refine .inl ⟨true, ext_tl (by rw [e1', h2]; exact t82.symm), by rw [if_neg h1, if_pos h2]⟩
    refine .inr ⟨fun e => ?_, fun e => ?_, by rw [if_neg h1, if_neg h2]⟩
    · rw [e, t76] at e1'
      cases e1'
      exact h1 rfl
    · rw [e, t82] at e1'
      cases e1'
      exact h2 rfl
theorem one_eq (c : Nat) : decide ((⟨#[c]⟩ : Str) = "0") = decide (c = 48) := by
  rw [decide_eq_decide]
  have q : ("0" : Str) = ⟨#[48]⟩ := by decide +kernel
  rw [q]
  constructor
  · intro z
    have z' := congrArg tl z
    cases z'
    rfl
  · rintro rfl
    rfl
end Z

namespace Z
open PySem PySem.Spec L2 PyProof.Rows

/-! ### a comprehension whose element may raise -/
/-- an error of a call within the block -/
def xeB (X : Cx) (E : XK) (s3 : Shared) (H3 : Hp) (scope : Scope) (ce : Env) (fp : List Addr) (e : Value) (s' : Shared) : Prop :=
  ∃ (pins : List (Addr × Obj)) (σ : L2.St) (H : Hp) (s : Shared), Inv (X.blk s3 H3 scope ce fp) pins σ H s ∧ L2N.CX X.prog X.w X.stack H s E e s'
/-- the block's context, with its errors -/
abbrev blkE (X : Cx) (E : XK) (s3 : Shared) (H3 : Hp) (scope : Scope) (ce : Env) (fp : List Addr) : Cx := { X.blk s3 H3 scope ce fp with xe := xeB X E s3 H3 scope ce fp }
theorem okXe {X : Cx} {f : Value → Shared → Prop} (I : X.Ok) : ({ X with xe := f } : Cx).Ok := ⟨I.mod, I.kind, I.glob, I.blt, I.above, I.inj, I.has, I.cab, I.hd, I.frames, I.stk, I.exf, I.bs, I.bsz, I.noex, I.exfs, I.funs, I.frf⟩
theorem invXe {X : Cx} {f : Value → Shared → Prop} {pins : List (Addr × Obj)} {σ : L2.St} {H : Hp} {s : Shared} (I : Inv X pins σ H s) : Inv ({ X with xe := f } : Cx) pins σ H s := by
  obtain ⟨ok, h1, h2, h3, h4, h5, h6, h7, h8, h9, h10⟩ := I
  exact ⟨okXe ok, h1, h2, h3, h4, h5, h6, h7, h8, h9, h10⟩
/-- a call within the block -/
theorem passB {X : Cx} {E : XK} {s3 : Shared} {H3 : Hp} {scope : Scope} {ce : Env} {fp : List Addr} : Passes (L2N.CX X.prog X.w) (blkE X E s3 H3 scope ce fp) E :=
  fun pins σ H s e s' I c => ⟨pins, σ, H, s, invXe (f := fun _ _ => False) I, c⟩
theorem ff_base {B B' h : Heap} : ∀ {l : List Env}, h.FunFrames B l → (∀ b o, B'.get? b = some o → B.get? b = some o) → h.FunFrames B' l
  | [], _, _ => trivial
  | env :: l, h, k => by
    obtain ⟨hk, ⟨L, o, hf, hn, ho, hd⟩, hr⟩ := h
    have hn' : B'.get? L = none := by
      cases q : B'.get? L with
      | none => rfl
      | some o' =>
        have := k L o' q
        rw [hn] at this
        cases this
    exact ⟨hk, ⟨L, o, hf, hn', ho, hd⟩, ff_base hr k⟩
theorem ff_but {B h h' : Heap} {C : Addr} (k : ∀ b, b ≠ C → h'.get? b = h.get? b) : ∀ {l : List Env}, h.FunFrames B l → C ∉ frs l → h'.FunFrames B l
  | [], _, _ => trivial
  | env :: l, h, hc => by
    obtain ⟨hk, ⟨L, o, hf, hn, ho, hd⟩, hr⟩ := h
    have hL : L ≠ C := fun e => hc (List.mem_filterMap.mpr ⟨env, List.mem_cons_self, by rw [hf, e]⟩)
    refine ⟨hk, ⟨L, o, hf, hn, by rw [k L hL]; exact ho, hd⟩, ff_but k hr fun z => ?_⟩
    obtain ⟨e, he, q⟩ := List.mem_filterMap.mp z
    exact hc (List.mem_filterMap.mpr ⟨e, List.mem_cons_of_mem _ he, q⟩)
theorem hide_at {h : Heap} {C : Addr} : (PySem.W.hideAll h [C]).get? C = none := PySem.W.hideAll_none _ (List.mem_singleton.mpr rfl)
theorem note_frame {e : Value} {ce env : Env} (h : ce.frame = env.frame) : noteFrame e ce = noteFrame e env := by
  unfold noteFrame PySem.frameOf
  rw [h]
section
variable {X : Cx} {E : XK} {s3 : Shared} {H3 : Hp} {scope : Scope} {ce : Env} {fp : List Addr} {pins : List (Addr × Obj)} {σ : L2.St}
/-- it is noted, the block's names are let go, it goes on in the def's own air -/
theorem noted_out (hs : X.stack = X.env :: X.outer) (hf : X.env.frame = some X.env.locals) (tk : L2N.Takes X (fun cls d _ H => E cls d H)) (I3 : Inv X pins σ H3 s3) (cL : ce.locals = s3.heap.objs.size) (cF : ce.frame = X.env.frame)
    (f3 : ∀ b ∈ fp, FpOk X pins H3 b) {e : Value} {s' : Shared} (x : xeB X E s3 H3 scope ce fp e s') :
    notedBy (model X.prog X.w) X.A ce (CompFails (model X.prog X.w) X.A X.xe ce) e s' := by
  obtain ⟨pinsB, σB, H, s, I6, a, B, H', cls, d, rfl, fl, hok, ub, na, os, ag, hE⟩ := x
  have I7 : Inv X pins σ H s := I3.call' (ch := fp) I6.os I6.base I6.hok I6.bare fun b hb => ⟨(f3 b hb).2.2.2.1, (f3 b hb).2.1, (f3 b hb).2.2.2.2.1, (f3 b hb).2.2.2.2.2⟩
  generalize hC : s3.heap.objs.size = C at cL
  have nC : H C = none := by
    have z : H ce.locals = none := I6.free
    rw [cL] at z
    exact z
  obtain ⟨m, hn, _⟩ := I6.loc
  have hn : s.heap.Ns ce.locals m := hn
  rw [cL] at hn
  obtain ⟨oC, es, ep, gC, dC, kC, fC⟩ := hn
  have fpC : FpOk X pins H C := I3.fpOk (Nat.le_of_eq hC) nC
  have cS : C ∉ frs X.stack := fun z => by
    rcases List.mem_cons.mp (I7.stkSub C z) with q | q
    · exact fpC.2.1 q
    · exact fpC.2.2.1 q
  have bC : B.get? C = some oC := ub.keep C oC gC nC cS
  have nC' : H' C = none := ub.free C oC gC nC
  have fpC' : FpOk X pins H' C := ⟨nC', fpC.2⟩
  have hfr : X.A.frames = some (X.env :: X.outer) := by rw [I7.ok.frames, hs]
  unfold notedBy
  rw [note_frame cF]
  rw [hs] at fl
  refine PXN.looks_onZ L2N.Zn.steady hfr hf fl fun h1 held up => ?_
  obtain ⟨st1, na1, ff1, oe, vs, T, oT, ts, he, hz, hd, hv, hnT, hTe, hT, hdT, h3⟩ := held
  have aC : a ≠ C := fun z => by rw [z, bC] at na1; cases na1
  have TC : T ≠ C := fun z => by rw [z, bC] at hnT; cases hnT
  refine ⟨m, by rw [cL]; exact ⟨oC, es, ep, st1 C oC bC, dC, kC, fC⟩, fun h2 m' hn2 sb => ?_⟩
  rw [cL] at sb
  have hb2 : ∀ b o, (PySem.W.hideAll B [C]).get? b = some o → B.get? b = some o ∧ b ≠ C := fun b o q => ⟨PySem.W.of_hideAll _ q, fun z => by rw [z, hide_at] at q; cases q⟩
  have hn0 : ∀ b, B.get? b = none → (PySem.W.hideAll B [C]).get? b = none := fun b q => by
    cases z : (PySem.W.hideAll B [C]).get? b with
    | none => rfl
    | some o =>
      have := (hb2 b o z).1
      rw [q] at this
      cases this
  have e2 : h2.get? a = some oe := by rw [sb.2 a aC]; exact he
  have eT : h2.get? T = some oT := by rw [sb.2 T TC]; exact hT
  have held2 : HandSPX.HeldZ (PySem.W.hideAll B [C]) (X.env :: X.outer) a (L2N.Zn cls d) X.env.locals h2 :=
    ⟨fun b o q => by obtain ⟨q1, q2⟩ := hb2 b o q; rw [sb.2 b q2]; exact st1 b o q1, hn0 a na1, ff_base (ff_but sb.2 ff1 (by rw [← hs]; exact cS)) fun b o q => (hb2 b o q).1,
      oe, vs, T, oT, ts, e2, hz, hd, hv, hn0 T hnT, hTe, eT, hdT, h3⟩
  unfold PySem.passOn
  refine wpAny_bind (wpAny_field e2 hd hv ?_)
  rw [if_neg (show ¬ ((Value.ref T == Value.none) = true) from by simp)]
  rw [cF, hf]
  refine wpAny_bind (HandSPX.setFlight_onZ held2 fun h3 held3 up3 => wpAny_throw (tk _ _ ?_))
  -- the ground: what the callee left, and the frames, but not the block
  obtain ⟨G, gIn, gOut⟩ := restrict s'.heap fun b => !decide (b = C) && ((B.get? b).isSome || decide (b ∈ frs X.stack))
  have gB : ∀ {b o}, b ≠ C → B.get? b = some o → G.get? b = some o := fun {b o} nb q => (gIn b (by rw [decide_eq_false nb, q]; rfl)).trans (fl.1 b o q)
  have gF : ∀ {b}, b ∈ frs X.stack → G.get? b = s'.heap.get? b := fun {b} hb => gIn b (by rw [decide_eq_false (show ¬ b = C from fun z => cS (z ▸ hb)), decide_eq_true hb, Bool.or_true]; rfl)
  have gS : ∀ {b o}, G.get? b = some o → b ≠ C ∧ s'.heap.get? b = some o ∧ (B.get? b = some o ∨ b ∈ frs X.stack) := fun {b o} q => by
    by_cases p : (!decide (b = C) && ((B.get? b).isSome || decide (b ∈ frs X.stack))) = true
    · have q' : s'.heap.get? b = some o := (gIn b p).symm.trans q
      rw [Bool.and_eq_true, Bool.or_eq_true] at p
      refine ⟨fun z => by rw [decide_eq_true z] at p; exact Bool.noConfusion p.1, q', p.2.imp (fun h => ?_) of_decide_eq_true⟩
      cases r : B.get? b with
      | none => rw [r] at h; cases h
      | some u => exact (fl.1 b u r).symm.trans q'
    · rw [gOut b (Bool.eq_false_iff.mpr p)] at q
      cases q
  have back : ∀ {b o}, s.heap.get? b = some o → b ≠ C → ∃ o', G.get? b = some o' := fun {b o} q nb => by
    rcases Classical.em (b ∈ frs X.stack) with hb | hb
    · exact (ub.slot b o q hb).elim fun sl z => ⟨_, (gF hb).trans z⟩
    · exact (ub.there b o q hb).elim fun o' z => ⟨o', gB nb z⟩
  have nC1 : ∀ {b}, b ∉ [C] → b ≠ C := fun {b} h z => h (List.mem_singleton.mpr z)
  have okG : HOk X.prog X.w H' G := fun b o q => (hok b o q).stay (fun v u hv r => gB (fun z => by
    rcases hv with y | y
    · rw [← y, z, nC'] at q; cases q
    · rw [z, nC'] at y; cases y) r) (fun _ y => y) fun _ _ y => y
  have I9 : Inv X pins σ H' { s with heap := G, gens := s'.gens, drawn := s'.drawn, toks := s'.toks } :=
    I7.call (ch := [C])
      { keep := fun b o q n hb hc => gB (nC1 hc) (ub.keep b o q n hb), slot := fun b o q _ hb _ => (ub.slot b o q hb).imp fun sl z => (gF hb).trans z, free := fun b o q n _ => ub.free b o q n, there := fun b o q hc => back q (nC1 hc),
        tups := ub.tups, frzs := ub.frzs, tbls := ub.tbls } okG ag fun b hb => by rw [List.mem_singleton.mp hb]; exact fpC'.2.2.2
          |> fun z => ⟨z.1, fpC'.2.1, z.2⟩
  have hideB : ∀ {b o}, b ≠ C → B.get? b = some o → (PySem.W.hideAll B [C]).get? b = some o := fun {b o} nb q => PySem.W.hideAll_get _ q fun z => nb (List.mem_singleton.mp z)
  refine ⟨a, PySem.W.hideAll B [C], _, pins, σ, H', cls, d, rfl, I9, fun b o q hb => (gS q).2.2.elim (hideB (gS q).1) (absurd · hb), fun b o q nf => ?_, by rw [hs]; exact .inr (.inr held3), na, os, ag, hE⟩
  obtain ⟨nb, q1, _⟩ := gS q
  obtain ⟨sl1, q2⟩ := up b o q1 nf
  have q3 : h2.get? b = some { o with slots := sl1 } := (sb.2 b nb).trans q2
  exact (up3 b _ q3 nf).imp fun _ z => z
end
/-! the block, from its beginning to its end -/
section
variable {X : Cx} {E : XK} {pins : List (Addr × Obj)} {σ : L2.St}
/-- the cells and the frame of a block that begins at s -/
abbrev cellsOf (X : Cx) (scope : Scope) (s : Shared) : List (Str × Addr) := cellsFrom (s.heap.objs.size + 1) scope.names (cloFrom X.env.cells scope.names [])
abbrev frameAt (X : Cx) (scope : Scope) (s : Shared) : Env := compEnvC scope (cellsOf X scope s) s.heap.objs.size X.env
/-- the state in which it begins -/
abbrev begun (scope : Scope) (s : Shared) : Shared := { s with heap := pushCells (s.heap.push { cls := .type "dict", data := .dict #[] }) scope.names }
/-- between two turns: i are done, the names of the block are unknown, the iterator stands -/
structure Between (Y : Cx) (fp : List Addr) (tn : Nat → Heap → Prop) (W : Nat → Nat → Hp → Prop) (τ : L2.St) (i n : Nat) (H : Hp) (s : Shared) : Prop where
  inv : Inv Y [] τ H s
  turn : tn i s.heap
  out : ∀ b ∈ fp, H b = none
  way : W i n H
/-- the iterator's objects are none of the block's -/
theorem Between.fp {s3 : Shared} {H3 : Hp} {scope : Scope} {ce : Env} {fp : List Addr} {tn : Nat → Heap → Prop} {W : Nat → Nat → Hp → Prop} {τ : L2.St} {i n : Nat} {H : Hp} {s : Shared} (b : Between (blkE X E s3 H3 scope ce fp) fp tn W τ i n H s) :
    ∀ x ∈ fp, FpOk (blkE X E s3 H3 scope ce fp) [] H x := by
  intro x hx
  have ef := b.inv.ok.exf x hx
  exact ⟨b.out x hx, ef.1, b.inv.ok.exfs x hx, Or.inl hx, ef.2, by intro p hp; exact absurd hp (List.not_mem_nil)⟩
/-- the turns of the loop; R: what is owed at the end and of an error -/
theorem turnsE {elt tg iter : Expr} {ifs : List Expr} {scope : Scope} {pos : Pos} {g : TG} {tt : TT} {te : TE} {vs : List Nat} {s3 s4 : Shared} {H3 H4 : Hp} {ce : Env} {fp : List Addr} {it D : Addr} {tn : Nat → Heap → Prop} {J : It} {W : Nat → Nat → Hp → Prop} {Qd : Hp → Prop} {m0 : Nat} {R : Result → Shared → Prop}
    (hc : X.calm = true) (T : Turn X.prog X.w X.K tg J fp it tn) (pg : PG (blkE X E s3 H3 scope ce fp) tg g) (pt : PTs (blkE X E s3 H3 scope ce fp) ifs tt) (pe : PE (blkE X E s3 H3 scope ce fp) elt te)
    (err : ∀ e s', xeB X E s3 H3 scope ce fp e s' → notedBy (model X.prog X.w) X.A ce (fun e s' => R (.error e) s') e s')
    (start : Between (blkE X E s3 H3 scope ce fp) fp tn W (wipe σ vs) 0 m0 H4 s4)
    (walk : ∀ i m H, W i m H → (J.stop i H ∧ Qd H) ∨ (J.go i H ∧ ∃ Nx : Hp → Prop, (∀ H', Nx H' → ∃ m', m' < m ∧ W (i + 1) m' H') ∧ ∀ x H', J.yld i H x H' → g x (wipe σ vs) H' fun σ2 H2 => wipe σ2 vs = wipe σ vs ∧ tt σ2 H2 fun b H3 =>
      if b = true then te σ2 H3 fun y H4 => ∃ acc, H4 D = some (.lst acc) ∧ acc.length < sizeLine ∧ Nx (upd H4 D (.lst (acc ++ [y]))) else Nx H3))
    (fin : ∀ H s, Inv (blkE X E s3 H3 scope ce fp) [] (wipe σ vs) H s → Qd H → R (.ok .next) s) :
    codeAny (model X.prog X.w) X.A (.compLoop (.ListComp elt [⟨tg, iter, ifs, 0⟩] scope pos) 0 (.ref it) (.ref D) ce) R s4 := by
  apply compLoop_any (I := fun n s => ∃ i H, Between (blkE X E s3 H3 scope ce fp) fp tn W (wipe σ vs) i n H s) (n := m0) (h := ⟨0, H4, start⟩)
  intro n s ⟨i, H, bt⟩
  cases walk i n H bt.way with
  | inl z =>
    refine wpAny_mono (T.done (blkE X E s3 H3 scope ce fp) rfl rfl rfl hc i [] s _ H (fun _ _ => False) bt.inv bt.fp bt.turn z.1) (fun r t h => ?_) fun _ _ f => f.elim
    rw [h.1]
    exact fin H t h.2 z.2
  | inr z =>
    obtain ⟨go, Nx, less, step⟩ := z
    refine wpAny_mono (T.item (blkE X E s3 H3 scope ce fp) rfl rfl rfl hc i [] s _ H (fun _ _ => False) bt.inv bt.fp bt.turn go) (fun r t h => ?_) fun _ _ f => f.elim
    obtain ⟨u, rfl, got⟩ := h
    refine wpAny_mono got (fun _ t h => ?_) fun _ _ f => f.elim
    obtain ⟨x, Hx, Ix, rx, yx, tx, ox⟩ := h
    have fpx : ∀ b ∈ fp, FpOk (blkE X E s3 H3 scope ce fp) [] Hx b := Between.fp ⟨Ix, tx, ox, bt.way⟩ (n := n) (W := fun _ _ _ => W i n H)
    refine wpAny_mono (pg.run _ t _ Hx x u _ (Ix.pinned fpx (T.obj _ _ tx)) rx (step x Hx yx)) (fun _ t2 h => ?_) err
    obtain ⟨τ, Ht, It, same, q⟩ := h
    refine wpAny_mono (pt.run _ t2 τ Ht _ It q) (fun b t3 h => ?_) err
    obtain ⟨Hb, Ib, qb⟩ := h
    -- whatever the turn has done: what was pinned stands
    have next : ∀ (v : Shared) (Hv : Hp), Inv (blkE X E s3 H3 scope ce fp) ([] ++ pinsAt fp t.heap) τ Hv v → Nx Hv → ∃ m, m < n ∧ ∃ i H, Between (blkE X E s3 H3 scope ce fp) fp tn W (wipe σ vs) i m H v := by
      intro v Hv Iv nx
      obtain ⟨m, lt, w⟩ := less Hv nx
      have held : ∀ b ∈ fp, ∀ o, t.heap.get? b = some o → v.heap.get? b = some o ∧ Hv b = none := by
        intro b hb o q
        have z := Iv.pin (b, o) (by simpa using mem_pinsAt hb q)
        exact ⟨z.1, z.2.1⟩
      have Iw : Inv (blkE X E s3 H3 scope ce fp) [] (wipe σ vs) Hv v := (Iv.unpinned (pins := [])).weak (by rw [← same, wipe_length]) (by
        intro j y q
        rw [← same] at q
        exact (wipe_some q).1)
      exact ⟨m, lt, i + 1, Hv, Iw, T.keep _ _ _ tx (fun b hb o q => (held b hb o q).1), fun b hb => (T.obj _ _ tx b hb).elim fun o z => (held b hb o z.1).2, w⟩
    cases b
    · exact next _ _ Ib (by simpa using qb)
    · refine wpAny_mono (pe.run _ t3 τ Hb _ Ib (by simpa using qb)) (fun y t4 h => ?_) err
      obtain ⟨yv, Hy, Iy, ry, acc, hD, sz, nx⟩ := h
      exact app_ok (X := blkE X E s3 H3 scope ce fp) Iy hD sz ry fun t5 I5 => next _ _ I5 nx
/-- a comprehension of a def that may raise -/
theorem lcRaises {s : Shared} {H : Hp} {Q : VK} {elt tg iter : Expr} {ifs : List Expr} {scope : Scope} {own : List (Str × Nat)} {pos pos' : Pos} {wi : TI} {g : TG} {tt : TT} {te : TE} {use : Option (Value → Sem Unit)} {Qf : Value → Shared → Prop}
    (hs0 : X.stack = X.env :: X.outer) (hf0 : X.env.frame = some X.env.locals) (tk : L2N.Takes X (fun cls d _ H => E cls d H)) (hc : X.calm = true) (hN : X.N.Nodup) (I : Inv X pins σ H s) (hi : PI X tg iter wi) (ok : BlkOk X.N X.env.scope scope own)
    (hg : ∀ (s : Shared) (H : Hp) (C : Addr) (cl : List (Str × Addr)) (fp : List Addr), PG (blkE X E s H scope (compEnvC scope cl C X.env) fp) tg g) (ht : ∀ (s : Shared) (H : Hp) (C : Addr) (cl : List (Str × Addr)) (fp : List Addr), PTs (blkE X E s H scope (compEnvC scope cl C X.env) fp) ifs tt)
    (he : ∀ (s : Shared) (H : Hp) (C : Addr) (cl : List (Str × Addr)) (fp : List Addr), PE (blkE X E s H scope (compEnvC scope cl C X.env) fp) elt te) (hs : ∀ x, foldedSetIterable iter X.env x = pure x)
    (h : tLc wi g tt te (own.map (·.2)) σ H Q)
    (done : ∀ D (ce : Env) t m Ht, Inv X pins σ Ht t → Q (.ref D) Ht → t.heap.Ns ce.locals m → FpOk X pins Ht ce.locals → compEnds (model X.prog X.w) X.A X.xe use Qf (.ref D) ce (.ok .next) t) :
    wpAny (model X.prog X.w) X.A (comprehension (.ListComp elt [⟨tg, iter, ifs, 0⟩] scope pos) scope X.env pos' (newList []) false (eval iter X.env) use) Qf X.xe s := by
  have cl : closureFor scope X.env = pure (cloFrom X.env.cells scope.names []) := closure_ok (by
    intro y hy e
    exact (ok.free y hy e).elim (fun k => I.ok.has _ (Or.inl k)) fun k => I.ok.has _ (Or.inr k))
  apply comprehension_at (use := use) rfl hs cl ok.kind (by intro y hy e; rw [ok.uniq y hy, e])
  apply thn (hi.run pins s σ H _ I h)
  intro xv t1 walked
  apply thn walked
  intro itv t2 ⟨it, fp, tn, J, H2, e2, I2, T, tn0, fpo, q⟩
  rw [e2]
  refine wpAny_newObj_type (newEnv_comp ?_) (by show 0 ≤ sizeLine; decide)
  -- the new list D, the state t3 with it
  obtain ⟨D, eD⟩ : ∃ D, D = t2.heap.objs.size := ⟨_, rfl⟩
  obtain ⟨t3, e3⟩ : ∃ t3 : Shared, t3 = { t2 with heap := t2.heap.push { cls := .type "list", data := .seq ([] : List Value).toArray } } := ⟨_, rfl⟩
  rw [← eD, ← e3]
  have grow : ∀ b o, t2.heap.get? b = some o → t3.heap.get? b = some o := by
    intro b o z
    rw [e3]
    exact Heap.get?_push_of_some _ z
  have atD : t3.heap.get? D = some { cls := .type "list", data := .seq ([] : List Value).toArray } := by
    rw [e3, eD]
    exact Heap.get?_push_size _ rfl
  have newD : H2 D = none := I2.hok.fresh (by rw [eD]; exact Nat.le_refl _)
  obtain ⟨W, ⟨m0, w0⟩, walk⟩ := q D newD
  have I3 : Inv X pins σ (upd H2 D (.lst [])) t3 := by
    rw [e3]
    refine I2.laid (t' := t2.toks) (fun b o z => Heap.get?_push_of_some _ z) (by rw [eD]; exact Nat.le_refl _) ?_
    refine ⟨Nat.zero_le _, [], 0, .nil, ?_⟩
    rw [e3] at atD
    exact atD
  have fp3 : ∀ b ∈ fp, FpOk X pins (upd H2 D (.lst [])) b ∧ b < t3.heap.objs.size := by
    intro b hb
    obtain ⟨o, z, _⟩ := T.obj _ _ tn0 b hb
    have lt2 : b < D := by rw [eD]; exact Heap.lt_size z
    exact ⟨⟨(upd_ne (Nat.ne_of_lt lt2)).trans (fpo b hb).1, (fpo b hb).2⟩, Heap.lt_size (grow b o z)⟩
  generalize upd H2 D (.lst []) = H3 at I3 fp3 w0
  have I4 := invXe (f := xeB X E t3 H3 scope (frameAt X scope t3) fp) (block_start I3 ok hN fp3)
  have err : ∀ e s', xeB X E t3 H3 scope (frameAt X scope t3) fp e s' → notedBy (model X.prog X.w) X.A (frameAt X scope t3) (fun e s' => compEnds (model X.prog X.w) X.A X.xe use Qf (.ref D) (frameAt X scope t3) (.error e) s') e s' := by
    intro e s' x
    have z := noted_out (ce := frameAt X scope t3) hs0 hf0 tk I3 rfl rfl (fun b hb => (fp3 b hb).1) x
    cases use with
    | none => exact z
    | some _ => exact z
  have first : Between (blkE X E t3 H3 scope (frameAt X scope t3) fp) fp tn W (wipe σ (own.map (·.2))) 0 m0 H3 (begun scope t3) :=
    ⟨I4, T.keep _ _ _ tn0 (fun b _ o z => pushCells_keeps _ _ _ _ (Heap.get?_push_of_some _ (grow b o z))), fun b hb => (fp3 b hb).1.1, w0⟩
  have loop := turnsE (iter := iter) (pos := pos) (R := compEnds (model X.prog X.w) X.A X.xe use Qf (.ref D) (frameAt X scope t3)) hc T (hg t3 H3 _ _ fp) (ht t3 H3 _ _ fp) (he t3 H3 _ _ fp) err first walk (by
    intro Hz z Iz qz
    have own' : Inv X pins σ Hz z := I3.call' (ch := fp) Iz.os Iz.base Iz.hok Iz.bare (by
      intro b hb
      obtain ⟨_, f1, _, f2, f3, f4⟩ := (fp3 b hb).1
      exact ⟨f2, f1, f3, f4⟩)
    obtain ⟨m, ns, _⟩ := Iz.loc
    exact done D (frameAt X scope t3) z m Hz own' qz ns (I3.fpOk (Nat.le_refl _) Iz.free))
  exact codeAny_compStart_list loop (T.self X.A 0 _ _ _ first.turn loop)
/-- name = [..] -/
theorem ps_setLcE {i : Nat} {y : Str} {py : Pos} {elt tg iter : Expr} {ifs : List Expr} {scope : Scope} {own : List (Str × Nat)} {pos spos : Pos} {wi : TI} {g : TG} {tt : TT} {te : TE}
    (hs0 : X.stack = X.env :: X.outer) (hf0 : X.env.frame = some X.env.locals) (tk : L2N.Takes X (fun cls d _ H => E cls d H)) (hc : X.calm = true) (hN : X.N.Nodup) (hy : X.N[i]? = some y) (hyl : X.env.scope.names.lookup y = some .local)
    (hsw : swapsWith (.ListComp elt [⟨tg, iter, ifs, 0⟩] scope pos) (some (.Name y py)) spos.line X.env = pure true) (hi : PI X tg iter wi) (ok : BlkOk X.N X.env.scope scope own)
    (hg : ∀ (s : Shared) (H : Hp) (C : Addr) (cl : List (Str × Addr)) (fp : List Addr), PG (blkE X E s H scope (compEnvC scope cl C X.env) fp) tg g) (ht : ∀ (s : Shared) (H : Hp) (C : Addr) (cl : List (Str × Addr)) (fp : List Addr), PTs (blkE X E s H scope (compEnvC scope cl C X.env) fp) ifs tt)
    (he : ∀ (s : Shared) (H : Hp) (C : Addr) (cl : List (Str × Addr)) (fp : List Addr), PE (blkE X E s H scope (compEnvC scope cl C X.env) fp) elt te) (hs : ∀ x, foldedSetIterable iter X.env x = pure x := by intro _; rfl) :
    PS X (.Assign [.Name y py] (.ListComp elt [⟨tg, iter, ifs, 0⟩] scope pos) spos) (tAsg (tLc wi g tt te (own.map (·.2))) (gName i)) := by
  constructor
  intro pins s σ H Dn I rd
  rw [exec_Assign_Name_used _ _ _ _ hsw]
  apply wpAny_bind
  apply wpAny_standAt
  apply wpAny_bind
  have whole := lcRaises (use := some (assign (.Name y py) X.env)) (Qf := fun _ t => SP X pins Dn .next t) (Q := fun x H1 => gName i x σ H1 Dn.nx) (pos := pos) (pos' := firstIterPos [⟨tg, iter, ifs, 0⟩] pos) hs0 hf0 tk hc hN I hi ok hg ht he hs rd (by
    intro L ce t m Ht It q ns fpC
    show wpAny _ _ (assign (.Name y py) X.env (.ref L)) _ _ _
    refine wpAny_assign_Name (store_ok2 (v := V.ref L) It hN hy (Or.inl hyl) rfl (fun t2 I2 stored => ?_) (Or.inr hyl))
    obtain ⟨a, sb, place⟩ := stored
    have ne : ce.locals ≠ a := place.elim (fun z => by rw [z]; exact fpC.2.1) fun z => fun e => fpC.2.2.2.2.1 y a z e.symm
    refine ⟨m, ns.sameBut sb ne, fun h3 sb3 => ⟨_, Ht, ?_, q⟩⟩
    exact I2.turned (t' := t2.toks) (fun b o nb z => (sb3.2 b nb).trans z) fpC.1 fpC.2.1 fpC.2.2.2.1 fpC.2.2.2.2.1 fpC.2.2.2.2.2)
  exact wpAny_bind (thn whole fun _ t z => wpAny_pure (wpAny_pure z))
end
end Z

namespace Z
open PySem PySem.Spec L2 PyProof.Rows

section
variable {K : PySem.W.Frag} {H0 : Hp} {S : List Sl} {P : Xd → Prop}
/-- a call within a block that may raise -/
theorem wE_callE {α : Type} {args : α → List Sl} {pre : α → Prop} {post : α → Sl → Prop} {exc : α → Addr → Prop} {E : XK} {tr : TA}
    (h : wA K H0 tr S fun xs => ∃ g, xs.map Xd.sl = args g ∧ pre g ∧ (∀ C H', Same H0 H' → exc g C → E (.ref C) none H') ∧ ∀ r, post g r → P r.x) : wE K H0 (tCall (SpD K args pre post exc) [] E tr) S P := fun σ H s Q q => h σ H s _ fun vs H1 xs e os ⟨g, e1, p, nx, k⟩ => by
  refine ⟨g, ?_, p, fun v H' r e2 o z => q v H' r.x (e.trans e2) (ROk.x o |>.pre e) (k r z), fun C H' e2 z => nx C H' ((s.ex.trans e).trans e2) z⟩
  rw [List.append_nil, ← e1]
  exact os.args (s.mono e)
/-- over a new list; good: what a turn that came to its end tells -/
theorem wE_lcG {tl te : TE} {g : TG} {vs : List Nat} (h : wE K H0 tl S fun x => ∃ ds, x = .new ds ∧ ds.length ≤ 100000 ∧ ∃ (good : Nat → Prop) (es : List PyData), es.length = ds.length ∧ (∀ (k : Nat) (d : PyData), ds[k]? = some d → wL K H0 g vs te S d fun (e : PyData) => es[k]? = some e ∧ good k) ∧ ((∀ k, k < ds.length → good k) → P (.new es))) :
    wE K H0 (tLc (iList K tl) g tYes te vs) S P := fun σ H s Q q => h σ H s _ fun v H1 x e o ⟨ds, e1, hl, good, es, el, turn, p⟩ => by
  subst e1
  obtain ⟨a, xs, rfl, na, ha, m⟩ := o
  refine ⟨a, rfl, ⟨xs, .inl (.inl ha)⟩, fun D hD => ?_⟩
  have r0 : SR K H0 H1 σ (S ++ [.tmp a xs ds]) := s.push e na ha m
  have r1 : SR K H0 (upd H1 D (.lst [])) σ ((S ++ [.tmp a xs ds]) ++ [.tmp D [] []]) := r0.push (same_upd hD) hD upd_same .nil
  refine lc_list (xs := xs) (fun i H2 => Same H H2 ∧ (∀ k, k < i → good k) ∧ ∃ us, SR K H0 H2 σ ((S ++ [.tmp a xs ds]) ++ [.tmp D us (es.take i)])) ⟨e.trans (same_upd hD), fun k hk => absurd hk (Nat.not_lt_zero _), [], r1⟩ ?_ ?_ ?_
  · rintro i H2 _ ⟨_, _, us, r⟩
    exact .inl (.inl ((r.weak Wk.app2).ok _ _ (last_push S (.tmp a xs ds))).2.1)
  · rintro i y H2 hy ⟨e2, gd, us, r⟩
    obtain ⟨_, _, z⟩ := (r.weak Wk.app2).ok _ _ (last_push S (.tmp a xs ds))
    obtain ⟨d, hd, md⟩ := z.get' hy
    have t := turn i d hd σ H2 y ((r.weak Wk.app2).weak Wk.app2) md (fun w H4 => ∃ acc, H4 D = some (.lst acc) ∧ acc.length < sizeLine ∧ (Same H (upd H4 D (.lst (acc ++ [w]))) ∧ (∀ k, k < i + 1 → good k) ∧ ∃ us, SR K H0 (upd H4 D (.lst (acc ++ [w]))) σ ((S ++ [.tmp a xs ds]) ++ [.tmp D us (es.take (i + 1))]))) fun w H4 e' e4 me pe => by
      obtain ⟨pe, gi⟩ := pe
      have r4 := r.mono e4
      obtain ⟨n0, hv, mi⟩ := r4.ok _ _ (last_push _ (.tmp D us (es.take i)))
      have il : i < es.length := (List.getElem?_eq_some_iff.mp pe).1
      refine ⟨us, hv, ?_, ?_, fun k hk => ?_, us ++ [w], ?_⟩
      · have := mi.len
        rw [List.length_take] at this
        exact Nat.lt_of_le_of_lt (show us.length ≤ 100000 by omega) (by decide)
      · intro b o hb
        have nb : b ≠ D := fun z => by
          rw [z] at hb
          have := e _ _ hb
          rw [hD] at this
          cases this
        rw [upd_ne nb]
        exact e4 _ _ (e2 _ _ hb)
      · by_cases q : k = i
        · rw [q]; exact gi
        · exact gd k (by omega)
      · rw [all_takeD pe]
        exact r4.grow (mi.append (Ims.one me))
    exact t
  · rintro H2 ⟨e2, gd, us, r⟩
    obtain ⟨n0, hv, mi⟩ := r.ok _ _ (last_push _ (.tmp D us (es.take xs.length)))
    rw [m.len, ← el, List.take_length] at mi
    rw [m.len] at gd
    exact q _ H2 (.new es) e2 ⟨D, us, rfl, free_back e hD, hv, mi⟩ (p gd)
end
/-! ### a line, read -/
def rd (w : Str) : PRun := (runL (tl w)).getD (false, 0)
def dueL : Option Bool → List Str → Option (List PRun)
  | _, [] => some []
  | a, w :: r => match runL (tl w) with
    | none => none
    | some x => if a = some x.1 then none else (dueL (some x.1) r).map (x :: ·)
def readS (z : Str) : Option (List PRun) := if z = "top" then some [] else dueL none (Txt.split z " ")
theorem due_none : ∀ {a : Option Bool} {ws : List Str} {w : Str}, w ∈ ws → runL (tl w) = none → dueL a ws = none
  | a, v :: r, w, hm, h => by
    show (match runL (tl v) with | none => none | some x => if a = some x.1 then none else (dueL (some x.1) r).map (x :: ·)) = none
    cases q : runL (tl v) with
    | none => rfl
    | some x =>
      dsimp only
      rcases List.mem_cons.mp hm with e | e
      · rw [← e, h] at q
        cases q
      · rw [due_none e h]
        split <;> rfl
theorem figOk_pos {l : List Nat} (h : figOk l = true) : 1 ≤ dv l := by
  unfold figOk at h
  rw [Bool.and_eq_true] at h
  obtain ⟨h1, h2⟩ := h
  obtain ⟨c, r, rfl, c0, c1⟩ := figB_cons h1
  have hc : c ≠ 48 := fun e => by
    subst e
    simp at h2
  have gen : ∀ (l : List Nat) (a : Nat), 1 ≤ a → 1 ≤ l.foldl (fun acc c => acc * 10 + (c - 48)) a := by
    intro l
    induction l with
    | nil => exact fun a h => h
    | cons c r ih => exact fun a h => ih (a * 10 + (c - 48)) (by omega)
  exact gen r (0 * 10 + (c - 48)) (by omega)
theorem run_pos {l : List Nat} {x : PRun} (h : runL l = some x) : 1 ≤ x.2 := by
  cases l with
  | nil => cases h
  | cons c f =>
    have h' : (if c = 76 then (if figOk f = true then some (false, ((dv f : Nat) : Int)) else none) else if c = 82 then (if figOk f = true then some (true, ((dv f : Nat) : Int)) else none) else none) = some x := h
    split at h'
    · split at h'
      · next q => cases h'; have := figOk_pos q; show (1 : Int) ≤ ((dv f : Nat) : Int); omega
      · cases h'
    · split at h'
      · split at h'
        · next q => cases h'; have := figOk_pos q; show (1 : Int) ≤ ((dv f : Nat) : Int); omega
        · cases h'
      · cases h'
theorem due_rd : ∀ {a : Option Bool} {ws : List Str}, (∀ w ∈ ws, (runL (tl w)).isSome = true) → dueL a ws = if rawOk (a.map wayS) (toRaw (ws.map rd)) = true then some (ws.map rd) else none
  | _, [], _ => rfl
  | a, v :: r, h => by
    obtain ⟨x, hx⟩ := Option.isSome_iff_exists.mp (h v List.mem_cons_self)
    have e : rd v = x := by unfold rd; rw [hx]; rfl
    have ih := due_rd (a := some x.1) (ws := r) fun w hw => h w (List.mem_cons_of_mem _ hw)
    show (match runL (tl v) with | none => none | some x => if a = some x.1 then none else (dueL (some x.1) r).map (x :: ·)) = _
    rw [hx]
    dsimp only
    rw [List.map_cons, e]
    obtain ⟨b, n⟩ := x
    have n1 : 1 ≤ n := run_pos hx
    show _ = if (isWay (wayS b) && (decide (1 ≤ n) && (!decide (a.map wayS = some (wayS b)) && rawOk (some (wayS b)) (toRaw (r.map rd))))) = true then _ else _
    rw [isWay_way, decide_eq_true n1, Bool.true_and, Bool.true_and]
    have ew : (a.map wayS = some (wayS b)) ↔ a = some b := by
      constructor
      · intro z
        cases a with
        | none => cases z
        | some c => exact congrArg some (way_inj (Option.some.inj z))
      · rintro rfl
        rfl
    by_cases q : a = some b
    · rw [if_pos q, decide_eq_true (ew.mpr q)]
      rfl
    · rw [if_neg q, decide_eq_false (fun z => q (ew.mp z)), ih]
      show Option.map _ (if rawOk (some (wayS b)) (toRaw (r.map rd)) = true then _ else _) = _
      rw [Bool.not_false, Bool.true_and]
      split <;> rfl
/-! ### how long a word can be -/
def mr : Nat → List Nat → Nat
  | a, [] => a
  | a, c :: r => if c = 32 then max a (mr 0 r) else mr (a + 1) r
theorem mr_cons (a c : Nat) (r : List Nat) : mr a (c :: r) = if c = 32 then max a (mr 0 r) else mr (a + 1) r := rfl
theorem mr_ge : ∀ (l : List Nat) (a : Nat), a ≤ mr a l
  | [], a => Nat.le_refl a
  | c :: r, a => by
    rw [mr_cons]
    split
    · omega
    · have := mr_ge r (a + 1); omega
theorem mr_mono : ∀ (l : List Nat) {a b : Nat}, a ≤ b → mr a l ≤ mr b l
  | [], _, _, h => h
  | c :: r, a, b, h => by
    rw [mr_cons, mr_cons]
    split
    · omega
    · exact mr_mono r (by omega)
theorem mr_add : ∀ (l : List Nat) (a b : Nat), mr (a + b) l ≤ a + mr b l
  | [], a, b => Nat.le_refl _
  | c :: r, a, b => by
    rw [mr_cons, mr_cons]
    split
    · omega
    · have := mr_add r a (b + 1)
      rw [← Nat.add_assoc] at this
      exact this
theorem mr_app : ∀ (l1 l2 : List Nat) (a : Nat), mr a (l1 ++ l2) ≤ mr a l1 + mr 0 l2
  | [], l2, a => by
    have := mr_add l2 a 0
    exact this
  | c :: r, l2, a => by
    rw [List.cons_append, mr_cons, mr_cons]
    split
    · have := mr_app r l2 0; omega
    · exact mr_app r l2 (a + 1)
theorem mr_take : ∀ (l : List Nat) (k a : Nat), mr a (l.take k) ≤ mr a l
  | [], k, a => by rw [List.take_nil]; exact Nat.le_refl _
  | c :: r, 0, a => mr_ge _ a
  | c :: r, k + 1, a => by
    rw [List.take_succ_cons, mr_cons, mr_cons]
    split
    · have := mr_take r k 0; omega
    · exact mr_take r k (a + 1)
theorem mr_drop : ∀ (l : List Nat) (k a : Nat), mr 0 (l.drop k) ≤ mr a l
  | [], k, a => by rw [List.drop_nil]; exact Nat.zero_le _
  | c :: r, 0, a => mr_mono _ (Nat.zero_le a)
  | c :: r, k + 1, a => by
    rw [List.drop_succ_cons, mr_cons]
    split
    · have := mr_drop r k 0; omega
    · exact mr_drop r k (a + 1)
theorem mr_len : ∀ (l : List Nat) (a : Nat), mr a l ≤ a + l.length
  | [], a => Nat.le_refl _
  | c :: r, a => by
    rw [mr_cons, List.length_cons]
    split
    · have := mr_len r 0; omega
    · have := mr_len r (a + 1); omega
theorem mr_cut (z : Str) (lo hi : Option Int) : mr 0 (tl (cutS z lo hi)) ≤ mr 0 (tl z) := by
  rw [cutS_S]
  unfold cutL
  exact Nat.le_trans (mr_take _ _ _) (mr_drop _ _ _)
theorem mr_blank : ∀ (p rest : List Nat) (a : Nat), mr a (p ++ 32 :: rest) ≤ max (a + p.length) (mr 0 rest)
  | [], rest, a => by
    rw [List.nil_append, mr_cons, if_pos rfl]
    exact Nat.le_refl _
  | c :: r, rest, a => by
    rw [List.cons_append, mr_cons, List.length_cons]
    split
    · have := mr_blank r rest 0; omega
    · have := mr_blank r rest (a + 1); omega
theorem mr_join {k : Nat} : ∀ {ps : List (List Nat)}, (∀ p ∈ ps, p.length ≤ k) → mr 0 (TL.joinL [32] ps) ≤ k
  | [], _ => Nat.zero_le _
  | [p], h => by
    have := mr_len p 0
    have := h p List.mem_cons_self
    show mr 0 p ≤ k
    omega
  | p :: q :: r, h => by
    have h1 := h p List.mem_cons_self
    have h2 := mr_join (k := k) (ps := q :: r) fun x hx => h x (List.mem_cons_of_mem _ hx)
    have := mr_blank p (TL.joinL [32] (q :: r)) 0
    show mr 0 (p ++ ([32] ++ TL.joinL [32] (q :: r))) ≤ k
    have e : [32] ++ TL.joinL [32] (q :: r) = 32 :: TL.joinL [32] (q :: r) := rfl
    rw [e]
    omega
theorem mr_joinS {k : Nat} {ys : List Str} (h : ∀ y ∈ ys, y.length ≤ k) : mr 0 (tl (Txt.join " " ys)) ≤ k := by
  have e : tl (Txt.join " " ys) = TL.joinL [32] (ys.map TL.tl) := by
    have e1 : TL.tl (" " : Str) = [32] := bl_tl
    show TL.tl (Txt.join " " ys) = _
    rw [TL.join_eq, TL.tl_join, e1]
  rw [e]
  refine mr_join fun p hp => ?_
  obtain ⟨y, hy, rfl⟩ := List.mem_map.mp hp
  have := h y hy
  have e2 : y.length = (TL.tl y).length := len_tl y
  omega
theorem spl_mr : ∀ (l acc : List Nat) (p : List Nat), p ∈ TL.spl [32] 0 acc l → p.length ≤ mr acc.length l
  | [], acc, p, h => by
    have h' : p ∈ [acc] := h
    rw [List.mem_singleton.mp h']
    exact Nat.le_refl _
  | c :: r, acc, p, h => by
    have h' : p ∈ (if TL.pre [32] (c :: r) = true then acc :: TL.spl [32] 0 [] r else TL.spl [32] 0 (acc ++ [c]) r) := h
    have e : TL.pre [32] (c :: r) = decide (c = 32) := by
      by_cases q : c = 32
      · subst q; rw [decide_eq_true rfl]; rfl
      · rw [decide_eq_false q]
        show ([c] == [32]) = false
        exact beq_eq_false_iff_ne.mpr (fun z => q (List.cons.inj z).1)
    rw [mr_cons]
    by_cases q : c = 32
    · rw [if_pos q]
      rw [e, decide_eq_true q, if_pos rfl] at h'
      rcases List.mem_cons.mp h' with z | z
      · rw [z]; omega
      · have := spl_mr r [] p z
        have e0 : ([] : List Nat).length = 0 := rfl
        rw [e0] at this
        omega
    · rw [if_neg q]
      rw [e, decide_eq_false q, if_neg Bool.false_ne_true] at h'
      have := spl_mr r (acc ++ [c]) p h'
      rw [List.length_append] at this
      exact this
theorem split_mr {z w : Str} (h : w ∈ Txt.split z " ") : w.length ≤ mr 0 (tl z) := by
  have e1 : TL.tl (" " : Str) = [32] := bl_tl
  have e := TL.split_spl z " " (by rw [e1]; simp) (TL.kind_ok (by decide +kernel))
  rw [e1] at e
  have hm : TL.tl w ∈ (Txt.split z " ").map TL.tl := List.mem_map.mpr ⟨w, h, rfl⟩
  rw [e] at hm
  have := spl_mr (TL.tl z) [] _ hm
  rw [len_tl]
  exact this
/-- a line of bounded words -/
def Sh (k n : Nat) (z : Str) : Prop := mr 0 (tl z) ≤ k ∧ z.length ≤ n
theorem Sh.mono {k n k2 n2 : Nat} {z : Str} (h : Sh k n z) (h1 : k ≤ k2) (h2 : n ≤ n2) : Sh k2 n2 z := ⟨Nat.le_trans h.1 h1, Nat.le_trans h.2 h2⟩
theorem Sh.cut {k n : Nat} {z : Str} (h : Sh k n z) (lo hi : Option Int) : Sh k n (cutS z lo hi) := ⟨Nat.le_trans (mr_cut z lo hi) h.1, Nat.le_trans (cutS_le z lo hi) h.2⟩
theorem Sh.app {k n k2 n2 : Nat} {z y : Str} (h : Sh k n z) (h2 : Sh k2 n2 y) : Sh (k + k2) (n + n2) (z ++ y) := by
  refine ⟨?_, by rw [len_app]; exact Nat.add_le_add h.2 h2.2⟩
  rw [tl_app]
  exact Nat.le_trans (mr_app _ _ _) (Nat.add_le_add h.1 h2.1)
theorem Sh.one (c : Nat) : Sh 1 1 ⟨#[c]⟩ := ⟨mr_len _ _, Nat.le_refl _⟩
theorem Wr.sh {rs : List PRun} (h : Wr rs) : Sh 65 66000 (lineS rs) := by
  refine ⟨?_, h.line⟩
  by_cases e : rs = []
  · subst e
    decide +kernel
  · rw [lineS_ne e]
    refine mr_joinS fun y hy => ?_
    obtain ⟨x, hx, rfl⟩ := List.mem_map.mp hy
    exact h.word x hx
theorem sum_le' {k : Nat} : ∀ {ys : List Str}, (∀ y ∈ ys, y.length ≤ k) → (ys.map (·.length)).sum ≤ k * ys.length
  | [], _ => Nat.zero_le _
  | x :: r, h => by
    have := sum_le' (k := k) (ys := r) fun y hy => h y (List.mem_cons_of_mem _ hy)
    have := h x List.mem_cons_self
    simp only [List.map_cons, List.sum_cons, List.length_cons, Nat.mul_add] at *
    omega
theorem Wr.split {rs : List PRun} (h : Wr rs) : ∃ ys : List Str, Txt.split (lineS rs) " " = ys ∧ 1 ≤ ys.length ∧ ys.length ≤ 1000 ∧ ∀ y ∈ ys, y.length ≤ 65 := by
  by_cases e : rs = []
  · subst e
    refine ⟨["top"], by show Txt.split "top" " " = _; decide +kernel, by decide, by decide, fun y hy => ?_⟩
    rw [List.mem_singleton.mp hy]
    decide +kernel
  · refine ⟨rs.map Z.word, split_line e fun x hx => by have := (h.1 x hx).1; omega, ?_, by rw [List.length_map]; exact h.2, fun y hy => ?_⟩
    · rw [List.length_map]
      have := List.length_pos_iff.mpr e
      omega
    · obtain ⟨x, hx, rfl⟩ := List.mem_map.mp hy
      exact h.word x hx
theorem dueL_step {ws : List Str} {k : Nat} {w : Str} {ts : List PRun} {a : Option Bool} (hx : ws[k]? = some w) (hk : dueL none ws = (dueL a (ws.drop k)).map (ts ++ ·)) :
    (runL (tl w) = none → dueL none ws = none) ∧ (∀ b n, runL (tl w) = some (b, n) → a = some b → dueL none ws = none) ∧ (∀ b n, runL (tl w) = some (b, n) → a ≠ some b → dueL none ws = (dueL (some b) (ws.drop (k + 1))).map ((ts ++ [(b, n)]) ++ ·)) := by
  rw [drop_more hx] at hk
  have hk' : dueL none ws = (match runL (tl w) with | none => none | some x => if a = some x.1 then none else (dueL (some x.1) (ws.drop (k + 1))).map (x :: ·)).map (ts ++ ·) := hk
  refine ⟨fun h => ?_, fun b n h e => ?_, fun b n h e => ?_⟩
  · rw [h] at hk'
    exact hk'
  · rw [h] at hk'
    dsimp only at hk'
    rw [if_pos e] at hk'
    exact hk'
  · rw [h] at hk'
    dsimp only at hk'
    rw [if_neg e] at hk'
    rw [hk']
    cases dueL (some b) (ws.drop (k + 1)) with
    | none => rfl
    | some r =>
      show some (ts ++ ((b, n) :: r)) = some (ts ++ [(b, n)] ++ r)
      rw [List.append_assoc]
      rfl
theorem dueL_ok : ∀ {a : Option Bool} {ws : List Str} {rs : List PRun}, dueL a ws = some rs → okRuns a rs ∧ rs.length = ws.length
  | _, [], rs, h => by
    cases h
    exact ⟨trivial, rfl⟩
  | a, w :: r, rs, h => by
    have h' : (match runL (tl w) with | none => none | some x => if a = some x.1 then none else (dueL (some x.1) r).map (x :: ·)) = some rs := h
    cases q : runL (tl w) with
    | none => rw [q] at h'; cases h'
    | some x =>
      rw [q] at h'
      dsimp only at h'
      by_cases e : a = some x.1
      · rw [if_pos e] at h'; cases h'
      · rw [if_neg e] at h'
        cases z : dueL (some x.1) r with
        | none => rw [z] at h'; cases h'
        | some ts =>
          rw [z] at h'
          cases h'
          obtain ⟨b, n⟩ := x
          obtain ⟨o, l⟩ := dueL_ok z
          exact ⟨⟨run_pos q, e, o⟩, by rw [List.length_cons, List.length_cons, l]⟩
theorem spl_count : ∀ (l acc : List Nat), (TL.spl [32] 0 acc l).length ≤ l.length + 1
  | [], acc => Nat.le_refl 1
  | c :: r, acc => by
    show (if TL.pre [32] (c :: r) = true then acc :: TL.spl [32] 0 [] r else TL.spl [32] 0 (acc ++ [c]) r).length ≤ _
    split
    · have := spl_count r []
      rw [List.length_cons, List.length_cons]
      omega
    · have := spl_count r (acc ++ [c])
      rw [List.length_cons]
      omega
theorem split_count (z : Str) : (Txt.split z " ").length ≤ z.length + 1 := by
  have e1 : TL.tl (" " : Str) = [32] := bl_tl
  have e := TL.split_spl z " " (by rw [e1]; simp) (TL.kind_ok (by decide +kernel))
  rw [e1] at e
  have := congrArg List.length e
  rw [List.length_map] at this
  rw [this, len_tl]
  exact spl_count _ _
theorem read_ok {z : Str} {rs : List PRun} (h : readS z = some rs) : Path rs ∧ rs.length ≤ z.length + 1 := by
  unfold readS at h
  split at h
  · cases h
    exact ⟨trivial, Nat.zero_le _⟩
  · obtain ⟨o, l⟩ := dueL_ok h
    exact ⟨o, by rw [l]; exact split_count z⟩
theorem inD_sg (w : Str) : inD (.str w) [.str "L", .str "R"] = (decide (w = "L") || decide (w = "R")) := by
  unfold inD
  show (PyData.eqv (.str "L") (.str w) || (PyData.eqv (.str "R") (.str w) || false)) = _
  rw [eqv_ss, eqv_ss, Bool.or_false]
  congr 1
  · rw [decide_eq_decide]; exact ⟨fun h => h.symm, fun h => h.symm⟩
  · rw [decide_eq_decide]; exact ⟨fun h => h.symm, fun h => h.symm⟩
/-- the sign ahead -/
def ahT : Option Bool → Str
  | none => ""
  | some b => sgn b
theorem ahT_eq {b : Bool} {a : Option Bool} : sgn b = ahT a ↔ a = some b := by
  cases a with
  | none => cases b <;> decide +kernel
  | some c => cases b <;> cases c <;> decide +kernel
theorem Wr.sh2 {rs : List PRun} (h : Wr rs) (hl : rs.length ≤ 299) : Sh 65 20000 (lineS rs) := by
  refine ⟨h.sh.1, ?_⟩
  by_cases e : rs = []
  · subst e
    decide +kernel
  · rw [lineS_ne e]
    have := sum_le h.word
    have l : (" " : Str).length = 1 := by decide +kernel
    have j := join_len " " (rs.map Z.word)
    rw [l, List.length_map] at j
    omega
theorem Wr.split2 {rs : List PRun} (h : Wr rs) (hl : rs.length ≤ 299) : ∃ ys : List Str, Txt.split (lineS rs) " " = ys ∧ 1 ≤ ys.length ∧ ys.length ≤ 299 ∧ ∀ y ∈ ys, y.length ≤ 65 := by
  by_cases e : rs = []
  · subst e
    refine ⟨["top"], by show Txt.split "top" " " = _; decide +kernel, by decide, by decide, fun y hy => ?_⟩
    rw [List.mem_singleton.mp hy]
    decide +kernel
  · refine ⟨rs.map Z.word, split_line e fun x hx => by have := (h.1 x hx).1; omega, ?_, by rw [List.length_map]; exact hl, fun y hy => ?_⟩
    · rw [List.length_map]
      have := List.length_pos_iff.mpr e
      omega
    · obtain ⟨x, hx, rfl⟩ := List.mem_map.mp hy
      exact h.word x hx
end Z

namespace G
open PySem PySem.Spec L2 Z PyProof.Rows
/-! a side of an operator -/
local macro_rules | `(tactic| tm_at "zq") => `(tactic| first
  | (with_reducible assumption)
  | omega
  | decide
  | (exact mulOk_r ⟨by decide, by decide⟩)
  | (exact mulOk_l ⟨by decide, by decide⟩)
  | (exact Bd.mulI' inferInstance inferInstance rfl)
  | (exact Bd.divI' inferInstance (by omega) rfl)
  | (exact ⟨by decide, by decide, by decide⟩))
/-! one step of a reading: by the head of what is wanted -/
local macro_rules | `(tactic| tm_at "ze") => `(tactic| first
  | (with_reducible refine wE_I0 ?_) | (with_reducible refine wE_B0 ?_) | (with_reducible refine wE_int ?_) | (with_reducible refine wE_str ?_) | (with_reducible refine wE_bl ?_) | (with_reducible refine wE_non ?_)
  | ((with_reducible show wE _ _ (tVar _) _ _); first | refine wE_var rfl ?_ | refine wE_varB rfl ?_ | refine wE_varO rfl ?_)
  | (with_reducible refine wE_ixT ?_) | (with_reducible refine wE_ixL ?_) | (with_reducible refine wE_I ?_) | (with_reducible refine wE_U ?_)
  | (with_reducible refine wE_eq ?_) | (with_reducible refine wE_ne ?_) | (with_reducible refine wE_eqS ?_) | (with_reducible refine wE_neS ?_) | (with_reducible refine wE_tup ?_) | (with_reducible refine wE_lst ?_)
  | (with_reducible refine wE_andV ?_) | (with_reducible refine wE_orV ?_) | (with_reducible refine wE_notV ?_) | (with_reducible refine wE_if ?_)
  | (with_reducible refine wE_call ?_) | (with_reducible refine wE_callX ?_) | (with_reducible refine wE_len ?_) | (with_reducible refine wE_isi ?_) | (with_reducible refine wE_abs ?_) | (with_reducible refine wE_max2 ?_) | (with_reducible refine wE_min2 ?_) | (with_reducible refine wE_gcd ?_) | (with_reducible refine wE_listOf ?_) | (with_reducible refine wE_intB ?_) | (with_reducible refine wE_slL ?_) | (with_reducible refine wE_slS ?_) | (with_reducible refine wE_addS ?_) | (with_reducible refine wE_strI ?_) | (with_reducible refine wE_ixS ?_) | (with_reducible refine wE_partition ?_) | (with_reducible refine wE_split ?_) | (with_reducible refine wE_join ?_) | (with_reducible refine wE_indexF ?_) | (with_reducible refine wE_m0B ?_) | (with_reducible refine wE_intS ?_) | (with_reducible refine wE_inS ?_) | (with_reducible refine wE_notInS ?_) | (with_reducible refine wE_mulC ?_) | (with_reducible refine wE_ixDct ?_) | (with_reducible refine wE_notInDct ?_)
  | (with_reducible refine wE_isT ?_) | (with_reducible refine wE_isF ?_) | (with_reducible refine wE_notT ?_) | (with_reducible refine wE_notF ?_) | (with_reducible refine wE_isB ?_) | (with_reducible refine wE_notB ?_) | (with_reducible refine wE_isN ?_) | (with_reducible refine wE_notN ?_) | (with_reducible refine wE_chain ?_) | (with_reducible refine wE_cat ?_) | (with_reducible refine wE_dict ?_) | (with_reducible refine wE_in ?_) | (with_reducible refine wE_notIn ?_))
local macro_rules | `(tactic| tm_at "zt") => `(tactic| first
  | (with_reducible refine wT_test ?_) | (with_reducible refine wT_B ?_) | (with_reducible refine wT_and ?_) | (with_reducible refine wT_or ?_) | (with_reducible refine wT_not ?_))
local macro_rules | `(tactic| tm_at "zw") => `(tactic| first
  | (with_reducible refine wS_seq ?_) | (with_reducible refine wS_asg ?_) | (with_reducible refine wS_if ?_) | (with_reducible refine wS_ret ?_) | (with_reducible refine wS_next ?_) | (with_reducible refine wS_par ?_) | (with_reducible refine wS_unp ?_)
  | (with_reducible refine wS_retN ?_) | (with_reducible refine wS_break ?_) | (with_reducible refine wS_cont ?_) | ((with_reducible show wS _ _ (tAug _ _ _) _ _); refine wS_aug rfl ?_) | (with_reducible refine wS_drop ?_))
local macro_rules | `(tactic| tm_at "zn") => `(tactic| first
  | (with_reducible refine iteT ?_) | (with_reducible refine iteF ?_) | (with_reducible refine iteNT ?_) | (with_reducible refine iteNF ?_)
  | (with_reducible refine n2_mk ?_) | (with_reducible refine nb_mk ?_) | (with_reducible refine n1_mk ?_) | ((with_reducible show nixT _ _ _); refine nixT_mk rfl ?_) | ((with_reducible show nixL _ _ _); refine nixL_mk rfl rfl ?_)
  | ((with_reducible show nin _ _ _); refine nin_mk rfl rfl rfl ?_) | (with_reducible refine nsc_ii ?_) | (with_reducible refine nsc_ss ?_)
  | (with_reducible refine neq_ii ?_) | (with_reducible refine neq_pp ?_) | ((with_reducible show neq _ _ _); refine neq_mk rfl rfl ?_) | ((with_reducible show nas _ _ _ _); refine nas_mk rfl rfl rfl ?_) | ((with_reducible show nre _ _); refine nre_mk rfl ?_)
  | ((with_reducible show npar _ _ _ _ _); refine npar_mk rfl rfl rfl rfl ?_) | ((with_reducible show nunp _ _ _ _ _); refine nunp_mk rfl rfl rfl rfl ?_) | ((with_reducible show nlen _ _); first | refine nlen_mk (n := 2) rfl ?_ | refine nlen_mk (n := 3) rfl ?_ | refine nlen_mk (n := 1) rfl ?_ | refine nlen_mk rfl ?_)
  | (with_reducible refine nb2_mk ?_) | ((with_reducible show nisi _ _ _); first | refine nisi_is (b := true) (by simp) rfl ?_ | refine nisi_is (b := false) (by simp) rfl ?_ | refine nisi_at (by simp) ?_) | ((with_reducible show nls _ _); refine nls_mk rfl ?_)
  | ((with_reducible show nmany _ _); first | (with_reducible refine nmany_2 ?_) | (with_reducible refine nmany_3 ?_) | (with_reducible refine nmany_1 ?_) | (with_reducible refine nmany_0 ?_) | (with_reducible refine nmany_4 ?_) | (with_reducible refine nmany_5 ?_) | (with_reducible refine nmany_6 ?_) | (with_reducible refine nmany_7 ?_) | (with_reducible refine nmany_8 ?_) | refine nmany_mk rfl ?_) | ((with_reducible show ncat _ _ _); refine ncat_mk rfl rfl (Nat.le_of_ble_eq_true rfl) ?_)
  | ((with_reducible show nside _ _); refine nside_mk (by tm_at "zq") ?_)
  | (with_reducible refine wO_none ?_) | (with_reducible refine wO_some ?_) | (with_reducible refine ns_mk ?_) | (with_reducible refine ns2_mk ?_) | (with_reducible refine nsign_mk ?_)
  | (with_reducible refine wA_cons ?_) | (with_reducible refine wA_nil ?_))
local macro_rules | `(tactic| tm_at "zs") => `(tactic| first | tm_at "ze" | tm_at "zn" | tm_at "zt" | tm_at "zw")
local macro_rules | `(tactic| tm_at "zi") => `(tactic| first
  | ((with_reducible refine ite_d (fun h => ?_) (fun h => ?_)) <;> (try (first | (exfalso; omega) | exact absurd h (by decide))))
  | ((with_reducible refine ite_n (fun h => ?_) (fun h => ?_)) <;> (try (first | (exfalso; omega) | exact absurd h (by decide))))
  | (with_reducible refine ite_b (fun h => ?_) (fun h => ?_)))
local macro_rules | `(tactic| tm_at "zz") => `(tactic| repeat' (first | tm_at "zs" | tm_at "zi"))
local macro_rules | `(tactic| tm_at "zk") => `(tactic| repeat (first | exact trivial | refine ⟨.inl rfl, ?_⟩ | refine ⟨.inr ⟨rfl, rfl⟩, ?_⟩))
local macro_rules | `(tactic| tm_at "zo") => `(tactic| first | omega | (dsimp only; omega) | (dsimp only at *; omega))
local macro_rules | `(tactic| tm_at "zm") => `(tactic| first | (with_reducible assumption) | exact Bd.mono inferInstance (Nat.le_of_ble_eq_true rfl))
local macro_rules | `(tactic| tm_at "zx") => `(tactic| first | tm_at "ze" | tm_at "zn" | tm_at "zt")

def top (i : Nat) : Stmt := PySem.Challenge.pw_nearfrac_k07_read.main.body.getD i (.Pass ⟨0, 0, 0, 0⟩)
abbrev s_is_path : Stmt := top 12
abbrev s_read : Stmt := top 16
abbrev s_read_run : Stmt := top 17
abbrev s_is_figures : Stmt := top 18
abbrev s_p_law_cell_at : Stmt := top 20
abbrev s_p_law_way : Stmt := top 21
abbrev s_p_law_whole : Stmt := top 22
abbrev s_p_law_is_path : Stmt := top 23
abbrev s_p_law_many_by : Stmt := top 24
abbrev s_p_law_path_by : Stmt := top 25
abbrev s_p_law_line_of : Stmt := top 26
abbrev s_p_law_sign_by : Stmt := top 27
abbrev s_p_law_turned : Stmt := top 28
abbrev s_p_law_figures : Stmt := top 29
abbrev s_p_law_due_of : Stmt := top 30
abbrev s_p_law_odd_line : Stmt := top 31
abbrev s_p_law_alone : Stmt := top 32
abbrev s_p_law_refused : Stmt := top 33
abbrev s_law : Stmt := top 34
theorem sc_is_path : FnScope ["path", "way_ahead", "way", "often"] ["path"] (defScope s_is_path) := ⟨rfl, rfl, rfl, by decide +kernel, rfl, by decide +kernel, by decide +kernel⟩
theorem sc_read : FnScope ["line", "path", "word"] ["line"] (defScope s_read) := ⟨rfl, rfl, rfl, by decide +kernel, rfl, by decide +kernel, by decide +kernel⟩
theorem sc_read_run : FnScope ["word", "sign", "figures"] ["word"] (defScope s_read_run) := ⟨rfl, rfl, rfl, by decide +kernel, rfl, by decide +kernel, by decide +kernel⟩
theorem sc_is_figures : FnScope ["text"] ["text"] (defScope s_is_figures) := ⟨rfl, rfl, rfl, by decide +kernel, rfl, by decide +kernel, by decide +kernel⟩
theorem sc_p_law_cell_at : FnScope ["_law_script", "_law_k"] ["_law_script", "_law_k"] (defScope s_p_law_cell_at) := ⟨rfl, rfl, rfl, by decide +kernel, rfl, by decide +kernel, by decide +kernel⟩
theorem sc_p_law_way : FnScope ["_law_script", "_law_k", "_law_many"] ["_law_script", "_law_k", "_law_many"] (defScope s_p_law_way) := ⟨rfl, rfl, rfl, by decide +kernel, rfl, by decide +kernel, by decide +kernel⟩
theorem sc_p_law_whole : FnScope ["_law_found"] ["_law_found"] (defScope s_p_law_whole) := ⟨rfl, rfl, rfl, by decide +kernel, rfl, by decide +kernel, by decide +kernel⟩
theorem sc_p_law_is_path : FnScope ["_law_path", "_law_ahead", "_law_run"] ["_law_path"] (defScope s_p_law_is_path) := ⟨rfl, rfl, rfl, by decide +kernel, rfl, by decide +kernel, by decide +kernel⟩
theorem sc_p_law_many_by : FnScope ["_law_script", "_law_k", "_law_most"] ["_law_script", "_law_k", "_law_most"] (defScope s_p_law_many_by) := ⟨rfl, rfl, rfl, by decide +kernel, rfl, by decide +kernel, by decide +kernel⟩
theorem sc_p_law_path_by : FnScope ["_law_script", "_law_count", "_law_most", "_law_path", "_law_k", "_law_way_here", "_law_at"] ["_law_script"] (defScope s_p_law_path_by) := ⟨rfl, rfl, rfl, by decide +kernel, rfl, by decide +kernel, by decide +kernel⟩
theorem sc_p_law_line_of : FnScope ["_law_path", "_law_words", "_law_run"] ["_law_path"] (defScope s_p_law_line_of) := ⟨rfl, rfl, rfl, by decide +kernel, rfl, by decide +kernel, by decide +kernel⟩
theorem sc_p_law_sign_by : FnScope ["_law_cell", "_law_some"] ["_law_cell"] (defScope s_p_law_sign_by) := ⟨rfl, rfl, rfl, by decide +kernel, rfl, by decide +kernel, by decide +kernel⟩
theorem sc_p_law_turned : FnScope ["_law_line", "_law_way_here", "_law_place", "_law_sign", "_law_at"] ["_law_line", "_law_way_here", "_law_place", "_law_sign"] (defScope s_p_law_turned) := ⟨rfl, rfl, rfl, by decide +kernel, rfl, by decide +kernel, by decide +kernel⟩
theorem sc_p_law_figures : FnScope ["_law_word", "_law_sign"] ["_law_word"] (defScope s_p_law_figures) := ⟨rfl, rfl, rfl, by decide +kernel, rfl, by decide +kernel, by decide +kernel⟩
theorem sc_p_law_due_of : FnScope ["_law_line", "_law_path", "_law_ahead", "_law_word"] ["_law_line"] (defScope s_p_law_due_of) := ⟨rfl, rfl, rfl, by decide +kernel, rfl, by decide +kernel, by decide +kernel⟩
theorem sc_p_law_odd_line : FnScope ["_law_cell", "_law_some"] ["_law_cell"] (defScope s_p_law_odd_line) := ⟨rfl, rfl, rfl, by decide +kernel, rfl, by decide +kernel, by decide +kernel⟩
theorem sc_p_law_alone : FnScope ["_law_e", "_law_kinds"] ["_law_e"] (defScope s_p_law_alone) := ⟨rfl, rfl, rfl, by decide +kernel, rfl, by decide +kernel, by decide +kernel⟩
theorem sc_p_law_refused : FnScope ["_law_line", "_law_e"] ["_law_line"] (defScope s_p_law_refused) := ⟨rfl, rfl, rfl, by decide +kernel, rfl, by decide +kernel, by decide +kernel⟩
theorem sc_law : FnScope ["_law_script", "_law_line", "_law_way_here", "_law_words", "_law_at", "_law_sign", "_law_due", "_law_found", "_law_back"] ["_law_script"] (defScope s_law) := ⟨rfl, rfl, rfl, by decide +kernel, rfl, by decide +kernel, by decide +kernel⟩
/-- where things stand -/
structure Ad where
  f_is_path : Addr
  d_is_path : FuncData
  f_read : Addr
  d_read : FuncData
  f_read_run : Addr
  d_read_run : FuncData
  f_is_figures : Addr
  d_is_figures : FuncData
  f_p_law_cell_at : Addr
  d_p_law_cell_at : FuncData
  f_p_law_way : Addr
  d_p_law_way : FuncData
  f_p_law_whole : Addr
  d_p_law_whole : FuncData
  f_p_law_is_path : Addr
  d_p_law_is_path : FuncData
  f_p_law_many_by : Addr
  d_p_law_many_by : FuncData
  f_p_law_path_by : Addr
  d_p_law_path_by : FuncData
  f_p_law_line_of : Addr
  d_p_law_line_of : FuncData
  f_p_law_sign_by : Addr
  d_p_law_sign_by : FuncData
  f_p_law_turned : Addr
  d_p_law_turned : FuncData
  f_p_law_figures : Addr
  d_p_law_figures : FuncData
  f_p_law_due_of : Addr
  d_p_law_due_of : FuncData
  f_p_law_odd_line : Addr
  d_p_law_odd_line : FuncData
  f_p_law_alone : Addr
  d_p_law_alone : FuncData
  f_p_law_refused : Addr
  d_p_law_refused : FuncData
  f_law : Addr
  d_law : FuncData
  c_FractionError : Addr
  c_NoFraction : Addr
  c_NoPath : Addr
  c_NoBounds : Addr
  c_NoRoom : Addr
  c_Unsure : Addr
  c_NoText : Addr
  c_NoNumber : Addr
  t_LEFT : Tok
  t_RIGHT : Tok
  t_TOP : Tok
  k_WAYS : Addr
/-- what the top has written -/
structure Txt (K : PySem.W.Frag) (mg : Str → Option Value) (A : Ad) (w : World) : Prop where
  F_is_path : Fun K "is_path" "is_path" s_is_path A.f_is_path A.d_is_path
  m_is_path : mg "is_path" = some (.ref A.f_is_path)
  b_is_path : Binds K A.d_is_path ["path"] []
  F_read : Fun K "read" "read" s_read A.f_read A.d_read
  m_read : mg "read" = some (.ref A.f_read)
  b_read : Binds K A.d_read ["line"] []
  F_read_run : Fun K "read_run" "read_run" s_read_run A.f_read_run A.d_read_run
  m_read_run : mg "read_run" = some (.ref A.f_read_run)
  b_read_run : Binds K A.d_read_run ["word"] []
  F_is_figures : Fun K "is_figures" "is_figures" s_is_figures A.f_is_figures A.d_is_figures
  m_is_figures : mg "is_figures" = some (.ref A.f_is_figures)
  b_is_figures : Binds K A.d_is_figures ["text"] []
  F_p_law_cell_at : Fun K "_law_cell_at" "_law_cell_at" s_p_law_cell_at A.f_p_law_cell_at A.d_p_law_cell_at
  m_p_law_cell_at : mg "_law_cell_at" = some (.ref A.f_p_law_cell_at)
  b_p_law_cell_at : Binds K A.d_p_law_cell_at ["_law_script", "_law_k"] []
  F_p_law_way : Fun K "_law_way" "_law_way" s_p_law_way A.f_p_law_way A.d_p_law_way
  m_p_law_way : mg "_law_way" = some (.ref A.f_p_law_way)
  b_p_law_way : Binds K A.d_p_law_way ["_law_script", "_law_k", "_law_many"] []
  F_p_law_whole : Fun K "_law_whole" "_law_whole" s_p_law_whole A.f_p_law_whole A.d_p_law_whole
  m_p_law_whole : mg "_law_whole" = some (.ref A.f_p_law_whole)
  b_p_law_whole : Binds K A.d_p_law_whole ["_law_found"] []
  F_p_law_is_path : Fun K "_law_is_path" "_law_is_path" s_p_law_is_path A.f_p_law_is_path A.d_p_law_is_path
  m_p_law_is_path : mg "_law_is_path" = some (.ref A.f_p_law_is_path)
  b_p_law_is_path : Binds K A.d_p_law_is_path ["_law_path"] []
  F_p_law_many_by : Fun K "_law_many_by" "_law_many_by" s_p_law_many_by A.f_p_law_many_by A.d_p_law_many_by
  m_p_law_many_by : mg "_law_many_by" = some (.ref A.f_p_law_many_by)
  b_p_law_many_by : Binds K A.d_p_law_many_by ["_law_script", "_law_k", "_law_most"] []
  F_p_law_path_by : Fun K "_law_path_by" "_law_path_by" s_p_law_path_by A.f_p_law_path_by A.d_p_law_path_by
  m_p_law_path_by : mg "_law_path_by" = some (.ref A.f_p_law_path_by)
  b_p_law_path_by : Binds K A.d_p_law_path_by ["_law_script"] []
  F_p_law_line_of : Fun K "_law_line_of" "_law_line_of" s_p_law_line_of A.f_p_law_line_of A.d_p_law_line_of
  m_p_law_line_of : mg "_law_line_of" = some (.ref A.f_p_law_line_of)
  b_p_law_line_of : Binds K A.d_p_law_line_of ["_law_path"] []
  F_p_law_sign_by : Fun K "_law_sign_by" "_law_sign_by" s_p_law_sign_by A.f_p_law_sign_by A.d_p_law_sign_by
  m_p_law_sign_by : mg "_law_sign_by" = some (.ref A.f_p_law_sign_by)
  b_p_law_sign_by : Binds K A.d_p_law_sign_by ["_law_cell"] []
  F_p_law_turned : Fun K "_law_turned" "_law_turned" s_p_law_turned A.f_p_law_turned A.d_p_law_turned
  m_p_law_turned : mg "_law_turned" = some (.ref A.f_p_law_turned)
  b_p_law_turned : Binds K A.d_p_law_turned ["_law_line", "_law_way_here", "_law_place", "_law_sign"] []
  F_p_law_figures : Fun K "_law_figures" "_law_figures" s_p_law_figures A.f_p_law_figures A.d_p_law_figures
  m_p_law_figures : mg "_law_figures" = some (.ref A.f_p_law_figures)
  b_p_law_figures : Binds K A.d_p_law_figures ["_law_word"] []
  F_p_law_due_of : Fun K "_law_due_of" "_law_due_of" s_p_law_due_of A.f_p_law_due_of A.d_p_law_due_of
  m_p_law_due_of : mg "_law_due_of" = some (.ref A.f_p_law_due_of)
  b_p_law_due_of : Binds K A.d_p_law_due_of ["_law_line"] []
  F_p_law_odd_line : Fun K "_law_odd_line" "_law_odd_line" s_p_law_odd_line A.f_p_law_odd_line A.d_p_law_odd_line
  m_p_law_odd_line : mg "_law_odd_line" = some (.ref A.f_p_law_odd_line)
  b_p_law_odd_line : Binds K A.d_p_law_odd_line ["_law_cell"] []
  F_p_law_alone : Fun K "_law_alone" "_law_alone" s_p_law_alone A.f_p_law_alone A.d_p_law_alone
  m_p_law_alone : mg "_law_alone" = some (.ref A.f_p_law_alone)
  b_p_law_alone : Binds K A.d_p_law_alone ["_law_e"] []
  F_p_law_refused : Fun K "_law_refused" "_law_refused" s_p_law_refused A.f_p_law_refused A.d_p_law_refused
  m_p_law_refused : mg "_law_refused" = some (.ref A.f_p_law_refused)
  b_p_law_refused : Binds K A.d_p_law_refused ["_law_line"] []
  F_law : Fun K "law" "law" s_law A.f_law A.d_law
  m_law : mg "law" = some (.ref A.f_law)
  b_law : Binds K A.d_law ["_law_script"] []
  n_ValueError : mg "ValueError" = none
  n_bool : mg "bool" = none
  n_int : mg "int" = none
  n_isinstance : mg "isinstance" = none
  n_len : mg "len" = none
  n_list : mg "list" = none
  n_range : mg "range" = none
  n_str : mg "str" = none
  n_tuple : mg "tuple" = none
  k_LEFT : mg "LEFT" = some (.str "left" A.t_LEFT)
  k_RIGHT : mg "RIGHT" = some (.str "right" A.t_RIGHT)
  k_TOP : mg "TOP" = some (.str "top" A.t_TOP)
  k_WAYS : mg "WAYS" = some (.ref A.k_WAYS)
  D_WAYS : Dct K w A.k_WAYS "L" "left" "R" "right"
  g_FractionError : mg "FractionError" = some (.ref A.c_FractionError)
  x_FractionError : PySem.W.excIn K A.c_FractionError [.type "ValueError", .type "Exception", .type "BaseException", .type "object"] "ValueError.__new__" = true
  k_FractionError : PySem.W.keepIn K (.ref A.c_FractionError) = true
  s_FractionError : PySem.W.subIn K (.ref A.c_FractionError) (.type "BaseException") = some true
  t_FractionError : PySem.W.typeIn K (.ref A.c_FractionError) = some (.type "type")
  g_NoFraction : mg "NoFraction" = some (.ref A.c_NoFraction)
  x_NoFraction : PySem.W.excIn K A.c_NoFraction [.type "ValueError", .type "Exception", .type "BaseException", .type "object"] "ValueError.__new__" = true
  k_NoFraction : PySem.W.keepIn K (.ref A.c_NoFraction) = true
  s_NoFraction : PySem.W.subIn K (.ref A.c_NoFraction) (.type "BaseException") = some true
  t_NoFraction : PySem.W.typeIn K (.ref A.c_NoFraction) = some (.type "type")
  g_NoPath : mg "NoPath" = some (.ref A.c_NoPath)
  x_NoPath : PySem.W.excIn K A.c_NoPath [.type "ValueError", .type "Exception", .type "BaseException", .type "object"] "ValueError.__new__" = true
  k_NoPath : PySem.W.keepIn K (.ref A.c_NoPath) = true
  s_NoPath : PySem.W.subIn K (.ref A.c_NoPath) (.type "BaseException") = some true
  t_NoPath : PySem.W.typeIn K (.ref A.c_NoPath) = some (.type "type")
  g_NoBounds : mg "NoBounds" = some (.ref A.c_NoBounds)
  x_NoBounds : PySem.W.excIn K A.c_NoBounds [.type "ValueError", .type "Exception", .type "BaseException", .type "object"] "ValueError.__new__" = true
  k_NoBounds : PySem.W.keepIn K (.ref A.c_NoBounds) = true
  s_NoBounds : PySem.W.subIn K (.ref A.c_NoBounds) (.type "BaseException") = some true
  t_NoBounds : PySem.W.typeIn K (.ref A.c_NoBounds) = some (.type "type")
  g_NoRoom : mg "NoRoom" = some (.ref A.c_NoRoom)
  x_NoRoom : PySem.W.excIn K A.c_NoRoom [.type "ValueError", .type "Exception", .type "BaseException", .type "object"] "ValueError.__new__" = true
  k_NoRoom : PySem.W.keepIn K (.ref A.c_NoRoom) = true
  s_NoRoom : PySem.W.subIn K (.ref A.c_NoRoom) (.type "BaseException") = some true
  t_NoRoom : PySem.W.typeIn K (.ref A.c_NoRoom) = some (.type "type")
  g_Unsure : mg "Unsure" = some (.ref A.c_Unsure)
  x_Unsure : PySem.W.excIn K A.c_Unsure [.type "ValueError", .type "Exception", .type "BaseException", .type "object"] "ValueError.__new__" = true
  k_Unsure : PySem.W.keepIn K (.ref A.c_Unsure) = true
  s_Unsure : PySem.W.subIn K (.ref A.c_Unsure) (.type "BaseException") = some true
  t_Unsure : PySem.W.typeIn K (.ref A.c_Unsure) = some (.type "type")
  g_NoText : mg "NoText" = some (.ref A.c_NoText)
  x_NoText : PySem.W.excIn K A.c_NoText [.type "ValueError", .type "Exception", .type "BaseException", .type "object"] "ValueError.__new__" = true
  k_NoText : PySem.W.keepIn K (.ref A.c_NoText) = true
  s_NoText : PySem.W.subIn K (.ref A.c_NoText) (.type "BaseException") = some true
  t_NoText : PySem.W.typeIn K (.ref A.c_NoText) = some (.type "type")
  g_NoNumber : mg "NoNumber" = some (.ref A.c_NoNumber)
  x_NoNumber : PySem.W.excIn K A.c_NoNumber [.type "ValueError", .type "Exception", .type "BaseException", .type "object"] "ValueError.__new__" = true
  k_NoNumber : PySem.W.keepIn K (.ref A.c_NoNumber) = true
  s_NoNumber : PySem.W.subIn K (.ref A.c_NoNumber) (.type "BaseException") = some true
  t_NoNumber : PySem.W.typeIn K (.ref A.c_NoNumber) = some (.type "type")
  e_NoText : Kinds K A.c_NoText [A.c_NoFraction, A.c_NoPath, A.c_NoBounds, A.c_NoRoom, A.c_Unsure, A.c_NoText, A.c_NoNumber] [false, false, false, false, false, true, false]
  em_NoText : PySem.W.exmOne K (.ref A.c_NoText) (.ref A.c_FractionError) = some true
section
variable {P : Program} {w : World} {K : PySem.W.Frag} {mg : Str → Option Value} {base : Heap} {A : Ad}
abbrev sp_p_law_line_of (K : PySem.W.Frag) (A : Ad) : Sp := SpD K (α := List PRun) (fun g => [.bor (runsD g)]) (fun g => Wr g) (fun g r => r = .im (.str (lineS g))) noX
theorem ok_p_law_line_of (T : Txt K mg A w) : FnOk P w K mg base CX0 1 A.f_p_law_line_of A.d_p_law_line_of ["_law_path"] (sp_p_law_line_of K A) := by
  refine T.F_p_law_line_of.ok (k := 0) sc_p_law_line_of (SpD.len fun _ => rfl) (fun cdv A' outer s H vs Q E hr h => ⟨_, (pss_cons (ps_set (i := 1) sc_p_law_line_of.nd rfl (Or.inl rfl) (pe_lst pa_nil))
      (pss_cons (ps_for PassesOwn.never rfl (pi_list (pv 0)) (pg_name (i := 2) sc_p_law_line_of.nd rfl (Or.inl rfl)) (pss_one (ps_if (pt_cmpR op_eq (pe_ix ix_tup (pv 2) pe_int (fun _ _ => rfl)) pe_str (nomark _)) (pss_one (ps_expr (pe_bm PySem.F.plainAttrs_list PySem.F.slot_list_append PySem.F.type_list_append mt_append (pv 1) (pa_cons (pe_op op_add_str pe_str (pe_callTy call_str_int (by rfl) T.n_str (by decide +kernel) (pa_cons (pe_ix ix_tup (pv 2) pe_int (fun _ _ => rfl)) pa_nil))) pa_nil)))) (pss_one (ps_expr (pe_bm PySem.F.plainAttrs_list PySem.F.slot_list_append PySem.F.type_list_append mt_append (pv 1) (pa_cons (pe_op op_add_str pe_str (pe_callTy call_str_int (by rfl) T.n_str (by decide +kernel) (pa_cons (pe_ix ix_tup (pv 2) pe_int (fun _ _ => rfl)) pa_nil))) pa_nil)))))))
      (pss_cons (ps_if (pt_cmpR (op_eqD hr.units) (pv 1) (pe_lst pa_nil) (nomark _)) (pss_one (ps_ret pe_str)) pss_nil)
      (pss_one (ps_ret (pe_join pe_str (pv 1))))))), entry (U := [.un, .un]) (fun _ => rfl) h fun g hp hE => ?_⟩)
  dsimp only [cxOf, L2.Cx.nox, L2.Cx.wish, List.cons_append, List.nil_append]
  have hz := hp.2
  refine wS_seq (wS_asg ?_); (repeat tm_at "zx")
  refine wS_seq (wS_forB ?_)
  repeat tm_at "zx"
  refine ⟨_, rfl, fun a vs => ⟨List PRun, fun ts => [.bor (runsD g), .own (strsD (ts.map word)), .un], fun k ts => ts = g.take k, [], by tm_at "zk", rfl, rfl, ?_, ?_⟩⟩
  · intro k d ts hd hk
    obtain ⟨⟨b, n⟩, hx, rfl⟩ := runs_get hd
    have hm := List.mem_of_getElem? hx
    have hn := hp.1 _ hm
    have hw := hp.word _ hm
    have kl : k < g.length := (List.getElem?_eq_some_iff.mp hx).1
    have tl1 : (strsD (ts.map word)).length < 100000 := by rw [List.length_map, List.length_map, hk, List.length_take]; omega
    have sz : (sgn b).length + (Str.ofString (toString n)).length ≤ sizeLine := by
      rw [← len_app]
      exact Nat.le_trans hw (by decide)
    refine ⟨_, rfl, rfl, ?_⟩
    refine wS_if ?_
    repeat tm_at "zx"
    have ed : strsD (ts.map word) ++ [.str (sgn b ++ Str.ofString (toString n))] = strsD ((ts ++ [(b, n)]).map word) := by
      rw [List.map_append]
      exact strsD_app _ (word (b, n))
    have et : ts ++ [(b, n)] = g.take (k + 1) := by rw [take_more hx, hk]
    cases b with
    | false =>
      refine ite_d (fun _ => ?_) (fun h => absurd rfl h)
      refine wS_app rfl tl1 ?_
      repeat tm_at "zx"
      refine nside_mk (log_ok hn.2 (by decide)) ?_
      repeat tm_at "zx"
      refine nside_mk sz ?_
      repeat tm_at "zs"
      exact ⟨ts ++ [(_, n)], ⟨.inl rfl, .inl (congrArg Sl.own ed), .inr ⟨rfl, rfl⟩, .inl rfl, trivial⟩, et⟩
    | true =>
      refine ite_d (fun h => absurd (show wayS true = "left" from h) (by decide)) (fun _ => ?_)
      refine wS_app rfl tl1 ?_
      repeat tm_at "zx"
      refine nside_mk (log_ok hn.2 (by decide)) ?_
      repeat tm_at "zx"
      refine nside_mk sz ?_
      repeat tm_at "zs"
      exact ⟨ts ++ [(_, n)], ⟨.inl rfl, .inl (congrArg Sl.own ed), .inr ⟨rfl, rfl⟩, .inl rfl, trivial⟩, et⟩
  intro ts hk
  have hk2 : ts = g := by rw [hk, List.length_map, List.take_length]
  subst hk2
  refine wS_seq (wS_if ?_)
  repeat (first | refine neq_nilS rfl rfl (fun y hy => (by obtain ⟨x, hx, rfl⟩ := List.mem_map.mp hy; exact word_ok (by have := (hp.1 x hx).1; omega))) ?_ | tm_at "zx")
  refine ite_d (fun h => ?_) (fun h => ?_)
  · have e := List.map_eq_nil_iff.mp h
    subst e
    repeat tm_at "zs"
    rfl
  refine wS_next ?_
  have ne : ts ≠ [] := fun e => h (by rw [e]; rfl)
  repeat tm_at "zs"
  refine ⟨ts.map word, rfl, ?_⟩
  refine nside_mk hp.sum ?_
  repeat tm_at "zs"
  show Sl.im _ = Sl.im _
  rw [lineS_ne ne]
abbrev sp_p_law_cell_at (K : PySem.W.Frag) (A : Ad) : Sp := SpD K (α := List Int × Int) (fun g => [.bor (iL g.1), .im (.int g.2)]) (fun g => 0 ≤ g.2) (fun g r => r = .im (.int (cell g.1 g.2))) noX
theorem ok_p_law_cell_at (T : Txt K mg A w) : FnOk P w K mg base CX0 1 A.f_p_law_cell_at A.d_p_law_cell_at ["_law_script", "_law_k"] (sp_p_law_cell_at K A) := by
  refine T.F_p_law_cell_at.ok (k := 0) sc_p_law_cell_at (SpD.len fun _ => rfl) (fun cdv A' outer s H vs Q E hr h => ⟨_, (pss_cons (ps_if (pt_cmpR op_lt (pv 1) (pe_callB call_len (by rfl) T.n_len (by decide +kernel) (pa_cons (pv 0) pa_nil)) (nomark _)) (pss_one (ps_ret (pe_ix ix_list (pv 0) (pv 1) (fun _ _ => rfl)))) pss_nil)
      (pss_one (ps_ret pe_int))), entry (U := []) (fun _ => rfl) h fun g hp hE => ?_⟩)
  dsimp only [cxOf, L2.Cx.nox, L2.Cx.wish, List.cons_append, List.nil_append]
  obtain ⟨ns, k⟩ := g
  repeat tm_at "zs"
  refine ite_d (fun h => ?_) (fun h => ?_)
  · repeat tm_at "zs"
    refine nixL_mk rfl (cell_at hp h) ?_
    repeat tm_at "zs"
    rfl
  · repeat tm_at "zs"
    show Sl.im _ = Sl.im _
    rw [cell_out hp h]
abbrev sp_p_law_way (K : PySem.W.Frag) (A : Ad) : Sp := SpD K (α := List Int × Int × Int) (fun g => [.bor (iL g.1), .im (.int g.2.1), .im (.int g.2.2)]) (fun g => 0 ≤ g.2.1 ∧ 0 < g.2.2) (fun g r => r = .im (.int (wayI g.1 g.2.1 g.2.2))) noX
theorem ok_p_law_way (T : Txt K mg A w) : FnOk P w K mg base CX0 2 A.f_p_law_way A.d_p_law_way ["_law_script", "_law_k", "_law_many"] (sp_p_law_way K A) := by
  refine T.F_p_law_way.ok (k := 1) sc_p_law_way (SpD.len fun _ => rfl) (fun cdv A' outer s H vs Q E hr h => ⟨_, (pss_one (ps_ret (pe_op op_mod (pe_op op_mod (pe_op op_add (pe_op op_mulK (pe_call (ok_p_law_cell_at T) (hr.mono (by decide)) (by rfl) T.m_p_law_cell_at T.F_p_law_cell_at.kp T.b_p_law_cell_at .nil pass0 (pa_cons (pv 0) (pa_cons (pv 1) pa_nil))) pe_int) (pe_op op_mulK pe_int (pe_callB call_len (by rfl) T.n_len (by decide +kernel) (pa_cons (pv 0) pa_nil)))) pe_int) (pv 2)))), entry (U := []) (fun _ => rfl) h fun g hp hE => ?_⟩)
  dsimp only [cxOf, L2.Cx.nox, L2.Cx.wish, List.cons_append, List.nil_append]
  obtain ⟨ns, k, q⟩ := g
  obtain ⟨h0, h1⟩ := hp
  repeat tm_at "zs"
  refine ⟨(ns, k), rfl, h0, fun _ z => z, ?_⟩
  rintro _ rfl
  repeat tm_at "zs"
  show Sl.im _ = Sl.im _
  rw [List.length_map]
  rfl
abbrev sp_p_law_figures (K : PySem.W.Frag) (A : Ad) : Sp := SpD K (α := Str) (fun z => [.im (.str z)]) (fun _ => True) (fun z r => r = .im (.bool (figB (tl z)))) noX
theorem ok_p_law_figures (T : Txt K mg A w) : FnOk P w K mg base CX0 1 A.f_p_law_figures A.d_p_law_figures ["_law_word"] (sp_p_law_figures K A) := by
  refine T.F_p_law_figures.ok (k := 0) sc_p_law_figures (SpD.len fun _ => rfl) (fun cdv A' outer s H vs Q E hr h => ⟨_, (pss_cons (ps_for PassesOwn.never rfl (pi_str (pv 0)) (pg_name (i := 1) sc_p_law_figures.nd rfl (Or.inl rfl)) (pss_one (ps_if (pt_cmpR op_notIn_sign (pv 1) pe_str (by rfl)) (pss_one (ps_ret pe_bl)) pss_nil)))
      (pss_one (ps_ret (pe_cmpR op_ne (pv 0) pe_str (nomark _))))), entry (U := [.un]) (fun _ => rfl) h fun g hp hE => ?_⟩)
  dsimp only [cxOf, L2.Cx.nox, L2.Cx.wish, List.cons_append, List.nil_append]
  refine wS_seq (wS_forS ?_)
  repeat tm_at "zx"
  refine ⟨g, rfl, Unit, fun _ => [.im (.str g), .un], fun k _ => ∀ c ∈ (tl g).take k, 48 ≤ c ∧ c ≤ 57, (), by tm_at "zk", fun c h => (by cases h), ?_, ?_⟩
  · intro k c _ hc ih
    have hk := cps_get hc
    refine ⟨_, rfl, rfl, ?_⟩
    refine wS_if ?_
    repeat tm_at "zx"
    refine ite_n (fun h => ?_) (fun h => ?_)
    · repeat tm_at "zs"
      show Sl.im _ = Sl.im _
      have e : figB (tl g) = false := by
        cases q : figB (tl g) with
        | false => rfl
        | true => exact absurd (mem_fig.mpr ((figB_iff.mp q).2 c (List.mem_of_getElem? hk))) h
      rw [e]
    · refine wS_next ⟨(), by tm_at "zk", ?_⟩
      show ∀ c ∈ (tl g).take (k + 1), 48 ≤ c ∧ c ≤ 57
      rw [all_take hk]
      intro d hd
      rcases List.mem_append.mp hd with z | z
      · exact ih d z
      · rw [List.mem_singleton.mp z]
        exact mem_fig.mp h
  · intro _ ih
    have e : g.cps.size = (tl g).length := Array.length_toList.symm
    rw [e, List.take_length] at ih
    repeat tm_at "zs"
    show Sl.im _ = Sl.im _
    have q : decide (g = "") = (tl g).isEmpty := by
      have e0 : tl ("" : Str) = [] := by decide +kernel
      cases hl : tl g with
      | nil => exact decide_eq_true (ext_tl (by rw [hl, e0]))
      | cons c r => exact decide_eq_false (fun z => by rw [z, e0] at hl; cases hl)
    rw [q]
    congr 2
    cases hl : (tl g).isEmpty with
    | true =>
      unfold figB
      rw [hl]
      rfl
    | false =>
      symm
      refine figB_iff.mpr ⟨fun z => ?_, ih⟩
      rw [z] at hl
      cases hl
abbrev sp_p_law_due_of (K : PySem.W.Frag) (A : Ad) : Sp := SpD K (α := Str) (fun z => [.im (.str z)]) (fun z => Sh 600 99000 z) (fun z r => (readS z = none ∧ r = .im .none) ∨ ∃ rs, readS z = some rs ∧ r = .own (runsD rs)) noX
theorem ok_p_law_due_of (T : Txt K mg A w) : FnOk P w K mg base CX0 2 A.f_p_law_due_of A.d_p_law_due_of ["_law_line"] (sp_p_law_due_of K A) := by
  refine T.F_p_law_due_of.ok (k := 1) sc_p_law_due_of (SpD.len fun _ => rfl) (fun cdv A' outer s H vs Q E hr h => ⟨_, (pss_cons (ps_if (pt_cmpR op_eq (pv 0) pe_str (nomark _)) (pss_one (ps_ret (pe_lst pa_nil))) pss_nil)
      (pss_cons (ps_set (i := 1) sc_p_law_due_of.nd rfl (Or.inl rfl) (pe_lst pa_nil))
      (pss_cons (ps_set (i := 2) sc_p_law_due_of.nd rfl (Or.inl rfl) pe_str)
      (pss_cons (ps_for PassesOwn.never rfl (pi_list (pe_split (pv 0) pe_str)) (pg_name (i := 3) sc_p_law_due_of.nd rfl (Or.inl rfl)) (pss_cons (ps_if (PW.pt (pw_or (pt_cmpR op_notIn_seq (pe_slice sl_str (pv 3) po_none (po_some pe_int)) (pe_tup (pa_cons pe_str (pa_cons pe_str pa_nil))) (by rfl)) (pw_or (pt_cmpR op_eq (pe_slice sl_str (pv 3) po_none (po_some pe_int)) (pv 2) (nomark _)) (pw_or (pt_not (pt_val (pe_call (ok_p_law_figures T) (hr.mono (by decide)) (by rfl) T.m_p_law_figures T.F_p_law_figures.kp T.b_p_law_figures .nil pass0 (pa_cons (pe_slice sl_str (pv 3) (po_some pe_int) po_none) pa_nil)))) (pw_or1 (pt_cmpR op_eq (pe_ix ix_str (pv 3) pe_int (fun _ _ => rfl)) pe_str (nomark _))))))) (pss_one (ps_ret pe_non)) pss_nil)
      (pss_cons (ps_set (i := 2) sc_p_law_due_of.nd rfl (Or.inl rfl) (pe_slice sl_str (pv 3) po_none (po_some pe_int)))
      (pss_one (ps_expr (pe_bm PySem.F.plainAttrs_list PySem.F.slot_list_append PySem.F.type_list_append mt_append (pv 1) (pa_cons (pe_tup (pa_cons (pe_ifExp (pt_cmpR op_eq (pv 2) pe_str (nomark _)) pe_str pe_str) (pa_cons (pe_callTy call_int_str (by rfl) T.n_int (by decide +kernel) (pa_cons (pe_slice sl_str (pv 3) (po_some pe_int) po_none) pa_nil)) pa_nil))) pa_nil)))))))
      (pss_one (ps_ret (pv 1))))))), entry (U := [.un, .un, .un]) (fun _ => rfl) h fun g hp hE => ?_⟩)
  dsimp only [cxOf, L2.Cx.nox, L2.Cx.wish, List.cons_append, List.nil_append]
  have s1 : (99002 : Nat) ≤ sizeLine := by decide
  have zl := hp.2
  refine wS_seq (wS_if ?_)
  repeat tm_at "zx"
  refine ite_d (fun h => ?_) (fun h => ?_)
  · repeat tm_at "zs"
    exact .inr ⟨[], by unfold readS; rw [if_pos h], rfl⟩
  refine wS_next ?_
  have rdS : readS g = dueL none (Txt.split g " ") := by unfold readS; rw [if_neg h]
  refine wS_seq (wS_asg ?_); (repeat tm_at "zx")
  refine wS_seq (wS_asg ?_); (repeat tm_at "zx")
  refine wS_seq (wS_forN ?_)
  repeat tm_at "zx"
  refine nside_mk ⟨by decide +kernel, by omega⟩ ?_
  have each : ∀ w ∈ Txt.split g " ", w.length ≤ 600 := fun w hw => Nat.le_trans (split_mr hw) hp.1
  have cnt := split_count g
  generalize Txt.split g " " = ws at each cnt rdS ⊢
  have init : dueL none ws = (dueL none (ws.drop 0)).map (([] : List PRun) ++ ·) := by
    rw [List.drop_zero]
    cases dueL none ws <;> rfl
  refine ⟨_, rfl, fun av vs => ⟨List PRun × Option Bool, fun x => [.im (.str g), .own (runsD x.1), .im (.str (ahT x.2)), .un], fun k x => x.1.length = k ∧ dueL none ws = (dueL x.2 (ws.drop k)).map (x.1 ++ ·), ([], none), by tm_at "zk", rfl, ⟨rfl, init⟩, ?_, ?_⟩⟩
  · rintro k d ⟨ts, a⟩ hd ⟨tl0, hk⟩
    dsimp only at tl0 hk ⊢
    rw [List.getElem?_map] at hd
    cases hx : ws[k]? with
    | none => rw [hx] at hd; cases hd
    | some w =>
      rw [hx] at hd
      have e : d = .str w := (Option.some.inj hd).symm
      subst e
      have hm := List.mem_of_getElem? hx
      have wl := each w hm
      have kl := (List.getElem?_eq_some_iff.mp hx).1
      obtain ⟨st1, st2, st3⟩ := dueL_step hx hk
      have wls : w.length ≤ sizeLine := by omega
      refine ⟨_, rfl, rfl, ?_⟩
      refine wS_seq (wS_if ?_)
      repeat tm_at "zx"
      rw [inD_sg]
      have cl := cutS_le w (some 1) none
      obtain ⟨ct1, ct2⟩ := cut_two w
      rcases run_cut w with ⟨b, hb, hr1⟩ | ⟨n1, n2, hr1⟩
      rotate_left
      · have nb : (decide (cutS w none (some 1) = "L") || decide (cutS w none (some 1) = "R")) = false := by
          rw [decide_eq_false n1, decide_eq_false n2]
          rfl
        rw [nb]
        repeat tm_at "zs"
        exact .inl ⟨by rw [rdS]; exact st1 hr1, rfl⟩
      have sb : (decide (sgn b = "L") || decide (sgn b = "R")) = true := by cases b <;> decide +kernel
      rw [hb, sb]
      repeat tm_at "zx"
      rw [hb]
      by_cases ea : a = some b
      · rw [decide_eq_true (ahT_eq.mpr ea)]
        have e : dueL none ws = none := by
          cases hq : runL (tl w) with
          | none => exact st1 hq
          | some x =>
            rw [hr1] at hq
            split at hq
            · cases hq
              exact st2 b _ (by rw [hr1]; rename_i z; rw [if_pos z]) ea
            · cases hq
        repeat tm_at "zs"
        exact .inl ⟨by rw [rdS]; exact e, rfl⟩
      rw [decide_eq_false (fun z => ea (ahT_eq.mp z))]
      repeat tm_at "zx"
      refine ⟨cutS w (some 1) none, rfl, trivial, fun _ z => z, ?_⟩
      rintro _ rfl
      cases hf : figB (tl (cutS w (some 1) none)) with
      | false =>
        have e : runL (tl w) = none := by
          rw [hr1]
          unfold figOk
          rw [hf]
          rfl
        repeat tm_at "zs"
        exact .inl ⟨by rw [rdS]; exact st1 e, rfl⟩
      | true =>
        obtain ⟨c, r, fl, c0, c1⟩ := figB_cons hf
        have a1 : atI (tl w) 1 = some c := by
          refine atI_nat (j := 1) ?_
          have z := ct2
          rw [fl] at z
          cases q : tl w with
          | nil => rw [q] at z; cases z
          | cons x y =>
            rw [q] at z
            have z' : c :: r = y := z
            rw [← z']
            rfl
        have fo : figOk (tl (cutS w (some 1) none)) = !decide (c = 48) := by
          unfold figOk
          rw [hf, fl, Bool.true_and]
          congr 1
          rw [decide_eq_decide]
          exact ⟨fun z => Option.some.inj z, fun z => by rw [z]; rfl⟩
        repeat tm_at "zx"
        refine nixS_mk wls a1 ?_
        repeat tm_at "zx"
        rw [one_eq]
        refine ite_d (fun h48 => ?_) (fun h48 => ?_)
        · have e : runL (tl w) = none := by
            rw [hr1, fo, decide_eq_true h48]
            rfl
          repeat tm_at "zs"
          exact .inl ⟨by rw [rdS]; exact st1 e, rfl⟩
        have ok : runL (tl w) = some (b, ((dv (tl (cutS w (some 1) none)) : Nat) : Int)) := by
          rw [hr1, fo, decide_eq_false h48]
          rfl
        have nx := st3 b _ ok ea
        refine wS_next ?_
        refine wS_seq (wS_asg ?_); (repeat tm_at "zx")
        rw [hb]
        refine wS_app rfl (by rw [List.length_map]; omega) ?_
        repeat tm_at "zx"
        have ew : (if sgn b = "L" then ("left" : Str) else "right") = wayS b := by cases b <;> decide +kernel
        cases b with
        | false =>
          refine ite_d (fun _ => ?_) (fun h => absurd rfl h)
          repeat tm_at "zx"
          refine ⟨_, int_figs hf (by omega), by omega, ?_⟩
          repeat tm_at "zs"
          exact ⟨(ts ++ [(false, _)], some false), ⟨.inl rfl, .inl (congrArg Sl.own (runsD_app ts (false, _))), .inl rfl, .inr ⟨rfl, rfl⟩, .inl rfl, trivial⟩, by dsimp only; rw [List.length_append]; show ts.length + 1 = _; omega, nx⟩
        | true =>
          refine ite_d (fun h => absurd (show sgn true = "L" from h) (by decide +kernel)) (fun _ => ?_)
          repeat tm_at "zx"
          refine ⟨_, int_figs hf (by omega), by omega, ?_⟩
          repeat tm_at "zs"
          exact ⟨(ts ++ [(true, _)], some true), ⟨.inl rfl, .inl (congrArg Sl.own (runsD_app ts (true, _))), .inl rfl, .inr ⟨rfl, rfl⟩, .inl rfl, trivial⟩, by dsimp only; rw [List.length_append]; show ts.length + 1 = _; omega, nx⟩
  · rintro ⟨ts, a⟩ ⟨tl0, hk⟩
    dsimp only at tl0 hk ⊢
    have e0 : ws.drop (ws.map PyData.str).length = [] := by rw [List.length_map, List.drop_length]
    rw [e0] at hk
    have hk' : dueL none ws = some (ts ++ []) := hk
    rw [List.append_nil] at hk'
    repeat tm_at "zs"
    exact .inr ⟨ts, by rw [rdS]; exact hk', rfl⟩
abbrev sp_is_figures (K : PySem.W.Frag) (A : Ad) : Sp := SpD K (α := Str) (fun z => [.im (.str z)]) (fun _ => True) (fun z r => r = .im (.bool (figB (tl z)))) noX
theorem ok_is_figures (T : Txt K mg A w) : FnOk P w K mg base CX0 1 A.f_is_figures A.d_is_figures ["text"] (sp_is_figures K A) := by
  refine T.F_is_figures.ok (k := 0) sc_is_figures (SpD.len fun _ => rfl) (fun cdv A' outer s H vs Q E hr h => ⟨_, (pss_one (ps_ret (pe_and (pe_isascii (pv 0)) (pe_one (pe_isdigit (pv 0)))))), entry (U := []) (fun _ => rfl) h fun g hp hE => ?_⟩)
  dsimp only [cxOf, L2.Cx.nox, L2.Cx.wish, List.cons_append, List.nil_append]
  repeat tm_at "zs"
  refine ite_b (fun h => ?_) (fun h => ?_)
  · repeat tm_at "zs"
    show Sl.im _ = Sl.im _
    rw [← ascii_digit, h, Bool.true_and]
  · repeat tm_at "zs"
    show Sl.im _ = Sl.im _
    rw [← ascii_digit, h, Bool.false_and]
abbrev sp_read_run (K : PySem.W.Frag) (A : Ad) : Sp := SpD K (α := Str) (fun z => [.im (.str z)]) (fun z => z.length ≤ 600) (fun z r => ∃ x, runL (tl z) = some x ∧ r = .im (runD x)) (fun z C => C = A.c_NoText ∧ runL (tl z) = none)
theorem ok_read_run (T : Txt K mg A w) : FnOk P w K mg base (L2N.CX P w) 3 A.f_read_run A.d_read_run ["word"] (sp_read_run K A) := by
  refine T.F_read_run.okN (k := 2) sc_read_run (SpD.len fun _ => rfl) (fun cdv A' outer s H vs Q E hr h => ⟨_, (pss_cons (ps_par (i := 1) (j := 2) (by rfl) sc_read_run.nd rfl rfl (by decide) rfl rfl (pa_cons (pe_slice sl_str (pv 0) po_none (po_some pe_int)) (pa_cons (pe_slice sl_str (pv 0) (po_some pe_int) po_none) pa_nil)) (by rfl))
      (pss_cons (ps_if (pt_cmpR (op_notInDct : OpR _ _ (rInDct K w true)) (pv 1) (pe_glob (v := .ref A.k_WAYS) (by rfl) T.k_WAYS rfl) (by rfl)) (pss_one (L2N.ps_raise rfl (L2N.takes_of rfl rfl rfl rfl) (L2N.pmk_own PySem.F.excBase_ValueError T.x_NoText T.g_NoText T.k_NoText (raises_own T.s_NoText T.t_NoText) rfl))) pss_nil)
      (pss_cons (ps_if (PW.pt (pw_or (pt_not (pt_val (pe_call (ok_is_figures T) (hr.mono (by decide)) (by rfl) T.m_is_figures T.F_is_figures.kp T.b_is_figures .nil pass0 (pa_cons (pv 2) pa_nil)))) (pw_or1 (pt_cmpR op_eq (pe_ix ix_str (pv 2) pe_int (fun _ _ => rfl)) pe_str (nomark _))))) (pss_one (L2N.ps_raise rfl (L2N.takes_of rfl rfl rfl rfl) (L2N.pmk_own PySem.F.excBase_ValueError T.x_NoText T.g_NoText T.k_NoText (raises_own T.s_NoText T.t_NoText) rfl))) pss_nil)
      (pss_one (ps_ret (pe_tup (pa_cons (pe_ix (r := rIxD K w) ix_kdict (pe_glob (v := .ref A.k_WAYS) (by rfl) T.k_WAYS rfl) (pv 1) (fun _ _ => rfl)) (pa_cons (pe_callTy call_int_str (by rfl) T.n_int (by decide +kernel) (pa_cons (pv 2) pa_nil)) pa_nil)))))))), entry (U := [.un, .un]) (fun _ => rfl) h fun g hp hE => ?_⟩)
  dsimp only [cxOf, L2.Cx.nox, L2.Cx.wish, List.cons_append, List.nil_append]
  have szl : (600 : Nat) ≤ sizeLine := by decide
  refine wS_seq (wS_par ?_)
  repeat tm_at "zx"
  have cl := cutS_le g (some 1) none
  refine wS_seq (wS_if ?_)
  rcases run_cut g with ⟨b, hb, hr1⟩ | ⟨n1, n2, hr1⟩
  rotate_left
  · repeat tm_at "zx"
    refine ⟨false, .inr ⟨rfl, T.D_WAYS.miss _ n1 n2⟩, ?_⟩
    repeat tm_at "zx"
    exact wS_raise fun H' hs => hE _ H' hs ⟨rfl, hr1⟩
  rw [hb]
  generalize hf0 : cutS g (some 1) none = f at hr1 cl ⊢
  clear hf0
  have kd : KDct K w A.k_WAYS (sgn b) (.str (wayS b)) := by
    cases b with
    | true => exact T.D_WAYS.gc
    | false => exact T.D_WAYS.ga
  repeat tm_at "zx"
  refine ⟨true, .inl ⟨rfl, ⟨_, kd⟩, T.D_WAYS.low⟩, ?_⟩
  repeat tm_at "zx"
  refine wS_next ?_
  refine wS_seq (wS_if ?_)
  repeat tm_at "zx"
  refine ⟨f, rfl, trivial, fun _ z => z, ?_⟩
  rintro _ rfl
  repeat tm_at "zx"
  cases hf : figB (tl f) with
  | false =>
    have e : runL (tl g) = none := by
      rw [hr1]
      unfold figOk
      rw [hf]
      rfl
    repeat tm_at "zx"
    exact wS_raise fun H' hs => hE _ H' hs ⟨rfl, e⟩
  | true =>
    obtain ⟨c, r, el, c0, c1⟩ := figB_cons hf
    have a0 : atI (tl f) 0 = some c := atI_nat (j := 0) (by rw [el]; rfl)
    repeat tm_at "zx"
    refine nixS_mk (by omega) a0 ?_
    repeat tm_at "zx"
    rw [one_eq]
    have fo : figOk (tl f) = !decide (c = 48) := by
      unfold figOk
      rw [hf, el, Bool.true_and]
      congr 1
      rw [decide_eq_decide]
      exact ⟨fun z => Option.some.inj z, fun z => by rw [z]; rfl⟩
    refine ite_d (fun h => ?_) (fun h => ?_)
    · have e : runL (tl g) = none := by
        rw [hr1, fo, decide_eq_true h]
        rfl
      exact wS_raise fun H' hs => hE _ H' hs ⟨rfl, e⟩
    refine wS_next ?_
    repeat tm_at "zs"
    refine ⟨_, kd, ?_⟩
    repeat tm_at "zs"
    refine ⟨_, int_figs hf (by omega), by omega, ?_⟩
    repeat tm_at "zs"
    refine ⟨(b, ((dv (tl f) : Nat) : Int)), ?_, rfl⟩
    rw [hr1, fo, decide_eq_false h]
    rfl
abbrev sp_is_path (K : PySem.W.Frag) (A : Ad) : Sp := SpD K (α := List RawR) (fun g => [.bor (rawsD g)]) (fun _ => True) (fun g r => r = .im (.bool (rawOk none g))) noX
theorem ok_is_path (T : Txt K mg A w) : FnOk P w K mg base CX0 1 A.f_is_path A.d_is_path ["path"] (sp_is_path K A) := by
  refine T.F_is_path.ok (k := 0) sc_is_path (SpD.len fun _ => rfl) (fun cdv A' outer s H vs Q E hr h => ⟨_, (pss_cons (ps_set (i := 1) sc_is_path.nd rfl (Or.inl rfl) pe_non)
      (pss_cons (ps_for PassesOwn.never rfl (pi_list (pv 0)) (pg_tup rfl (pgs_cons (pg_name (i := 2) sc_is_path.nd rfl (Or.inl rfl)) (pgs_cons (pg_name (i := 3) sc_is_path.nd rfl (Or.inl rfl)) pgs_nil))) (pss_cons (ps_if (PW.pt (pw_or (pt_cmpR op_notIn_seq (pv 2) (pe_tup (pa_cons (pe_glob (v := .str "left") (by rfl) T.k_LEFT ⟨_, rfl⟩) (pa_cons (pe_glob (v := .str "right") (by rfl) T.k_RIGHT ⟨_, rfl⟩) pa_nil))) (by rfl)) (pw_or (pt_cmpR op_lt (pv 3) pe_int (nomark _)) (pw_or1 (pt_cmpR (op_eqD hr.units) (pv 2) (pv 1) (nomark _)))))) (pss_one (ps_ret pe_bl)) pss_nil)
      (pss_one (ps_set (i := 1) sc_is_path.nd rfl (Or.inl rfl) (pv 2)))))
      (pss_one (ps_ret pe_bl)))), entry (U := [.un, .un, .un]) (fun _ => rfl) h fun g hp hE => ?_⟩)
  dsimp only [cxOf, L2.Cx.nox, L2.Cx.wish, List.cons_append, List.nil_append]
  refine wS_seq (wS_asg ?_); (repeat tm_at "zx")
  refine wS_seq (wS_forBg ?_)
  repeat tm_at "zx"
  refine ⟨_, rfl, fun a vs => ⟨Option Bool, fun a => [.bor (rawsD g), .im (ahD (a.map wayS)), .un, .un], fun k a => rawOk none g = rawOk (a.map wayS) (g.drop k), none, by tm_at "zk", rfl, rfl, ?_, ?_⟩⟩
  · intro k d a hd hk
    obtain ⟨⟨w, n⟩, hx, rfl⟩ := raws_get hd
    refine wG_pair rfl rfl rfl rfl ?_
    rw [drop_more hx] at hk
    have hk' : rawOk none g = (isWay w && (decide (1 ≤ n) && (!decide (a.map wayS = some w) && rawOk (some w) (g.drop (k + 1))))) := hk
    refine wS_seq (wS_if ?_)
    repeat tm_at "zx"
    rw [inD_isWay]
    cases hw : isWay w with
    | false =>
      rw [hw, Bool.false_and] at hk'
      repeat tm_at "zs"
      show Sl.im _ = Sl.im _
      rw [hk']
    | true =>
      obtain ⟨b, rfl⟩ := isWay_of hw
      rw [hw, Bool.true_and] at hk'
      repeat tm_at "zx"
      refine ite_d (fun h => ?_) (fun h => ?_)
      · rw [decide_eq_false (show ¬ 1 ≤ n by omega), Bool.false_and] at hk'
        repeat tm_at "zs"
        show Sl.im _ = Sl.im _
        rw [hk']
      rw [decide_eq_true (show 1 ≤ n by omega), Bool.true_and] at hk'
      repeat (first | refine neq_ah (way_ok b) (fun v hv => by obtain ⟨c, _, rfl⟩ := Option.map_eq_some_iff.mp hv; exact way_ok c) ?_ | tm_at "zx")
      refine ite_d (fun h => ?_) (fun h => ?_)
      · rw [decide_eq_true h] at hk'
        repeat tm_at "zs"
        show Sl.im _ = Sl.im _
        rw [hk']
        rfl
      rw [decide_eq_false h] at hk'
      refine wS_next ?_
      repeat tm_at "zs"
      exact ⟨some b, by tm_at "zk", hk'⟩
  · intro a hk
    have hk' : rawOk none g = true := by
      have e : g.drop (rawsD g).length = [] := List.drop_eq_nil_of_le (by rw [List.length_map]; exact Nat.le_refl _)
      rw [hk, e]
      rfl
    repeat tm_at "zs"
    show Sl.im _ = Sl.im _
    rw [hk']
abbrev sp_read (K : PySem.W.Frag) (A : Ad) : Sp := SpD K (α := Str) (fun z => [.im (.str z)]) (fun z => Sh 600 99000 z) (fun z r => ∃ rs, readS z = some rs ∧ r = .own (runsD rs)) (fun z C => C = A.c_NoText ∧ readS z = none)
theorem ok_read (T : Txt K mg A w) : FnOk P w K mg base (L2N.CX P w) 5 A.f_read A.d_read ["line"] (sp_read K A) := by
  refine T.F_read.okN (k := 4) sc_read (SpD.len fun _ => rfl) (fun cdv A' outer s H vs Q E hr h => ⟨_, (pss_cons (ps_if (pt_cmpR op_eq (pv 0) (pe_glob (v := .str "top") (by rfl) T.k_TOP ⟨_, rfl⟩) (nomark _)) (pss_one (ps_ret (pe_lst pa_nil))) pss_nil)
      (pss_cons (ps_setLcE (i := 1) rfl rfl (L2N.takes_of rfl rfl rfl rfl) (own := [("word", 2)]) (g := gName 2) (tt := tYes) rfl sc_read.nd rfl rfl (sw_true rfl rfl rfl (by decide +kernel)) (pi_list (pe_split (pv 0) pe_str)) (blkOk_by (N := ["line", "path", "word"]) (sc := defScope s_read) (by decide +kernel)) (fun _ _ _ _ _ => (pg_name (i := 2) sc_read.nd rfl (Or.inl rfl))) (fun _ _ _ _ _ => pts_nil) (fun _ _ _ _ _ => (pe_call (ok_read_run T) (hr.mono (by decide)) (by rfl) T.m_read_run T.F_read_run.kp T.b_read_run .nil passB (pa_cons (pv 2) pa_nil))))
      (pss_cons (ps_if (pt_not (pt_val (pe_call (ok_is_path T) (hr.mono (by decide)) (by rfl) T.m_is_path T.F_is_path.kp T.b_is_path .nil pass0 (pa_cons (pv 1) pa_nil)))) (pss_one (L2N.ps_raise rfl (L2N.takes_of rfl rfl rfl rfl) (L2N.pmk_own PySem.F.excBase_ValueError T.x_NoText T.g_NoText T.k_NoText (raises_own T.s_NoText T.t_NoText) rfl))) pss_nil)
      (pss_one (ps_ret (pv 1)))))), entry (U := [.un, .un]) (fun _ => rfl) h fun g hp hE => ?_⟩)
  dsimp only [cxOf, L2.Cx.nox, L2.Cx.wish, List.cons_append, List.nil_append]
  have s1 : (99002 : Nat) ≤ sizeLine := by decide
  have zl := hp.2
  refine wS_seq (wS_if ?_)
  repeat tm_at "zx"
  refine ite_d (fun h => ?_) (fun h => ?_)
  · repeat tm_at "zs"
    exact ⟨[], by unfold readS; rw [if_pos h], rfl⟩
  refine wS_next ?_
  have rdS : readS g = dueL none (Txt.split g " ") := by unfold readS; rw [if_neg h]
  refine wS_seq (wS_asg (wE_lcG ?_))
  repeat tm_at "zx"
  refine nside_mk ⟨by decide +kernel, by omega⟩ ?_
  have each : ∀ w ∈ Txt.split g " ", w.length ≤ 600 := fun w hw => Nat.le_trans (split_mr hw) hp.1
  have cnt := split_count g
  generalize Txt.split g " " = ws at each cnt rdS ⊢
  have el : (ws.map PyData.str).length = ws.length := List.length_map _
  have l1 : (ws.map PyData.str).length ≤ 100000 := by omega
  refine ⟨_, rfl, l1, fun k => ∀ w, ws[k]? = some w → (runL (tl w)).isSome = true, runsD (ws.map rd), by rw [List.length_map, List.length_map, List.length_map], fun k d hd => ?_, fun gd => ?_⟩
  · rw [List.getElem?_map] at hd
    cases hx : ws[k]? with
    | none => rw [hx] at hd; cases hd
    | some w =>
      rw [hx] at hd
      have e : d = .str w := (Option.some.inj hd).symm
      subst e
      have hm := List.mem_of_getElem? hx
      refine wL_name rfl (wE_callE ?_)
      repeat tm_at "zx"
      refine ⟨w, rfl, each w hm, fun C H' hs z => hE C H' hs ⟨z.1, by rw [rdS]; exact due_none hm z.2⟩, ?_⟩
      rintro _ ⟨x, hr, rfl⟩
      refine ⟨?_, fun w' e => by cases hx.symm.trans e; rw [hr]; rfl⟩
      have e : rd w = x := by unfold rd; rw [hr]; rfl
      rw [List.getElem?_map, List.getElem?_map, hx]
      show some (runD (rd w)) = _
      rw [e]
  have all : ∀ w ∈ ws, (runL (tl w)).isSome = true := fun w hw => by
    obtain ⟨k, hk⟩ := List.getElem?_of_mem hw
    exact gd k (by rw [el]; exact (List.getElem?_eq_some_iff.mp hk).1) w hk
  have fin : readS g = if rawOk none (toRaw (ws.map rd)) = true then some (ws.map rd) else none := by rw [rdS]; exact due_rd (a := none) all
  repeat tm_at "zx"
  refine wS_seq (wS_if ?_)
  repeat tm_at "zx"
  refine ⟨toRaw (ws.map rd), congrArg (fun d => [Sl.bor d]) (rawsD_toRaw (ws.map rd)).symm, trivial, fun _ z => z, ?_⟩
  rintro _ rfl
  cases hr1 : rawOk none (toRaw (ws.map rd)) with
  | false =>
    rw [hr1, if_neg Bool.false_ne_true] at fin
    repeat tm_at "zx"
    exact wS_raise fun H' hs => hE _ H' hs ⟨rfl, fin⟩
  | true =>
    rw [hr1, if_pos rfl] at fin
    repeat tm_at "zx"
    refine wS_next ?_
    repeat tm_at "zs"
    exact ⟨ws.map rd, fin, rfl⟩
abbrev sp_p_law_many_by (K : PySem.W.Frag) (A : Ad) : Sp := SpD K (α := List Int × Int × Int) (fun g => [.bor (iL g.1), .im (.int g.2.1), .im (.int g.2.2)]) (fun g => 0 ≤ g.2.1 ∧ 1 ≤ g.2.2) (fun g r => ∃ n : Int, r = .im (.int n) ∧ 1 ≤ n ∧ n ≤ g.2.2) noX
theorem ok_p_law_many_by (T : Txt K mg A w) : FnOk P w K mg base CX0 2 A.f_p_law_many_by A.d_p_law_many_by ["_law_script", "_law_k", "_law_most"] (sp_p_law_many_by K A) := by
  refine T.F_p_law_many_by.ok (k := 1) sc_p_law_many_by (SpD.len fun _ => rfl) (fun cdv A' outer s H vs Q E hr h => ⟨_, (pss_cons (ps_if (pt_cmpR op_lt (pe_op op_add pe_int (pv 1)) (pe_callB call_len (by rfl) T.n_len (by decide +kernel) (pa_cons (pv 0) pa_nil)) (nomark _)) (pss_one (ps_ret (pe_op op_add pe_int (pe_op op_mod (pe_ix ix_list (pv 0) (pe_op op_add pe_int (pv 1)) (fun _ _ => rfl)) (pv 2))))) pss_nil)
      (pss_one (ps_ret (pe_op op_add pe_int (pe_op op_mod (pe_op op_mod (pe_op op_add (pe_op op_mulK (pe_call (ok_p_law_cell_at T) (hr.mono (by decide)) (by rfl) T.m_p_law_cell_at T.F_p_law_cell_at.kp T.b_p_law_cell_at .nil pass0 (pa_cons (pv 0) (pa_cons pe_int pa_nil))) pe_int) (pe_op op_mulK (pv 1) pe_int)) pe_int) (pv 2)))))), entry (U := []) (fun _ => rfl) h fun g hp hE => ?_⟩)
  dsimp only [cxOf, L2.Cx.nox, L2.Cx.wish, List.cons_append, List.nil_append]
  obtain ⟨ns, k, q⟩ := g
  obtain ⟨h0, h1⟩ := hp
  dsimp only at h0 h1 ⊢
  refine wS_seq (wS_if ?_)
  repeat tm_at "zx"
  have lt := fun x : Int => Int.emod_lt_of_pos x (show 0 < q by omega)
  have nn := fun x : Int => Int.emod_nonneg x (show q ≠ 0 by omega)
  refine ite_d (fun h => ?_) (fun h => ?_)
  · repeat tm_at "zs"
    refine nixL_mk rfl (cell_at (by omega) h) ?_
    repeat tm_at "zs"
    exact ⟨_, rfl, by have := nn (cell ns (9 + k)); omega, by have := lt (cell ns (9 + k)); omega⟩
  · repeat tm_at "zs"
    refine ⟨(ns, 1), rfl, by tm_at "zo", fun _ z => z, ?_⟩
    rintro _ rfl
    repeat tm_at "zs"
    dsimp only
    generalize (cell ns 1 * 48271 + k * 7919) % 2147483647 = z
    exact ⟨_, rfl, by have := nn z; omega, by have := lt z; omega⟩
abbrev sp_p_law_path_by (K : PySem.W.Frag) (A : Ad) : Sp := SpD K (α := List Int) (fun ns => [.bor (iL ns)]) (fun _ => True) (fun _ r => ∃ rs : List PRun, r = .own (runsD rs) ∧ Path rs ∧ (∀ x : PRun, x ∈ rs → Bd 200 x.2) ∧ rs.length ≤ 299) noX
theorem ok_p_law_path_by (T : Txt K mg A w) : FnOk P w K mg base CX0 3 A.f_p_law_path_by A.d_p_law_path_by ["_law_script"] (sp_p_law_path_by K A) := by
  refine T.F_p_law_path_by.ok (k := 2) sc_p_law_path_by (SpD.len fun _ => rfl) (fun cdv A' outer s H vs Q E hr h => ⟨_, (pss_cons (ps_set (i := 1) sc_p_law_path_by.nd rfl (Or.inl rfl) (pe_call (ok_p_law_way T) (hr.mono (by decide)) (by rfl) T.m_p_law_way T.F_p_law_way.kp T.b_p_law_way .nil pass0 (pa_cons (pv 0) (pa_cons pe_int (pa_cons pe_int pa_nil)))))
      (pss_cons (ps_if (pt_cmpR (op_eqD hr.units) (pe_op op_fdivW (pe_call (ok_p_law_way T) (hr.mono (by decide)) (by rfl) T.m_p_law_way T.F_p_law_way.kp T.b_p_law_way .nil pass0 (pa_cons (pv 0) (pa_cons pe_int (pa_cons pe_int pa_nil)))) pe_int) pe_int (nomark _)) (pss_one (ps_set (i := 1) sc_p_law_path_by.nd rfl (Or.inl rfl) (pe_call (ok_p_law_way T) (hr.mono (by decide)) (by rfl) T.m_p_law_way T.F_p_law_way.kp T.b_p_law_way .nil pass0 (pa_cons (pv 0) (pa_cons pe_int (pa_cons pe_int pa_nil)))))) pss_nil)
      (pss_cons (ps_set (i := 2) sc_p_law_path_by.nd rfl (Or.inl rfl) (pe_ix ix_list (pe_lst (pa_cons pe_int (pa_cons (pe_op op_pow pe_int pe_int) pa_nil))) (pe_op op_fdivW (pe_call (ok_p_law_way T) (hr.mono (by decide)) (by rfl) T.m_p_law_way T.F_p_law_way.kp T.b_p_law_way .nil pass0 (pa_cons (pv 0) (pa_cons pe_int (pa_cons pe_int pa_nil)))) pe_int) (fun _ _ => rfl)))
      (pss_cons (ps_set (i := 3) sc_p_law_path_by.nd rfl (Or.inl rfl) (pe_lst pa_nil))
      (pss_cons (ps_for PassesOwn.never rfl (pi_range1 (by rfl) T.n_range (pa_cons (pv 1) pa_nil)) (pg_name (i := 4) sc_p_law_path_by.nd rfl (Or.inl rfl)) (pss_cons (ps_set (i := 5) sc_p_law_path_by.nd rfl (Or.inl rfl) (pe_ix ix_list (pe_lst (pa_cons pe_str (pa_cons pe_str pa_nil))) (pe_op op_mod (pe_op op_add (pe_call (ok_p_law_cell_at T) (hr.mono (by decide)) (by rfl) T.m_p_law_cell_at T.F_p_law_cell_at.kp T.b_p_law_cell_at .nil pass0 (pa_cons (pv 0) (pa_cons pe_int pa_nil))) (pv 4)) pe_int) (fun _ _ => rfl)))
      (pss_one (ps_expr (pe_bm PySem.F.plainAttrs_list PySem.F.slot_list_append PySem.F.type_list_append mt_append (pv 3) (pa_cons (pe_tup (pa_cons (pv 5) (pa_cons (pe_call (ok_p_law_many_by T) (hr.mono (by decide)) (by rfl) T.m_p_law_many_by T.F_p_law_many_by.kp T.b_p_law_many_by .nil pass0 (pa_cons (pv 0) (pa_cons (pv 4) (pa_cons (pv 2) pa_nil)))) pa_nil))) pa_nil))))))
      (pss_cons (ps_if (PW.pt (pw_and (pt_cmpR op_gt (pv 1) pe_int (nomark _)) (pw_and1 (pt_cmpR (op_eqD hr.units) (pe_call (ok_p_law_way T) (hr.mono (by decide)) (by rfl) T.m_p_law_way T.F_p_law_way.kp T.b_p_law_way .nil pass0 (pa_cons (pv 0) (pa_cons pe_int (pa_cons pe_int pa_nil)))) pe_int (nomark _))))) (pss_cons (ps_set (i := 6) sc_p_law_path_by.nd rfl (Or.inl rfl) (pe_op op_mod (pe_call (ok_p_law_way T) (hr.mono (by decide)) (by rfl) T.m_p_law_way T.F_p_law_way.kp T.b_p_law_way .nil pass0 (pa_cons (pv 0) (pa_cons pe_int (pa_cons pe_int pa_nil)))) (pv 1)))
      (pss_one (ps_asg (pe_tup (pa_cons (pe_ix ix_tup (pe_ix ix_list (pv 3) (pv 6) (fun _ _ => rfl)) pe_int (fun _ _ => rfl)) (pa_cons (pe_op op_add pe_int (pe_op op_mod (pe_call (ok_p_law_cell_at T) (hr.mono (by decide)) (by rfl) T.m_p_law_cell_at T.F_p_law_cell_at.kp T.b_p_law_cell_at .nil pass0 (pa_cons (pv 0) (pa_cons pe_int pa_nil))) (pe_op op_pow pe_int pe_int))) pa_nil))) (pg_sub (pv 3) (pv 6) set_list)))) pss_nil)
      (pss_one (ps_ret (pv 3))))))))), entry (U := [.un, .un, .un, .un, .un, .un]) (fun _ => rfl) h fun g hp hE => ?_⟩)
  dsimp only [cxOf, L2.Cx.nox, L2.Cx.wish, List.cons_append, List.nil_append]
  refine wS_seq (wS_asg ?_); (repeat tm_at "zx")
  refine ⟨(g, 0, 9), rfl, ⟨by tm_at "zo", by tm_at "zo"⟩, fun _ z => z, ?_⟩
  rintro _ rfl
  try dsimp only
  repeat tm_at "zx"
  obtain ⟨w0, w1⟩ := wayI_in (ns := g) (k := 0) (q := 9) (by decide)
  refine wS_cut (α := Int) (fun c => [.bor (iL g), .im (.int c), .un, .un, .un, .un, .un]) (fun c => 0 ≤ c ∧ c ≤ 299) ?_ ?_
  · refine wS_if ?_
    repeat tm_at "zx"
    refine ⟨(g, 0, 36), rfl, ⟨by tm_at "zo", by tm_at "zo"⟩, fun _ z => z, ?_⟩
    rintro _ rfl
    try dsimp only
    repeat tm_at "zx"
    refine ite_d (fun h => ?_) (fun h => ?_)
    · repeat tm_at "zs"
      refine ⟨(g, 1, 300), rfl, ⟨by tm_at "zo", by tm_at "zo"⟩, fun _ z => z, ?_⟩
      rintro _ rfl
      try dsimp only
      repeat tm_at "zs"
      obtain ⟨v0, v1⟩ := wayI_in (ns := g) (k := 1) (q := 300) (by decide)
      exact ⟨_, by tm_at "zk", v0, (show wayI g 1 300 ≤ 299 by omega)⟩
    · repeat tm_at "zs"
      exact ⟨_, by tm_at "zk", w0, by omega⟩
  rintro c ⟨c0, c1⟩
  clear w0 w1
  refine wS_cut (α := Int) (fun m => [.bor (iL g), .im (.int c), .im (.int m), .un, .un, .un, .un]) (fun m => 1 ≤ m ∧ m ≤ 1000000) ?_ ?_
  · refine wS_asg ?_
    repeat tm_at "zx"
    refine ⟨(g, 4, 16), rfl, ⟨by tm_at "zo", by tm_at "zo"⟩, fun _ z => z, ?_⟩
    rintro _ rfl
    try dsimp only
    repeat tm_at "zx"
    obtain ⟨v0, v1⟩ := wayI_in (ns := g) (k := 4) (q := 16) (by decide)
    have e : wayI g 4 16 / 8 = 0 ∨ wayI g 4 16 / 8 = 1 := by omega
    rcases e with e | e
    · rw [e]
      refine nixL_mk rfl rfl ?_
      repeat tm_at "zx"
      exact ⟨_, by tm_at "zk", by decide, by decide⟩
    · rw [e]
      refine nixL_mk rfl rfl ?_
      repeat tm_at "zx"
      exact ⟨_, by tm_at "zk", by decide, by decide⟩
  rintro m ⟨m1, m2⟩
  refine wS_seq (wS_asg ?_); (repeat tm_at "zx")
  refine wS_seq (wS_for1 ?_)
  repeat tm_at "zx"
  refine ⟨c, rfl, by omega, by omega, List PRun, fun rs => [.bor (iL g), .im (.int c), .im (.int m), .own (runsD rs), .un, .un, .un], fun k rs => Drawn (cell g 1) m k rs, [], by tm_at "zk", Drawn.start _ _, ?_, ?_⟩
  · intro k rs hk dr
    refine ⟨_, rfl, rfl, ?_⟩
    refine wS_seq (wS_asg ?_); (repeat tm_at "zx")
    refine ⟨(g, 1), rfl, by tm_at "zo", fun _ z => z, ?_⟩
    rintro _ rfl
    try dsimp only
    repeat tm_at "zx"
    refine nixL_mk rfl wayS_mod ?_
    repeat tm_at "zx"
    have hl : (runsD rs).length < 100000 := by rw [List.length_map, dr.len]; omega
    refine wS_app rfl hl ?_
    repeat tm_at "zs"
    refine ⟨(g, k, m), rfl, ⟨by dsimp only; omega, m1⟩, fun _ z => z, ?_⟩
    rintro _ ⟨n, rfl, n1, n2⟩
    repeat tm_at "zs"
    exact ⟨rs ++ [(decide ((cell g 1 + k) % 2 = 1), n)], ⟨.inl rfl, .inl rfl, .inl rfl, .inl (congrArg Sl.own (runsD_app rs (decide ((cell g 1 + k) % 2 = 1), n))), .inr ⟨rfl, rfl⟩, .inr ⟨rfl, rfl⟩, .inl rfl, trivial⟩, dr.more n1 n2⟩
  intro rs dr
  have hlen : (rs.length : Int) = c := by rw [dr.len]; omega
  have plain : ∀ x ∈ rs, Bd 200 x.2 := fun x hx => by have := dr.cnt x hx; exact Bd.of (by omega) (Int.lt_of_le_of_lt (show x.2 ≤ 1000000 by omega) (by decide))
  refine wS_cut (α := List PRun) (fun rs => [.bor (iL g), .im (.int c), .im (.int m), .own (runsD rs), .un, .un, .un]) (fun rs => Path rs ∧ (∀ x : PRun, x ∈ rs → Bd 200 x.2) ∧ rs.length ≤ 299) ?_ ?_
  · have keep : ∃ x : List PRun, Wk [.bor (iL g), .im (.int c), .im (.int m), .own (runsD rs), .un, .un, .un] [.bor (iL g), .im (.int c), .im (.int m), .own (runsD x), .un, .un, .un] ∧ (Path x ∧ (∀ y : PRun, y ∈ x → Bd 200 y.2) ∧ x.length ≤ 299) := ⟨rs, by tm_at "zk", dr.path, plain, by omega⟩
    refine wS_if ?_
    repeat tm_at "zx"
    refine ite_d (fun h => ?_) (fun h => ?_)
    rotate_left
    · repeat tm_at "zx"
      exact wS_next keep
    repeat tm_at "zx"
    refine ⟨(g, 2, 3), rfl, ⟨by tm_at "zo", by tm_at "zo"⟩, fun _ z => z, ?_⟩
    rintro _ rfl
    try dsimp only
    repeat tm_at "zx"
    refine ite_d (fun h2 => ?_) (fun h2 => wS_next keep)
    refine wS_seq (wS_asg ?_); (repeat tm_at "zx")
    refine ⟨(g, 3, 100003), rfl, ⟨by tm_at "zo", by tm_at "zo"⟩, fun _ z => z, ?_⟩
    rintro _ rfl
    try dsimp only
    repeat tm_at "zx"
    have i0 := Int.emod_nonneg (wayI g 3 100003) (show c ≠ 0 by omega)
    have i1 := Int.emod_lt_of_pos (wayI g 3 100003) (show 0 < c by omega)
    generalize hi : wayI g 3 100003 % c = i at i0 i1 ⊢
    obtain ⟨j, rfl⟩ : ∃ j : Nat, i = (j : Int) := ⟨i.toNat, by omega⟩
    have jl : j < rs.length := by omega
    have gx : rs[j]? = some rs[j] := List.getElem?_eq_getElem jl
    have gd : atI (runsD rs) (j : Int) = some (runD rs[j]) := atI_nat (by rw [List.getElem?_map, gx]; rfl)
    have ix : ixN (runsD rs).length (j : Int) = some j := ixN_nat (by rw [List.length_map]; exact jl)
    refine wS_setL rfl ?_
    repeat tm_at "zx"
    refine nixL_mk rfl gd ?_
    repeat tm_at "zx"
    refine ⟨(g, 3), rfl, by tm_at "zo", fun _ z => z, ?_⟩
    rintro _ rfl
    try dsimp only
    repeat tm_at "zx"
    have e0 := Int.emod_nonneg (cell g 3) (show (10 : Int) ^ 58 ≠ 0 by decide)
    have e1 := Int.emod_lt_of_pos (cell g 3) (show (0 : Int) < 10 ^ 58 by decide)
    have nb : Bd 200 (1 + cell g 3 % 10 ^ 58) := Bd.of (by omega) (Int.lt_of_le_of_lt (show 1 + cell g 3 % 10 ^ 58 ≤ 10 ^ 58 by omega) (by decide))
    refine ⟨_, rfl, ?_⟩
    repeat tm_at "zx"
    refine ⟨_, j, rfl, ix, rs.set j (rs[j].1, 1 + cell g 3 % 10 ^ 58), ⟨.inl rfl, .inl rfl, .inl rfl, .inl (congrArg Sl.own (runsD_set rs j (rs[j].1, 1 + cell g 3 % 10 ^ 58))), .inl rfl, .inl rfl, .inr ⟨rfl, rfl⟩, trivial⟩, okRuns_set dr.path gx (by omega), fun y hy => ?_, by rw [List.length_set]; omega⟩
    rcases List.mem_or_eq_of_mem_set hy with z | z
    · exact plain y z
    · rw [z]; exact nb
  rintro ts ⟨path, bnd, len⟩
  repeat tm_at "zs"
  exact ⟨ts, rfl, path, bnd, len⟩
abbrev sp_p_law_odd_line (K : PySem.W.Frag) (A : Ad) : Sp := SpD K (α := Int) (fun n => [.im (.int n)]) (fun n => 0 ≤ n ∧ n < 24) (fun _ r => ∃ z : Str, r = .im (.str z) ∧ Sh 65 20000 z) noX
theorem ok_p_law_odd_line (T : Txt K mg A w) : FnOk P w K mg base CX0 1 A.f_p_law_odd_line A.d_p_law_odd_line ["_law_cell"] (sp_p_law_odd_line K A) := by
  refine T.F_p_law_odd_line.ok (k := 0) sc_p_law_odd_line (SpD.len fun _ => rfl) (fun cdv A' outer s H vs Q E hr h => ⟨_, (pss_cons (ps_set (i := 1) sc_p_law_odd_line.nd rfl (Or.inl rfl) (pe_lst (pa_cons pe_str (pa_cons pe_str (pa_cons pe_str (pa_cons pe_str (pa_cons pe_str (pa_cons pe_str (pa_cons pe_str (pa_cons pe_str (pa_cons pe_str (pa_cons pe_str (pa_cons pe_str (pa_cons pe_str (pa_cons pe_str (pa_cons pe_str (pa_cons pe_str pa_nil)))))))))))))))))
      (pss_cons (ps_set (i := 1) sc_p_law_odd_line.nd rfl (Or.inl rfl) (pe_op op_cat (pv 1) (pe_lst (pa_cons pe_str (pa_cons pe_str (pa_cons pe_str (pa_cons pe_str (pa_cons pe_str (pa_cons pe_str (pa_cons pe_str (pa_cons pe_str (pa_cons pe_str pa_nil))))))))))))
      (pss_one (ps_ret (pe_ix ix_list (pv 1) (pv 0) (fun _ _ => rfl)))))), entry (U := [.un]) (fun _ => rfl) h fun g hp hE => ?_⟩)
  dsimp only [cxOf, L2.Cx.nox, L2.Cx.wish, List.cons_append, List.nil_append]
  obtain ⟨h0, h1⟩ := hp
  repeat tm_at "zs"
  have hk : g = 0 ∨ g = 1 ∨ g = 2 ∨ g = 3 ∨ g = 4 ∨ g = 5 ∨ g = 6 ∨ g = 7 ∨ g = 8 ∨ g = 9 ∨ g = 10 ∨ g = 11 ∨ g = 12 ∨ g = 13 ∨ g = 14 ∨ g = 15 ∨ g = 16 ∨ g = 17 ∨ g = 18 ∨ g = 19 ∨ g = 20 ∨ g = 21 ∨ g = 22 ∨ g = 23 := by omega
  rcases hk with rfl | rfl | rfl | rfl | rfl | rfl | rfl | rfl | rfl | rfl | rfl | rfl | rfl | rfl | rfl | rfl | rfl | rfl | rfl | rfl | rfl | rfl | rfl | rfl
  all_goals
    refine nixL_mk rfl rfl ?_
    repeat tm_at "zs"
    exact ⟨_, rfl, Nat.le_of_ble_eq_true (by decide +kernel), Nat.le_of_ble_eq_true (by decide +kernel)⟩
abbrev sp_p_law_turned (K : PySem.W.Frag) (A : Ad) : Sp := SpD K (α := Str × Int × Int × Nat) (fun g => [.im (.str g.1), .im (.int g.2.1), .im (.int g.2.2.1), .im (.str ⟨#[g.2.2.2]⟩)]) (fun g => Sh 65 20000 g.1) (fun g r => ∃ z : Str, r = .im (.str z) ∧ Sh 131 40001 z) noX
theorem ok_p_law_turned (T : Txt K mg A w) : FnOk P w K mg base CX0 1 A.f_p_law_turned A.d_p_law_turned ["_law_line", "_law_way_here", "_law_place", "_law_sign"] (sp_p_law_turned K A) := by
  refine T.F_p_law_turned.ok (k := 0) sc_p_law_turned (SpD.len fun _ => rfl) (fun cdv A' outer s H vs Q E hr h => ⟨_, (pss_cons (ps_set (i := 4) sc_p_law_turned.nd rfl (Or.inl rfl) (pe_op op_mod (pv 2) (pe_op op_add (pe_callB call_len (by rfl) T.n_len (by decide +kernel) (pa_cons (pv 0) pa_nil)) pe_int)))
      (pss_cons (ps_if (pt_cmpR (op_eqD hr.units) (pv 1) pe_int (nomark _)) (pss_one (ps_ret (pe_op op_add_str (pe_op op_add_str (pe_slice sl_str (pv 0) po_none (po_some (pv 4))) (pv 3)) (pe_slice sl_str (pv 0) (po_some (pv 4)) po_none)))) pss_nil)
      (pss_cons (ps_if (pt_cmpR (op_eqD hr.units) (pv 1) pe_int (nomark _)) (pss_one (ps_ret (pe_op op_add_str (pe_op op_add_str (pe_slice sl_str (pv 0) po_none (po_some (pv 4))) (pv 3)) (pe_slice sl_str (pv 0) (po_some (pe_op op_add (pv 4) pe_int)) po_none)))) pss_nil)
      (pss_cons (ps_if (pt_cmpR (op_eqD hr.units) (pv 1) pe_int (nomark _)) (pss_one (ps_ret (pe_op op_add_str (pe_slice sl_str (pv 0) po_none (po_some (pv 4))) (pe_slice sl_str (pv 0) (po_some (pe_op op_add (pv 4) pe_int)) po_none)))) pss_nil)
      (pss_one (ps_ret (pv 0))))))), entry (U := [.un]) (fun _ => rfl) h fun g hp hE => ?_⟩)
  dsimp only [cxOf, L2.Cx.nox, L2.Cx.wish, List.cons_append, List.nil_append]
  have s1 : (50000 : Nat) ≤ sizeLine := by decide
  obtain ⟨z, w, p, c⟩ := g
  dsimp only at hp ⊢
  have c1 := fun lo hi => cutS_le z lo hi
  have l1 := len_one c
  have hl := hp.2
  have hz : z.length ≤ sizeLine := by omega
  refine wS_seq (wS_asg ?_); (repeat tm_at "zx")
  refine nlen_str hz ?_
  repeat tm_at "zx"
  refine wS_seq (wS_if ?_)
  repeat tm_at "zx"
  refine ite_d (fun _ => ?_) (fun _ => ?_)
  · repeat tm_at "zs"
    have k1 := c1 none (some (p % ((z.length : Int) + 1)))
    refine nside_mk (by omega) ?_
    repeat tm_at "zs"
    have k2 := c1 (some (p % ((z.length : Int) + 1))) none
    refine nside_mk (by rw [len_app]; omega) ?_
    repeat tm_at "zs"
    exact ⟨_, rfl, ((hp.cut _ _).app (Sh.one c)).app (hp.cut _ _)⟩
  refine wS_next ?_
  refine wS_seq (wS_if ?_)
  repeat tm_at "zx"
  refine ite_d (fun _ => ?_) (fun _ => ?_)
  · repeat tm_at "zs"
    have k1 := c1 none (some (p % ((z.length : Int) + 1)))
    refine nside_mk (by omega) ?_
    repeat tm_at "zs"
    have k2 := c1 (some (p % ((z.length : Int) + 1) + 1)) none
    refine nside_mk (by rw [len_app]; omega) ?_
    repeat tm_at "zs"
    exact ⟨_, rfl, ((hp.cut _ _).app (Sh.one c)).app (hp.cut _ _)⟩
  refine wS_next ?_
  refine wS_seq (wS_if ?_)
  repeat tm_at "zx"
  refine ite_d (fun _ => ?_) (fun _ => ?_)
  · repeat tm_at "zs"
    have k1 := c1 none (some (p % ((z.length : Int) + 1)))
    have k2 := c1 (some (p % ((z.length : Int) + 1) + 1)) none
    refine nside_mk (by omega) ?_
    repeat tm_at "zs"
    exact ⟨_, rfl, ((hp.cut _ _).app (hp.cut _ _)).mono (by decide) (by decide)⟩
  refine wS_next ?_
  repeat tm_at "zs"
  exact ⟨z, rfl, hp.mono (by decide) (by decide)⟩
theorem ok_p_law_alone (T : Txt K mg A w) {D : Addr} {b0 b1 b2 b3 b4 b5 b6 : Bool} (Kd : Kinds K D [A.c_NoFraction, A.c_NoPath, A.c_NoBounds, A.c_NoRoom, A.c_Unsure, A.c_NoText, A.c_NoNumber] [b0, b1, b2, b3, b4, b5, b6]) (hc : (([b0, b1, b2, b3, b4, b5, b6] : List Bool).count true) = 1) : FnP P w K mg base CX0 1 A.f_p_law_alone A.d_p_law_alone ["_law_e"] (spAl D) := by
  refine fnp_of T.F_p_law_alone sc_p_law_alone (fun p vs H Q E h => by obtain ⟨rfl, _⟩ := h; rfl) (fun cdv A' outs s H vs Q E p hot hr h => ?_)
  obtain ⟨rfl, hz, hf, k⟩ := h
  refine ⟨_, pss_cons (ps_set (i := 1) sc_p_law_alone.nd rfl (Or.inl rfl) (pe_lst (pa_cons (pe_callB (call_isP Kd.ex (List.mem_singleton.mpr rfl) hz hf) (by rfl) T.n_isinstance (by decide +kernel) (pa_cons (pv 0) (pa_cons (pe_glob (v := .ref A.c_NoFraction) (by rfl) T.g_NoFraction rfl) pa_nil))) (pa_cons (pe_callB (call_isP Kd.ex (List.mem_singleton.mpr rfl) hz hf) (by rfl) T.n_isinstance (by decide +kernel) (pa_cons (pv 0) (pa_cons (pe_glob (v := .ref A.c_NoPath) (by rfl) T.g_NoPath rfl) pa_nil))) (pa_cons (pe_callB (call_isP Kd.ex (List.mem_singleton.mpr rfl) hz hf) (by rfl) T.n_isinstance (by decide +kernel) (pa_cons (pv 0) (pa_cons (pe_glob (v := .ref A.c_NoBounds) (by rfl) T.g_NoBounds rfl) pa_nil))) (pa_cons (pe_callB (call_isP Kd.ex (List.mem_singleton.mpr rfl) hz hf) (by rfl) T.n_isinstance (by decide +kernel) (pa_cons (pv 0) (pa_cons (pe_glob (v := .ref A.c_NoRoom) (by rfl) T.g_NoRoom rfl) pa_nil))) pa_nil))))))
    (pss_cons (ps_set (i := 1) sc_p_law_alone.nd rfl (Or.inl rfl) (pe_op op_cat (pv 1) (pe_lst (pa_cons (pe_callB (call_isP Kd.ex (List.mem_singleton.mpr rfl) hz hf) (by rfl) T.n_isinstance (by decide +kernel) (pa_cons (pv 0) (pa_cons (pe_glob (v := .ref A.c_Unsure) (by rfl) T.g_Unsure rfl) pa_nil))) (pa_cons (pe_callB (call_isP Kd.ex (List.mem_singleton.mpr rfl) hz hf) (by rfl) T.n_isinstance (by decide +kernel) (pa_cons (pv 0) (pa_cons (pe_glob (v := .ref A.c_NoText) (by rfl) T.g_NoText rfl) pa_nil))) (pa_cons (pe_callB (call_isP Kd.ex (List.mem_singleton.mpr rfl) hz hf) (by rfl) T.n_isinstance (by decide +kernel) (pa_cons (pv 0) (pa_cons (pe_glob (v := .ref A.c_NoNumber) (by rfl) T.g_NoNumber rfl) pa_nil))) pa_nil))))))
    (pss_one (ps_ret (pe_and (pe_cmpR op_eq (pe_bm PySem.F.plainAttrs_list PySem.F.slot_list_count PySem.F.type_list_count mt_countB (pv 1) (pa_cons pe_bl pa_nil)) pe_int (nomark _)) (pe_one (pe_callB (call_isP Kd.ex (List.mem_singleton.mpr rfl) hz hf) (by rfl) T.n_isinstance (by decide +kernel) (pa_cons (pv 0) (pa_cons (pe_bltn (v := .ty "ValueError") (by rfl) T.n_ValueError (by decide +kernel) rfl) pa_nil)))))))), ?_⟩
  have ks := Kd.ks
  refine ⟨_, rfl, _, _, b0, rfl, fun _ z => z, ks 0 _ _ rfl rfl, _, rfl, _, _, b1, rfl, fun _ z => z, ks 1 _ _ rfl rfl, _, rfl, _, _, b2, rfl, fun _ z => z, ks 2 _ _ rfl rfl, _, rfl, _, _, b3, rfl, fun _ z => z, ks 3 _ _ rfl rfl, by show 4 ≤ sizeLine; decide, fun p1 n1 => ?_⟩
  refine ⟨_, rfl, _, rfl, _, _, b4, rfl, fun _ z => z, ks 4 _ _ rfl rfl, _, rfl, _, _, b5, rfl, fun _ z => z, ks 5 _ _ rfl rfl, _, rfl, _, _, b6, rfl, fun _ z => z, ks 6 _ _ rfl rfl, by show 3 ≤ sizeLine; decide, fun p2 n2 => ?_⟩
  have g1 : upd (upd H p1 (.lst [.bl b0, .bl b1, .bl b2, .bl b3])) p2 (.lst [.bl b4, .bl b5, .bl b6]) p1 = some (.lst [.bl b0, .bl b1, .bl b2, .bl b3]) := by
    rw [upd_ne (ne_of_none upd_same n2)]
    exact upd_same
  refine ⟨p1, p2, _, _, rfl, rfl, g1, upd_same, by show 7 ≤ sizeLine; decide, fun p3 n3 => ?_⟩
  refine ⟨_, rfl, .inl ⟨rfl, _, .inl (.inl upd_same)⟩, p3, [b0, b1, b2, b3, b4, b5, b6], rfl, rfl, .inl (.inl upd_same), rfl, ?_⟩
  rw [hc]
  refine ⟨true, rfl, ?_⟩
  refine iteT ?_
  refine ⟨_, rfl, _, _, true, rfl, fun _ z => z, Kd.ve, ?_⟩
  exact k _ (((same_upd n1).trans (same_upd n2)).trans (same_upd n3))
abbrev sp_p_law_refused (K : PySem.W.Frag) (A : Ad) : Sp := SpD K (α := Str) (fun z => [.im (.str z)]) (fun z => Sh 600 99000 z ∧ readS z = none) (fun _ r => r = .im (.bool true)) noX
theorem ok_p_law_refused (T : Txt K mg A w) : FnOk P w K mg base CX0 6 A.f_p_law_refused A.d_p_law_refused ["_law_line"] (sp_p_law_refused K A) := by
  refine T.F_p_law_refused.ok (k := 5) sc_p_law_refused (SpD.len fun _ => rfl) (fun cdv A' outer s H vs Q E hr h => ⟨_, (pss_cons (L2N.ps_try_as (i := 1) (tb := fun W => tDrop (tCallS (sp_read K A) (WE W) (tCons (tVar 0) tNil))) (ts := tsR K A.c_NoText 1 (fun a oe => tCall (spAl A.c_NoText (a, oe)) [] E0 (tCons (tVar 1) tNil))) (Wout := fun _ _ _ _ => False) rfl rfl sc_p_law_refused.nd rfl rfl ⟨rfl, by decide, .inl T.g_FractionError⟩ takes0N (fun W pn xe tk _ => pss_one (ps_expr (pe_callS (ok_read T) (hr.mono (by decide)) (by rfl) T.m_read T.F_read.kp T.b_read (fun σ => L2N.passAt tk σ) (pa_cons (pv 0) pa_nil)))) (fun a oe cls d pn hz hf => PSs.when fun hc => (by obtain ⟨rfl, rfl⟩ := hc; exact PSs.imp (pss_one (ps_ret (pe_and (pe_callB (call_isP T.e_NoText.ex List.mem_cons_self ⟨hz.1, hz.2.1⟩ hf) (by rfl) T.n_isinstance (by decide +kernel) (pa_cons (pv 1) (pa_cons (pe_glob (v := .ref A.c_NoText) (by rfl) T.g_NoText rfl) pa_nil))) (pe_one (pe_callP (ok_p_law_alone T T.e_NoText rfl) ⟨(L2H.roomH_of (hr.mono (show (1 : Nat) ≤ _ by decide))).dp, (L2H.roomH_of (hr.mono (show (1 : Nat) ≤ _ by decide))).un⟩ (by obtain ⟨fs, hfs⟩ := hf; exact ⟨rfl, fs, hfs, hz.2.2 fs hfs⟩) List.mem_cons_self (by rfl) T.m_p_law_alone T.F_p_law_alone.kp T.b_p_law_alone (pa_cons (pv 1) pa_nil)))))) (fun Dn σ H z => z oe hz hf)))) (pss_one (ps_ret pe_bl))), entry (U := [.un]) (fun _ => rfl) h fun g hp hE => ?_⟩)
  dsimp only [cxOf, L2.Cx.nox, L2.Cx.wish, List.cons_append, List.nil_append]
  obtain ⟨h0, h1⟩ := hp
  refine wS_seq (wS_refused (T.e_NoText.ks 5 _ _ rfl rfl) T.em_NoText (fun a oe σ H' Q' hl hs hz hf k => ⟨_, hs, rfl, hz, hf, k⟩) rfl rfl rfl ?_)
  repeat tm_at "zs"
  exact ⟨g, rfl, h0, fun r z => (by obtain ⟨rs, e, _⟩ := z; rw [h1] at e; cases e), fun C z => z.1⟩
abbrev sp_p_law_whole (K : PySem.W.Frag) (A : Ad) : Sp := SpD K (α := PyData) (fun d => [.im d]) (fun _ => True) (fun d r => r = .im (.bool (whD d))) noX
theorem ok_p_law_whole (T : Txt K mg A w) : FnOk P w K mg base CX0 1 A.f_p_law_whole A.d_p_law_whole ["_law_found"] (sp_p_law_whole K A) := by
  refine T.F_p_law_whole.ok (k := 0) sc_p_law_whole (SpD.len fun _ => rfl) (fun cdv A' outer s H vs Q E hr h => ⟨_, (pss_one (ps_ret (pe_and (pe_callB call_isi (by rfl) T.n_isinstance (by decide +kernel) (pa_cons (pv 0) (pa_cons (pe_bltn (v := .ty "int") (by rfl) T.n_int (by decide +kernel) rfl) pa_nil))) (pe_one (pe_not (pe_callB call_isi (by rfl) T.n_isinstance (by decide +kernel) (pa_cons (pv 0) (pa_cons (pe_bltn (v := .ty "bool") (by rfl) T.n_bool (by decide +kernel) rfl) pa_nil)))))))), entry (U := []) (fun _ => rfl) h fun g hp hE => ?_⟩)
  dsimp only [cxOf, L2.Cx.nox, L2.Cx.wish, List.cons_append, List.nil_append]
  repeat tm_at "zs"
  refine ite_b (fun h => ?_) (fun h => ?_)
  · repeat tm_at "zs"
    show Sl.im _ = Sl.im _
    unfold whD
    have h' : kt (tyD g) "int" = true := h
    rw [h', Bool.true_and]
    rfl
  · repeat tm_at "zs"
    show Sl.im _ = Sl.im _
    unfold whD
    have h' : kt (tyD g) "int" = false := h
    rw [h', Bool.false_and]
abbrev sp_p_law_is_path (K : PySem.W.Frag) (A : Ad) : Sp := SpD K (α := List PRun) (fun rs => [.bor (runsD rs)]) (fun rs => Path rs) (fun _ r => r = .im (.bool true)) noX
theorem ok_p_law_is_path (T : Txt K mg A w) : FnOk P w K mg base CX0 2 A.f_p_law_is_path A.d_p_law_is_path ["_law_path"] (sp_p_law_is_path K A) := by
  refine T.F_p_law_is_path.ok (k := 1) sc_p_law_is_path (SpD.len fun _ => rfl) (fun cdv A' outer s H vs Q E hr h => ⟨_, (pss_cons (ps_if (pt_not (pt_val (pe_callB call_isi (by rfl) T.n_isinstance (by decide +kernel) (pa_cons (pv 0) (pa_cons (pe_bltn (v := .ty "list") (by rfl) T.n_list (by decide +kernel) rfl) pa_nil))))) (pss_one (ps_ret pe_bl)) pss_nil)
      (pss_cons (ps_set (i := 1) sc_p_law_is_path.nd rfl (Or.inl rfl) pe_str)
      (pss_cons (ps_for PassesOwn.never rfl (pi_list (pv 0)) (pg_name (i := 2) sc_p_law_is_path.nd rfl (Or.inl rfl)) (pss_cons (ps_if (PW.pt (pw_or (pt_not (pt_val (pe_callB call_isi (by rfl) T.n_isinstance (by decide +kernel) (pa_cons (pv 2) (pa_cons (pe_bltn (v := .ty "tuple") (by rfl) T.n_tuple (by decide +kernel) rfl) pa_nil))))) (pw_or (pt_cmpR (op_neD hr.units) (pe_callB call_len (by rfl) T.n_len (by decide +kernel) (pa_cons (pv 2) pa_nil)) pe_int (nomark _)) (pw_or (pt_not (pt_val (pe_callB call_isi (by rfl) T.n_isinstance (by decide +kernel) (pa_cons (pe_ix ix_tup (pv 2) pe_int (fun _ _ => rfl)) (pa_cons (pe_bltn (v := .ty "str") (by rfl) T.n_str (by decide +kernel) rfl) pa_nil))))) (pw_or1 (pt_not (pt_val (pe_call (ok_p_law_whole T) (hr.mono (by decide)) (by rfl) T.m_p_law_whole T.F_p_law_whole.kp T.b_p_law_whole .nil pass0 (pa_cons (pe_ix ix_tup (pv 2) pe_int (fun _ _ => rfl)) pa_nil))))))))) (pss_one (ps_ret pe_bl)) pss_nil)
      (pss_cons (ps_if (PW.pt (pw_or (pt_cmpR op_notIn_seq (pe_ix ix_tup (pv 2) pe_int (fun _ _ => rfl)) (pe_tup (pa_cons pe_str (pa_cons pe_str pa_nil))) (by rfl)) (pw_or (pt_cmpR op_eq (pe_ix ix_tup (pv 2) pe_int (fun _ _ => rfl)) (pv 1) (nomark _)) (pw_or1 (pt_cmpR op_lt (pe_ix ix_tup (pv 2) pe_int (fun _ _ => rfl)) pe_int (nomark _)))))) (pss_one (ps_ret pe_bl)) pss_nil)
      (pss_one (ps_set (i := 1) sc_p_law_is_path.nd rfl (Or.inl rfl) (pe_ix ix_tup (pv 2) pe_int (fun _ _ => rfl)))))))
      (pss_one (ps_ret pe_bl))))), entry (U := [.un, .un]) (fun _ => rfl) h fun g hp hE => ?_⟩)
  dsimp only [cxOf, L2.Cx.nox, L2.Cx.wish, List.cons_append, List.nil_append]
  refine wS_seq (wS_if ?_)
  repeat tm_at "zx"
  refine wS_next ?_
  refine wS_seq (wS_asg ?_); (repeat tm_at "zx")
  refine wS_seq (wS_forB ?_)
  repeat tm_at "zx"
  refine ⟨_, rfl, fun a vs => ⟨Option Bool, fun a => [.bor (runsD g), .im (.str (ahS a)), .un], fun k a => okRuns a (g.drop k), none, by tm_at "zk", rfl, hp, ?_, ?_⟩⟩
  · intro k d a hd hk
    obtain ⟨⟨b, n⟩, hx, rfl⟩ := runs_get hd
    try dsimp only at hk
    rw [drop_more hx] at hk
    obtain ⟨n1, ne, ok⟩ := hk
    have n1' : 1 ≤ n := n1
    refine ⟨_, rfl, rfl, ?_⟩
    refine wS_seq (wS_if ?_)
    repeat' (first | tm_at "zx" | tm_at "zi")
    refine ⟨_, rfl, trivial, fun _ z => z, ?_⟩
    rintro _ rfl
    rw [whD_int]
    repeat tm_at "zx"
    refine wS_next ?_
    refine wS_seq (wS_if ?_)
    repeat tm_at "zx"
    rw [show inD (.str (wayS b)) [.str "left", .str "right"] = true from inD_way b]
    repeat tm_at "zx"
    refine ite_d (fun h => absurd h (ahS_ne ne)) (fun h => ?_)
    repeat tm_at "zx"
    refine ite_d (fun h => by have h' : n < 1 := h; omega) (fun h => ?_)
    refine wS_next ?_
    repeat tm_at "zs"
    exact ⟨some b, by tm_at "zk", ok⟩
  · intro a hk
    repeat tm_at "zs"
    rfl
abbrev sp_p_law_sign_by (K : PySem.W.Frag) (A : Ad) : Sp := SpD K (α := Int) (fun n => [.im (.int n)]) (fun n => 0 ≤ n ∧ n < 94) (fun _ r => ∃ c : Nat, r = .im (.str ⟨#[c]⟩)) noX
theorem ok_p_law_sign_by (T : Txt K mg A w) : FnOk P w K mg base CX0 1 A.f_p_law_sign_by A.d_p_law_sign_by ["_law_cell"] (sp_p_law_sign_by K A) := by
  refine T.F_p_law_sign_by.ok (k := 0) sc_p_law_sign_by (SpD.len fun _ => rfl) (fun cdv A' outer s H vs Q E hr h => ⟨_, (pss_cons (ps_set (i := 1) sc_p_law_sign_by.nd rfl (Or.inl rfl) pe_str)
      (pss_cons (ps_set (i := 1) sc_p_law_sign_by.nd rfl (Or.inl rfl) (pe_op op_add_str (pv 1) pe_str))
      (pss_one (ps_ret (pe_ix ix_str (pv 1) (pv 0) (fun _ _ => rfl)))))), entry (U := [.un]) (fun _ => rfl) h fun g hp hE => ?_⟩)
  dsimp only [cxOf, L2.Cx.nox, L2.Cx.wish, List.cons_append, List.nil_append]
  have sz : (10000 : Nat) ≤ sizeLine := by decide
  obtain ⟨h0, h1⟩ := hp
  refine wS_seq (wS_asg ?_); (repeat tm_at "zx")
  refine wS_seq (wS_asg ?_); (repeat tm_at "zx")
  repeat tm_at "zs"
  have len : ∀ s : Str, s.length = 94 → nixS (.im (.str s)) (.im (.int g)) (fun d => nre (.im (.str d)) fun r => ∃ c : Nat, r = .im (.str ⟨#[c]⟩)) := fun s hs => by
    obtain ⟨c, hc⟩ := at_in h0 (l := tl s) (by rw [← len_tl, hs]; exact h1)
    refine nixS_mk (by omega) hc ?_
    exact nre_mk rfl ⟨c, rfl⟩
  exact len _ (by decide +kernel)
abbrev sp_law (K : PySem.W.Frag) : Sp := SpD K (α := List Int) (fun ns => [.bor (iL ns)]) (fun _ => True) (fun _ r => r = .im (.bool true)) noX
theorem ok_law (T : Txt K mg A w) : FnOk P w K mg base CX0 7 A.f_law A.d_law ["_law_script"] (sp_law K) := by
  refine T.F_law.ok (k := 6) sc_law (SpD.len fun _ => rfl) (fun cdv A' outer s H vs Q E hr h => ⟨_, (pss_cons (ps_set (i := 1) sc_law.nd rfl (Or.inl rfl) (pe_call (ok_p_law_line_of T) (hr.mono (by decide)) (by rfl) T.m_p_law_line_of T.F_p_law_line_of.kp T.b_p_law_line_of .nil pass0 (pa_cons (pe_call (ok_p_law_path_by T) (hr.mono (by decide)) (by rfl) T.m_p_law_path_by T.F_p_law_path_by.kp T.b_p_law_path_by .nil pass0 (pa_cons (pv 0) pa_nil)) pa_nil)))
      (pss_cons (ps_set (i := 2) sc_law.nd rfl (Or.inl rfl) (pe_call (ok_p_law_way T) (hr.mono (by decide)) (by rfl) T.m_p_law_way T.F_p_law_way.kp T.b_p_law_way .nil pass0 (pa_cons (pv 0) (pa_cons pe_int (pa_cons pe_int pa_nil)))))
      (pss_cons (ps_if (pt_cmpR (op_eqD hr.units) (pv 2) pe_int (nomark _)) (pss_one (ps_set (i := 1) sc_law.nd rfl (Or.inl rfl) (pe_call (ok_p_law_odd_line T) (hr.mono (by decide)) (by rfl) T.m_p_law_odd_line T.F_p_law_odd_line.kp T.b_p_law_odd_line .nil pass0 (pa_cons (pe_call (ok_p_law_way T) (hr.mono (by decide)) (by rfl) T.m_p_law_way T.F_p_law_way.kp T.b_p_law_way .nil pass0 (pa_cons (pv 0) (pa_cons pe_int (pa_cons pe_int pa_nil)))) pa_nil)))) pss_nil)
      (pss_cons (ps_if (pt_cmpR op_lt (pv 2) pe_int (nomark _)) (pss_one (ps_set (i := 1) sc_law.nd rfl (Or.inl rfl) (pe_call (ok_p_law_turned T) (hr.mono (by decide)) (by rfl) T.m_p_law_turned T.F_p_law_turned.kp T.b_p_law_turned .nil pass0 (pa_cons (pv 1) (pa_cons (pv 2) (pa_cons (pe_call (ok_p_law_way T) (hr.mono (by decide)) (by rfl) T.m_p_law_way T.F_p_law_way.kp T.b_p_law_way .nil pass0 (pa_cons (pv 0) (pa_cons pe_int (pa_cons pe_int pa_nil)))) (pa_cons (pe_call (ok_p_law_sign_by T) (hr.mono (by decide)) (by rfl) T.m_p_law_sign_by T.F_p_law_sign_by.kp T.b_p_law_sign_by .nil pass0 (pa_cons (pe_call (ok_p_law_way T) (hr.mono (by decide)) (by rfl) T.m_p_law_way T.F_p_law_way.kp T.b_p_law_way .nil pass0 (pa_cons (pv 0) (pa_cons pe_int (pa_cons pe_int pa_nil)))) pa_nil)) pa_nil))))))) pss_nil)
      (pss_cons (ps_if (pt_cmpR (op_eqD hr.units) (pv 2) pe_int (nomark _)) (pss_cons (ps_set (i := 3) sc_law.nd rfl (Or.inl rfl) (pe_split (pv 1) pe_str))
      (pss_cons (ps_set (i := 4) sc_law.nd rfl (Or.inl rfl) (pe_op op_mod (pe_call (ok_p_law_way T) (hr.mono (by decide)) (by rfl) T.m_p_law_way T.F_p_law_way.kp T.b_p_law_way .nil pass0 (pa_cons (pv 0) (pa_cons pe_int (pa_cons pe_int pa_nil)))) (pe_callB call_len (by rfl) T.n_len (by decide +kernel) (pa_cons (pv 3) pa_nil))))
      (pss_cons (ps_asg (pe_op op_add_str (pe_op op_add_str (pe_slice sl_str (pe_ix ix_list (pv 3) (pv 4) (fun _ _ => rfl)) po_none (po_some pe_int)) pe_str) (pe_slice sl_str (pe_ix ix_list (pv 3) (pv 4) (fun _ _ => rfl)) (po_some pe_int) po_none)) (pg_sub (pv 3) (pv 4) set_list))
      (pss_one (ps_set (i := 1) sc_law.nd rfl (Or.inl rfl) (pe_join pe_str (pv 3))))))) pss_nil)
      (pss_cons (ps_if (pt_cmpR (op_eqD hr.units) (pv 2) pe_int (nomark _)) (pss_cons (ps_set (i := 5) sc_law.nd rfl (Or.inl rfl) (pe_ix ix_str pe_str (pe_call (ok_p_law_way T) (hr.mono (by decide)) (by rfl) T.m_p_law_way T.F_p_law_way.kp T.b_p_law_way .nil pass0 (pa_cons (pv 0) (pa_cons pe_int (pa_cons pe_int pa_nil)))) (fun _ _ => rfl)))
      (pss_one (ps_set (i := 1) sc_law.nd rfl (Or.inl rfl) (pe_call (ok_p_law_turned T) (hr.mono (by decide)) (by rfl) T.m_p_law_turned T.F_p_law_turned.kp T.b_p_law_turned .nil pass0 (pa_cons (pv 1) (pa_cons pe_int (pa_cons (pe_call (ok_p_law_way T) (hr.mono (by decide)) (by rfl) T.m_p_law_way T.F_p_law_way.kp T.b_p_law_way .nil pass0 (pa_cons (pv 0) (pa_cons pe_int (pa_cons pe_int pa_nil)))) (pa_cons (pv 5) pa_nil)))))))) pss_nil)
      (pss_cons (ps_set (i := 6) sc_law.nd rfl (Or.inl rfl) (pe_call (ok_p_law_due_of T) (hr.mono (by decide)) (by rfl) T.m_p_law_due_of T.F_p_law_due_of.kp T.b_p_law_due_of .nil pass0 (pa_cons (pv 1) pa_nil)))
      (pss_cons (ps_if (pt_cmpR op_isN (pv 6) pe_non (nomark _)) (pss_one (ps_ret (pe_call (ok_p_law_refused T) (hr.mono (by decide)) (by rfl) T.m_p_law_refused T.F_p_law_refused.kp T.b_p_law_refused .nil pass0 (pa_cons (pv 1) pa_nil)))) pss_nil)
      (pss_cons (ps_set (i := 7) sc_law.nd rfl (Or.inl rfl) (pe_call (ok_read T) (hr.mono (by decide)) (by rfl) T.m_read T.F_read.kp T.b_read .nil passNL (pa_cons (pv 1) pa_nil)))
      (pss_cons (ps_if (PW.pt (pw_or (pt_not (pt_val (pe_call (ok_p_law_is_path T) (hr.mono (by decide)) (by rfl) T.m_p_law_is_path T.F_p_law_is_path.kp T.b_p_law_is_path .nil pass0 (pa_cons (pv 7) pa_nil)))) (pw_or1 (pt_cmpR (op_neD hr.units) (pv 7) (pv 6) (nomark _))))) (pss_one (ps_ret pe_bl)) pss_nil)
      (pss_cons (ps_expr (pe_bm PySem.F.plainAttrs_list PySem.F.slot_list_append PySem.F.type_list_append mt_append (pv 7) (pa_cons (pe_tup (pa_cons pe_str (pa_cons pe_int pa_nil))) pa_nil)))
      (pss_cons (ps_set (i := 8) sc_law.nd rfl (Or.inl rfl) (pe_call (ok_read T) (hr.mono (by decide)) (by rfl) T.m_read T.F_read.kp T.b_read .nil passNL (pa_cons (pv 1) pa_nil)))
      (pss_one (ps_ret (pe_and (pe_call (ok_p_law_is_path T) (hr.mono (by decide)) (by rfl) T.m_p_law_is_path T.F_p_law_is_path.kp T.b_p_law_is_path .nil pass0 (pa_cons (pv 8) pa_nil)) (pe_one (pe_cmpR (op_eqD hr.units) (pv 8) (pv 6) (nomark _)))))))))))))))))), entry (U := [.un, .un, .un, .un, .un, .un, .un, .un]) (fun _ => rfl) h fun g hp hE => ?_⟩)
  dsimp only [cxOf, L2.Cx.nox, L2.Cx.wish, List.cons_append, List.nil_append]
  have s1 : (99002 : Nat) ≤ sizeLine := by decide
  refine wS_seq (wS_asg ?_); (repeat tm_at "zx")
  refine ⟨g, rfl, trivial, fun _ z => z, ?_⟩
  rintro _ ⟨rs, rfl, path, bnd, len⟩
  repeat tm_at "zx"
  have wr : Wr rs := ⟨fun x hx => ⟨okRuns_pos path x hx, (bnd x hx).mono (by decide)⟩, by omega⟩
  have sh := wr.sh2 len
  refine ⟨rs, rfl, wr, fun _ z => z, ?_⟩
  rintro _ rfl
  repeat tm_at "zx"
  refine wS_seq (wS_asg ?_); (repeat tm_at "zx")
  refine ⟨(g, 4, 8), rfl, ⟨by tm_at "zo", by tm_at "zo"⟩, fun _ z => z, ?_⟩
  rintro _ rfl
  try dsimp only
  repeat tm_at "zx"
  obtain ⟨w0, w1⟩ := wayI_in (ns := g) (k := 4) (q := 8) (by decide)
  generalize wayI g 4 8 = w at w0 w1 ⊢
  refine wS_cut (α := Str) (fun z => [.bor (iL g), .im (.str z), .im (.int w), .un, .un, .un, .un, .un, .un]) (fun z => Sh 65 20000 z ∧ (w ≠ 7 → z = lineS rs)) ?_ ?_
  · refine wS_if ?_
    repeat tm_at "zx"
    refine ite_d (fun h => ?_) (fun h => ?_)
    · repeat tm_at "zs"
      refine ⟨(g, 5, 24), rfl, ⟨by tm_at "zo", by tm_at "zo"⟩, fun _ z => z, ?_⟩
      rintro _ rfl
      try dsimp only
      repeat tm_at "zs"
      obtain ⟨v0, v1⟩ := wayI_in (ns := g) (k := 5) (q := 24) (by decide)
      refine ⟨_, rfl, ⟨v0, v1⟩, fun _ z => z, ?_⟩
      rintro _ ⟨z, rfl, zs⟩
      repeat tm_at "zs"
      exact ⟨z, by tm_at "zk", zs, fun q => absurd h q⟩
    · exact wS_next ⟨lineS rs, by tm_at "zk", sh, fun _ => rfl⟩
  rintro z0 ⟨sh0, ez⟩
  refine wS_cut (α := Str) (fun z => [.bor (iL g), .im (.str z), .im (.int w), .un, .un, .un, .un, .un, .un]) (fun z => Sh 131 40001 z ∧ (4 ≤ w → Sh 65 20000 z ∧ (w ≠ 7 → z = lineS rs))) ?_ ?_
  · refine wS_if ?_
    repeat tm_at "zx"
    refine ite_d (fun h => ?_) (fun h => ?_)
    · repeat tm_at "zs"
      refine ⟨(g, 5, 100003), rfl, ⟨by tm_at "zo", by tm_at "zo"⟩, fun _ z => z, ?_⟩
      rintro _ rfl
      try dsimp only
      repeat tm_at "zs"
      refine ⟨(g, 6, 94), rfl, ⟨by tm_at "zo", by tm_at "zo"⟩, fun _ z => z, ?_⟩
      rintro _ rfl
      try dsimp only
      repeat tm_at "zs"
      obtain ⟨v0, v1⟩ := wayI_in (ns := g) (k := 6) (q := 94) (by decide)
      refine ⟨_, rfl, ⟨v0, v1⟩, fun _ z => z, ?_⟩
      rintro _ ⟨c, rfl⟩
      repeat tm_at "zs"
      refine ⟨(z0, w, _, c), rfl, sh0, fun _ z => z, ?_⟩
      rintro _ ⟨z, rfl, zs⟩
      repeat tm_at "zs"
      exact ⟨z, by tm_at "zk", zs, fun q => by omega⟩
    · exact wS_next ⟨z0, by tm_at "zk", sh0.mono (by decide) (by decide), fun _ => ⟨sh0, ez⟩⟩
  clear ez sh0
  clear z0
  rintro z0 ⟨sh0, sh4⟩
  refine wS_cut (α := Str) (fun z => [.bor (iL g), .im (.str z), .im (.int w), .un, .un, .un, .un, .un, .un]) (fun z => Sh 200 50000 z ∧ (w = 6 → Sh 65 20000 z)) ?_ ?_
  · refine wS_if ?_
    repeat tm_at "zx"
    refine ite_d (fun h => ?_) (fun h => ?_)
    · have ez := (sh4 (by omega)).2 (by omega)
      subst ez
      obtain ⟨ys, ey, y1, y2, y3⟩ := wr.split2 len
      have ll := sh.2
      refine wS_seq (wS_asg ?_); (repeat tm_at "zx")
      refine nside_mk ⟨by decide +kernel, by omega⟩ ?_
      rw [ey]
      repeat tm_at "zx"
      have el : (ys.map PyData.str).length = ys.length := List.length_map _
      refine wS_seq (wS_asg ?_); (repeat tm_at "zx")
      refine ⟨(g, 5, 100003), rfl, ⟨by tm_at "zo", by tm_at "zo"⟩, fun _ z => z, ?_⟩
      rintro _ rfl
      try dsimp only
      repeat tm_at "zx"
      rw [el]
      have i0 := Int.emod_nonneg (wayI g 5 100003) (show (ys.length : Int) ≠ 0 by omega)
      have i1 := Int.emod_lt_of_pos (wayI g 5 100003) (show (0 : Int) < ys.length by omega)
      generalize hi : wayI g 5 100003 % (ys.length : Int) = i at i0 i1 ⊢
      obtain ⟨j, rfl⟩ : ∃ j : Nat, i = (j : Int) := ⟨i.toNat, by omega⟩
      have jl : j < ys.length := by omega
      have gx : ys[j]? = some ys[j] := List.getElem?_eq_getElem jl
      have gd : atI (ys.map PyData.str) (j : Int) = some (.str ys[j]) := atI_nat (by rw [List.getElem?_map, gx]; rfl)
      have ix : ixN (ys.map PyData.str).length (j : Int) = some j := ixN_nat (by rw [el]; exact jl)
      have yl := y3 _ (List.getElem_mem jl)
      generalize ys[j] = y at gx gd yl ⊢
      have k1 := cutS_le y none (some 1)
      have k2 := cutS_le y (some 1) none
      have l0 : ("0" : Str).length = 1 := by decide +kernel
      refine wS_seq (wS_setL rfl ?_)
      repeat tm_at "zx"
      refine nixL_mk rfl gd ?_
      repeat tm_at "zx"
      refine nixL_mk rfl gd ?_
      repeat tm_at "zx"
      refine nside_mk (by rw [len_app]; omega) ?_
      refine ⟨_, rfl, ?_⟩
      repeat tm_at "zx"
      refine ⟨_, j, rfl, ix, ?_⟩
      have wl : (cutS y none (some 1) ++ "0" ++ cutS y (some 1) none).length ≤ 131 := by rw [len_app, len_app]; omega
      generalize cutS y none (some 1) ++ "0" ++ cutS y (some 1) none = W at wl ⊢
      have es : (ys.map PyData.str).set j (.str W) = strsD (ys.set j W) := (List.map_set).symm
      rw [es]
      have all : ∀ v ∈ ys.set j W, v.length ≤ 131 := fun v hv => by
        rcases List.mem_or_eq_of_mem_set hv with q | q
        · have := y3 v q; omega
        · rw [q]; exact wl
      have sm := sum_le' all
      have lb : (" " : Str).length = 1 := by decide +kernel
      have ls : (ys.set j W).length = ys.length := List.length_set
      have jl2 := join_len " " (ys.set j W)
      rw [lb] at jl2
      rw [ls] at sm jl2
      refine wS_asg ?_
      repeat tm_at "zx"
      refine ⟨ys.set j W, rfl, ?_⟩
      refine nside_mk (by rw [lb, ls]; omega) ?_
      repeat tm_at "zs"
      exact ⟨_, by tm_at "zk", ⟨Nat.le_trans (mr_joinS all) (by decide), by omega⟩, fun q => by omega⟩
    · exact wS_next ⟨z0, by tm_at "zk", sh0.mono (by decide) (by decide), fun q => (sh4 (by omega)).1⟩
  clear sh0 sh4
  clear z0
  rintro z0 ⟨sh0, sh6⟩
  refine wS_cut (α := Str) (fun z => [.bor (iL g), .im (.str z), .im (.int w), .un, .un, .un, .un, .un, .un]) (fun z => Sh 600 99000 z) ?_ ?_
  · refine wS_if ?_
    repeat tm_at "zx"
    refine ite_d (fun h => ?_) (fun h => ?_)
    · refine wS_seq (wS_asg ?_); (repeat tm_at "zx")
      refine ⟨(g, 6, 13), rfl, ⟨by tm_at "zo", by tm_at "zo"⟩, fun _ z => z, ?_⟩
      rintro _ rfl
      try dsimp only
      repeat tm_at "zx"
      obtain ⟨v0, v1⟩ := wayI_in (ns := g) (k := 6) (q := 13) (by decide)
      obtain ⟨c, hc⟩ := at_in v0 (l := tl ("LR 0123456789" : Str)) (show wayI g 6 13 < (((tl ("LR 0123456789" : Str)).length : Nat) : Int) from (by
        have e : (tl ("LR 0123456789" : Str)).length = 13 := (by decide +kernel)
        rw [e]
        exact v1))
      refine nixS_mk (by decide +kernel) hc ?_
      repeat tm_at "zs"
      refine ⟨(g, 5, 100003), rfl, ⟨by tm_at "zo", by tm_at "zo"⟩, fun _ z => z, ?_⟩
      rintro _ rfl
      try dsimp only
      repeat tm_at "zs"
      refine ⟨(z0, 2, _, c), rfl, sh6 h, fun _ z => z, ?_⟩
      rintro _ ⟨z, rfl, zs⟩
      repeat tm_at "zs"
      exact ⟨z, by tm_at "zk", zs.mono (by decide) (by decide)⟩
    · exact wS_next ⟨z0, by tm_at "zk", sh0.mono (by decide) (by decide)⟩
  clear sh0 sh6
  clear z0
  rintro z zs
  refine wS_seq (wS_asg ?_); (repeat tm_at "zx")
  refine ⟨z, rfl, zs, fun _ z => z, ?_⟩
  rintro _ (⟨hd, rfl⟩ | ⟨ts, hd, rfl⟩)
  · repeat tm_at "zx"
    refine wS_seq (wS_if ?_)
    repeat tm_at "zx"
    refine iteT ?_
    repeat tm_at "zs"
    refine ⟨z, rfl, ⟨zs, hd⟩, fun _ z => z, ?_⟩
    rintro _ rfl
    repeat tm_at "zs"
    rfl
  repeat tm_at "zx"
  have e1 : (runsD ts).length = ts.length := List.length_map _
  obtain ⟨tp, tlen⟩ := read_ok hd
  have zl := zs.2
  refine wS_seq (wS_if ?_)
  repeat tm_at "zx"
  refine iteF ?_
  refine wS_next ?_
  refine wS_seq (wS_asg ?_); (repeat tm_at "zx")
  refine ⟨z, rfl, zs, fun C q => (by have := q.2; rw [hd] at this; cases this), ?_⟩
  rintro _ ⟨us, he, rfl⟩
  have e2 : us = ts := by rw [hd] at he; exact (Option.some.inj he).symm
  subst e2
  repeat tm_at "zx"
  refine wS_seq (wS_if ?_)
  repeat tm_at "zx"
  refine ⟨us, rfl, tp, fun _ z => z, ?_⟩
  rintro _ rfl
  repeat (first | refine neq_runs rfl rfl ?_ | tm_at "zx")
  refine ite_n (fun h => absurd rfl h) (fun _ => ?_)
  refine wS_next ?_
  refine wS_seq (wS_app rfl (by omega) ?_)
  repeat tm_at "zx"
  refine wS_seq (wS_asg ?_); (repeat tm_at "zx")
  refine ⟨z, rfl, zs, fun C q => (by have := q.2; rw [hd] at this; cases this), ?_⟩
  rintro _ ⟨vs2, he2, rfl⟩
  have e3 : vs2 = us := by rw [hd] at he2; exact (Option.some.inj he2).symm
  subst e3
  repeat tm_at "zs"
  refine ⟨vs2, rfl, tp, fun _ z => z, ?_⟩
  rintro _ rfl
  repeat (first | refine neq_runs rfl rfl ?_ | tm_at "zs")
  show Sl.im _ = Sl.im _
  rw [decide_eq_true rfl]
end
theorem all_mk {P : Program} {w : World} {K : PySem.W.Frag} {h : Heap} {mg : Str → Option Value} {fa : Addr} (X : K.In h) (G : h.Ns mainGlobals mg) (hfa : mg "law" = some (.ref fa))
    {f_0 f_1 f_2 f_3 f_4 f_5 f_6 f_7 f_8 f_9 f_10 f_11 f_12 f_13 f_14 f_15 f_16 f_17 f_18 c_FractionError c_NoFraction c_NoPath c_NoBounds c_NoRoom c_Unsure c_NoText c_NoNumber : Addr}
    {od_0 an_0 : Option Addr} {sl_0 : Array (Option Value)} {oc_0 kV_0 dc_0 pm_0 cd_0 ct_0 : Value}
    {od_1 an_1 : Option Addr} {sl_1 : Array (Option Value)} {oc_1 kV_1 dc_1 pm_1 cd_1 ct_1 : Value}
    {od_2 an_2 : Option Addr} {sl_2 : Array (Option Value)} {oc_2 kV_2 dc_2 pm_2 cd_2 ct_2 : Value}
    {od_3 an_3 : Option Addr} {sl_3 : Array (Option Value)} {oc_3 kV_3 dc_3 pm_3 cd_3 ct_3 : Value}
    {od_4 an_4 : Option Addr} {sl_4 : Array (Option Value)} {oc_4 kV_4 dc_4 pm_4 cd_4 ct_4 : Value}
    {od_5 an_5 : Option Addr} {sl_5 : Array (Option Value)} {oc_5 kV_5 dc_5 pm_5 cd_5 ct_5 : Value}
    {od_6 an_6 : Option Addr} {sl_6 : Array (Option Value)} {oc_6 kV_6 dc_6 pm_6 cd_6 ct_6 : Value}
    {od_7 an_7 : Option Addr} {sl_7 : Array (Option Value)} {oc_7 kV_7 dc_7 pm_7 cd_7 ct_7 : Value}
    {od_8 an_8 : Option Addr} {sl_8 : Array (Option Value)} {oc_8 kV_8 dc_8 pm_8 cd_8 ct_8 : Value}
    {od_9 an_9 : Option Addr} {sl_9 : Array (Option Value)} {oc_9 kV_9 dc_9 pm_9 cd_9 ct_9 : Value}
    {od_10 an_10 : Option Addr} {sl_10 : Array (Option Value)} {oc_10 kV_10 dc_10 pm_10 cd_10 ct_10 : Value}
    {od_11 an_11 : Option Addr} {sl_11 : Array (Option Value)} {oc_11 kV_11 dc_11 pm_11 cd_11 ct_11 : Value}
    {od_12 an_12 : Option Addr} {sl_12 : Array (Option Value)} {oc_12 kV_12 dc_12 pm_12 cd_12 ct_12 : Value}
    {od_13 an_13 : Option Addr} {sl_13 : Array (Option Value)} {oc_13 kV_13 dc_13 pm_13 cd_13 ct_13 : Value}
    {od_14 an_14 : Option Addr} {sl_14 : Array (Option Value)} {oc_14 kV_14 dc_14 pm_14 cd_14 ct_14 : Value}
    {od_15 an_15 : Option Addr} {sl_15 : Array (Option Value)} {oc_15 kV_15 dc_15 pm_15 cd_15 ct_15 : Value}
    {od_16 an_16 : Option Addr} {sl_16 : Array (Option Value)} {oc_16 kV_16 dc_16 pm_16 cd_16 ct_16 : Value}
    {od_17 an_17 : Option Addr} {sl_17 : Array (Option Value)} {oc_17 kV_17 dc_17 pm_17 cd_17 ct_17 : Value}
    {od_18 an_18 : Option Addr} {sl_18 : Array (Option Value)} {oc_18 kV_18 dc_18 pm_18 cd_18 ct_18 : Value}
    {t_LEFT : Tok}
    {t_RIGHT : Tok}
    {t_TOP : Tok}
    {k_WAYS : Addr}
    {es_WAYS : Array DictEntry} {en_WAYS : Nat} {ta_WAYS tb_WAYS tc_WAYS td_WAYS : Tok}
    (a_0 : PySem.W.nsIn K mainGlobals "is_path" = some (some (.ref f_0)))
    (l_0 : K.lookup f_0 = some ⟨oc_0, od_0, .func (PySem.W.fnOf "is_path" "is_path" (defArgs s_is_path) (defBody s_is_path) (defScope s_is_path) .none kV_0 dc_0 pm_0 an_0 cd_0 ct_0), sl_0⟩)
    (o_0 : PySem.W.codeIn K cd_0 "is_path" = true)
    (k_0 : PySem.W.keepIn K (.ref f_0) = true)
    (a_1 : PySem.W.nsIn K mainGlobals "read" = some (some (.ref f_1)))
    (l_1 : K.lookup f_1 = some ⟨oc_1, od_1, .func (PySem.W.fnOf "read" "read" (defArgs s_read) (defBody s_read) (defScope s_read) .none kV_1 dc_1 pm_1 an_1 cd_1 ct_1), sl_1⟩)
    (o_1 : PySem.W.codeIn K cd_1 "read" = true)
    (k_1 : PySem.W.keepIn K (.ref f_1) = true)
    (a_2 : PySem.W.nsIn K mainGlobals "read_run" = some (some (.ref f_2)))
    (l_2 : K.lookup f_2 = some ⟨oc_2, od_2, .func (PySem.W.fnOf "read_run" "read_run" (defArgs s_read_run) (defBody s_read_run) (defScope s_read_run) .none kV_2 dc_2 pm_2 an_2 cd_2 ct_2), sl_2⟩)
    (o_2 : PySem.W.codeIn K cd_2 "read_run" = true)
    (k_2 : PySem.W.keepIn K (.ref f_2) = true)
    (a_3 : PySem.W.nsIn K mainGlobals "is_figures" = some (some (.ref f_3)))
    (l_3 : K.lookup f_3 = some ⟨oc_3, od_3, .func (PySem.W.fnOf "is_figures" "is_figures" (defArgs s_is_figures) (defBody s_is_figures) (defScope s_is_figures) .none kV_3 dc_3 pm_3 an_3 cd_3 ct_3), sl_3⟩)
    (o_3 : PySem.W.codeIn K cd_3 "is_figures" = true)
    (k_3 : PySem.W.keepIn K (.ref f_3) = true)
    (a_4 : PySem.W.nsIn K mainGlobals "_law_cell_at" = some (some (.ref f_4)))
    (l_4 : K.lookup f_4 = some ⟨oc_4, od_4, .func (PySem.W.fnOf "_law_cell_at" "_law_cell_at" (defArgs s_p_law_cell_at) (defBody s_p_law_cell_at) (defScope s_p_law_cell_at) .none kV_4 dc_4 pm_4 an_4 cd_4 ct_4), sl_4⟩)
    (o_4 : PySem.W.codeIn K cd_4 "_law_cell_at" = true)
    (k_4 : PySem.W.keepIn K (.ref f_4) = true)
    (a_5 : PySem.W.nsIn K mainGlobals "_law_way" = some (some (.ref f_5)))
    (l_5 : K.lookup f_5 = some ⟨oc_5, od_5, .func (PySem.W.fnOf "_law_way" "_law_way" (defArgs s_p_law_way) (defBody s_p_law_way) (defScope s_p_law_way) .none kV_5 dc_5 pm_5 an_5 cd_5 ct_5), sl_5⟩)
    (o_5 : PySem.W.codeIn K cd_5 "_law_way" = true)
    (k_5 : PySem.W.keepIn K (.ref f_5) = true)
    (a_6 : PySem.W.nsIn K mainGlobals "_law_whole" = some (some (.ref f_6)))
    (l_6 : K.lookup f_6 = some ⟨oc_6, od_6, .func (PySem.W.fnOf "_law_whole" "_law_whole" (defArgs s_p_law_whole) (defBody s_p_law_whole) (defScope s_p_law_whole) .none kV_6 dc_6 pm_6 an_6 cd_6 ct_6), sl_6⟩)
    (o_6 : PySem.W.codeIn K cd_6 "_law_whole" = true)
    (k_6 : PySem.W.keepIn K (.ref f_6) = true)
    (a_7 : PySem.W.nsIn K mainGlobals "_law_is_path" = some (some (.ref f_7)))
    (l_7 : K.lookup f_7 = some ⟨oc_7, od_7, .func (PySem.W.fnOf "_law_is_path" "_law_is_path" (defArgs s_p_law_is_path) (defBody s_p_law_is_path) (defScope s_p_law_is_path) .none kV_7 dc_7 pm_7 an_7 cd_7 ct_7), sl_7⟩)
    (o_7 : PySem.W.codeIn K cd_7 "_law_is_path" = true)
    (k_7 : PySem.W.keepIn K (.ref f_7) = true)
    (a_8 : PySem.W.nsIn K mainGlobals "_law_many_by" = some (some (.ref f_8)))
    (l_8 : K.lookup f_8 = some ⟨oc_8, od_8, .func (PySem.W.fnOf "_law_many_by" "_law_many_by" (defArgs s_p_law_many_by) (defBody s_p_law_many_by) (defScope s_p_law_many_by) .none kV_8 dc_8 pm_8 an_8 cd_8 ct_8), sl_8⟩)
    (o_8 : PySem.W.codeIn K cd_8 "_law_many_by" = true)
    (k_8 : PySem.W.keepIn K (.ref f_8) = true)
    (a_9 : PySem.W.nsIn K mainGlobals "_law_path_by" = some (some (.ref f_9)))
    (l_9 : K.lookup f_9 = some ⟨oc_9, od_9, .func (PySem.W.fnOf "_law_path_by" "_law_path_by" (defArgs s_p_law_path_by) (defBody s_p_law_path_by) (defScope s_p_law_path_by) .none kV_9 dc_9 pm_9 an_9 cd_9 ct_9), sl_9⟩)
    (o_9 : PySem.W.codeIn K cd_9 "_law_path_by" = true)
    (k_9 : PySem.W.keepIn K (.ref f_9) = true)
    (a_10 : PySem.W.nsIn K mainGlobals "_law_line_of" = some (some (.ref f_10)))
    (l_10 : K.lookup f_10 = some ⟨oc_10, od_10, .func (PySem.W.fnOf "_law_line_of" "_law_line_of" (defArgs s_p_law_line_of) (defBody s_p_law_line_of) (defScope s_p_law_line_of) .none kV_10 dc_10 pm_10 an_10 cd_10 ct_10), sl_10⟩)
    (o_10 : PySem.W.codeIn K cd_10 "_law_line_of" = true)
    (k_10 : PySem.W.keepIn K (.ref f_10) = true)
    (a_11 : PySem.W.nsIn K mainGlobals "_law_sign_by" = some (some (.ref f_11)))
    (l_11 : K.lookup f_11 = some ⟨oc_11, od_11, .func (PySem.W.fnOf "_law_sign_by" "_law_sign_by" (defArgs s_p_law_sign_by) (defBody s_p_law_sign_by) (defScope s_p_law_sign_by) .none kV_11 dc_11 pm_11 an_11 cd_11 ct_11), sl_11⟩)
    (o_11 : PySem.W.codeIn K cd_11 "_law_sign_by" = true)
    (k_11 : PySem.W.keepIn K (.ref f_11) = true)
    (a_12 : PySem.W.nsIn K mainGlobals "_law_turned" = some (some (.ref f_12)))
    (l_12 : K.lookup f_12 = some ⟨oc_12, od_12, .func (PySem.W.fnOf "_law_turned" "_law_turned" (defArgs s_p_law_turned) (defBody s_p_law_turned) (defScope s_p_law_turned) .none kV_12 dc_12 pm_12 an_12 cd_12 ct_12), sl_12⟩)
    (o_12 : PySem.W.codeIn K cd_12 "_law_turned" = true)
    (k_12 : PySem.W.keepIn K (.ref f_12) = true)
    (a_13 : PySem.W.nsIn K mainGlobals "_law_figures" = some (some (.ref f_13)))
    (l_13 : K.lookup f_13 = some ⟨oc_13, od_13, .func (PySem.W.fnOf "_law_figures" "_law_figures" (defArgs s_p_law_figures) (defBody s_p_law_figures) (defScope s_p_law_figures) .none kV_13 dc_13 pm_13 an_13 cd_13 ct_13), sl_13⟩)
    (o_13 : PySem.W.codeIn K cd_13 "_law_figures" = true)
    (k_13 : PySem.W.keepIn K (.ref f_13) = true)
    (a_14 : PySem.W.nsIn K mainGlobals "_law_due_of" = some (some (.ref f_14)))
    (l_14 : K.lookup f_14 = some ⟨oc_14, od_14, .func (PySem.W.fnOf "_law_due_of" "_law_due_of" (defArgs s_p_law_due_of) (defBody s_p_law_due_of) (defScope s_p_law_due_of) .none kV_14 dc_14 pm_14 an_14 cd_14 ct_14), sl_14⟩)
    (o_14 : PySem.W.codeIn K cd_14 "_law_due_of" = true)
    (k_14 : PySem.W.keepIn K (.ref f_14) = true)
    (a_15 : PySem.W.nsIn K mainGlobals "_law_odd_line" = some (some (.ref f_15)))
    (l_15 : K.lookup f_15 = some ⟨oc_15, od_15, .func (PySem.W.fnOf "_law_odd_line" "_law_odd_line" (defArgs s_p_law_odd_line) (defBody s_p_law_odd_line) (defScope s_p_law_odd_line) .none kV_15 dc_15 pm_15 an_15 cd_15 ct_15), sl_15⟩)
    (o_15 : PySem.W.codeIn K cd_15 "_law_odd_line" = true)
    (k_15 : PySem.W.keepIn K (.ref f_15) = true)
    (a_16 : PySem.W.nsIn K mainGlobals "_law_alone" = some (some (.ref f_16)))
    (l_16 : K.lookup f_16 = some ⟨oc_16, od_16, .func (PySem.W.fnOf "_law_alone" "_law_alone" (defArgs s_p_law_alone) (defBody s_p_law_alone) (defScope s_p_law_alone) .none kV_16 dc_16 pm_16 an_16 cd_16 ct_16), sl_16⟩)
    (o_16 : PySem.W.codeIn K cd_16 "_law_alone" = true)
    (k_16 : PySem.W.keepIn K (.ref f_16) = true)
    (a_17 : PySem.W.nsIn K mainGlobals "_law_refused" = some (some (.ref f_17)))
    (l_17 : K.lookup f_17 = some ⟨oc_17, od_17, .func (PySem.W.fnOf "_law_refused" "_law_refused" (defArgs s_p_law_refused) (defBody s_p_law_refused) (defScope s_p_law_refused) .none kV_17 dc_17 pm_17 an_17 cd_17 ct_17), sl_17⟩)
    (o_17 : PySem.W.codeIn K cd_17 "_law_refused" = true)
    (k_17 : PySem.W.keepIn K (.ref f_17) = true)
    (a_18 : PySem.W.nsIn K mainGlobals "law" = some (some (.ref f_18)))
    (l_18 : K.lookup f_18 = some ⟨oc_18, od_18, .func (PySem.W.fnOf "law" "law" (defArgs s_law) (defBody s_law) (defScope s_law) .none kV_18 dc_18 pm_18 an_18 cd_18 ct_18), sl_18⟩)
    (o_18 : PySem.W.codeIn K cd_18 "law" = true)
    (k_18 : PySem.W.keepIn K (.ref f_18) = true)
    (z_ValueError : PySem.W.nsIn K mainGlobals "ValueError" = some none)
    (z_bool : PySem.W.nsIn K mainGlobals "bool" = some none)
    (z_int : PySem.W.nsIn K mainGlobals "int" = some none)
    (z_isinstance : PySem.W.nsIn K mainGlobals "isinstance" = some none)
    (z_len : PySem.W.nsIn K mainGlobals "len" = some none)
    (z_list : PySem.W.nsIn K mainGlobals "list" = some none)
    (z_range : PySem.W.nsIn K mainGlobals "range" = some none)
    (z_str : PySem.W.nsIn K mainGlobals "str" = some none)
    (z_tuple : PySem.W.nsIn K mainGlobals "tuple" = some none)
    (zc_LEFT : PySem.W.nsIn K mainGlobals "LEFT" = some (some (.str "left" t_LEFT)))
    (zc_RIGHT : PySem.W.nsIn K mainGlobals "RIGHT" = some (some (.str "right" t_RIGHT)))
    (zc_TOP : PySem.W.nsIn K mainGlobals "TOP" = some (some (.str "top" t_TOP)))
    (zc_WAYS : PySem.W.nsIn K mainGlobals "WAYS" = some (some (.ref k_WAYS)))
    (dl_WAYS : K.lookup k_WAYS = some ⟨.type "dict", none, .dict es_WAYS en_WAYS, #[]⟩)
    (dk_WAYS : PySem.W.KeysLit w.params es_WAYS.toList)
    (dy_WAYS : (k_WAYS == sysModules) = false)
    (da_WAYS : PySem.W.nsIn K k_WAYS "L" = some (some (.str "left" tb_WAYS)))
    (db_WAYS : PySem.W.nsIn K k_WAYS "R" = some (some (.str "right" td_WAYS)))
    (de_WAYS : es_WAYS.toList.map (·.key) = [.str "L" ta_WAYS, .str "R" tc_WAYS])
    (ga_FractionError : PySem.W.nsIn K mainGlobals "FractionError" = some (some (.ref c_FractionError)))
    (xa_FractionError : PySem.W.excIn K c_FractionError [.type "ValueError", .type "Exception", .type "BaseException", .type "object"] "ValueError.__new__" = true)
    (ka_FractionError : PySem.W.keepIn K (.ref c_FractionError) = true)
    (sa_FractionError : PySem.W.subIn K (.ref c_FractionError) (.type "BaseException") = some true)
    (ta_FractionError : PySem.W.typeIn K (.ref c_FractionError) = some (.type "type"))
    (ga_NoFraction : PySem.W.nsIn K mainGlobals "NoFraction" = some (some (.ref c_NoFraction)))
    (xa_NoFraction : PySem.W.excIn K c_NoFraction [.type "ValueError", .type "Exception", .type "BaseException", .type "object"] "ValueError.__new__" = true)
    (ka_NoFraction : PySem.W.keepIn K (.ref c_NoFraction) = true)
    (sa_NoFraction : PySem.W.subIn K (.ref c_NoFraction) (.type "BaseException") = some true)
    (ta_NoFraction : PySem.W.typeIn K (.ref c_NoFraction) = some (.type "type"))
    (ga_NoPath : PySem.W.nsIn K mainGlobals "NoPath" = some (some (.ref c_NoPath)))
    (xa_NoPath : PySem.W.excIn K c_NoPath [.type "ValueError", .type "Exception", .type "BaseException", .type "object"] "ValueError.__new__" = true)
    (ka_NoPath : PySem.W.keepIn K (.ref c_NoPath) = true)
    (sa_NoPath : PySem.W.subIn K (.ref c_NoPath) (.type "BaseException") = some true)
    (ta_NoPath : PySem.W.typeIn K (.ref c_NoPath) = some (.type "type"))
    (ga_NoBounds : PySem.W.nsIn K mainGlobals "NoBounds" = some (some (.ref c_NoBounds)))
    (xa_NoBounds : PySem.W.excIn K c_NoBounds [.type "ValueError", .type "Exception", .type "BaseException", .type "object"] "ValueError.__new__" = true)
    (ka_NoBounds : PySem.W.keepIn K (.ref c_NoBounds) = true)
    (sa_NoBounds : PySem.W.subIn K (.ref c_NoBounds) (.type "BaseException") = some true)
    (ta_NoBounds : PySem.W.typeIn K (.ref c_NoBounds) = some (.type "type"))
    (ga_NoRoom : PySem.W.nsIn K mainGlobals "NoRoom" = some (some (.ref c_NoRoom)))
    (xa_NoRoom : PySem.W.excIn K c_NoRoom [.type "ValueError", .type "Exception", .type "BaseException", .type "object"] "ValueError.__new__" = true)
    (ka_NoRoom : PySem.W.keepIn K (.ref c_NoRoom) = true)
    (sa_NoRoom : PySem.W.subIn K (.ref c_NoRoom) (.type "BaseException") = some true)
    (ta_NoRoom : PySem.W.typeIn K (.ref c_NoRoom) = some (.type "type"))
    (ga_Unsure : PySem.W.nsIn K mainGlobals "Unsure" = some (some (.ref c_Unsure)))
    (xa_Unsure : PySem.W.excIn K c_Unsure [.type "ValueError", .type "Exception", .type "BaseException", .type "object"] "ValueError.__new__" = true)
    (ka_Unsure : PySem.W.keepIn K (.ref c_Unsure) = true)
    (sa_Unsure : PySem.W.subIn K (.ref c_Unsure) (.type "BaseException") = some true)
    (ta_Unsure : PySem.W.typeIn K (.ref c_Unsure) = some (.type "type"))
    (ga_NoText : PySem.W.nsIn K mainGlobals "NoText" = some (some (.ref c_NoText)))
    (xa_NoText : PySem.W.excIn K c_NoText [.type "ValueError", .type "Exception", .type "BaseException", .type "object"] "ValueError.__new__" = true)
    (ka_NoText : PySem.W.keepIn K (.ref c_NoText) = true)
    (sa_NoText : PySem.W.subIn K (.ref c_NoText) (.type "BaseException") = some true)
    (ta_NoText : PySem.W.typeIn K (.ref c_NoText) = some (.type "type"))
    (ga_NoNumber : PySem.W.nsIn K mainGlobals "NoNumber" = some (some (.ref c_NoNumber)))
    (xa_NoNumber : PySem.W.excIn K c_NoNumber [.type "ValueError", .type "Exception", .type "BaseException", .type "object"] "ValueError.__new__" = true)
    (ka_NoNumber : PySem.W.keepIn K (.ref c_NoNumber) = true)
    (sa_NoNumber : PySem.W.subIn K (.ref c_NoNumber) (.type "BaseException") = some true)
    (ta_NoNumber : PySem.W.typeIn K (.ref c_NoNumber) = some (.type "type"))
    (hn_x : PySem.W.specialIn K (.builtin "object.__class__") "__get__" = some (some (.builtin "getset_descriptor.__get__")))
    (ht_x : PySem.W.takesIn K (.builtin "object.__class__") = some true)
    (hd_FractionError : PySem.W.hasDictIn K c_FractionError = true)
    (hg_NoText : PySem.W.findIn K (.ref c_NoText) "__getattribute__" = some (some (.builtin "BaseException.__getattribute__")))
    (hk_NoText : PySem.W.findIn K (.ref c_NoText) "__getattr__" = some none)
    (hx_NoText : PySem.W.hasDictIn K c_NoText = true)
    (ha_NoText : PySem.W.findIn K (.ref c_NoText) "__class__" = some (some (.builtin "object.__class__")))
    (hm_NoText : PySem.W.mroIn K c_NoText (.type "object") = some true)
    (sf_NoText : PySem.W.subIn K (.ref c_NoText) (.ref c_FractionError) = some true)
    (kv_NoText : PySem.W.subIn K (.ref c_NoText) (.type "ValueError") = some true)
    (ki_NoText_NoFraction : PySem.W.subIn K (.ref c_NoText) (.ref c_NoFraction) = some false)
    (ki_NoText_NoPath : PySem.W.subIn K (.ref c_NoText) (.ref c_NoPath) = some false)
    (ki_NoText_NoBounds : PySem.W.subIn K (.ref c_NoText) (.ref c_NoBounds) = some false)
    (ki_NoText_NoRoom : PySem.W.subIn K (.ref c_NoText) (.ref c_NoRoom) = some false)
    (ki_NoText_Unsure : PySem.W.subIn K (.ref c_NoText) (.ref c_Unsure) = some false)
    (ki_NoText_NoText : PySem.W.subIn K (.ref c_NoText) (.ref c_NoText) = some true)
    (ki_NoText_NoNumber : PySem.W.subIn K (.ref c_NoText) (.ref c_NoNumber) = some false)
    (ic_NoFraction : PySem.W.isClsIn K c_NoFraction = true)
    (ic_NoPath : PySem.W.isClsIn K c_NoPath = true)
    (ic_NoBounds : PySem.W.isClsIn K c_NoBounds = true)
    (ic_NoRoom : PySem.W.isClsIn K c_NoRoom = true)
    (ic_Unsure : PySem.W.isClsIn K c_Unsure = true)
    (ic_NoText : PySem.W.isClsIn K c_NoText = true)
    (ic_NoNumber : PySem.W.isClsIn K c_NoNumber = true)
    : ∃ fd : FuncData, (∀ (s : Shared) (v : Value), BindsTo s fd ⟨[v], []⟩ [("_law_script", v)]) ∧ ∀ base : Heap, K.In base → base.Ns mainGlobals mg → FnOk P w K mg base CX0 7 fa fd ["_law_script"] (sp_law K) := by
  have e : f_18 = fa := (Value.ref.inj (Option.some.inj (hfa.symm.trans (PySem.W.mg_of X G a_18)))).symm
  subst e
  have F_0 := fun_mk (st := s_is_path) l_0 o_0 k_0
  have B_0 := F_0.binds (ps := ["path"]) fun _ _ _ _ _ _ us hl => match us, hl with | [_], _ => rfl
  have F_1 := fun_mk (st := s_read) l_1 o_1 k_1
  have B_1 := F_1.binds (ps := ["line"]) fun _ _ _ _ _ _ us hl => match us, hl with | [_], _ => rfl
  have F_2 := fun_mk (st := s_read_run) l_2 o_2 k_2
  have B_2 := F_2.binds (ps := ["word"]) fun _ _ _ _ _ _ us hl => match us, hl with | [_], _ => rfl
  have F_3 := fun_mk (st := s_is_figures) l_3 o_3 k_3
  have B_3 := F_3.binds (ps := ["text"]) fun _ _ _ _ _ _ us hl => match us, hl with | [_], _ => rfl
  have F_4 := fun_mk (st := s_p_law_cell_at) l_4 o_4 k_4
  have B_4 := F_4.binds (ps := ["_law_script", "_law_k"]) fun _ _ _ _ _ _ us hl => match us, hl with | [_, _], _ => rfl
  have F_5 := fun_mk (st := s_p_law_way) l_5 o_5 k_5
  have B_5 := F_5.binds (ps := ["_law_script", "_law_k", "_law_many"]) fun _ _ _ _ _ _ us hl => match us, hl with | [_, _, _], _ => rfl
  have F_6 := fun_mk (st := s_p_law_whole) l_6 o_6 k_6
  have B_6 := F_6.binds (ps := ["_law_found"]) fun _ _ _ _ _ _ us hl => match us, hl with | [_], _ => rfl
  have F_7 := fun_mk (st := s_p_law_is_path) l_7 o_7 k_7
  have B_7 := F_7.binds (ps := ["_law_path"]) fun _ _ _ _ _ _ us hl => match us, hl with | [_], _ => rfl
  have F_8 := fun_mk (st := s_p_law_many_by) l_8 o_8 k_8
  have B_8 := F_8.binds (ps := ["_law_script", "_law_k", "_law_most"]) fun _ _ _ _ _ _ us hl => match us, hl with | [_, _, _], _ => rfl
  have F_9 := fun_mk (st := s_p_law_path_by) l_9 o_9 k_9
  have B_9 := F_9.binds (ps := ["_law_script"]) fun _ _ _ _ _ _ us hl => match us, hl with | [_], _ => rfl
  have F_10 := fun_mk (st := s_p_law_line_of) l_10 o_10 k_10
  have B_10 := F_10.binds (ps := ["_law_path"]) fun _ _ _ _ _ _ us hl => match us, hl with | [_], _ => rfl
  have F_11 := fun_mk (st := s_p_law_sign_by) l_11 o_11 k_11
  have B_11 := F_11.binds (ps := ["_law_cell"]) fun _ _ _ _ _ _ us hl => match us, hl with | [_], _ => rfl
  have F_12 := fun_mk (st := s_p_law_turned) l_12 o_12 k_12
  have B_12 := F_12.binds (ps := ["_law_line", "_law_way_here", "_law_place", "_law_sign"]) fun _ _ _ _ _ _ us hl => match us, hl with | [_, _, _, _], _ => rfl
  have F_13 := fun_mk (st := s_p_law_figures) l_13 o_13 k_13
  have B_13 := F_13.binds (ps := ["_law_word"]) fun _ _ _ _ _ _ us hl => match us, hl with | [_], _ => rfl
  have F_14 := fun_mk (st := s_p_law_due_of) l_14 o_14 k_14
  have B_14 := F_14.binds (ps := ["_law_line"]) fun _ _ _ _ _ _ us hl => match us, hl with | [_], _ => rfl
  have F_15 := fun_mk (st := s_p_law_odd_line) l_15 o_15 k_15
  have B_15 := F_15.binds (ps := ["_law_cell"]) fun _ _ _ _ _ _ us hl => match us, hl with | [_], _ => rfl
  have F_16 := fun_mk (st := s_p_law_alone) l_16 o_16 k_16
  have B_16 := F_16.binds (ps := ["_law_e"]) fun _ _ _ _ _ _ us hl => match us, hl with | [_], _ => rfl
  have F_17 := fun_mk (st := s_p_law_refused) l_17 o_17 k_17
  have B_17 := F_17.binds (ps := ["_law_line"]) fun _ _ _ _ _ _ us hl => match us, hl with | [_], _ => rfl
  have F_18 := fun_mk (st := s_law) l_18 o_18 k_18
  have B_18 := F_18.binds (ps := ["_law_script"]) fun _ _ _ _ _ _ us hl => match us, hl with | [_], _ => rfl
  have T : Txt K mg ({ f_is_path := f_0, d_is_path := PySem.W.fnOf "is_path" "is_path" (defArgs s_is_path) (defBody s_is_path) (defScope s_is_path) .none kV_0 dc_0 pm_0 an_0 cd_0 ct_0, f_read := f_1, d_read := PySem.W.fnOf "read" "read" (defArgs s_read) (defBody s_read) (defScope s_read) .none kV_1 dc_1 pm_1 an_1 cd_1 ct_1, f_read_run := f_2, d_read_run := PySem.W.fnOf "read_run" "read_run" (defArgs s_read_run) (defBody s_read_run) (defScope s_read_run) .none kV_2 dc_2 pm_2 an_2 cd_2 ct_2, f_is_figures := f_3, d_is_figures := PySem.W.fnOf "is_figures" "is_figures" (defArgs s_is_figures) (defBody s_is_figures) (defScope s_is_figures) .none kV_3 dc_3 pm_3 an_3 cd_3 ct_3, f_p_law_cell_at := f_4, d_p_law_cell_at := PySem.W.fnOf "_law_cell_at" "_law_cell_at" (defArgs s_p_law_cell_at) (defBody s_p_law_cell_at) (defScope s_p_law_cell_at) .none kV_4 dc_4 pm_4 an_4 cd_4 ct_4, f_p_law_way := f_5, d_p_law_way := PySem.W.fnOf "_law_way" "_law_way" (defArgs s_p_law_way) (defBody s_p_law_way) (defScope s_p_law_way) .none kV_5 dc_5 pm_5 an_5 cd_5 ct_5, f_p_law_whole := f_6, d_p_law_whole := PySem.W.fnOf "_law_whole" "_law_whole" (defArgs s_p_law_whole) (defBody s_p_law_whole) (defScope s_p_law_whole) .none kV_6 dc_6 pm_6 an_6 cd_6 ct_6, f_p_law_is_path := f_7, d_p_law_is_path := PySem.W.fnOf "_law_is_path" "_law_is_path" (defArgs s_p_law_is_path) (defBody s_p_law_is_path) (defScope s_p_law_is_path) .none kV_7 dc_7 pm_7 an_7 cd_7 ct_7, f_p_law_many_by := f_8, d_p_law_many_by := PySem.W.fnOf "_law_many_by" "_law_many_by" (defArgs s_p_law_many_by) (defBody s_p_law_many_by) (defScope s_p_law_many_by) .none kV_8 dc_8 pm_8 an_8 cd_8 ct_8, f_p_law_path_by := f_9, d_p_law_path_by := PySem.W.fnOf "_law_path_by" "_law_path_by" (defArgs s_p_law_path_by) (defBody s_p_law_path_by) (defScope s_p_law_path_by) .none kV_9 dc_9 pm_9 an_9 cd_9 ct_9, f_p_law_line_of := f_10, d_p_law_line_of := PySem.W.fnOf "_law_line_of" "_law_line_of" (defArgs s_p_law_line_of) (defBody s_p_law_line_of) (defScope s_p_law_line_of) .none kV_10 dc_10 pm_10 an_10 cd_10 ct_10, f_p_law_sign_by := f_11, d_p_law_sign_by := PySem.W.fnOf "_law_sign_by" "_law_sign_by" (defArgs s_p_law_sign_by) (defBody s_p_law_sign_by) (defScope s_p_law_sign_by) .none kV_11 dc_11 pm_11 an_11 cd_11 ct_11, f_p_law_turned := f_12, d_p_law_turned := PySem.W.fnOf "_law_turned" "_law_turned" (defArgs s_p_law_turned) (defBody s_p_law_turned) (defScope s_p_law_turned) .none kV_12 dc_12 pm_12 an_12 cd_12 ct_12, f_p_law_figures := f_13, d_p_law_figures := PySem.W.fnOf "_law_figures" "_law_figures" (defArgs s_p_law_figures) (defBody s_p_law_figures) (defScope s_p_law_figures) .none kV_13 dc_13 pm_13 an_13 cd_13 ct_13, f_p_law_due_of := f_14, d_p_law_due_of := PySem.W.fnOf "_law_due_of" "_law_due_of" (defArgs s_p_law_due_of) (defBody s_p_law_due_of) (defScope s_p_law_due_of) .none kV_14 dc_14 pm_14 an_14 cd_14 ct_14, f_p_law_odd_line := f_15, d_p_law_odd_line := PySem.W.fnOf "_law_odd_line" "_law_odd_line" (defArgs s_p_law_odd_line) (defBody s_p_law_odd_line) (defScope s_p_law_odd_line) .none kV_15 dc_15 pm_15 an_15 cd_15 ct_15, f_p_law_alone := f_16, d_p_law_alone := PySem.W.fnOf "_law_alone" "_law_alone" (defArgs s_p_law_alone) (defBody s_p_law_alone) (defScope s_p_law_alone) .none kV_16 dc_16 pm_16 an_16 cd_16 ct_16, f_p_law_refused := f_17, d_p_law_refused := PySem.W.fnOf "_law_refused" "_law_refused" (defArgs s_p_law_refused) (defBody s_p_law_refused) (defScope s_p_law_refused) .none kV_17 dc_17 pm_17 an_17 cd_17 ct_17, f_law := f_18, d_law := PySem.W.fnOf "law" "law" (defArgs s_law) (defBody s_law) (defScope s_law) .none kV_18 dc_18 pm_18 an_18 cd_18 ct_18, c_FractionError := c_FractionError, c_NoFraction := c_NoFraction, c_NoPath := c_NoPath, c_NoBounds := c_NoBounds, c_NoRoom := c_NoRoom, c_Unsure := c_Unsure, c_NoText := c_NoText, c_NoNumber := c_NoNumber, t_LEFT := t_LEFT, t_RIGHT := t_RIGHT, t_TOP := t_TOP, k_WAYS := k_WAYS } : Ad) w :=
    { F_is_path := F_0, m_is_path := PySem.W.mg_of X G a_0, b_is_path := B_0, F_read := F_1, m_read := PySem.W.mg_of X G a_1, b_read := B_1, F_read_run := F_2, m_read_run := PySem.W.mg_of X G a_2, b_read_run := B_2, F_is_figures := F_3, m_is_figures := PySem.W.mg_of X G a_3, b_is_figures := B_3, F_p_law_cell_at := F_4, m_p_law_cell_at := PySem.W.mg_of X G a_4, b_p_law_cell_at := B_4, F_p_law_way := F_5, m_p_law_way := PySem.W.mg_of X G a_5, b_p_law_way := B_5, F_p_law_whole := F_6, m_p_law_whole := PySem.W.mg_of X G a_6, b_p_law_whole := B_6, F_p_law_is_path := F_7, m_p_law_is_path := PySem.W.mg_of X G a_7, b_p_law_is_path := B_7, F_p_law_many_by := F_8, m_p_law_many_by := PySem.W.mg_of X G a_8, b_p_law_many_by := B_8, F_p_law_path_by := F_9, m_p_law_path_by := PySem.W.mg_of X G a_9, b_p_law_path_by := B_9, F_p_law_line_of := F_10, m_p_law_line_of := PySem.W.mg_of X G a_10, b_p_law_line_of := B_10, F_p_law_sign_by := F_11, m_p_law_sign_by := PySem.W.mg_of X G a_11, b_p_law_sign_by := B_11, F_p_law_turned := F_12, m_p_law_turned := PySem.W.mg_of X G a_12, b_p_law_turned := B_12, F_p_law_figures := F_13, m_p_law_figures := PySem.W.mg_of X G a_13, b_p_law_figures := B_13, F_p_law_due_of := F_14, m_p_law_due_of := PySem.W.mg_of X G a_14, b_p_law_due_of := B_14, F_p_law_odd_line := F_15, m_p_law_odd_line := PySem.W.mg_of X G a_15, b_p_law_odd_line := B_15, F_p_law_alone := F_16, m_p_law_alone := PySem.W.mg_of X G a_16, b_p_law_alone := B_16, F_p_law_refused := F_17, m_p_law_refused := PySem.W.mg_of X G a_17, b_p_law_refused := B_17, F_law := F_18, m_law := PySem.W.mg_of X G a_18, b_law := B_18, n_ValueError := PySem.W.mg_none_of X G z_ValueError, n_bool := PySem.W.mg_none_of X G z_bool, n_int := PySem.W.mg_none_of X G z_int, n_isinstance := PySem.W.mg_none_of X G z_isinstance, n_len := PySem.W.mg_none_of X G z_len, n_list := PySem.W.mg_none_of X G z_list, n_range := PySem.W.mg_none_of X G z_range, n_str := PySem.W.mg_none_of X G z_str, n_tuple := PySem.W.mg_none_of X G z_tuple, k_LEFT := PySem.W.mg_of X G zc_LEFT, k_RIGHT := PySem.W.mg_of X G zc_RIGHT, k_TOP := PySem.W.mg_of X G zc_TOP, k_WAYS := PySem.W.mg_of X G zc_WAYS, D_WAYS := dct_mk dl_WAYS dk_WAYS dy_WAYS da_WAYS db_WAYS ⟨_, rfl⟩ ⟨_, rfl⟩ de_WAYS, g_FractionError := PySem.W.mg_of X G ga_FractionError, x_FractionError := xa_FractionError, k_FractionError := ka_FractionError, s_FractionError := sa_FractionError, t_FractionError := ta_FractionError, g_NoFraction := PySem.W.mg_of X G ga_NoFraction, x_NoFraction := xa_NoFraction, k_NoFraction := ka_NoFraction, s_NoFraction := sa_NoFraction, t_NoFraction := ta_NoFraction, g_NoPath := PySem.W.mg_of X G ga_NoPath, x_NoPath := xa_NoPath, k_NoPath := ka_NoPath, s_NoPath := sa_NoPath, t_NoPath := ta_NoPath, g_NoBounds := PySem.W.mg_of X G ga_NoBounds, x_NoBounds := xa_NoBounds, k_NoBounds := ka_NoBounds, s_NoBounds := sa_NoBounds, t_NoBounds := ta_NoBounds, g_NoRoom := PySem.W.mg_of X G ga_NoRoom, x_NoRoom := xa_NoRoom, k_NoRoom := ka_NoRoom, s_NoRoom := sa_NoRoom, t_NoRoom := ta_NoRoom, g_Unsure := PySem.W.mg_of X G ga_Unsure, x_Unsure := xa_Unsure, k_Unsure := ka_Unsure, s_Unsure := sa_Unsure, t_Unsure := ta_Unsure, g_NoText := PySem.W.mg_of X G ga_NoText, x_NoText := xa_NoText, k_NoText := ka_NoText, s_NoText := sa_NoText, t_NoText := ta_NoText, g_NoNumber := PySem.W.mg_of X G ga_NoNumber, x_NoNumber := xa_NoNumber, k_NoNumber := ka_NoNumber, s_NoNumber := sa_NoNumber, t_NoNumber := ta_NoNumber, e_NoText := ⟨⟨hg_NoText, hk_NoText, sa_NoText, hx_NoText, ha_NoText, hn_x, ht_x, hm_NoText⟩, kinds7 (kit_own ki_NoText_NoText ki_NoText_NoFraction ic_NoFraction ta_NoFraction) (kit_own ki_NoText_NoText ki_NoText_NoPath ic_NoPath ta_NoPath) (kit_own ki_NoText_NoText ki_NoText_NoBounds ic_NoBounds ta_NoBounds) (kit_own ki_NoText_NoText ki_NoText_NoRoom ic_NoRoom ta_NoRoom) (kit_own ki_NoText_NoText ki_NoText_Unsure ic_Unsure ta_Unsure) (kit_own ki_NoText_NoText ki_NoText_NoText ic_NoText ta_NoText) (kit_own ki_NoText_NoText ki_NoText_NoNumber ic_NoNumber ta_NoNumber), (kit_ve kv_NoText)⟩, em_NoText := PySem.W.exm_ref sa_FractionError hd_FractionError ta_FractionError sf_NoText }
  exact ⟨_, fun s v => .of_eq rfl, fun base _ _ => ok_law T⟩
theorem law_end {K : PySem.W.Frag} {H : Hp} {a : Addr} {ns : List Int} (hS : SqL K H a (ns.map V.int)) : sp_law K [.ref a] H (fun v _ => v = .bl true) fun _ _ _ => False := by
  have m : ∀ l : List Int, Ims K H (l.map V.int) (iL l) := fun l => by
    induction l with
    | nil => exact .nil
    | cons x r ih => exact .cons (.int x) ih
  refine ⟨ns, .cons ⟨a, _, rfl, hS, m ns⟩ .nil, trivial, fun v H' r _ o e => ?_, fun _ _ _ z => z.elim⟩
  subst e
  exact im_bl o
end G
open PySem PySem.W PyProof.Rows
set_option maxRecDepth 100000 in
set_option maxHeartbeats 0 in
theorem PySem.Challenge.cw_nearfrac_k07_read_holds : PySem.Challenge.rw_nearfrac_k07_read.Holds := by
  w_on; o_law; k_head; (case hw => w_witness2)
  k_fill
  refine L2.walk_ofK (l := PySem.Challenge.rw_nearfrac_k07_read) (n := 63) (k := 7) (x := "_law_script") (CX := L2.CX0) (sp := G.sp_law) rfl (by decide) rfl ⟨rfl, by decide, by decide⟩ (fun w h Y => PySem.W.kIn_of Y) ?F ?S (fun _ _ _ _ h => h)
  case F =>
    intro w mg fa h KX GG hmg
    refine' G.all_mk KX GG hmg ?a_0 ?l_0 ?o_0 ?k_0 ?a_1 ?l_1 ?o_1 ?k_1 ?a_2 ?l_2 ?o_2 ?k_2 ?a_3 ?l_3 ?o_3 ?k_3 ?a_4 ?l_4 ?o_4 ?k_4 ?a_5 ?l_5 ?o_5 ?k_5 ?a_6 ?l_6 ?o_6 ?k_6 ?a_7 ?l_7 ?o_7 ?k_7 ?a_8 ?l_8 ?o_8 ?k_8 ?a_9 ?l_9 ?o_9 ?k_9 ?a_10 ?l_10 ?o_10 ?k_10 ?a_11 ?l_11 ?o_11 ?k_11 ?a_12 ?l_12 ?o_12 ?k_12 ?a_13 ?l_13 ?o_13 ?k_13 ?a_14 ?l_14 ?o_14 ?k_14 ?a_15 ?l_15 ?o_15 ?k_15 ?a_16 ?l_16 ?o_16 ?k_16 ?a_17 ?l_17 ?o_17 ?k_17 ?a_18 ?l_18 ?o_18 ?k_18 ?z_ValueError ?z_bool ?z_int ?z_isinstance ?z_len ?z_list ?z_range ?z_str ?z_tuple ?zc_LEFT ?zc_RIGHT ?zc_TOP ?zc_WAYS ?dl_WAYS ?dk_WAYS ?dy_WAYS ?da_WAYS ?db_WAYS ?de_WAYS ?ga_FractionError ?xa_FractionError ?ka_FractionError ?sa_FractionError ?ta_FractionError ?ga_NoFraction ?xa_NoFraction ?ka_NoFraction ?sa_NoFraction ?ta_NoFraction ?ga_NoPath ?xa_NoPath ?ka_NoPath ?sa_NoPath ?ta_NoPath ?ga_NoBounds ?xa_NoBounds ?ka_NoBounds ?sa_NoBounds ?ta_NoBounds ?ga_NoRoom ?xa_NoRoom ?ka_NoRoom ?sa_NoRoom ?ta_NoRoom ?ga_Unsure ?xa_Unsure ?ka_Unsure ?sa_Unsure ?ta_Unsure ?ga_NoText ?xa_NoText ?ka_NoText ?sa_NoText ?ta_NoText ?ga_NoNumber ?xa_NoNumber ?ka_NoNumber ?sa_NoNumber ?ta_NoNumber ?hn_x ?ht_x ?hd_FractionError ?hg_NoText ?hk_NoText ?hx_NoText ?ha_NoText ?hm_NoText ?sf_NoText ?kv_NoText ?ki_NoText_NoFraction ?ki_NoText_NoPath ?ki_NoText_NoBounds ?ki_NoText_NoRoom ?ki_NoText_Unsure ?ki_NoText_NoText ?ki_NoText_NoNumber ?ic_NoFraction ?ic_NoPath ?ic_NoBounds ?ic_NoRoom ?ic_Unsure ?ic_NoText ?ic_NoNumber
    (case a_0 => k_is)
    (case l_0 => k_is)
    (case o_0 => k_is)
    (case k_0 => k_is)
    (case a_1 => k_is)
    (case l_1 => k_is)
    (case o_1 => k_is)
    (case k_1 => k_is)
    (case a_2 => k_is)
    (case l_2 => k_is)
    (case o_2 => k_is)
    (case k_2 => k_is)
    (case a_3 => k_is)
    (case l_3 => k_is)
    (case o_3 => k_is)
    (case k_3 => k_is)
    (case a_4 => k_is)
    (case l_4 => k_is)
    (case o_4 => k_is)
    (case k_4 => k_is)
    (case a_5 => k_is)
    (case l_5 => k_is)
    (case o_5 => k_is)
    (case k_5 => k_is)
    (case a_6 => k_is)
    (case l_6 => k_is)
    (case o_6 => k_is)
    (case k_6 => k_is)
    (case a_7 => k_is)
    (case l_7 => k_is)
    (case o_7 => k_is)
    (case k_7 => k_is)
    (case a_8 => k_is)
    (case l_8 => k_is)
    (case o_8 => k_is)
    (case k_8 => k_is)
    (case a_9 => k_is)
    (case l_9 => k_is)
    (case o_9 => k_is)
    (case k_9 => k_is)
    (case a_10 => k_is)
    (case l_10 => k_is)
    (case o_10 => k_is)
    (case k_10 => k_is)
    (case a_11 => k_is)
    (case l_11 => k_is)
    (case o_11 => k_is)
    (case k_11 => k_is)
    (case a_12 => k_is)
    (case l_12 => k_is)
    (case o_12 => k_is)
    (case k_12 => k_is)
    (case a_13 => k_is)
    (case l_13 => k_is)
    (case o_13 => k_is)
    (case k_13 => k_is)
    (case a_14 => k_is)
    (case l_14 => k_is)
    (case o_14 => k_is)
    (case k_14 => k_is)
    (case a_15 => k_is)
    (case l_15 => k_is)
    (case o_15 => k_is)
    (case k_15 => k_is)
    (case a_16 => k_is)
    (case l_16 => k_is)
    (case o_16 => k_is)
    (case k_16 => k_is)
    (case a_17 => k_is)
    (case l_17 => k_is)
    (case o_17 => k_is)
    (case k_17 => k_is)
    (case a_18 => k_is)
    (case l_18 => k_is)
    (case o_18 => k_is)
    (case k_18 => k_is)
    (case z_ValueError => k_is)
    (case z_bool => k_is)
    (case z_int => k_is)
    (case z_isinstance => k_is)
    (case z_len => k_is)
    (case z_list => k_is)
    (case z_range => k_is)
    (case z_str => k_is)
    (case z_tuple => k_is)
    (case zc_LEFT => k_is)
    (case zc_RIGHT => k_is)
    (case zc_TOP => k_is)
    (case zc_WAYS => k_is)
    (case dl_WAYS => k_is)
    (case dk_WAYS => repeat (first | exact True.intro | refine And.intro ⟨_, _, rfl, rfl⟩ ?_))
    (case dy_WAYS => rfl)
    (case da_WAYS => k_is)
    (case db_WAYS => k_is)
    (case de_WAYS => rfl)
    (case ga_FractionError => k_is)
    (case xa_FractionError => k_exc)
    (case ka_FractionError => k_is)
    (case sa_FractionError => k_is)
    (case ta_FractionError => k_is)
    (case ga_NoFraction => k_is)
    (case xa_NoFraction => k_exc)
    (case ka_NoFraction => k_is)
    (case sa_NoFraction => k_is)
    (case ta_NoFraction => k_is)
    (case ga_NoPath => k_is)
    (case xa_NoPath => k_exc)
    (case ka_NoPath => k_is)
    (case sa_NoPath => k_is)
    (case ta_NoPath => k_is)
    (case ga_NoBounds => k_is)
    (case xa_NoBounds => k_exc)
    (case ka_NoBounds => k_is)
    (case sa_NoBounds => k_is)
    (case ta_NoBounds => k_is)
    (case ga_NoRoom => k_is)
    (case xa_NoRoom => k_exc)
    (case ka_NoRoom => k_is)
    (case sa_NoRoom => k_is)
    (case ta_NoRoom => k_is)
    (case ga_Unsure => k_is)
    (case xa_Unsure => k_exc)
    (case ka_Unsure => k_is)
    (case sa_Unsure => k_is)
    (case ta_Unsure => k_is)
    (case ga_NoText => k_is)
    (case xa_NoText => k_exc)
    (case ka_NoText => k_is)
    (case sa_NoText => k_is)
    (case ta_NoText => k_is)
    (case ga_NoNumber => k_is)
    (case xa_NoNumber => k_exc)
    (case ka_NoNumber => k_is)
    (case sa_NoNumber => k_is)
    (case ta_NoNumber => k_is)
    (case hn_x => k_is)
    (case ht_x => k_is)
    (case hd_FractionError => k_is)
    (case hg_NoText => k_is)
    (case hk_NoText => k_is)
    (case hx_NoText => k_is)
    (case ha_NoText => k_is)
    (case hm_NoText => k_is)
    (case sf_NoText => k_is)
    (case kv_NoText => k_is)
    (case ki_NoText_NoFraction => k_is)
    (case ki_NoText_NoPath => k_is)
    (case ki_NoText_NoBounds => k_is)
    (case ki_NoText_NoRoom => k_is)
    (case ki_NoText_Unsure => k_is)
    (case ki_NoText_NoText => k_is)
    (case ki_NoText_NoNumber => k_is)
    (case ic_NoFraction => k_is)
    (case ic_NoPath => k_is)
    (case ic_NoBounds => k_is)
    (case ic_NoRoom => k_is)
    (case ic_Unsure => k_is)
    (case ic_NoText => k_is)
    (case ic_NoNumber => k_is)
  case S => exact fun _ H a ns hl _ hS => G.law_end hS
