import PyProof.Rows.All
import Wide.All
import OpenK.AllK
import Wide.FinOn
import HandS.ForMost
import HandS.ForExc
import HandS.Deep
import HandS.TupAny
import HandS.IsInst
import HandS.StrMore
import KE.GoesMore
import HandS.FStr
import HandS.RaiseMore
import HandS.TryOnly
import HandS.ListItems
import HandS.DictComp
import HandS.WordsDict
import HandS.Finally
import HandS.Iter
import HandS.Sort
import KE.KSortTupUse
import HandS.HotCalls
import HandS.ExcIs
import KE.RegKIsAll
import HandS.Style
import PyProof.StrBlock2
import HandS.RepeatKit
import KE.SortData
import KE.DataMinMax
import HandS.SetFor
import HandS.Strs
import HandS.Text
import HandS.Codes
import KE.GoesEnumKw
import HandS.SortKw
import HandS.Replace
import PyProof.StrCalls6
import PyProof.MeetsStr3
import PyProof.StrOps
import PySem.Challenge.RW_benchword_k15_written_and_read
set_option Elab.async false
set_option linter.all false
set_option maxRecDepth 100000
set_option maxHeartbeats 2000000
/-! Data: what a value is, over a heap; what an expression gives, the heap only growing; a def's body by its slots' data. -/
namespace Bw
open PySem L2

inductive Da where
  | non | bl (b : Bool) | int (i : Int) | str (x : Str) | lst (xs : List Da) | tup (xs : List Da) | scr (ns : List Int) | ty (n : String) | cls (C : Addr) | ins (C : Addr) (ks : List Str) (xs : List Da) | dct (ks : List Str) (xs : List Da) | dcf (a : Addr) (ks : List Str) (xs : List Da)
def kvz (ks : List Str) (xs : List V) : List (Key × V) := (ks.map Sum.inr).zip xs
mutual
inductive DR (K : PySem.W.Frag) (H : Hp) : V → Da → Prop
  | non : DR K H .non .non
  | bl (b : Bool) : DR K H (.bl b) (.bl b)
  | int (i : Int) : DR K H (.int i) (.int i)
  | str (x : Str) : DR K H (.str x) (.str x)
  | ty (n : String) : DR K H (.ty n) (.ty n)
  | cls (C : Addr) : DR K H (.ref C) (.cls C)
  | lst {a : Addr} {xs : List V} {ds : List Da} : H a = some (.lst xs) → DRs K H xs ds → DR K H (.ref a) (.lst ds)
  | scr {a : Addr} {ns : List Int} : SqL K H a (ns.map V.int) → DR K H (.ref a) (.scr ns)
  | tup {a : Addr} {xs : List V} {ds : List Da} : SqT K H a xs → DRs K H xs ds → DR K H (.ref a) (.tup ds)
  | ins {a C dx : Addr} {ks : List Str} {xs : List V} {ds : List Da} : H a = some (.ins C dx (ks.zip xs)) → ks.length = xs.length → DRs K H xs ds → DR K H (.ref a) (.ins C ks ds)
  | dct {a : Addr} {ks : List Str} {xs : List V} {ds : List Da} : H a = some (.dK (kvz ks xs)) → ks.length = xs.length → DRs K H xs ds → DR K H (.ref a) (.dct ks ds)
  | dcf {a : Addr} {o : Obj} {ks : List Str} {xs : List V} {ds : List Da} : H a = some (.frz o (.dK (kvz ks xs))) → ks.length = xs.length → DRs K H xs ds → DR K H (.ref a) (.dcf a ks ds)
inductive DRs (K : PySem.W.Frag) (H : Hp) : List V → List Da → Prop
  | nil : DRs K H [] []
  | cons {v : V} {vs : List V} {d : Da} {ds : List Da} : DR K H v d → DRs K H vs ds → DRs K H (v :: vs) (d :: ds)
end
section
variable {K : PySem.W.Frag} {H H' : Hp}
theorem same_t {a : Addr} {xs : List V} (e : Same H H') (h : SqT K H a xs) : SqT K H' a xs := by
  rcases h with (h | ⟨o, h⟩) | h
  · exact .inl (.inl (e _ _ h))
  · exact .inl (.inr ⟨o, e _ _ h⟩)
  · exact .inr h
mutual
theorem DR.same (e : Same H H') : ∀ (d : Da) (v : V), DR K H v d → DR K H' v d
  | .non, _, h => by cases h; exact .non
  | .bl b, _, h => by cases h; exact .bl b
  | .int i, _, h => by cases h; exact .int i
  | .str x, _, h => by cases h; exact .str x
  | .ty x, _, h => by cases h; exact .ty x
  | .cls x, _, h => by cases h; exact .cls x
  | .lst ds, _, h => by
    cases h with
    | lst hs ha => exact .lst (e _ _ hs) (DRs.same e ds _ ha)
  | .tup ds, _, h => by
    cases h with
    | tup hs ha => exact .tup (same_t e hs) (DRs.same e ds _ ha)
  | .scr ns, _, h => by
    cases h with
    | scr hs => exact .scr (e.seq hs)
  | .ins C ks ds, _, h => by
    cases h with
    | ins hs hl ha => exact .ins (e _ _ hs) hl (DRs.same e ds _ ha)
  | .dct ks ds, _, h => by
    cases h with
    | dct hs hl ha => exact .dct (e _ _ hs) hl (DRs.same e ds _ ha)
  | .dcf _ ks ds, _, h => by
    cases h with
    | dcf hs hl ha => exact .dcf (e _ _ hs) hl (DRs.same e ds _ ha)
theorem DRs.same (e : Same H H') : ∀ (ds : List Da) (vs : List V), DRs K H vs ds → DRs K H' vs ds
  | [], _, h => by cases h; exact .nil
  | d :: ds, _, h => by
    cases h with
    | cons h1 h2 => exact .cons (DR.same e d _ h1) (DRs.same e ds _ h2)
end
theorem DR.up {v : V} {d : Da} (h : DR K H v d) (e : Same H H') : DR K H' v d := DR.same e d v h
theorem DRs.up {vs : List V} {ds : List Da} (h : DRs K H vs ds) (e : Same H H') : DRs K H' vs ds := DRs.same e ds vs h
theorem DRs.len : ∀ {vs : List V} {ds : List Da}, DRs K H vs ds → vs.length = ds.length
  | _, [], h => by cases h; rfl
  | _, d :: ds, h => by
    cases h with
    | cons h1 h2 => simp only [List.length_cons, DRs.len h2]
theorem DRs.at : ∀ {vs : List V} {ds : List Da} {i : Nat} {d : Da}, DRs K H vs ds → ds[i]? = some d → ∃ v, vs[i]? = some v ∧ DR K H v d
  | _, [], i, d, h, e => by simp at e
  | _, d :: ds, 0, d', h, e => by
    cases h with
    | cons h1 h2 =>
      simp at e
      subst e
      exact ⟨_, rfl, h1⟩
  | _, d :: ds, i + 1, d', h, e => by
    cases h with
    | cons h1 h2 =>
      obtain ⟨v, e1, e2⟩ := DRs.at (i := i) h2 (by simpa using e)
      exact ⟨v, by simpa using e1, e2⟩
theorem DRs.atv {vs : List V} {ds : List Da} {i : Nat} {v : V} (h : DRs K H vs ds) (e : vs[i]? = some v) : ∃ d, ds[i]? = some d ∧ DR K H v d := by
  have hl := h.len
  have hi : i < ds.length := by
    have := (List.getElem?_eq_some_iff.mp e).1
    omega
  obtain ⟨w, e1, r⟩ := h.at (List.getElem?_eq_getElem hi)
  rw [e] at e1
  cases e1
  exact ⟨_, List.getElem?_eq_getElem hi, r⟩
theorem DRs.app : ∀ {vs ws : List V} {ds es : List Da}, DRs K H vs ds → DRs K H ws es → DRs K H (vs ++ ws) (ds ++ es)
  | _, _, [], _, h, k => by cases h; exact k
  | _, _, d :: ds, _, h, k => by
    cases h with
    | cons h1 h2 => exact .cons h1 (DRs.app h2 k)
theorem DRs.one {v : V} {d : Da} (h : DR K H v d) : DRs K H [v] [d] := .cons h .nil
theorem DRs.snoc {vs : List V} {ds : List Da} {v : V} {d : Da} (h : DRs K H vs ds) (k : DR K H v d) : DRs K H (vs ++ [v]) (ds ++ [d]) := h.app (.one k)
theorem DRs.take : ∀ (n : Nat) {vs : List V} {ds : List Da}, DRs K H vs ds → DRs K H (vs.take n) (ds.take n)
  | 0, _, _, _ => by simp; exact .nil
  | n + 1, _, [], h => by cases h; exact .nil
  | n + 1, _, d :: ds, h => by
    cases h with
    | cons h1 h2 => exact .cons h1 (DRs.take n h2)
theorem DRs.drop : ∀ (n : Nat) {vs : List V} {ds : List Da}, DRs K H vs ds → DRs K H (vs.drop n) (ds.drop n)
  | 0, _, _, h => by simpa using h
  | n + 1, _, [], h => by cases h; exact .nil
  | n + 1, _, d :: ds, h => by
    cases h with
    | cons h1 h2 => simpa using DRs.drop n h2
theorem DRs.rev : ∀ {vs : List V} {ds : List Da}, DRs K H vs ds → DRs K H vs.reverse ds.reverse
  | _, [], h => by cases h; exact .nil
  | _, d :: ds, h => by
    cases h with
    | cons h1 h2 =>
      rw [List.reverse_cons, List.reverse_cons]
      exact h2.rev.snoc h1
theorem DRs.strs : ∀ {xs : List Str}, DRs K H (xs.map V.str) (xs.map Da.str)
  | [] => .nil
  | x :: xs => .cons (.str x) DRs.strs
theorem DRs.ints : ∀ {xs : List Int}, DRs K H (xs.map V.int) (xs.map Da.int)
  | [] => .nil
  | x :: xs => .cons (.int x) DRs.ints
theorem DRs.of_strs : ∀ {xs : List Str} {vs : List V}, DRs K H vs (xs.map Da.str) → vs = xs.map V.str
  | [], _, h => by cases h; rfl
  | x :: xs, _, h => by
    cases h with
    | cons h1 h2 =>
      cases h1
      rw [DRs.of_strs h2] <;> rfl
theorem DRs.of_ints : ∀ {xs : List Int} {vs : List V}, DRs K H vs (xs.map Da.int) → vs = xs.map V.int
  | [], _, h => by cases h; rfl
  | x :: xs, _, h => by
    cases h with
    | cons h1 h2 =>
      cases h1
      rw [DRs.of_ints h2] <;> rfl
theorem DRs.of_bls : ∀ {xs : List Bool} {vs : List V}, DRs K H vs (xs.map Da.bl) → vs = xs.map V.bl
  | [], _, h => by cases h; rfl
  | x :: xs, _, h => by
    cases h with
    | cons h1 h2 =>
      cases h1
      rw [DRs.of_bls h2] <;> rfl
end

/-! ### the heap grows -/
structure Ext (Hk H Hs H' : Hp) : Prop where
  up : Same H H'
  kn : Same Hk Hs
  st : Same Hs H'
  nw : ∀ b o, Hs b = some o → Hk b = none → H b = none
theorem Ext.refl {Hk H : Hp} (h : Same Hk H) : Ext Hk H Hk H := ⟨Same.refl _, Same.refl _, h, fun b o e n => by rw [n] at e; cases e⟩
theorem Ext.of_up {Hk H H' : Hp} (h : Same Hk H) (u : Same H H') : Ext Hk H Hk H' := ⟨u, Same.refl _, h.trans u, fun b o e n => by rw [n] at e; cases e⟩
theorem Ext.trans {Hk H Hs H1 Ht H2 : Hp} (a : Ext Hk H Hs H1) (b : Ext Hs H1 Ht H2) : Ext Hk H Ht H2 where
  up := a.up.trans b.up
  kn := a.kn.trans b.kn
  st := b.st
  nw := fun c o e n => by
    cases q : Hs c with
    | some u => exact a.nw c u q n
    | none => exact a.up.free (b.nw c o e q)
theorem same_upd {H : Hp} {p : Addr} {o : HO} (h : H p = none) : Same H (upd H p o) := fun b u e => by
  rw [upd_ne (ne_of_none e h)]
  exact e
theorem same_updK {Hk H : Hp} {p : Addr} {o : HO} (e : Same Hk H) (h : Hk p = none) : Same Hk (upd H p o) := fun b u z => by
  rw [upd_ne (ne_of_none z h)]
  exact e b u z
theorem same_put {Hk H : Hp} {p : Addr} {o : HO} (e : Same Hk H) (h : H p = some o) : Same (upd Hk p o) H := fun b u z => by
  by_cases hb : b = p
  · subst hb
    rw [upd_same] at z
    cases z
    exact h
  · rw [upd_ne hb] at z
    exact e b u z
theorem same_upd2 {Hk H : Hp} {p : Addr} {o : HO} (e : Same Hk H) : Same (upd Hk p o) (upd H p o) := fun b u z => by
  by_cases hb : b = p
  · subst hb
    rw [upd_same] at z ⊢
    exact z
  · rw [upd_ne hb] at z ⊢
    exact e b u z
theorem Ext.new {Hk H Hs H' : Hp} {p : Addr} {o : HO} (a : Ext Hk H Hs H') (h : H' p = none) : Ext Hk H (upd Hs p o) (upd H' p o) where
  up := a.up.trans (same_upd h)
  kn := a.kn.trans (same_upd (a.st.free h))
  st := same_upd2 a.st
  nw := fun b u e n => by
    by_cases hb : b = p
    · subst hb
      exact a.up.free h
    · rw [upd_ne hb] at e
      exact a.nw b u e n
/-- a thing that came new is now known, too -/
theorem Ext.know {Hk H Hs H' : Hp} {p : Addr} {o : HO} (a : Ext Hk H Hs H') (h0 : H p = none) (h : H' p = some o) (hs : Hs p = none) : Ext Hk H (upd Hs p o) H' where
  up := a.up
  kn := a.kn.trans (same_upd hs)
  st := same_put a.st h
  nw := fun b u e n => by
    by_cases hb : b = p
    · subst hb
      exact h0
    · rw [upd_ne hb] at e
      exact a.nw b u e n
/-- more was known ahead -/
theorem Ext.mono {Hk Hk' H Hs H' : Hp} (a : Ext Hk H Hs H') (k : Same Hk Hk') (s : Same Hk' H) : ∃ Ht, Ext Hk' H Ht H' ∧ Same Hs Ht := by
  refine ⟨fun b => match Hk' b with | some o => some o | none => Hs b, ⟨a.up, fun b o e => ?_, fun b o e => ?_, fun b o e n => ?_⟩, fun b o e => ?_⟩
  · show (match Hk' b with | some o => some o | none => Hs b) = some o
    rw [e]
  · have e : (match Hk' b with | some o => some o | none => Hs b) = some o := e
    cases q : Hk' b with
    | some u =>
      rw [q] at e
      cases e
      exact a.up b _ (s b _ q)
    | none =>
      rw [q] at e
      exact a.st b _ e
  · have e : (match Hk' b with | some o => some o | none => Hs b) = some o := e
    rw [n] at e
    exact a.nw b o e (k.free n)
  · show (match Hk' b with | some o => some o | none => Hs b) = some o
    cases q : Hk' b with
    | some u =>
      have h1 := a.up b _ (s b _ q)
      have h2 := a.st b _ e
      rw [h1] at h2
      exact h2
    | none => exact e

/-! ### what an expression gives -/
def Ev (K : PySem.W.Frag) (te : TE) (σ : L2.St) (Hk : Hp) (d : Da) : Prop := ∀ H, Same Hk H → ∀ Q : VK, (∀ v Hs H', Ext Hk H Hs H' → DR K Hs v d → Q v H') → te σ H Q
def EvN (K : PySem.W.Frag) (te : TE) (σ : L2.St) (Hk : Hp) (ds : List Da) : Prop := ∀ H, Same Hk H → ∀ Q : VK, (∀ l xs Hs H', Ext Hk H Hs H' → H l = none → Hs l = none → H' l = some (.lst xs) → DRs K Hs xs ds → Q (.ref l) H') → te σ H Q
def EvA (K : PySem.W.Frag) (ta : TA) (σ : L2.St) (Hk : Hp) (ds : List Da) : Prop := ∀ H, Same Hk H → ∀ Q : List V → Hp → Prop, (∀ vs Hs H', Ext Hk H Hs H' → DRs K Hs vs ds → Q vs H') → ta σ H Q
def EvT (tt : TT) (σ : L2.St) (Hk : Hp) (b : Bool) : Prop := ∀ H, Same Hk H → ∀ Q : Bool → Hp → Prop, (∀ H', Same H H' → Q b H') → tt σ H Q
section
variable {K : PySem.W.Frag} {σ : L2.St} {Hk Hk' : Hp} {te ta tb : TE} {d d1 d2 : Da} {ds : List Da}
theorem Ev.mono (h : Ev K te σ Hk d) (k : Same Hk Hk') : Ev K te σ Hk' d := fun H s Q q => h H (k.trans s) Q fun v Hs H' x r => by
  obtain ⟨Ht, x2, k2⟩ := x.mono k s
  exact q v Ht H' x2 (r.up k2)
theorem EvA.mono {ta : TA} (h : EvA K ta σ Hk ds) (k : Same Hk Hk') : EvA K ta σ Hk' ds := fun H s Q q => h H (k.trans s) Q fun v Hs H' x r => by
  obtain ⟨Ht, x2, k2⟩ := x.mono k s
  exact q v Ht H' x2 (r.up k2)
theorem EvT.mono {tt : TT} {b : Bool} (h : EvT tt σ Hk b) (k : Same Hk Hk') : EvT tt σ Hk' b := fun H s Q q => h H (k.trans s) Q q
theorem EvN.ev (h : EvN K te σ Hk ds) : Ev K te σ Hk (.lst ds) := fun H s Q q => h H s Q fun l xs Hs H' x h0 hs hl r =>
  q _ _ _ (x.know h0 hl hs) (.lst upd_same (r.up (same_upd hs)))
end
end Bw
set_option Elab.async false
set_option linter.all false
set_option maxRecDepth 100000
set_option maxHeartbeats 2000000
namespace Bw
open PySem L2

/-! ### slots -/
/-- a thing of the frame's own: a list (no keys) or a dict of texts; where it stands, if that is told; what it holds -/
structure Ow where
  k : Option (List Str)
  p : Option Addr
  ds : List Da
inductive Sl where
  | no | dat (d : Da) | ow (o : Ow)
abbrev Sl.own (ds : List Da) : Sl := .ow ⟨none, none, ds⟩
abbrev Sl.dct (ks : List Str) (ds : List Da) : Sl := .ow ⟨some ks, none, ds⟩
def box : Option (List Str) → List V → HO
  | none, xs => .lst xs
  | some ks, xs => .dK (kvz ks xs)
def Ow.da (o : Ow) : Da := match o.k with
  | none => .lst o.ds
  | some ks => .dct ks o.ds
structure OwR (K : PySem.W.Frag) (Hk : Hp) (l : Addr) (o : Ow) (xs : List V) : Prop where
  rs : DRs K Hk xs o.ds
  kl : ∀ ks, o.k = some ks → ks.length = xs.length
  pl : ∀ a, o.p = some a → l = a
theorem OwR.up {K : PySem.W.Frag} {Hk Hs : Hp} {l : Addr} {o : Ow} {xs : List V} (h : OwR K Hk l o xs) (e : Same Hk Hs) : OwR K Hs l o xs := ⟨h.rs.up e, h.kl, h.pl⟩
theorem OwR.lst {K : PySem.W.Frag} {Hk : Hp} {l : Addr} {ds : List Da} {xs : List V} (h : DRs K Hk xs ds) : OwR K Hk l ⟨none, none, ds⟩ xs := ⟨h, fun _ e => (by cases e), fun _ e => (by cases e)⟩
theorem OwR.dr {K : PySem.W.Frag} {Hk : Hp} {l : Addr} {o : Ow} {xs : List V} (h : OwR K Hk l o xs) (e : Hk l = some (box o.k xs)) : DR K Hk (.ref l) o.da := by
  obtain ⟨k, p, ds⟩ := o
  cases k with
  | none => exact .lst e h.rs
  | some ks => exact .dct e (h.kl _ rfl) h.rs
/-- the slots' data, as far as they are data -/
structure Dats (K : PySem.W.Frag) (δ : List Sl) (σ : L2.St) (Hk : Hp) : Prop where
  len : σ.length = δ.length
  get : ∀ (i : Nat) (d : Da), δ[i]? = some (.dat d) → ∃ v, σ[i]? = some (some v) ∧ DR K Hk v d
theorem Dats.up {K : PySem.W.Frag} {δ : List Sl} {σ : L2.St} {Hk H' : Hp} (h : Dats K δ σ Hk) (e : Same Hk H') : Dats K δ σ H' := ⟨h.len, fun i d x => by
  obtain ⟨v, e1, r⟩ := h.get i d x
  exact ⟨v, e1, r.up e⟩⟩
def EvS (K : PySem.W.Frag) (te : TE) (δ : List Sl) (d : Da) : Prop := ∀ σ Hk, Dats K δ σ Hk → Ev K te σ Hk d
def EvSN (K : PySem.W.Frag) (te : TE) (δ : List Sl) (ds : List Da) : Prop := ∀ σ Hk, Dats K δ σ Hk → EvN K te σ Hk ds
def EvSA (K : PySem.W.Frag) (ta : TA) (δ : List Sl) (ds : List Da) : Prop := ∀ σ Hk, Dats K δ σ Hk → EvA K ta σ Hk ds
def EvST (K : PySem.W.Frag) (tt : TT) (δ : List Sl) (b : Bool) : Prop := ∀ σ Hk, Dats K δ σ Hk → EvT tt σ Hk b
/-- an operation on two values, a call on values, by data -/
def RV (K : PySem.W.Frag) (r : R2) (d1 d2 d : Da) : Prop := ∀ Hk H v1 v2, Same Hk H → DR K Hk v1 d1 → DR K Hk v2 d2 → ∀ Q : VK, (∀ v Hs H', Ext Hk H Hs H' → DR K Hs v d → Q v H') → r v1 v2 H Q
def RVN (K : PySem.W.Frag) (r : R2) (d1 d2 : Da) (ds : List Da) : Prop := ∀ Hk H v1 v2, Same Hk H → DR K Hk v1 d1 → DR K Hk v2 d2 → ∀ Q : VK, (∀ l xs Hs H', Ext Hk H Hs H' → H l = none → Hs l = none → H' l = some (.lst xs) → DRs K Hs xs ds → Q (.ref l) H') → r v1 v2 H Q
def RC (K : PySem.W.Frag) (r : List V → Hp → VK → Prop) (ds : List Da) (d : Da) : Prop := ∀ Hk H vs, Same Hk H → DRs K Hk vs ds → ∀ Q : VK, (∀ v Hs H', Ext Hk H Hs H' → DR K Hs v d → Q v H') → r vs H Q
def RCN (K : PySem.W.Frag) (r : List V → Hp → VK → Prop) (ds : List Da) (es : List Da) : Prop := ∀ Hk H vs, Same Hk H → DRs K Hk vs ds → ∀ Q : VK, (∀ l xs Hs H', Ext Hk H Hs H' → H l = none → Hs l = none → H' l = some (.lst xs) → DRs K Hs xs es → Q (.ref l) H') → r vs H Q
section
variable {K : PySem.W.Frag} {δ : List Sl} {te ta tb : TE} {d d1 d2 : Da} {ds es : List Da} {r : R2} {t u : TT} {b c : Bool}
theorem EvSN.ev (h : EvSN K te δ ds) : EvS K te δ (.lst ds) := fun σ Hk D => (h σ Hk D).ev
theorem evs_var {i : Nat} (h : δ[i]? = some (.dat d)) : EvS K (tVar i) δ d := fun σ Hk D H s Q q => by
  obtain ⟨v, e, r⟩ := D.get i d h
  exact ⟨v, e, q v Hk H (Ext.refl s) r⟩
theorem evs_int {i : Int} : EvS K (tC (.int i)) δ (.int i) := fun σ Hk D H s Q q => q _ Hk H (Ext.refl s) (.int i)
theorem evs_bl {i : Bool} : EvS K (tC (.bl i)) δ (.bl i) := fun σ Hk D H s Q q => q _ Hk H (Ext.refl s) (.bl i)
theorem evs_str {i : Str} : EvS K (tC (.str i)) δ (.str i) := fun σ Hk D H s Q q => q _ Hk H (Ext.refl s) (.str i)
theorem evs_ty {n : String} : EvS K (tC (.ty n)) δ (.ty n) := fun σ Hk D H s Q q => q _ Hk H (Ext.refl s) (.ty n)
theorem evs_cls {n : Addr} : EvS K (tC (.ref n)) δ (.cls n) := fun σ Hk D H s Q q => q _ Hk H (Ext.refl s) (.cls n)
theorem evs_non : EvS K (tC .non) δ .non := fun σ Hk D H s Q q => q _ Hk H (Ext.refl s) .non
theorem evs_op (ha : EvS K ta δ d1) (hb : EvS K tb δ d2) (hr : RV K r d1 d2 d) : EvS K (tOp r ta tb) δ d := fun σ Hk D H s Q q =>
  ha σ Hk D H s _ fun v1 H1 H1' x1 r1 => hb σ H1 (D.up x1.kn) H1' x1.st _ fun v2 H2 H2' x2 r2 =>
    hr H2 H2' v1 v2 x2.st (r1.up x2.kn) r2 Q fun v H3 H3' x3 r3 => q v H3 H3' ((x1.trans x2).trans x3) r3
theorem evs_opN (ha : EvS K ta δ d1) (hb : EvS K tb δ d2) (hr : RVN K r d1 d2 ds) : EvSN K (tOp r ta tb) δ ds := fun σ Hk D H s Q q =>
  ha σ Hk D H s _ fun v1 H1 H1' x1 r1 => hb σ H1 (D.up x1.kn) H1' x1.st _ fun v2 H2 H2' x2 r2 =>
    hr H2 H2' v1 v2 x2.st (r1.up x2.kn) r2 Q fun l xs H3 H3' x3 a1 a2 a3 a4 => q l xs H3 H3' ((x1.trans x2).trans x3) ((x1.trans x2).up.free a1) a2 a3 a4
theorem evs_nil : EvSA K tNil δ [] := fun σ Hk D H s Q q => q _ Hk H (Ext.refl s) .nil
theorem evs_cons {t : TA} (ha : EvS K ta δ d) (hb : EvSA K t δ ds) : EvSA K (tCons ta t) δ (d :: ds) := fun σ Hk D H s Q q =>
  ha σ Hk D H s _ fun v1 H1 H1' x1 r1 => hb σ H1 (D.up x1.kn) H1' x1.st _ fun vs H2 H2' x2 r2 => q _ H2 H2' (x1.trans x2) (.cons (r1.up x2.kn) r2)
theorem evs_tup {t : TA} (h : EvSA K t δ ds) (hl : ds.length ≤ 1000) : EvS K (tTup t) δ (.tup ds) := fun σ Hk D H s Q q =>
  h σ Hk D H s _ fun vs H1 H1' x1 r1 => ⟨Nat.le_of_lt (small1000 (by rw [r1.len]; exact hl)), fun p hp => q _ _ _ (x1.new hp) (.tup (SqT.of upd_same) (r1.up (same_upd (x1.st.free hp))))⟩
theorem evs_lst {t : TA} (h : EvSA K t δ ds) (hl : ds.length ≤ 1000) : EvSN K (tLst t) δ ds := fun σ Hk D H s Q q =>
  h σ Hk D H s _ fun vs H1 H1' x1 r1 => ⟨Nat.le_of_lt (small1000 (by rw [r1.len]; exact hl)), fun p hp => by
    refine q p vs H1 (upd H1' p (.lst vs)) ⟨x1.up.trans (same_upd hp), x1.kn, x1.st.trans (same_upd hp), x1.nw⟩ (x1.up.free hp) (x1.st.free hp) upd_same r1⟩
theorem evs_cb {t : TA} {rc : List V → Hp → VK → Prop} (ha : EvSA K t δ ds) (hr : RC K rc ds d) : EvS K (tCB rc t) δ d := fun σ Hk D H s Q q =>
  ha σ Hk D H s _ fun vs H1 H1' x1 r1 => hr H1 H1' vs x1.st r1 Q fun v H2 H2' x2 r2 => q v H2 H2' (x1.trans x2) r2
theorem evs_cbN {t : TA} {rc : List V → Hp → VK → Prop} (ha : EvSA K t δ ds) (hr : RCN K rc ds es) : EvSN K (tCB rc t) δ es := fun σ Hk D H s Q q =>
  ha σ Hk D H s _ fun vs H1 H1' x1 r1 => hr H1 H1' vs x1.st r1 Q fun l xs H2 H2' x2 a1 a2 a3 a4 => q l xs H2 H2' (x1.trans x2) (x1.up.free a1) a2 a3 a4
theorem evs_ifx {tt : TT} (hc : EvST K tt δ b) (h1 : b = true → EvS K ta δ d) (h2 : b = false → EvS K tb δ d) : EvS K (tIf tt ta tb) δ d := fun σ Hk D H s Q q =>
  hc σ Hk D H s _ fun H1 x1 => by
    cases b with
    | true =>
      refine iteT ?_
      exact h1 rfl σ Hk D H1 (s.trans x1) Q fun v H2 H2' x2 r => q v H2 H2' ((Ext.of_up s x1).trans x2) r
    | false =>
      refine iteF ?_
      exact h2 rfl σ Hk D H1 (s.trans x1) Q fun v H2 H2' x2 r => q v H2 H2' ((Ext.of_up s x1).trans x2) r
/-! tests -/
theorem evt_test (h : EvS K te δ (.bl b)) : EvST K (tTest te) δ b := fun σ Hk D H s Q q =>
  h σ Hk D H s _ fun v Hs H' x r => by
    cases r
    exact ⟨b, rfl, q H' x.up⟩
theorem evt_B (h : EvS K te δ (.bl b)) : EvST K (tB te) δ b := fun σ Hk D H s Q q =>
  h σ Hk D H s _ fun v Hs H' x r => by
    cases r
    exact ⟨b, rfl, q H' x.up⟩
theorem evt_not (h : EvST K t δ b) : EvST K (tNot t) δ (!b) := fun σ Hk D H s Q q => h σ Hk D H s _ fun H' x => q H' x
theorem evt_and (h1 : EvST K t δ b) (h2 : b = true → EvST K u δ c) : EvST K (tAnd t u) δ (b && c) := fun σ Hk D H s Q q =>
  h1 σ Hk D H s _ fun H1 x1 => by
    cases b with
    | true =>
      refine iteT ?_
      exact h2 rfl σ Hk D H1 (s.trans x1) Q fun H2 x2 => q H2 (x1.trans x2)
    | false =>
      refine iteF ?_
      exact q H1 x1
theorem evt_or (h1 : EvST K t δ b) (h2 : b = false → EvST K u δ c) : EvST K (tOr t u) δ (b || c) := fun σ Hk D H s Q q =>
  h1 σ Hk D H s _ fun H1 x1 => by
    cases b with
    | true =>
      refine iteT ?_
      exact q H1 x1
    | false =>
      refine iteF ?_
      exact h2 rfl σ Hk D H1 (s.trans x1) Q fun H2 x2 => q H2 (x1.trans x2)
theorem evs_andV (h1 : EvS K ta δ (.bl b)) (h2 : b = true → EvS K tb δ (.bl c)) : EvS K (tAndV ta tb) δ (.bl (b && c)) := fun σ Hk D H s Q q =>
  h1 σ Hk D H s _ fun v H1 H1' x1 r1 => by
    cases r1
    refine ⟨b, rfl, ?_⟩
    cases b with
    | true =>
      refine iteT ?_
      exact h2 rfl σ H1 (D.up x1.kn) H1' x1.st Q fun v2 H2 H2' x2 r2 => q v2 H2 H2' (x1.trans x2) r2
    | false =>
      refine iteF ?_
      exact q _ H1 H1' x1 (.bl false)
theorem evs_orV (h1 : EvS K ta δ (.bl b)) (h2 : b = false → EvS K tb δ (.bl c)) : EvS K (tOrV ta tb) δ (.bl (b || c)) := fun σ Hk D H s Q q =>
  h1 σ Hk D H s _ fun v H1 H1' x1 r1 => by
    cases r1
    refine ⟨b, rfl, ?_⟩
    cases b with
    | true =>
      refine iteT ?_
      exact q _ H1 H1' x1 (.bl true)
    | false =>
      refine iteF ?_
      exact h2 rfl σ H1 (D.up x1.kn) H1' x1.st Q fun v2 H2 H2' x2 r2 => q v2 H2 H2' (x1.trans x2) r2
theorem evs_notV (h1 : EvS K ta δ (.bl b)) : EvS K (tNotV ta) δ (.bl (!b)) := fun σ Hk D H s Q q =>
  h1 σ Hk D H s _ fun v H1 H1' x1 r1 => by
    cases r1
    exact ⟨b, rfl, q _ H1 H1' x1 (.bl _)⟩
theorem EvST.to (h : EvST K t δ b) (e : b = c) : EvST K t δ c := e ▸ h
theorem EvS.to {d' : Da} (h : EvS K te δ d) (e : d = d') : EvS K te δ d' := e ▸ h
theorem EvSN.to {ds' : List Da} (h : EvSN K te δ ds) (e : ds = ds') : EvSN K te δ ds' := e ▸ h
end

/-! ### a def's body: its slots as it goes -/
structure Ct where
  K : PySem.W.Frag
  Hc : Hp
  H0 : Hp
  pins : List Hp
structure At (C : Ct) (δ : List Sl) (σ : L2.St) (Hk H : Hp) : Prop where
  ext : Ext C.Hc C.H0 Hk H
  dat : Dats C.K δ σ Hk
  own : ∀ (i : Nat) (o : Ow), δ[i]? = some (.ow o) → ∃ l xs, σ[i]? = some (some (.ref l)) ∧ C.H0 l = none ∧ Hk l = none ∧ H l = some (box o.k xs) ∧ OwR C.K Hk l o xs
  sep : ∀ (i j : Nat) (ds es : Ow) (l : Addr), i ≠ j → δ[i]? = some (.ow ds) → δ[j]? = some (.ow es) → σ[i]? = some (some (.ref l)) → σ[j]? = some (some (.ref l)) → False
  pin : ∀ P ∈ C.pins, Same P Hk
def Sl.frz : Sl → Sl
  | .ow o => .dat o.da
  | s => s
def Go (C : Ct) (ts : TS) (D : Ends) (δ : List Sl) : Prop := ∀ σ Hk H, At C δ σ Hk H → ts D σ H
def Nx (C : Ct) (P : L2.St → Hp → Prop) (δ : List Sl) : Prop := ∀ σ Hk H, At C δ σ Hk H → P σ H
def Reach (C : Ct) (I : List Sl → Prop) (σ : L2.St) (H : Hp) : Prop := ∃ δ Hk, I δ ∧ At C δ σ Hk H
section
variable {C : Ct} {δ : List Sl} {σ : L2.St} {Hk Hs H H' : Hp} {D : Ends} {te ta tb : TE} {tt : TT} {t1 t2 : TS} {d : Da} {ds : List Da} {b : Bool} {i : Nat}
theorem At.len (a : At C δ σ Hk H) : σ.length = δ.length := a.dat.len
theorem At.same (a : At C δ σ Hk H) : Same Hk H := a.ext.st
theorem At.frz (a : At C δ σ Hk H) : Dats C.K (δ.map Sl.frz) σ H := ⟨by rw [List.length_map]; exact a.len, fun i d h => by
  rw [List.getElem?_map] at h
  cases e : δ[i]? with
  | none => rw [e] at h; cases h
  | some s =>
    rw [e] at h
    cases s with
    | no => cases h
    | dat d' =>
      cases h
      obtain ⟨v, e1, r⟩ := a.dat.get i d e
      exact ⟨v, e1, r.up a.same⟩
    | ow ds =>
      cases h
      obtain ⟨l, xs, e1, _, _, e2, r⟩ := a.own i ds e
      exact ⟨_, e1, (r.up a.same).dr e2⟩⟩
/-- the heap goes on -/
theorem At.go (a : At C δ σ Hk H) (x : Ext Hk H Hs H') : At C δ σ Hs H' where
  ext := a.ext.trans x
  dat := a.dat.up x.kn
  own := fun i ds e => by
    obtain ⟨l, xs, e1, e2, e3, e4, r⟩ := a.own i ds e
    refine ⟨l, xs, e1, e2, ?_, x.up l _ e4, r.up x.kn⟩
    cases q : Hs l with
    | none => rfl
    | some o =>
      have := x.nw l o q e3
      rw [e4] at this
      cases this
  sep := a.sep
  pin := fun p hp => (a.pin p hp).trans x.kn
theorem set_at {α : Type} {l : List α} {i j : Nat} {x y : α} (h : (l.set i x)[j]? = some y) : (j = i ∧ x = y) ∨ (j ≠ i ∧ l[j]? = some y) := by
  by_cases e : i = j
  · subst e
    by_cases hl : i < l.length
    · rw [List.getElem?_set_self hl] at h
      exact .inl ⟨rfl, Option.some.inj h⟩
    · rw [List.getElem?_eq_none (by simpa using hl)] at h
      cases h
  · rw [List.getElem?_set_ne e] at h
    exact .inr ⟨fun z => e z.symm, h⟩
/-- a slot gets data -/
theorem At.set (a : At C δ σ Hk H) {v : V} (r : DR C.K Hk v d) : At C (δ.set i (.dat d)) (σ.set i (some v)) Hk H where
  ext := a.ext
  dat := ⟨by rw [List.length_set, List.length_set]; exact a.len, fun j e h => by
    rcases set_at h with ⟨rfl, z⟩ | ⟨n, z⟩
    · cases z
      have hj : j < δ.length := by simpa using (List.getElem?_eq_some_iff.mp h).1
      exact ⟨v, List.getElem?_set_self (by rw [a.len]; exact hj), r⟩
    · obtain ⟨w, e1, r1⟩ := a.dat.get j e z
      exact ⟨w, by rw [List.getElem?_set_ne (Ne.symm n)]; exact e1, r1⟩⟩
  own := fun j es h => by
    rcases set_at h with ⟨rfl, z⟩ | ⟨n, z⟩
    · cases z
    · obtain ⟨l, xs, e1, q⟩ := a.own j es z
      exact ⟨l, xs, by rw [List.getElem?_set_ne (Ne.symm n)]; exact e1, q⟩
  sep := fun j k es fs l n h1 h2 h3 h4 => by
    rcases set_at h1 with ⟨rfl, z⟩ | ⟨n1, z1⟩
    · cases z
    · rcases set_at h2 with ⟨rfl, z⟩ | ⟨n2, z2⟩
      · cases z
      · rw [List.getElem?_set_ne (Ne.symm n1)] at h3
        rw [List.getElem?_set_ne (Ne.symm n2)] at h4
        exact a.sep j k es fs l n z1 z2 h3 h4
  pin := a.pin
/-- a slot gets a new list -/
theorem At.setW (a : At C δ σ Hk H) {l : Addr} {xs : List V} {o : Ow} (h0 : C.H0 l = none) (hk : Hk l = none) (hl : H l = some (box o.k xs)) (r : OwR C.K Hk l o xs) (new : ∀ (j : Nat) (es : Ow) (m : Addr), δ[j]? = some (.ow es) → σ[j]? = some (some (.ref m)) → m ≠ l) :
    At C (δ.set i (.ow o)) (σ.set i (some (.ref l))) Hk H where
  ext := a.ext
  dat := ⟨by rw [List.length_set, List.length_set]; exact a.len, fun j e h => by
    rcases set_at h with ⟨rfl, z⟩ | ⟨n, z⟩
    · cases z
    · obtain ⟨w, e1, r1⟩ := a.dat.get j e z
      exact ⟨w, by rw [List.getElem?_set_ne (Ne.symm n)]; exact e1, r1⟩⟩
  own := fun j es h => by
    rcases set_at h with ⟨rfl, z⟩ | ⟨n, z⟩
    · cases z
      have hj : j < δ.length := by simpa using (List.getElem?_eq_some_iff.mp h).1
      exact ⟨l, xs, List.getElem?_set_self (by rw [a.len]; exact hj), h0, hk, hl, r⟩
    · obtain ⟨m, ys, e1, q⟩ := a.own j es z
      exact ⟨m, ys, by rw [List.getElem?_set_ne (Ne.symm n)]; exact e1, q⟩
  sep := fun j k es fs m n h1 h2 h3 h4 => by
    rcases set_at h1 with ⟨rfl, z⟩ | ⟨n1, z1⟩
    · rcases set_at h2 with ⟨rfl, z⟩ | ⟨n2, z2⟩
      · exact n rfl
      · have hj : j < δ.length := by simpa using (List.getElem?_eq_some_iff.mp h1).1
        rw [List.getElem?_set_self (by rw [a.len]; exact hj)] at h3
        rw [List.getElem?_set_ne (Ne.symm n2)] at h4
        cases h3
        exact new k fs l z2 h4 rfl
    · rw [List.getElem?_set_ne (Ne.symm n1)] at h3
      rcases set_at h2 with ⟨rfl, z⟩ | ⟨n2, z2⟩
      · have hj : k < δ.length := by simpa using (List.getElem?_eq_some_iff.mp h2).1
        rw [List.getElem?_set_self (by rw [a.len]; exact hj)] at h4
        cases h4
        exact new j es l z1 h3 rfl
      · rw [List.getElem?_set_ne (Ne.symm n2)] at h4
        exact a.sep j k es fs m n z1 z2 h3 h4
  pin := a.pin
theorem At.setO (a : At C δ σ Hk H) {l : Addr} {xs : List V} (h0 : C.H0 l = none) (hk : Hk l = none) (hl : H l = some (.lst xs)) (r : DRs C.K Hk xs ds) (new : ∀ (j : Nat) (es : Ow) (m : Addr), δ[j]? = some (.ow es) → σ[j]? = some (some (.ref m)) → m ≠ l) :
    At C (δ.set i (.own ds)) (σ.set i (some (.ref l))) Hk H := a.setW (o := ⟨none, none, ds⟩) h0 hk hl (.lst r) new
theorem own_ne (a : At C δ σ Hk H) {l : Addr} (hl : H l = none) : ∀ (j : Nat) (es : Ow) (m : Addr), δ[j]? = some (.ow es) → σ[j]? = some (some (.ref m)) → m ≠ l := fun j es m e1 e2 z => by
  obtain ⟨n, xs, e3, _, _, e4, _⟩ := a.own j es e1
  rw [e2] at e3
  cases e3
  rw [z, hl] at e4
  cases e4

/-! statements -/
theorem go_seq (h : Go C t1 { D with nx := t2 D } δ) : Go C (tSeq t1 t2) D δ := h
theorem go_one (h : Nx C D.nx δ) : Go C tNext D δ := h
theorem nx_go (h : Go C t1 D δ) : Nx C (t1 D) δ := h
theorem go_set (h : EvS C.K te δ d) (q : Nx C D.nx (δ.set i (.dat d))) : Go C (tAsg te (gName i)) D δ := fun σ Hk H a =>
  h σ Hk a.dat H a.same _ fun v Hs H' x r => q _ Hs H' ((a.go x).set r)
theorem go_setN (h : EvSN C.K te δ ds) (q : Nx C D.nx (δ.set i (.own ds))) : Go C (tAsg te (gName i)) D δ := fun σ Hk H a =>
  h σ Hk a.dat H a.same _ fun l xs Hs H' x h0 hs hl r => q _ Hs H' ((a.go x).setO (a.ext.up.free h0) hs hl r fun j es m e1 e2 => own_ne a h0 j es m e1 e2)
def Da.flat : Da → Bool
  | .non => true | .bl _ => true | .int _ => true | .str _ => true | .ty _ => true | .cls _ => true | _ => false
theorem DR.flat {K : PySem.W.Frag} {v : V} (h : DR K H v d) (f : d.flat = true) : DR K H' v d := by
  cases h <;> first | (cases f; done) | constructor
/-- the value hangs on the slots' own lists, but it is flat -/
theorem go_setF (h : EvS C.K te (δ.map Sl.frz) d) (f : d.flat = true) (q : Nx C D.nx (δ.set i (.dat d))) : Go C (tAsg te (gName i)) D δ := fun σ Hk H a =>
  h σ H a.frz H (Same.refl _) _ fun v Hs H' x r => q _ Hk H' ((a.go (Ext.of_up a.same x.up)).set (r.flat f))
theorem go_drop (h : EvS C.K te δ d) (q : Nx C D.nx δ) : Go C (tDrop te) D δ := fun σ Hk H a =>
  h σ Hk a.dat H a.same _ fun v Hs H' x r => q _ Hs H' (a.go x)
theorem go_if (h : EvST C.K tt (δ.map Sl.frz) b) (h1 : b = true → Go C t1 D δ) (h2 : b = false → Go C t2 D δ) : Go C (tIfS tt t1 t2) D δ := fun σ Hk H a =>
  h σ H a.frz H (Same.refl _) _ fun H' x => by
    have a' : At C δ σ Hk H' := a.go (Ext.of_up a.same x)
    cases b with
    | true => exact iteT (h1 rfl σ Hk H' a')
    | false => exact iteF (h2 rfl σ Hk H' a')
theorem go_ifd (h : EvST C.K tt δ b) (h1 : b = true → Go C t1 D δ) (h2 : b = false → Go C t2 D δ) : Go C (tIfS tt t1 t2) D δ := fun σ Hk H a =>
  h σ Hk a.dat H a.same _ fun H' x => by
    have a' : At C δ σ Hk H' := a.go (Ext.of_up a.same x)
    cases b with
    | true => exact iteT (h1 rfl σ Hk H' a')
    | false => exact iteF (h2 rfl σ Hk H' a')
/-- what is wanted of a def that hands back d -/
def Post (C : Ct) (d : Da) (Q : VK) : Prop := ∀ v Hs H', Ext C.Hc C.H0 Hs H' → DR C.K Hs v d → Q v H'
theorem go_ret (h : EvS C.K te δ d) (q : Post C d D.rt) : Go C (tRet te) D δ := fun σ Hk H a =>
  h σ Hk a.dat H a.same _ fun v Hs H' x r => q v Hs H' (a.ext.trans x) r
theorem go_retF (h : EvS C.K te (δ.map Sl.frz) d) (f : d.flat = true) (q : Post C d D.rt) : Go C (tRet te) D δ := fun σ Hk H a =>
  h σ H a.frz H (Same.refl _) _ fun v Hs H' x r => q v Hk H' (a.ext.trans (Ext.of_up a.same x.up)) (r.flat f)
theorem go_retN (q : Post C .non D.rt) : Go C tRetN D δ := fun σ Hk H a => q _ Hk H a.ext .non
theorem nx_end {I : List Sl → Prop} (h : I δ) : Nx C (Reach C I) δ := fun σ Hk H a => ⟨δ, Hk, h, a⟩
/-- a slot's list is data from here on -/
theorem At.freezeW {o : Ow} (a : At C δ σ Hk H) (e : δ[i]? = some (.ow o)) : ∃ Hs, At C (δ.set i (.dat o.da)) σ Hs H := by
  obtain ⟨l, xs, e1, e2, e3, e4, r⟩ := a.own i o e
  have k : Same Hk (upd Hk l (box o.k xs)) := same_upd e3
  refine ⟨upd Hk l (box o.k xs), a.ext.know e2 e4 e3, ⟨by rw [List.length_set]; exact a.len, fun j d h => ?_⟩, fun j es h => ?_, fun j m es fs n ne h1 h2 h3 h4 => ?_, fun p hp => (a.pin p hp).trans k⟩
  · rcases set_at h with ⟨rfl, z⟩ | ⟨n, z⟩
    · cases z
      exact ⟨_, e1, (r.up k).dr upd_same⟩
    · obtain ⟨w, e5, r5⟩ := a.dat.get j d z
      exact ⟨w, e5, r5.up k⟩
  · rcases set_at h with ⟨rfl, z⟩ | ⟨n, z⟩
    · cases z
    · obtain ⟨m, ys, q1, q2, q3, q4, q5⟩ := a.own j es z
      refine ⟨m, ys, q1, q2, ?_, q4, q5.up k⟩
      have hml : m ≠ l := fun y => by
        subst y
        exact a.sep j i es o m n z e q1 e1
      rw [upd_ne hml]
      exact q3
  · rcases set_at h1 with ⟨rfl, z⟩ | ⟨n1, z1⟩
    · cases z
    · rcases set_at h2 with ⟨rfl, z⟩ | ⟨n2, z2⟩
      · cases z
      · exact a.sep j m es fs n ne z1 z2 h3 h4
theorem At.freeze (a : At C δ σ Hk H) (e : δ[i]? = some (.own ds)) : ∃ Hs, At C (δ.set i (.dat (.lst ds))) σ Hs H := a.freezeW e
theorem go_freeze (i : Nat) (e : δ[i]? = some (.own ds)) (q : Go C t1 D (δ.set i (.dat (.lst ds)))) : Go C t1 D δ := fun σ Hk H a => by
  obtain ⟨Hs, a'⟩ := a.freeze e
  exact q σ Hs H a'
theorem nx_freeze {P : L2.St → Hp → Prop} (i : Nat) (e : δ[i]? = some (.own ds)) (q : Nx C P (δ.set i (.dat (.lst ds)))) : Nx C P δ := fun σ Hk H a => by
  obtain ⟨Hs, a'⟩ := a.freeze e
  exact q σ Hs H a'
/-- a slot's own thing changes -/
theorem At.mutW (a : At C δ σ Hk H) {l : Addr} {xs' : List V} {o o' : Ow} (e : δ[i]? = some (.ow o)) (e1 : σ[i]? = some (some (.ref l))) (r : OwR C.K Hk l o' xs') :
    At C (δ.set i (.ow o')) σ Hk (upd H l (box o'.k xs')) := by
  obtain ⟨l', xs, f1, e2, e3, f4, rs⟩ := a.own i o e
  rw [e1] at f1
  cases f1
  refine ⟨⟨same_updK a.ext.up e2, a.ext.kn, same_updK a.ext.st e3, a.ext.nw⟩, ⟨by rw [List.length_set]; exact a.len, fun j d h => ?_⟩, fun j es h => ?_, fun j m es fs n ne h1 h2 h3 h4 => ?_, a.pin⟩
  · rcases set_at h with ⟨rfl, z⟩ | ⟨n, z⟩
    · cases z
    · exact a.dat.get j d z
  · rcases set_at h with ⟨rfl, z⟩ | ⟨n, z⟩
    · cases z
      exact ⟨l, _, e1, e2, e3, upd_same, r⟩
    · obtain ⟨m, ys, q1, q2, q3, q4, q5⟩ := a.own j es z
      have hml : m ≠ l := fun y => by
        subst y
        exact a.sep j i es o m n z e q1 e1
      exact ⟨m, ys, q1, q2, q3, by rw [upd_ne hml]; exact q4, q5⟩
  · have f1 : ∃ es', δ[j]? = some (.ow es') := by
      rcases set_at h1 with ⟨rfl, z⟩ | ⟨n1, z1⟩
      · exact ⟨_, e⟩
      · exact ⟨_, z1⟩
    have f2 : ∃ es', δ[m]? = some (.ow es') := by
      rcases set_at h2 with ⟨rfl, z⟩ | ⟨n1, z1⟩
      · exact ⟨_, e⟩
      · exact ⟨_, z1⟩
    obtain ⟨_, f1⟩ := f1
    obtain ⟨_, f2⟩ := f2
    exact a.sep j m _ _ n ne f1 f2 h3 h4
/-- a slot's own list has one item more -/
theorem At.push (a : At C δ σ Hk H) {l : Addr} {xs : List V} {v : V} (e : δ[i]? = some (.own ds)) (e1 : σ[i]? = some (some (.ref l))) (e4 : H l = some (.lst xs)) (r : DR C.K Hk v d) :
    At C (δ.set i (.own (ds ++ [d]))) σ Hk (upd H l (.lst (xs ++ [v]))) := by
  obtain ⟨l', xs', f1, e2, e3, f4, rs⟩ := a.own i _ e
  rw [e1] at f1
  cases f1
  have f4 : H l = some (.lst xs') := f4
  rw [e4] at f4
  cases f4
  exact a.mutW (o := ⟨none, none, ds⟩) (o' := ⟨none, none, ds ++ [d]⟩) e e1 (.lst (rs.rs.snoc r))
/-- xs.append(e) as a statement -/
theorem go_append (e : δ[i]? = some (.own ds)) (h : EvS C.K te δ d) (hl : ds.length < 1000) (q : Nx C D.nx (δ.set i (.own (ds ++ [d])))) :
    Go C (tDrop (tBM C.K "list" rAppend (tVar i) (tCons te tNil))) D δ := fun σ Hk H a => by
  obtain ⟨l, xs, e1, e2, e3, e4, rs⟩ := a.own i _ e
  have e4 : H l = some (.lst xs) := e4
  have rs : DRs C.K Hk xs ds := rs.rs
  refine ⟨_, e1, .inl ⟨rfl, _, SqL.of e4⟩, ?_⟩
  refine h σ Hk a.dat H a.same _ fun v Hs H' x r => ?_
  refine ⟨l, xs, v, rfl, rfl, x.up _ _ e4, small1000 (by rw [rs.len]; omega), ?_⟩
  exact q _ _ _ ((a.go x).push e e1 (x.up _ _ e4) r)
/-! a statement with what follows it -/
theorem sq_set (h : EvS C.K te δ d) (q : Go C t2 D (δ.set i (.dat d))) : Go C (tSeq (tAsg te (gName i)) t2) D δ := go_seq (go_set h q)
theorem sq_setN (h : EvSN C.K te δ ds) (q : Go C t2 D (δ.set i (.own ds))) : Go C (tSeq (tAsg te (gName i)) t2) D δ := go_seq (go_setN h q)
theorem sq_setF (h : EvS C.K te (δ.map Sl.frz) d) (f : d.flat = true) (q : Go C t2 D (δ.set i (.dat d))) : Go C (tSeq (tAsg te (gName i)) t2) D δ := go_seq (go_setF h f q)
theorem sq_drop (h : EvS C.K te δ d) (q : Go C t2 D δ) : Go C (tSeq (tDrop te) t2) D δ := go_seq (go_drop h q)
theorem sq_append (e : δ[i]? = some (.own ds)) (h : EvS C.K te δ d) (hl : ds.length < 1000) (q : Go C t2 D (δ.set i (.own (ds ++ [d])))) :
    Go C (tSeq (tDrop (tBM C.K "list" rAppend (tVar i) (tCons te tNil))) t2) D δ := go_seq (go_append e h hl q)
theorem sq_if {t3 : TS} (h : EvST C.K tt (δ.map Sl.frz) b) (h1 : b = true → Go C t1 { D with nx := t3 D } δ) (h2 : b = false → Go C t2 { D with nx := t3 D } δ) : Go C (tSeq (tIfS tt t1 t2) t3) D δ := go_seq (go_if h h1 h2)
/-- an if without else -/
theorem sq_if1 {t3 : TS} (h : EvST C.K tt (δ.map Sl.frz) b) (h1 : b = true → Go C t1 { D with nx := t3 D } δ) (h2 : b = false → Go C t3 D δ) : Go C (tSeq (tIfS tt t1 tNext) t3) D δ := go_seq (go_if h h1 fun z => h2 z)
theorem sq_no {t3 : TS} (h : EvST C.K tt (δ.map Sl.frz) false) (q : Go C t3 D δ) : Go C (tSeq (tIfS tt t1 tNext) t3) D δ := sq_if1 h (fun z => by cases z) fun _ => q
theorem sq_nod {t3 : TS} (h : EvST C.K tt δ false) (q : Go C t3 D δ) : Go C (tSeq (tIfS tt t1 tNext) t3) D δ := go_seq (go_ifd h (fun z => by cases z) fun _ => q)
theorem sq_yesd {t3 : TS} (h : EvST C.K tt δ true) (q : Go C t1 { D with nx := t3 D } δ) : Go C (tSeq (tIfS tt t1 t2) t3) D δ := go_seq (go_ifd h (fun _ => q) fun z => by cases z)
/-- an if without else, its two ways joined -/
theorem sq_ifJ {t3 : TS} (J : List Sl → Prop) (h : EvST C.K tt (δ.map Sl.frz) b) (h1 : b = true → (∀ δ', J δ' → Nx C (t3 D) δ') → Go C t1 { D with nx := t3 D } δ) (h2 : b = false → J δ) (h3 : ∀ δ', J δ' → Go C t3 D δ') :
    Go C (tSeq (tIfS tt t1 tNext) t3) D δ := go_seq (go_if h (fun z => h1 z fun δ' j => h3 δ' j) fun z => h3 δ (h2 z))
end
end Bw
set_option Elab.async false
set_option linter.all false
set_option maxRecDepth 100000
set_option maxHeartbeats 2000000
namespace Bw
open PySem L2

/-! ### what a loop walks, by data -/
structure ItOk (K : PySem.W.Frag) (J : It) (ds : List Da) (Hs : Hp) : Prop where
  go : ∀ i H d, Same Hs H → ds[i]? = some d → J.go i H
  yld : ∀ i H x H' d Hk, Same Hs Hk → Same Hk H → ds[i]? = some d → J.yld i H x H' → ∃ Hk', Ext Hk H Hk' H' ∧ DR K Hk' x d
  stop : ∀ H, Same Hs H → J.stop ds.length H
def ItD (K : PySem.W.Frag) (wi : TI) (δ : List Sl) (ds : List Da) : Prop := ∀ σ Hk, Dats K δ σ Hk → ∀ H, Same Hk H → ∀ R : It → Hp → Prop, (∀ J Hs H', Ext Hk H Hs H' → ItOk K J ds Hs → R J H') → wi σ H R
section
variable {K : PySem.W.Frag} {δ : List Sl} {te : TE} {ta : TA} {ds : List Da} {xs : List V} {a : Addr} {H H' Hk Hs : Hp}
theorem sqL_inj {ys : List V} (h : H a = some (.lst xs)) (k : SqL K H a ys) (hk : K.lookup a = none) : ys = xs := by
  rcases k with (k | ⟨o, k⟩) | ⟨o, its, n, e, _⟩
  · rw [h] at k; cases k; rfl
  · rw [h] at k; cases k
  · rw [hk] at e; cases e
theorem itok_list (h : SqL K Hs a xs) (r : DRs K Hs xs ds) : ItOk K (Itl K a) ds Hs where
  go := fun i H d s e => by
    obtain ⟨v, e1, _⟩ := r.at e
    exact ⟨xs, v, s.seq h, e1⟩
  yld := fun i H x H' d Hk s1 s2 e y => by
    obtain ⟨rfl, y⟩ := y
    obtain ⟨v, e1, r1⟩ := r.at e
    have e2 := y xs ((s1.trans s2).seq h)
    rw [e1] at e2
    cases e2
    exact ⟨Hk, Ext.refl s2, r1.up s1⟩
  stop := fun H s => ⟨xs, s.seq h, by rw [r.len]; exact Nat.le_refl _⟩
theorem itok_tup (h : SqT K Hs a xs) (r : DRs K Hs xs ds) : ItOk K (Itt K a) ds Hs where
  go := fun i H d s e => by
    obtain ⟨v, e1, _⟩ := r.at e
    exact ⟨xs, v, same_t s h, e1⟩
  yld := fun i H x H' d Hk s1 s2 e y => by
    obtain ⟨rfl, y⟩ := y
    obtain ⟨v, e1, r1⟩ := r.at e
    have e2 := y xs (same_t (s1.trans s2) h)
    rw [e1] at e2
    cases e2
    exact ⟨Hk, Ext.refl s2, r1.up s1⟩
  stop := fun H s => ⟨xs, same_t s h, by rw [r.len]; exact Nat.le_refl _⟩
theorem itd_list (h : EvS K te δ (.lst ds)) : ItD K (iList K te) δ ds := fun σ Hk D H s R q =>
  h σ Hk D H s _ fun v Hs H' x r => by
    cases r with
    | lst e r1 => exact ⟨_, rfl, ⟨_, x.st.seq (SqL.of e)⟩, q _ Hs H' x (itok_list (SqL.of e) r1)⟩
theorem itd_tup (h : EvS K te δ (.tup ds)) : ItD K (iTup K te) δ ds := fun σ Hk D H s R q =>
  h σ Hk D H s _ fun v Hs H' x r => by
    cases r with
    | tup e r1 => exact ⟨_, rfl, ⟨_, same_t x.st e⟩, q _ Hs H' x (itok_tup e r1)⟩
theorem itd_scr {ns : List Int} (h : EvS K te δ (.scr ns)) : ItD K (iList K te) δ (ns.map Da.int) := fun σ Hk D H s R q =>
  h σ Hk D H s _ fun v Hs H' x r => by
    cases r with
    | scr e => exact ⟨_, rfl, ⟨_, x.st.seq e⟩, q _ Hs H' x (itok_list e DRs.ints)⟩
/-- a list or a tuple -/
def iSeq (K : PySem.W.Frag) (te : TE) : TI := fun σ H R => iList K te σ H R ∨ iTup K te σ H R
theorem pi_seq {X : Cx} {tg l : Expr} {tl : TE} (h1 : PI X tg l (iList X.K tl)) (h2 : PI X tg l (iTup X.K tl)) : PI X tg l (iSeq X.K tl) :=
  ⟨fun pins s σ H R I h => h.elim (h1.run pins s σ H R I) (h2.run pins s σ H R I)⟩
theorem itd_seqL (h : ItD K (iList K te) δ ds) : ItD K (iSeq K te) δ ds := fun σ Hk D H s R q => .inl (h σ Hk D H s R q)
theorem itd_seqT (h : ItD K (iTup K te) δ ds) : ItD K (iSeq K te) δ ds := fun σ Hk D H s R q => .inr (h σ Hk D H s R q)
def signs (z : Str) : List Da := z.cps.toList.map fun c => Da.str ⟨#[c]⟩
theorem itd_str {z : Str} (h : EvS K te δ (.str z)) : ItD K (iStr te) δ (signs z) := fun σ Hk D H s R q =>
  h σ Hk D H s _ fun v Hs H' x r => by
    cases r
    have hl : (signs z).length = z.cps.size := by simp [signs]
    refine ⟨z, rfl, q _ Hs H' x ⟨fun i H d s e => ?_, fun i H x H' d Hk s1 s2 e y => ?_, fun H s => ?_⟩⟩
    · have := (List.getElem?_eq_some_iff.mp e).1
      show i < z.cps.size
      omega
    · obtain ⟨rfl, c, e1, rfl⟩ := y
      refine ⟨Hk, Ext.refl s2, ?_⟩
      have e2 : (signs z)[i]? = some (Da.str ⟨#[c]⟩) := by
        unfold signs
        rw [List.getElem?_map, Array.getElem?_toList, e1] <;> rfl
      rw [e2] at e
      cases e
      exact .str _
    · show z.cps.size ≤ _
      omega
def rng (lo : Int) (n : Nat) : List Da := (List.range n).map fun i => Da.int (lo + (i : Nat))
theorem rng_len (lo : Int) (n : Nat) : (rng lo n).length = n := by simp [rng]
theorem itok_rng {lo : Int} {n : Nat} : ItOk K (Itr lo n) (rng lo n) Hs where
  go := fun i H d s e => by
    have := (List.getElem?_eq_some_iff.mp e).1
    rw [rng_len] at this
    exact this
  yld := fun i H x H' d Hk s1 s2 e y => by
    obtain ⟨rfl, rfl⟩ := y
    refine ⟨Hk, Ext.refl s2, ?_⟩
    have hi := (List.getElem?_eq_some_iff.mp e).1
    rw [rng_len] at hi
    have e2 : (rng lo n)[i]? = some (Da.int (lo + (i : Nat))) := by
      unfold rng
      rw [List.getElem?_map, List.getElem?_range hi] <;> rfl
    rw [e2] at e
    cases e
    exact .int _
  stop := fun H s => by
    show n ≤ _
    rw [rng_len]
    exact Nat.le_refl _
theorem itd_rng1 {n : Int} (h : EvSA K ta δ [.int n]) (h1 : -1000 ≤ n) (h2 : n ≤ 1000) : ItD K (iRng1 ta) δ (rng 0 n.toNat) := fun σ Hk D H s R q =>
  h σ Hk D H s _ fun vs Hs H' x r => by
    cases r with
    | cons r1 r2 =>
      cases r1
      cases r2
      exact ⟨n, rfl, by omega, by omega, q _ Hs H' x itok_rng⟩
theorem itd_rng2 {m n : Int} (h : EvSA K ta δ [.int m, .int n]) (h0 : -1000 ≤ m ∧ m ≤ 1000) (h1 : -1000 ≤ n) (h2 : n ≤ 1000) : ItD K (iRng2 ta) δ (rng m (n - m).toNat) := fun σ Hk D H s R q =>
  h σ Hk D H s _ fun vs Hs H' x r => by
    cases r with
    | cons r1 r2 =>
      cases r1
      cases r2 with
      | cons r3 r4 =>
        cases r3
        cases r4
        exact ⟨m, n, rfl, ⟨by omega, by omega, by omega, by omega⟩, q _ Hs H' x itok_rng⟩
/-- enumerate of a list -/
def enums (ds : List Da) : List Da := ds.zipIdx.map fun p => Da.tup [.int (p.2 : Nat), p.1]
theorem enums_at {i : Nat} {e : Da} (h : (enums ds)[i]? = some e) : ∃ d, ds[i]? = some d ∧ e = .tup [.int (i : Nat), d] := by
  unfold enums at h
  rw [List.getElem?_map, List.getElem?_zipIdx] at h
  cases q : ds[i]? with
  | none => rw [q] at h; cases h
  | some d =>
    rw [q] at h
    simp at h
    exact ⟨d, rfl, h.symm⟩
theorem enums_len : (enums ds).length = ds.length := by simp [enums]
theorem itok_enum (h : SqL K Hs a xs) (r : DRs K Hs xs ds) : ItOk K (Ite K a) (enums ds) Hs where
  go := fun i H e s q => by
    obtain ⟨d, e1, _⟩ := enums_at q
    obtain ⟨v, e2, _⟩ := r.at e1
    exact ⟨xs, v, s.seq h, e2⟩
  yld := fun i H x H' e Hk s1 s2 q y => by
    obtain ⟨T, w, rfl, hT, rfl, y⟩ := y
    obtain ⟨d, e1, rfl⟩ := enums_at q
    obtain ⟨v, e2, r2⟩ := r.at e1
    have e3 := y xs ((s1.trans s2).seq h)
    rw [e2] at e3
    cases e3
    have k := s2.free hT
    exact ⟨_, (Ext.refl s2).new hT, .tup (SqT.of upd_same) (.cons (.int _) (.one ((r2.up s1).up (same_upd k))))⟩
  stop := fun H s => ⟨xs, s.seq h, by rw [enums_len, r.len]; exact Nat.le_refl _⟩
theorem itd_enum (h : EvSA K ta δ [.lst ds]) : ItD K (iEnum K ta) δ (enums ds) := fun σ Hk D H s R q =>
  h σ Hk D H s _ fun vs Hs H' x r => by
    cases r with
    | cons r1 r2 =>
      cases r2
      cases r1 with
      | lst e r3 => exact ⟨_, _, rfl, x.st.seq (SqL.of e), q _ Hs H' x (itok_enum (SqL.of e) r3)⟩
end

/-! ### targets -/
def TgD (K : PySem.W.Frag) (g : TG) (d : Da) (δ δ' : List Sl) (vs : List Nat) : Prop := ∀ v σ Hk H, Dats K δ σ Hk → DR K Hk v d → Same Hk H → ∀ P : L2.St → Hp → Prop, (∀ σ', Dats K δ' σ' Hk → σ'.length = σ.length → (∀ i, i ∉ vs → σ'[i]? = σ[i]?) → P σ' H) → g v σ H P
def TgA (K : PySem.W.Frag) (g : TG) (d : Da) (δ δ' : List Sl) : Prop := ∀ (C : Ct) v σ Hk H, C.K = K → At C δ σ Hk H → DR K Hk v d → ∀ P : L2.St → Hp → Prop, (∀ σ', At C δ' σ' Hk H → P σ' H) → g v σ H P
section
variable {K : PySem.W.Frag} {δ : List Sl} {d d1 d2 : Da}
theorem dats_set {σ : L2.St} {Hk : Hp} {i : Nat} {v : V} (a : Dats K δ σ Hk) (r : DR K Hk v d) : Dats K (δ.set i (.dat d)) (σ.set i (some v)) Hk :=
  ⟨by rw [List.length_set, List.length_set]; exact a.len, fun j e h => by
    rcases set_at h with ⟨rfl, z⟩ | ⟨n, z⟩
    · cases z
      have hj : j < δ.length := by simpa using (List.getElem?_eq_some_iff.mp h).1
      exact ⟨v, List.getElem?_set_self (by rw [a.len]; exact hj), r⟩
    · obtain ⟨w, e1, r1⟩ := a.get j e z
      exact ⟨w, by rw [List.getElem?_set_ne (Ne.symm n)]; exact e1, r1⟩⟩
theorem tgd_name {i : Nat} : TgD K (gName i) d δ (δ.set i (.dat d)) [i] := fun v σ Hk H a r s P q =>
  q _ (dats_set a r) (List.length_set ..) fun j hj => by rw [List.getElem?_set_ne (fun z => hj (by simp [z]))]
theorem tga_name {i : Nat} : TgA K (gName i) d δ (δ.set i (.dat d)) := fun C v σ Hk H e a r P q => by
  subst e
  exact q _ (a.set r)
theorem tgd_tup2 {i j : Nat} : TgD K (gTup K 2 (gCons (gName i) (gCons (gName j) gNil))) (.tup [d1, d2]) δ ((δ.set i (.dat d1)).set j (.dat d2)) [i, j] := fun v σ Hk H a r s P q => by
  cases r with
  | tup e r1 =>
    cases r1 with
    | cons r2 r3 =>
      cases r3 with
      | cons r4 r5 =>
        cases r5
        refine ⟨_, _, rfl, same_t s e, rfl, _, _, rfl, _, _, rfl, rfl, ?_⟩
        exact q _ (dats_set (dats_set a r2) r4) (by rw [List.length_set, List.length_set]) fun k hk => by
          rw [List.getElem?_set_ne (fun z => hk (by simp [z])), List.getElem?_set_ne (fun z => hk (by simp [z]))]
theorem tga_tup2 {i j : Nat} : TgA K (gTup K 2 (gCons (gName i) (gCons (gName j) gNil))) (.tup [d1, d2]) δ ((δ.set i (.dat d1)).set j (.dat d2)) := fun C v σ Hk H e a r P q => by
  subst e
  cases r with
  | tup e r1 =>
    cases r1 with
    | cons r2 r3 =>
      cases r3 with
      | cons r4 r5 =>
        cases r5
        refine ⟨_, _, rfl, same_t a.same e, rfl, _, _, rfl, _, _, rfl, rfl, ?_⟩
        exact q _ ((a.set r2).set r4)
/-- two names from a tuple or a list of two -/
def gSeq (K : PySem.W.Frag) (n : Nat) (t : TGs) : TG := fun v σ H Q => gTup K n t v σ H Q ∨ gLst K n t v σ H Q
theorem pg_seq {X : Cx} {e : Expr} {n : Nat} {t : TGs} (h1 : PG X e (gTup X.K n t)) (h2 : PG X e (gLst X.K n t)) : PG X e (gSeq X.K n t) :=
  ⟨fun pins s σ H v u Q I r h => h.elim (h1.run pins s σ H v u Q I r) (h2.run pins s σ H v u Q I r)⟩
theorem tga_lst2 {i j : Nat} : TgA K (gLst K 2 (gCons (gName i) (gCons (gName j) gNil))) (.lst [d1, d2]) δ ((δ.set i (.dat d1)).set j (.dat d2)) := fun C v σ Hk H e a r P q => by
  subst e
  cases r with
  | lst e r1 =>
    cases r1 with
    | cons r2 r3 =>
      cases r3 with
      | cons r4 r5 =>
        cases r5
        refine ⟨_, _, rfl, a.same.seq (SqL.of e), rfl, _, _, rfl, _, _, rfl, rfl, ?_⟩
        exact q _ ((a.set r2).set r4)
theorem tga_seqT {n : Nat} {t : TGs} {δ' : List Sl} (h : TgA K (gTup K n t) d δ δ') : TgA K (gSeq K n t) d δ δ' := fun C v σ Hk H e a r P q => .inl (h C v σ Hk H e a r P q)
theorem tga_seqL {n : Nat} {t : TGs} {δ' : List Sl} (h : TgA K (gLst K n t) d δ δ') : TgA K (gSeq K n t) d δ δ' := fun C v σ Hk H e a r P q => .inr (h C v σ Hk H e a r P q)
end

/-! ### for -/
abbrev Ct.pin (C : Ct) (P : Hp) : Ct := ⟨C.K, C.Hc, C.H0, P :: C.pins⟩
section
variable {C : Ct} {δ : List Sl} {σ : L2.St} {Hk Hs H H' : Hp} {D : Ends}
theorem At.unpin {P : Hp} (a : At (C.pin P) δ σ Hk H) : At C δ σ Hk H := ⟨a.ext, a.dat, a.own, a.sep, fun Q hQ => a.pin Q (List.mem_cons_of_mem _ hQ)⟩
theorem At.pinned (a : At C δ σ Hk H) {P : Hp} (s : Same P Hk) : At (C.pin P) δ σ Hk H := ⟨a.ext, a.dat, a.own, a.sep, fun Q hQ => by
  rcases List.mem_cons.mp hQ with rfl | hQ
  · exact s
  · exact a.pin Q hQ⟩
theorem Nx.pin {P : Hp} {R : L2.St → Hp → Prop} (h : Nx C R δ) : Nx (C.pin P) R δ := fun σ Hk H a => h σ Hk H a.unpin
theorem Post.pin {P : Hp} {d : Da} {Q : VK} (h : Post C d Q) : Post (C.pin P) d Q := h
theorem go_forI {wi : TI} {g : TG} {tb : TS} {ds : List Da} (hi : ∀ σ Hk H, At C δ σ Hk H → ∀ R : It → Hp → Prop, (∀ J Hs Hk' H', At C δ σ Hk' H' → Same Hs Hk' → ItOk C.K J ds Hs → R J H') → wi σ H R) (I : Nat → List Sl → Prop) (h0 : I 0 δ)
    (hs : ∀ (P : Hp) (i : Nat) (d : Da) (δ1 : List Sl), ds[i]? = some d → I i δ1 → ∃ δ2, TgA C.K g d δ1 δ2 ∧ Go (C.pin P) tb { D with nx := Reach (C.pin P) (I (i + 1)), ct := Reach (C.pin P) (I (i + 1)), bk := D.nx } δ2)
    (hd : ∀ δ1, I ds.length δ1 → Nx C D.nx δ1) : Go C (tFor wi g tb) D δ := fun σ Hk H a => by
  refine hi σ Hk H a _ fun J Hs Hk' H' a' s ok => ?_
  refine ⟨fun i m σ1 H1 => i ≤ ds.length ∧ m = ds.length - i ∧ ∃ δ1 Hk1, I i δ1 ∧ At (C.pin Hs) δ1 σ1 Hk1 H1, ⟨_, Nat.zero_le _, rfl, δ, Hk', h0, a'.pinned s⟩, ?_⟩
  rintro i m σ1 H1 ⟨hi, rfl, δ1, Hk1, hI, a1⟩
  have s1 : Same Hs Hk1 := a1.pin Hs (List.mem_cons_self ..)
  by_cases e : i < ds.length
  · have ed : ds[i]? = some ds[i] := List.getElem?_eq_getElem e
    refine .inr ⟨ok.go i H1 _ (s1.trans a1.same) ed, Reach (C.pin Hs) (I (i + 1)), fun σ2 H2 ⟨δ2, Hk2, h2, a2⟩ => ⟨_, by omega, e, rfl, δ2, Hk2, h2, a2⟩, fun x H2 y => ?_⟩
    obtain ⟨Hk2, x2, r2⟩ := ok.yld i H1 x H2 _ Hk1 s1 a1.same ed y
    obtain ⟨δ2, t2, g2⟩ := hs Hs i _ δ1 ed hI
    exact t2 (C.pin Hs) x σ1 Hk2 H2 rfl (a1.go x2) r2 _ fun σ3 a3 => g2 σ3 Hk2 H2 a3
  · have e' : i = ds.length := by omega
    subst e'
    exact .inl ⟨ok.stop H1 (s1.trans a1.same), hd δ1 hI σ1 Hk1 H1 a1.unpin⟩
theorem go_for {wi : TI} {g : TG} {tb : TS} {ds : List Da} (hi : ItD C.K wi δ ds) (I : Nat → List Sl → Prop) (h0 : I 0 δ)
    (hs : ∀ (P : Hp) (i : Nat) (d : Da) (δ1 : List Sl), ds[i]? = some d → I i δ1 → ∃ δ2, TgA C.K g d δ1 δ2 ∧ Go (C.pin P) tb { D with nx := Reach (C.pin P) (I (i + 1)), ct := Reach (C.pin P) (I (i + 1)), bk := D.nx } δ2)
    (hd : ∀ δ1, I ds.length δ1 → Nx C D.nx δ1) : Go C (tFor wi g tb) D δ :=
  go_forI (fun σ Hk H a R q => hi σ Hk a.dat H a.same R fun J Hs H' x ok => q J Hs Hs H' (a.go x) (Same.refl _) ok) I h0 hs hd
end

section
variable {C : Ct} {δ : List Sl} {D : Ends}
theorem sq_for {wi : TI} {g : TG} {tb u : TS} {ds : List Da} (hi : ItD C.K wi δ ds) (I : Nat → List Sl → Prop) (h0 : I 0 δ)
    (hs : ∀ (P : Hp) (i : Nat) (d : Da) (δ1 : List Sl), ds[i]? = some d → I i δ1 → ∃ δ2, TgA C.K g d δ1 δ2 ∧ Go (C.pin P) tb { nx := Reach (C.pin P) (I (i + 1)), rt := D.rt, ct := Reach (C.pin P) (I (i + 1)), bk := u D } δ2)
    (hd : ∀ δ1, I ds.length δ1 → Go C u D δ1) : Go C (tSeq (tFor wi g tb) u) D δ := go_seq (go_for hi I h0 hs hd)
end
/-! ### comprehensions -/
def wipeS (δ : List Sl) : List Nat → List Sl
  | [] => δ
  | v :: vs => (wipeS δ vs).set v .no
theorem wipe_at {σ : L2.St} {i : Nat} : ∀ {vs : List Nat}, i ∉ vs → (wipe σ vs)[i]? = σ[i]?
  | [], _ => rfl
  | v :: vs, h => by
    unfold wipe
    rw [List.getElem?_set_ne (fun z => h (by simp [z]))]
    exact wipe_at fun z => h (by simp [z])
theorem wipe_in {σ : L2.St} {i : Nat} (hi : i < σ.length) : ∀ {vs : List Nat}, i ∈ vs → (wipe σ vs)[i]? = some none
  | v :: vs, h => by
    unfold wipe
    by_cases e : v = i
    · subst e
      rw [List.getElem?_set_self (by rw [wipe_length]; exact hi)]
    · rw [List.getElem?_set_ne e]
      exact wipe_in hi ((List.mem_cons.mp h).resolve_left fun z => e z.symm)
theorem wipe_eq {σ σ' : L2.St} {vs : List Nat} (hl : σ'.length = σ.length) (h : ∀ i, i ∉ vs → σ'[i]? = σ[i]?) : wipe σ' vs = wipe σ vs := by
  apply List.ext_getElem?
  intro i
  by_cases hi : i ∈ vs
  · by_cases hs : i < σ.length
    · rw [wipe_in hs hi, wipe_in (by omega) hi]
    · rw [List.getElem?_eq_none (by rw [wipe_length]; omega), List.getElem?_eq_none (by rw [wipe_length]; omega)]
  · rw [wipe_at hi, wipe_at hi, h i hi]
theorem wipeS_at {δ : List Sl} {i : Nat} {d : Da} : ∀ {vs : List Nat}, (wipeS δ vs)[i]? = some (.dat d) → i ∉ vs ∧ δ[i]? = some (.dat d)
  | [], h => ⟨by simp, h⟩
  | v :: vs, h => by
    unfold wipeS at h
    rcases set_at h with ⟨rfl, z⟩ | ⟨n, z⟩
    · cases z
    · obtain ⟨h1, h2⟩ := wipeS_at z
      exact ⟨by simp [n, h1], h2⟩
theorem wipeS_len (δ : List Sl) : ∀ vs : List Nat, (wipeS δ vs).length = δ.length
  | [] => rfl
  | v :: vs => by unfold wipeS; rw [List.length_set, wipeS_len δ vs]
section
variable {K : PySem.W.Frag} {δ : List Sl} {ds : List Da}
theorem dats_wipe {σ : L2.St} {Hk : Hp} {vs : List Nat} (a : Dats K δ σ Hk) : Dats K (wipeS δ vs) (wipe σ vs) Hk :=
  ⟨by rw [wipe_length, wipeS_len]; exact a.len, fun i d h => by
    obtain ⟨h1, h2⟩ := wipeS_at h
    obtain ⟨v, e, r⟩ := a.get i d h2
    exact ⟨v, by rw [wipe_at h1]; exact e, r⟩⟩
/-- what a comprehension makes: of each item that its tests keep, the element -/
theorem evs_lc {wi : TI} {g : TG} {tt : TT} {te : TE} {vs : List Nat} {α : Type} {xs : List α} {enc : α → Da} (hi : ItD K wi δ (xs.map enc)) (p : α → Bool) (f : α → Da) (hl : xs.length ≤ 1000)
    (hb : ∀ x ∈ xs, ∃ δ', TgD K g (enc x) (wipeS δ vs) δ' vs ∧ EvST K tt δ' (p x) ∧ (p x = true → EvS K te δ' (f x))) :
    EvSN K (tLc wi g tt te vs) δ ((xs.filter p).map f) := fun σ Hk a H s Q q => by
  refine hi σ Hk a H s _ fun J Hs H1 x ok => ?_
  intro A hA
  have hsA : Hs A = none := x.st.free hA
  have h0A : H A = none := x.up.free hA
  refine ⟨fun i m H2 => i ≤ xs.length ∧ m = xs.length - i ∧ ∃ Hk2 acc, Ext Hk H Hk2 H2 ∧ Same Hs Hk2 ∧ Hk2 A = none ∧ H2 A = some (.lst acc) ∧ DRs K Hk2 acc (((xs.take i).filter p).map f), ⟨_, Nat.zero_le _, rfl, Hs, [], ⟨x.up.trans (same_upd hA), x.kn, x.st.trans (same_upd hA), x.nw⟩, Same.refl _, hsA, upd_same, by simp; exact .nil⟩, ?_⟩
  rintro i m H2 ⟨hi, rfl, Hk2, acc, x2, s2, hk2, hacc, r⟩
  by_cases e : i < xs.length
  · have ed : (xs.map enc)[i]? = some (enc xs[i]) := by rw [List.getElem?_map, List.getElem?_eq_getElem e] <;> rfl
    have et : xs.take (i + 1) = xs.take i ++ [xs[i]] := (List.take_append_getElem e).symm
    refine .inr ⟨ok.go i H2 _ (s2.trans x2.st) ed, fun H3 => ∃ Hk3 acc3, Ext Hk H Hk3 H3 ∧ Same Hs Hk3 ∧ Hk3 A = none ∧ H3 A = some (.lst acc3) ∧ DRs K Hk3 acc3 (((xs.take (i + 1)).filter p).map f), fun H3 ⟨Hk3, acc3, z⟩ => ⟨_, by omega, e, rfl, Hk3, acc3, z⟩, fun v H3 y => ?_⟩
    obtain ⟨Hk3, x3, r3⟩ := ok.yld i H2 v H3 _ Hk2 s2 x2.st ed y
    obtain ⟨δ', tg, ht, he⟩ := hb xs[i] (List.getElem_mem e)
    have hk3 : Hk3 A = none := by
      cases z : Hk3 A with
      | none => rfl
      | some o =>
        have := x3.nw A o z hk2
        rw [hacc] at this
        cases this
    have a3 : Dats K (wipeS δ vs) (wipe σ vs) Hk3 := dats_wipe (a.up ((x2.kn).trans x3.kn))
    refine tg v (wipe σ vs) Hk3 H3 a3 r3 x3.st _ fun σ4 a4 hlen hw => ?_
    refine ⟨wipe_eq (by rw [hlen, wipe_length]) fun k hk => (hw k hk).trans (wipe_at hk), ?_⟩
    refine ht σ4 Hk3 a4 H3 x3.st _ fun H4 u4 => ?_
    have x4 : Ext Hk H Hk3 H4 := (x2.trans x3).trans (Ext.of_up x3.st u4)
    have n1 : (((xs.take i).filter p).map f).length ≤ i := by
      rw [List.length_map]
      exact Nat.le_trans (List.length_filter_le ..) (by rw [List.length_take]; omega)
    cases ep : p xs[i] with
    | true =>
      refine iteT ?_
      refine he ep σ4 Hk3 a4 H4 x4.st _ fun y Hk5 H5 x5 r5 => ?_
      have g5 : H5 A = some (.lst acc) := x5.up _ _ (u4 _ _ (x3.up _ _ hacc))
      have hk5 : Hk5 A = none := by
        cases z : Hk5 A with
        | none => rfl
        | some o =>
          have := x5.nw A o z hk3
          rw [u4 _ _ (x3.up _ _ hacc)] at this
          cases this
      refine ⟨acc, g5, small1000 (by rw [r.len]; omega), Hk5, acc ++ [y], ?_, (s2.trans x3.kn).trans x5.kn, hk5, upd_same, ?_⟩
      · have x6 := x4.trans x5
        exact ⟨same_updK x6.up h0A, x6.kn, same_updK x6.st hk5, x6.nw⟩
      · rw [et, List.filter_append, List.map_append]
        have e1 : [xs[i]].filter p = [xs[i]] := by simp [ep]
        rw [e1]
        exact ((r.up x3.kn).up x5.kn).snoc r5
    | false =>
      refine iteF ?_
      refine ⟨Hk3, acc, x4, s2.trans x3.kn, hk3, u4 _ _ (x3.up _ _ hacc), ?_⟩
      rw [et, List.filter_append, List.map_append]
      have e1 : [xs[i]].filter p = [] := by simp [ep]
      rw [e1]
      simpa using r.up x3.kn
  · have e' : i = xs.length := by omega
    subst e'
    rw [List.take_length] at r
    have es := ok.stop H2 (s2.trans x2.st)
    rw [List.length_map] at es
    exact .inl ⟨es, q A acc Hk2 H2 x2 h0A hk2 hacc r⟩
theorem evs_lcY {wi : TI} {g : TG} {te : TE} {vs : List Nat} {α : Type} {xs : List α} {enc : α → Da} (hi : ItD K wi δ (xs.map enc)) (f : α → Da) (hl : xs.length ≤ 1000)
    (hb : ∀ x ∈ xs, ∃ δ', TgD K g (enc x) (wipeS δ vs) δ' vs ∧ EvS K te δ' (f x)) : EvSN K (tLc wi g tYes te vs) δ (xs.map f) := by
  have h := evs_lc (tt := tYes) hi (fun _ => true) f hl fun x hx => by
    obtain ⟨δ', h1, h2⟩ := hb x hx
    exact ⟨δ', h1, fun σ Hk D H s Q q => q H (Same.refl _), fun _ => h2⟩
  have e : xs.filter (fun _ => true) = xs := by simp
  rw [e] at h
  exact h
theorem rng_at {lo : Int} {n i : Nat} {d : Da} (h : (rng lo n)[i]? = some d) : i < n ∧ d = .int (lo + (i : Nat)) := by
  have hi := (List.getElem?_eq_some_iff.mp h).1
  rw [rng_len] at hi
  unfold rng at h
  rw [List.getElem?_map, List.getElem?_range hi] at h
  cases h
  exact ⟨hi, rfl⟩
theorem rng0_at {n i : Nat} {d : Da} (h : (rng 0 n)[i]? = some d) : i < n ∧ d = .int (i : Nat) := by
  obtain ⟨h1, h2⟩ := rng_at h
  rw [Int.zero_add] at h2
  exact ⟨h1, h2⟩
theorem rng0_map (n : Nat) : rng 0 n = (List.range n).map fun (k : Nat) => Da.int (k : Nat) := by
  unfold rng
  refine List.map_congr_left fun k _ => ?_
  rw [Int.zero_add]
theorem itd_r1 {ta : TA} {n : Int} (h : EvSA K ta δ [.int n]) (h1 : -1000 ≤ n) (h2 : n ≤ 1000) : ItD K (iRng1 ta) δ ((List.range n.toNat).map fun (k : Nat) => Da.int (k : Nat)) := by
  rw [← rng0_map]
  exact itd_rng1 h h1 h2
theorem itd_rN {ta : TA} {n : Int} {m : Nat} (h : EvSA K ta δ [.int n]) (e : n.toNat = m) (h1 : -1000 ≤ n) (h2 : n ≤ 1000) : ItD K (iRng1 ta) δ ((List.range m).map fun (k : Nat) => Da.int (k : Nat)) := by
  subst e
  exact itd_r1 h h1 h2
end
end Bw
set_option Elab.async false
set_option linter.all false
set_option maxRecDepth 100000
set_option maxHeartbeats 2000000
namespace Bw
open PySem L2

/-! ### data as the library's own -/
mutual
def toPy : Da → PyData
  | .non => .none
  | .bl b => .bool b
  | .int i => .int i
  | .str x => .str x
  | .lst ds => .list (toPys ds)
  | .tup ds => .tuple (toPys ds)
  | .scr _ => .none
  | .ty _ => .none
  | .cls _ => .none
  | .ins _ _ _ => .none
  | .dct _ _ => .none
  | .dcf _ _ _ => .none
def toPys : List Da → List PyData
  | [] => []
  | d :: ds => toPy d :: toPys ds
end
theorem toPys_map : ∀ ds : List Da, toPys ds = ds.map toPy
  | [] => by simp [toPys]
  | d :: ds => by simp only [toPys, List.map_cons, toPys_map ds]
/-- laid out to a depth: no script, no instance; texts of signs -/
def okD : Nat → Da → Prop
  | _, .non => True
  | _, .bl _ => True
  | _, .int _ => True
  | _, .str x => PyData.strOk x = true
  | n + 1, .lst ds => ∀ d ∈ ds, okD n d
  | n + 1, .tup ds => ∀ d ∈ ds, okD n d
  | _, _ => False
section
variable {K : PySem.W.Frag} {H : Hp}
theorem DR.dp : ∀ (n : Nat) (d : Da) (v : V), okD n d → DR K H v d → Dp K H v (toPy d)
  | _, .non, _, _, h => by cases h; simp only [toPy]; exact .non
  | _, .bl b, _, _, h => by cases h; simp only [toPy]; exact .bl b
  | _, .int i, _, _, h => by cases h; simp only [toPy]; exact .int i
  | _, .str x, _, _, h => by cases h; simp only [toPy]; exact .str x
  | n + 1, .lst ds, _, o, h => by
    have o : ∀ d ∈ ds, okD n d := o
    cases h with
    | lst e r =>
      simp only [toPy]
      refine .lst (SqL.of e) ?_
      have all : ∀ (ds : List Da) (vs : List V), (∀ d ∈ ds, okD n d) → DRs K H vs ds → DpAll K H vs (toPys ds) := by
        intro ds
        induction ds with
        | nil => intro vs _ r; cases r; simp only [toPys]; exact .nil
        | cons d ds ih =>
          intro vs o r
          cases r with
          | cons r1 r2 =>
            simp only [toPys]
            exact .cons (DR.dp n d _ (o d (List.mem_cons_self ..)) r1) (ih _ (fun e he => o e (List.mem_cons_of_mem _ he)) r2)
      exact all ds _ o r
  | n + 1, .tup ds, _, o, h => by
    have o : ∀ d ∈ ds, okD n d := o
    cases h with
    | tup e r =>
      simp only [toPy]
      refine .tup e ?_
      have all : ∀ (ds : List Da) (vs : List V), (∀ d ∈ ds, okD n d) → DRs K H vs ds → DpAll K H vs (toPys ds) := by
        intro ds
        induction ds with
        | nil => intro vs _ r; cases r; simp only [toPys]; exact .nil
        | cons d ds ih =>
          intro vs o r
          cases r with
          | cons r1 r2 =>
            simp only [toPys]
            exact .cons (DR.dp n d _ (o d (List.mem_cons_self ..)) r1) (ih _ (fun e he => o e (List.mem_cons_of_mem _ he)) r2)
      exact all ds _ o r
  | 0, .lst _, _, o, _ => False.elim o
  | 0, .tup _, _, o, _ => False.elim o
  | n, .scr _, _, o, _ => by cases n <;> exact False.elim o
  | n, .ty _, _, o, _ => by cases n <;> exact False.elim o
  | n, .cls _, _, o, _ => by cases n <;> exact False.elim o
  | n, .ins _ _ _, _, o, _ => by cases n <;> exact False.elim o
  | n, .dct _ _, _, o, _ => by cases n <;> exact False.elim o
  | n, .dcf _ _ _, _, o, _ => by cases n <;> exact False.elim o
theorem ok_lay : ∀ (n : Nat) (d : Da), okD n d → (toPy d).canLay0 = true ∧ (toPy d).depth ≤ n
  | _, .non, _ => by simp [toPy, PyData.canLay0, PyData.depth]
  | _, .bl b, _ => by simp [toPy, PyData.canLay0, PyData.depth]
  | _, .int i, _ => by simp [toPy, PyData.canLay0, PyData.depth]
  | _, .str x, h => by
    have h : PyData.strOk x = true := by simpa only [okD] using h
    simp [toPy, PyData.canLay0, PyData.depth, h]
  | n + 1, .lst ds, o => by
    have o : ∀ d ∈ ds, okD n d := o
    have all : ∀ (ds : List Da), (∀ d ∈ ds, okD n d) → PyData.canLayAll0 (toPys ds) = true ∧ PyData.depthAll (toPys ds) ≤ n := by
      intro ds
      induction ds with
      | nil => intro _; simp [toPys, PyData.canLayAll0, PyData.depthAll]
      | cons d ds ih =>
        intro o
        obtain ⟨h1, h2⟩ := ok_lay n d (o d (List.mem_cons_self ..))
        obtain ⟨h3, h4⟩ := ih fun e he => o e (List.mem_cons_of_mem _ he)
        simp only [toPys, PyData.canLayAll0, PyData.depthAll, h1, h3, Bool.and_self, true_and]
        omega
    obtain ⟨h1, h2⟩ := all ds o
    simp only [toPy, PyData.canLay0, PyData.depth, h1, true_and]
    omega
  | n + 1, .tup ds, o => by
    have o : ∀ d ∈ ds, okD n d := o
    have all : ∀ (ds : List Da), (∀ d ∈ ds, okD n d) → PyData.canLayAll0 (toPys ds) = true ∧ PyData.depthAll (toPys ds) ≤ n := by
      intro ds
      induction ds with
      | nil => intro _; simp [toPys, PyData.canLayAll0, PyData.depthAll]
      | cons d ds ih =>
        intro o
        obtain ⟨h1, h2⟩ := ok_lay n d (o d (List.mem_cons_self ..))
        obtain ⟨h3, h4⟩ := ih fun e he => o e (List.mem_cons_of_mem _ he)
        simp only [toPys, PyData.canLayAll0, PyData.depthAll, h1, h3, Bool.and_self, true_and]
        omega
    obtain ⟨h1, h2⟩ := all ds o
    simp only [toPy, PyData.canLay0, PyData.depth, h1, true_and]
    omega
  | 0, .lst _, o => False.elim o
  | 0, .tup _, o => False.elim o
  | n, .scr _, o => by cases n <;> exact False.elim o
  | n, .ty _, o => by cases n <;> exact False.elim o
  | n, .cls _, o => by cases n <;> exact False.elim o
  | n, .ins _ _ _, o => by cases n <;> exact False.elim o
  | n, .dct _ _, o => by cases n <;> exact False.elim o
  | n, .dcf _ _ _, o => by cases n <;> exact False.elim o
theorem ok_shaped {n : Nat} {d : Da} (h : okD n d) (hn : n ≤ 60) : SeqAt.shaped (toPy d) = true := by
  obtain ⟨h1, h2⟩ := ok_lay n d h
  show ((toPy d).canLay0 && decide ((toPy d).depth ≤ 64)) = true
  rw [h1, decide_eq_true (by omega : (toPy d).depth ≤ 64)] <;> rfl
end
/-- == of data -/
def eqD (d e : Da) : Bool := PyData.eqv (toPy d) (toPy e)
/-- no truths within -/
def pur : Nat → Da → Prop
  | _, .non => True
  | _, .int _ => True
  | _, .str _ => True
  | n + 1, .lst ds => ∀ d ∈ ds, pur n d
  | n + 1, .tup ds => ∀ d ∈ ds, pur n d
  | _, _ => False
theorem eqD_iff : ∀ (n : Nat) (d e : Da), pur n d → pur n e → (eqD d e = true ↔ d = e) := by
  intro n
  induction n with
  | zero =>
    intro d e hd he
    cases d <;> first | (exact False.elim hd) | (cases e <;> first | (exact False.elim he) | (simp [eqD, toPy, PyData.eqv]))
  | succ n ih =>
    have all : ∀ (ds es : List Da), (∀ d ∈ ds, pur n d) → (∀ d ∈ es, pur n d) → (PyData.eqvAll (toPys ds) (toPys es) = true ↔ ds = es) := by
      intro ds
      induction ds with
      | nil => intro es _ _; cases es <;> simp [toPys, PyData.eqvAll]
      | cons d ds ihs =>
        intro es h1 h2
        cases es with
        | nil => simp [toPys, PyData.eqvAll]
        | cons e es =>
          have a := ih d e (h1 d (List.mem_cons_self ..)) (h2 e (List.mem_cons_self ..))
          have b := ihs es (fun x hx => h1 x (List.mem_cons_of_mem _ hx)) (fun x hx => h2 x (List.mem_cons_of_mem _ hx))
          simp only [toPys, PyData.eqvAll, Bool.and_eq_true, List.cons.injEq]
          rw [b]
          unfold eqD at a
          rw [a]
    intro d e hd he
    cases d <;> first
      | (exact False.elim hd)
      | (cases e <;> first
          | (exact False.elim he)
          | (simp [eqD, toPy, PyData.eqv]; done)
          | (have q := all _ _ hd he; simp only [eqD, toPy, PyData.eqv]; rw [q]; simp))

/-! ### operations by data -/
section
variable {K : PySem.W.Frag} {d d1 d2 d3 : Da} {ds es : List Da} {i j : Int} {r r' : R2} {b : Bool}
theorem rv_now {x : Da} (h : ∀ Hk H v1 v2, Same Hk H → DR K Hk v1 d1 → DR K Hk v2 d2 → ∀ Q : VK, (∀ v, DR K Hk v x → Q v H) → r v1 v2 H Q) : RV K r d1 d2 x :=
  fun Hk H v1 v2 s a1 a2 Q q => h Hk H v1 v2 s a1 a2 Q fun v rr => q v Hk H (Ext.refl s) rr
theorem RV.l (h : RV K r d1 d2 d) : RV K (fun x y H Q => r x y H Q ∨ r' x y H Q) d1 d2 d := fun Hk H v1 v2 s a1 a2 Q q => .inl (h Hk H v1 v2 s a1 a2 Q q)
theorem RV.ri (h : RV K r' d1 d2 d) : RV K (fun x y H Q => r x y H Q ∨ r' x y H Q) d1 d2 d := fun Hk H v1 v2 s a1 a2 Q q => .inr (h Hk H v1 v2 s a1 a2 Q q)
theorem RVN.l (h : RVN K r d1 d2 ds) : RVN K (fun x y H Q => r x y H Q ∨ r' x y H Q) d1 d2 ds := fun Hk H v1 v2 s a1 a2 Q q => .inl (h Hk H v1 v2 s a1 a2 Q q)
theorem RVN.ri (h : RVN K r' d1 d2 ds) : RVN K (fun x y H Q => r x y H Q ∨ r' x y H Q) d1 d2 ds := fun Hk H v1 v2 s a1 a2 Q q => .inr (h Hk H v1 v2 s a1 a2 Q q)
theorem rv_i0 {g : Int → Int → Int} : RV K (rI0 fun i j => .int (g i j)) (.int i) (.int j) (.int (g i j)) := rv_now fun Hk H v1 v2 s a1 a2 Q q => by
  cases a1; cases a2
  exact ⟨i, j, rfl, rfl, q _ (.int _)⟩
theorem rv_b0 {g : Int → Int → Bool} : RV K (rI0 fun i j => .bl (g i j)) (.int i) (.int j) (.bl (g i j)) := rv_now fun Hk H v1 v2 s a1 a2 Q q => by
  cases a1; cases a2
  exact ⟨i, j, rfl, rfl, q _ (.bl _)⟩
theorem rv_i {c : Int → Int → Prop} {g : Int → Int → Int} (h : c i j) : RV K (rI c fun i j => .int (g i j)) (.int i) (.int j) (.int (g i j)) := rv_now fun Hk H v1 v2 s a1 a2 Q q => by
  cases a1; cases a2
  exact ⟨i, j, rfl, rfl, h, q _ (.int _)⟩
/-! == and != -/
theorem rv_eq {n : Nat} (h1 : okD n d1) (h2 : okD n d2) (hn : n ≤ 60) : RV K (rEqD K) d1 d2 (.bl (eqD d1 d2)) := rv_now fun Hk H v1 v2 s a1 a2 Q q =>
  ⟨toPy d1, toPy d2, (a1.up s).dp n d1 v1 h1, (a2.up s).dp n d2 v2 h2, ok_shaped h1 hn, ok_shaped h2 hn, q _ (.bl _)⟩
theorem rv_ne {n : Nat} (h1 : okD n d1) (h2 : okD n d2) (hn : n ≤ 60) : RV K (rNeD K) d1 d2 (.bl (!eqD d1 d2)) := rv_now fun Hk H v1 v2 s a1 a2 Q q =>
  ⟨toPy d1, toPy d2, (a1.up s).dp n d1 v1 h1, (a2.up s).dp n d2 v2 h2, ok_shaped h1 hn, ok_shaped h2 hn, q _ (.bl _)⟩
/-! + : whole numbers, texts, lists, tuples -/
def rAddS : R2 := fun x y H Q => ∃ i j, x = .str i ∧ y = .str j ∧ i.length + j.length ≤ sizeLine ∧ Q (.str (i ++ j)) H
def rAddI : R2 := rI0 fun i j => .int (i + j)
def rAddU (K : PySem.W.Frag) : R2 := fun x y H Q => rAddI x y H Q ∨ (fun x y H Q => rAddS x y H Q ∨ (fun x y H Q => rCat x y H Q ∨ rCatA K x y H Q) x y H Q) x y H Q
theorem op_addU {X : Cx} : OpR X (binaryOp .Add) (rAddU X.K) := OpR.or (r := rAddI) op_add (OpR.or (r := rAddS) op_add_str (OpR.or op_cat op_catA))
theorem rv_addI : RV K (rAddU K) (.int i) (.int j) (.int (i + j)) := RV.l (rv_i0 (g := fun i j => i + j))
theorem rv_addS {x y : Str} (h : x.length + y.length ≤ 1000) : RV K (rAddU K) (.str x) (.str y) (.str (x ++ y)) := RV.ri (RV.l (rv_now fun Hk H v1 v2 s a1 a2 Q q => by
  cases a1; cases a2
  exact ⟨x, y, rfl, rfl, Nat.le_of_lt (small1000 h), q _ (.str _)⟩))
theorem rv_addL (h : ds.length + es.length ≤ 1000) : RVN K (rAddU K) (.lst ds) (.lst es) (ds ++ es) := RVN.ri (RVN.ri (RVN.l fun Hk H v1 v2 s a1 a2 Q q => by
  cases a1 with
  | lst e1 r1 =>
    cases a2 with
    | lst e2 r2 =>
      refine ⟨_, _, _, _, rfl, rfl, s _ _ e1, s _ _ e2, Nat.le_of_lt (small1000 (by rw [r1.len, r2.len]; exact h)), fun p hp => ?_⟩
      exact q p _ Hk _ ⟨same_upd hp, Same.refl _, s.trans (same_upd hp), fun b o e n => by rw [n] at e; cases e⟩ hp (s.free hp) upd_same (r1.app r2)))
theorem rv_addT (h : ds.length + es.length ≤ 1000) : RV K (rAddU K) (.tup ds) (.tup es) (.tup (ds ++ es)) := RV.ri (RV.ri (RV.ri fun Hk H v1 v2 s a1 a2 Q q => by
  cases a1 with
  | tup e1 r1 =>
    cases a2 with
    | tup e2 r2 =>
      refine ⟨_, _, _, _, rfl, rfl, same_t s e1, same_t s e2, Nat.le_of_lt (small1000 (by rw [r1.len, r2.len]; exact h)), fun z => ?_, fun z z2 => ?_, fun z z2 p hp => ?_⟩
      · subst z
        cases ds with
        | nil => exact q _ Hk H (Ext.refl s) (.tup e2 r2)
        | cons d ds => cases r1
      · subst z2
        cases es with
        | nil =>
          rw [List.append_nil] at q
          exact q _ Hk H (Ext.refl s) (.tup e1 r1)
        | cons d ds => cases r2
      · exact q _ _ _ ((Ext.refl s).new hp) (.tup (SqT.of upd_same) ((r1.app r2).up (same_upd (s.free hp))))))
/-! a[i] -/
theorem ixN_lt {n : Nat} {i : Int} {k : Nat} (h : ixN n i = some k) : k < n := by
  unfold ixN at h
  split at h
  · split at h
    · cases h; omega
    · cases h
  · split at h
    · cases h; omega
    · cases h
theorem DRs.atI {H : Hp} {vs : List V} (r : DRs K H vs ds) (h : atI ds i = some d) : ∃ v, L2.atI vs i = some v ∧ DR K H v d := by
  unfold L2.atI at h ⊢
  rw [r.len]
  cases e : ixN ds.length i with
  | none => rw [e] at h; cases h
  | some k =>
    rw [e] at h
    obtain ⟨v, h1, h2⟩ := r.at (show ds[k]? = some d from h)
    exact ⟨v, h1, h2⟩
theorem rv_ixL (h : atI ds i = some d) : RV K (rIx K) (.lst ds) (.int i) d := rv_now fun Hk H v1 v2 s a1 a2 Q q => by
  cases a2
  cases a1 with
  | lst e r =>
    obtain ⟨v, h1, h2⟩ := r.atI h
    exact .inl ⟨_, _, _, v, rfl, rfl, SqL.of (s _ _ e), h1, q v h2⟩
theorem rv_ixT (h : atI ds i = some d) : RV K (rIx K) (.tup ds) (.int i) d := rv_now fun Hk H v1 v2 s a1 a2 Q q => by
  cases a2
  cases a1 with
  | tup e r =>
    obtain ⟨v, h1, h2⟩ := r.atI h
    exact .inr (.inl ⟨_, _, _, v, rfl, rfl, same_t s e, h1, q v h2⟩)
theorem rv_ixC {ns : List Int} {z : Int} (h : atI ns i = some z) : RV K (rIx K) (.scr ns) (.int i) (.int z) := rv_now fun Hk H v1 v2 s a1 a2 Q q => by
  cases a2
  cases a1 with
  | scr e =>
    refine .inl ⟨_, _, _, _, rfl, rfl, s.seq e, ?_, q (.int z) (.int z)⟩
    unfold L2.atI at h ⊢
    rw [List.length_map]
    cases e : ixN ns.length i with
    | none => rw [e] at h; cases h
    | some k =>
      rw [e] at h
      show (ns.map V.int)[k]? = _
      rw [List.getElem?_map, show ns[k]? = some z from h] <;> rfl
theorem rv_ixS {z : Str} {c : Nat} (hl : z.length ≤ 1000) (h : atI z.cps.toList i = some c) : RV K (rIx K) (.str z) (.int i) (.str ⟨#[c]⟩) := rv_now fun Hk H v1 v2 s a1 a2 Q q => by
  cases a2
  cases a1
  exact .inr (.inr ⟨z, i, c, rfl, rfl, Nat.le_of_lt (small1000 hl), h, q _ (.str _)⟩)
theorem at_nat {α : Type} {l : List α} {x : α} (h0 : 0 ≤ i) (h : l[i.toNat]? = some x) : atI l i = some x := by
  have e : i = ((i.toNat : Nat) : Int) := by omega
  rw [e]
  exact atI_nat (by simpa using h)
/-! in, not in: flat items of a list or a tuple; signs of a text; data in a list -/
theorem inV_strs {x : Str} : ∀ {xs : List Str}, inV (.str x) (xs.map V.str) = decide (x ∈ xs)
  | [] => by simp [inV]
  | y :: ys => by
    have ih := inV_strs (x := x) (xs := ys)
    unfold inV at ih ⊢
    rw [List.map_cons, List.any_cons, ih]
    show ((y == x) || _) = _
    by_cases h : y = x
    · subst h; simp
    · have h' : ¬ x = y := fun z => h z.symm
      simp [h, h']
theorem flat_strs {xs : List Str} : (xs.map V.str).all flatV = true := by
  induction xs with
  | nil => rfl
  | cons x xs ih => rw [List.map_cons, List.all_cons, ih] <;> rfl
theorem inV_ints {x : Int} : ∀ {xs : List Int}, inV (.int x) (xs.map V.int) = decide (x ∈ xs)
  | [] => by simp [inV]
  | y :: ys => by
    have ih := inV_ints (x := x) (xs := ys)
    unfold inV at ih ⊢
    rw [List.map_cons, List.any_cons, ih]
    show ((y == x) || _) = _
    by_cases h : y = x
    · subst h; simp
    · have h' : ¬ x = y := fun z => h z.symm
      simp [h, h']
theorem flat_ints {xs : List Int} : (xs.map V.int).all flatV = true := by
  induction xs with
  | nil => rfl
  | cons x xs ih => rw [List.map_cons, List.all_cons, ih] <;> rfl
theorem sq_of {H : Hp} {v : V} {ds : List Da} (h : DR K H v (.lst ds) ∨ DR K H v (.tup ds)) : ∃ p xs, v = .ref p ∧ (SqL K H p xs ∨ SqT K H p xs) ∧ DRs K H xs ds := by
  rcases h with h | h
  · cases h with
    | lst e r => exact ⟨_, _, rfl, .inl (SqL.of e), r⟩
  · cases h with
    | tup e r => exact ⟨_, _, rfl, .inr e, r⟩
theorem rv_inS {neg : Bool} {x : Str} {xs : List Str} (hd : d = .lst (xs.map Da.str) ∨ d = .tup (xs.map Da.str)) : RV K (rIn K neg) (.str x) d (.bl (if neg then !decide (x ∈ xs) else decide (x ∈ xs))) := rv_now fun Hk H v1 v2 s a1 a2 Q q => by
  cases a1
  obtain ⟨p, ys, rfl, h, r⟩ := sq_of (K := K) (H := H) (v := v2) (ds := xs.map Da.str) (by rcases hd with rfl | rfl; exact .inl (a2.up s); exact .inr (a2.up s))
  have e := r.of_strs
  subst e
  exact ⟨p, _, rfl, h, rfl, flat_strs, by rw [inV_strs]; exact q _ (.bl _)⟩
theorem rv_inI {neg : Bool} {x : Int} {xs : List Int} (hd : d = .lst (xs.map Da.int) ∨ d = .tup (xs.map Da.int)) : RV K (rIn K neg) (.int x) d (.bl (if neg then !decide (x ∈ xs) else decide (x ∈ xs))) := rv_now fun Hk H v1 v2 s a1 a2 Q q => by
  cases a1
  obtain ⟨p, ys, rfl, h, r⟩ := sq_of (K := K) (H := H) (v := v2) (ds := xs.map Da.int) (by rcases hd with rfl | rfl; exact .inl (a2.up s); exact .inr (a2.up s))
  have e := r.of_ints
  subst e
  exact ⟨p, _, rfl, h, rfl, flat_ints, by rw [inV_ints]; exact q _ (.bl _)⟩
theorem any_py : ∀ (es : List Da), (toPys es).any (fun z => PyData.eqv z (toPy d)) = es.any fun z => eqD z d
  | [] => by simp [toPys]
  | e :: es => by simp only [toPys, List.any_cons, any_py es, eqD]
theorem rv_inD {n : Nat} (h1 : okD n d) (h2 : okD n (.lst es)) (hn : n ≤ 60) : RV K (rInD K) d (.lst es) (.bl (es.any fun z => eqD z d)) := rv_now fun Hk H v1 v2 s a1 a2 Q q =>
  ⟨toPy d, toPys es, (a1.up s).dp n d v1 h1, by have z := (a2.up s).dp n _ v2 h2; simpa only [toPy] using z, ok_shaped h1 hn, by have z := ok_shaped h2 hn; simpa only [toPy] using z, by rw [any_py]; exact q _ (.bl _)⟩
theorem rv_niD {n : Nat} (h1 : okD n d) (h2 : okD n (.lst es)) (hn : n ≤ 60) : RV K (rNotInD K) d (.lst es) (.bl (!es.any fun z => eqD z d)) := rv_now fun Hk H v1 v2 s a1 a2 Q q =>
  ⟨toPy d, toPys es, (a1.up s).dp n d v1 h1, by have z := (a2.up s).dp n _ v2 h2; simpa only [toPy] using z, ok_shaped h1 hn, by have z := ok_shaped h2 hn; simpa only [toPy] using z, by rw [any_py]; exact q _ (.bl _)⟩
end
end Bw
set_option Elab.async false
set_option linter.all false
set_option maxRecDepth 100000
set_option maxHeartbeats 2000000
namespace Bw
open PySem L2

/-! ### slices -/
def EvSO (K : PySem.W.Frag) (to : TO) (δ : List Sl) (o : Option Int) : Prop := ∀ σ Hk, Dats K δ σ Hk → ∀ H, Same Hk H → ∀ Q : Option Int → Hp → Prop, (∀ H', Same H H' → Q o H') → to σ H Q
def cutD {α : Type} (xs : List α) (lo hi : Option Int) : List α := (xs.drop (HT.sIx xs.length 0 lo)).take (HT.sIx xs.length xs.length hi - HT.sIx xs.length 0 lo)
def rSlU (K : PySem.W.Frag) : V → Option Int → Option Int → Hp → VK → Prop := fun x lo hi H Q => rSlL K x lo hi H Q ∨ (fun x lo hi H Q => rSlS x lo hi H Q ∨ rSlA K x lo hi H Q) x lo hi H Q
theorem sl_U {X : Cx} : SlR X (rSlU X.K) := SlR.or sl_list (SlR.or sl_str sl_tupA)
section
variable {K : PySem.W.Frag} {δ : List Sl} {te to : TE} {t : TA} {tl th : TO} {d d0 : Da} {ds es : List Da} {lo hi : Option Int}
theorem evo_none : EvSO K tNoPart δ none := fun σ Hk D H s Q q => q H (Same.refl _)
theorem evo_some {i : Int} (h : EvS K te δ (.int i)) : EvSO K (tPart te) δ (some i) := fun σ Hk D H s Q q =>
  h σ Hk D H s _ fun v Hs H' x r => by
    cases r
    exact ⟨i, rfl, q H' x.up⟩
theorem cut_to {α : Type} {xs : List α} (j : Nat) : cutD xs none (some (j : Int)) = xs.take j := by
  unfold cutD
  rw [HT.sIx_none, HT.sIx_nat, List.drop_zero, Nat.sub_zero]
  by_cases h : j ≤ xs.length
  · rw [Nat.min_eq_left h]
  · rw [Nat.min_eq_right (by omega)]
    rw [List.take_of_length_le (Nat.le_refl _)]
    rw [List.take_of_length_le (by omega)]
theorem cut_from {α : Type} {xs : List α} (i : Nat) : cutD xs (some (i : Int)) none = xs.drop i := by
  unfold cutD
  rw [HT.sIx_none, HT.sIx_nat]
  by_cases h : i ≤ xs.length
  · rw [Nat.min_eq_left h, List.take_of_length_le (by rw [List.length_drop]; omega)]
  · rw [Nat.min_eq_right (by omega)]
    rw [List.drop_of_length_le (Nat.le_refl _)]
    rw [List.drop_of_length_le (by omega)]
    simp
theorem cut_toI {α : Type} {xs : List α} {j : Int} (h : 0 ≤ j) : cutD xs none (some j) = xs.take j.toNat := by
  have e : j = ((j.toNat : Nat) : Int) := by omega
  rw [e]
  exact cut_to _
theorem cut_fromI {α : Type} {xs : List α} {j : Int} (h : 0 ≤ j) : cutD xs (some j) none = xs.drop j.toNat := by
  have e : j = ((j.toNat : Nat) : Int) := by omega
  rw [e]
  exact cut_from _
theorem cut_DRs {H : Hp} {vs : List V} (r : DRs K H vs ds) : DRs K H (cutV vs lo hi) (cutD ds lo hi) := by
  unfold cutV cutD
  rw [r.len]
  exact (r.drop _).take _
theorem evs_slN (h : EvS K te δ (.lst ds)) (hl : EvSO K tl δ lo) (hh : EvSO K th δ hi) : EvSN K (tSl (rSlU K) te tl th) δ (cutD ds lo hi) := fun σ Hk D H s Q q =>
  h σ Hk D H s _ fun v Hs H1 x r => hl σ Hs (D.up x.kn) H1 x.st _ fun H2 u2 => hh σ Hs (D.up x.kn) H2 (x.st.trans u2) _ fun H3 u3 => by
    cases r with
    | lst e r1 =>
      have st : Same Hs H3 := (x.st.trans u2).trans u3
      have up : Same H H3 := (x.up.trans u2).trans u3
      refine .inl ⟨_, _, rfl, SqL.of (st _ _ e), fun p hp => ?_⟩
      exact q p _ Hs _ ⟨up.trans (same_upd hp), x.kn, st.trans (same_upd hp), x.nw⟩ (up.free hp) (st.free hp) upd_same (cut_DRs r1)
theorem evs_slS {z : Str} (h : EvS K te δ (.str z)) (hl : EvSO K tl δ lo) (hh : EvSO K th δ hi) (hz : z.length ≤ 1000) : EvS K (tSl (rSlU K) te tl th) δ (.str (cutS z lo hi)) := fun σ Hk D H s Q q =>
  h σ Hk D H s _ fun v Hs H1 x r => hl σ Hs (D.up x.kn) H1 x.st _ fun H2 u2 => hh σ Hs (D.up x.kn) H2 (x.st.trans u2) _ fun H3 u3 => by
    cases r
    exact .inr (.inl ⟨z, rfl, Nat.le_of_lt (small1000 hz), q _ Hs H3 (x.trans (Ext.of_up x.st (u2.trans u3))) (.str _)⟩)
theorem cut_all {α : Type} {xs : List α} (h : HT.sIx xs.length 0 lo = 0 ∧ HT.sIx xs.length xs.length hi = xs.length) : cutD xs lo hi = xs := by
  unfold cutD
  rw [h.1, h.2]
  simp
theorem evs_slT (h : EvS K te δ (.tup ds)) (hl : EvSO K tl δ lo) (hh : EvSO K th δ hi) : EvS K (tSl (rSlU K) te tl th) δ (.tup (cutD ds lo hi)) := fun σ Hk D H s Q q =>
  h σ Hk D H s _ fun v Hs H1 x r => hl σ Hs (D.up x.kn) H1 x.st _ fun H2 u2 => hh σ Hs (D.up x.kn) H2 (x.st.trans u2) _ fun H3 u3 => by
    cases r with
    | tup e r1 =>
      have x3 := x.trans (Ext.of_up x.st (u2.trans u3))
      refine .inr (.inr ⟨_, _, rfl, same_t x3.st e, fun z => ?_, fun _ p hp => ?_⟩)
      · rw [r1.len] at z
        rw [cut_all z] at q
        exact q _ Hs H3 x3 (.tup e r1)
      · exact q _ _ _ (x3.new hp) (.tup (SqT.of upd_same) ((cut_DRs r1).up (same_upd (x3.st.free hp))))

/-! ### built-ins by name -/
def rLen (K : PySem.W.Frag) (vs : List V) (H : Hp) (Q : VK) : Prop := ∃ v k, vs = [v] ∧ LenV K v H k ∧ Q (.int k) H
theorem call_lenU {X : Cx} : CallR X (.builtin "len") (rLen X.K) := call_len
theorem rc_now {rc : List V → Hp → VK → Prop} {x : Da} (h : ∀ Hk H vs, Same Hk H → DRs K Hk vs ds → ∀ Q : VK, (∀ v, DR K Hk v x → Q v H) → rc vs H Q) : RC K rc ds x :=
  fun Hk H vs s a Q q => h Hk H vs s a Q fun v rr => q v Hk H (Ext.refl s) rr
theorem DRs.one_of {H : Hp} {vs : List V} (r : DRs K H vs [d]) : ∃ v, vs = [v] ∧ DR K H v d := by
  cases r with
  | cons a b => cases b; exact ⟨_, rfl, a⟩
theorem DRs.two_of {H : Hp} {vs : List V} {e : Da} (r : DRs K H vs [d, e]) : ∃ v w, vs = [v, w] ∧ DR K H v d ∧ DR K H w e := by
  cases r with
  | cons a b =>
    obtain ⟨w, rfl, b1⟩ := b.one_of
    exact ⟨_, w, rfl, a, b1⟩
theorem rc_lenS {z : Str} (h : z.length ≤ 1000) : RC K (rLen K) [.str z] (.int z.length) := rc_now fun Hk H vs s a Q q => by
  obtain ⟨v, rfl, a1⟩ := a.one_of
  cases a1
  exact ⟨_, z.length, rfl, ⟨Nat.le_of_lt (small1000 h), rfl⟩, q _ (.int _)⟩
theorem rc_lenL : RC K (rLen K) [.lst ds] (.int ds.length) := rc_now fun Hk H vs s a Q q => by
  obtain ⟨v, rfl, a1⟩ := a.one_of
  cases a1 with
  | lst e r => exact ⟨_, ds.length, rfl, .inl ⟨_, SqL.of (s _ _ e), r.len.symm⟩, q _ (.int _)⟩
theorem rc_lenT : RC K (rLen K) [.tup ds] (.int ds.length) := rc_now fun Hk H vs s a Q q => by
  obtain ⟨v, rfl, a1⟩ := a.one_of
  cases a1 with
  | tup e r => exact ⟨_, ds.length, rfl, .inr ⟨_, same_t s e, r.len.symm⟩, q _ (.int _)⟩
theorem rc_lenC {ns : List Int} : RC K (rLen K) [.scr ns] (.int ns.length) := rc_now fun Hk H vs s a Q q => by
  obtain ⟨v, rfl, a1⟩ := a.one_of
  cases a1 with
  | scr e => exact ⟨_, ns.length, rfl, .inl ⟨_, s.seq e, by simp⟩, q _ (.int _)⟩
def rTuple (K : PySem.W.Frag) : List V → Hp → VK → Prop := fun xs H Q => ∃ p ys, xs = [.ref p] ∧ ((SqL K H p ys ∧ ∀ l, H l = none → Q (.ref l) (upd H l (.tup ys))) ∨ (SqT K H p ys ∧ Q (.ref p) H))
theorem call_tupleU {X : Cx} : CallR X (.type "tuple") (rTuple X.K) := call_tuple_of
theorem rc_tupleL : RC K (rTuple K) [.lst ds] (.tup ds) := fun Hk H vs s a Q q => by
  obtain ⟨v, rfl, a1⟩ := a.one_of
  cases a1 with
  | lst e r => exact ⟨_, _, rfl, .inl ⟨SqL.of (s _ _ e), fun p hp => q _ _ _ ((Ext.refl s).new hp) (.tup (SqT.of upd_same) (r.up (same_upd (s.free hp))))⟩⟩
theorem rc_tupleT : RC K (rTuple K) [.tup ds] (.tup ds) := fun Hk H vs s a Q q => by
  obtain ⟨v, rfl, a1⟩ := a.one_of
  cases a1 with
  | tup e r => exact ⟨_, _, rfl, .inr ⟨same_t s e, q _ Hk H (Ext.refl s) (.tup e r)⟩⟩
def rList (K : PySem.W.Frag) : List V → Hp → VK → Prop := fun xs H Q => ∃ p ys, xs = [.ref p] ∧ (SqL K H p ys ∨ SqT K H p ys) ∧ ∀ l, H l = none → Q (.ref l) (upd H l (.lst ys))
theorem call_listU {X : Cx} : CallR X (.type "list") (rList X.K) := call_list_of
theorem rc_list (hd : d = .lst ds ∨ d = .tup ds) : RCN K (rList K) [d] ds := fun Hk H vs s a Q q => by
  obtain ⟨v, rfl, a1⟩ := a.one_of
  have fin : ∀ (p : Addr) (xs : List V), (SqL K H p xs ∨ SqT K H p xs) → DRs K Hk xs ds → v = .ref p → rList K [v] H Q := fun p xs h r e => by
    subst e
    refine ⟨p, xs, rfl, h, fun l hl => ?_⟩
    exact q l xs Hk _ ⟨same_upd hl, Same.refl _, s.trans (same_upd hl), fun b o e n => by rw [n] at e; cases e⟩ hl (s.free hl) upd_same r
  rcases hd with rfl | rfl
  · cases a1 with
    | lst e r => exact fin _ _ (.inl (SqL.of (s _ _ e))) r rfl
  · cases a1 with
    | tup e r => exact fin _ _ (.inr (same_t s e)) r rfl
/-! sorted of texts -/
def insS (x : Str) : List Str → List Str
  | [] => [x]
  | y :: ys => if y.cps.toList < x.cps.toList then y :: insS x ys else x :: y :: ys
def srtS : List Str → List Str
  | [] => []
  | x :: xs => insS x (srtS xs)
/-! all, any -/
theorem rc_all {bs : List Bool} : RC K (rAll K) [.lst (bs.map Da.bl)] (.bl (bs.all id)) := rc_now fun Hk H vs s a Q q => by
  obtain ⟨v, rfl, a1⟩ := a.one_of
  cases a1 with
  | lst e r =>
    have e2 := r.of_bls
    subst e2
    exact ⟨_, bs, rfl, SqL.of (s _ _ e), q _ (.bl _)⟩
theorem rc_any {bs : List Bool} : RC K (rAny K) [.lst (bs.map Da.bl)] (.bl (bs.any id)) := rc_now fun Hk H vs s a Q q => by
  obtain ⟨v, rfl, a1⟩ := a.one_of
  cases a1 with
  | lst e r =>
    have e2 := r.of_bls
    subst e2
    exact ⟨_, bs, rfl, SqL.of (s _ _ e), q _ (.bl _)⟩
/-! isinstance with a built-in class -/
def tyName : Da → Option String
  | .non => some "NoneType" | .bl _ => some "bool" | .int _ => some "int" | .str _ => some "str" | .lst _ => some "list" | .tup _ => some "tuple" | .dct _ _ => some "dict" | _ => none
theorem tyx_of {H : Hp} {v : V} {T : String} (h : DR K H v d) (e : tyName d = some T) : TyX K H v (.type T) := by
  cases h with
  | non => cases e; exact .base .non
  | bl b => cases e; exact .base (.bl b)
  | int b => cases e; exact .base (.int b)
  | str b => cases e; exact .base (.str b)
  | lst h r => cases e; exact .base (.lst h)
  | dct h hl r => cases e; exact .base (.dK h)
  | tup h r =>
    cases e
    rcases h with (h | ⟨o, h⟩) | ⟨o, its, n, h, hc, _⟩
    · exact .base (.tup h)
    · exact .fTuple h
    · exact .kTuple h hc
  | _ => cases e
theorem rc_isi {T N : String} {b : Bool} (e : tyName d = some T) (hk : kitB T N = some b) : RC K (rIsi K) [d, .ty N] (.bl b) := rc_now fun Hk H vs s a Q q => by
  obtain ⟨v, w, rfl, a1, a2⟩ := a.two_of
  cases a2
  exact ⟨v, _, _, _, b, rfl, .ty N, tyx_of (a1.up s) e, kit_ty hk, q _ (.bl _)⟩
end

/-! ### promises of defs that hand back data -/
def SpD (K : PySem.W.Frag) (R : List Da → Da → Prop) : Sp := fun vs H Q _ => ∃ Hc ds d, Same Hc H ∧ DRs K Hc vs ds ∧ R ds d ∧ ∀ v Hs H', Ext Hc H Hs H' → DR K Hs v d → Q v H'
section
variable {K : PySem.W.Frag} {δ : List Sl} {t : TA} {d : Da} {ds : List Da} {R : List Da → Da → Prop} {E : XK}
theorem evs_call (ha : EvSA K t δ ds) (hr : R ds d) : EvS K (tCall (SpD K R) [] E t) δ d := fun σ Hk D H s Q q =>
  ha σ Hk D H s _ fun vs H1 H1' x1 r1 => by
    show SpD K R (vs ++ []) H1' Q E
    rw [List.append_nil]
    exact ⟨H1, ds, d, x1.st, r1, hr, fun v H2 H2' x2 r2 => q v H2 H2' (x1.trans x2) r2⟩
theorem spd_len {n : Nat} (h : ∀ ds d, R ds d → ds.length = n) : ∀ vs H Q E, SpD K R vs H Q E → vs.length = n := fun vs H Q E ⟨Hc, ds, d, s, r, hr, q⟩ => by
  rw [r.len]
  exact h ds d hr
theorem start_at {H0 : Hp} {N : List Str} {vs : List V} (r : DRs K H0 vs ds) (hn : ds.length ≤ N.length) (H : Hp) (s : Same H0 H) (Hc : Hp) (e : Hc = H0) : At ⟨K, Hc, H, []⟩ (ds.map Sl.dat ++ List.replicate (N.length - ds.length) .no) (L2.start N vs) H0 H := by
  subst e
  have hl := r.len
  refine ⟨Ext.refl s, ⟨by simp [L2.start, hl], fun i d h => ?_⟩, fun i es h => ?_, fun i j es fs l n h => ?_, fun P hP => by cases hP⟩
  · have hi : i < ds.length := by
      by_cases hi : i < ds.length
      · exact hi
      · rw [List.getElem?_append_right (by simpa using hi), List.getElem?_replicate] at h
        split at h <;> cases h
    rw [List.getElem?_append_left (by simpa using hi), List.getElem?_map, List.getElem?_eq_getElem hi] at h
    cases h
    obtain ⟨v, e, rv⟩ := r.at (List.getElem?_eq_getElem hi)
    refine ⟨v, ?_, rv⟩
    unfold L2.start
    rw [List.getElem?_append_left (by rw [List.length_map]; omega), List.getElem?_map, e] <;> rfl
  · exfalso
    by_cases hi : i < ds.length
    · rw [List.getElem?_append_left (by simpa using hi), List.getElem?_map, List.getElem?_eq_getElem hi] at h
      cases h
    · rw [List.getElem?_append_right (by simpa using hi), List.getElem?_replicate] at h
      split at h <;> cases h
  · exfalso
    by_cases hi : i < ds.length
    · rw [List.getElem?_append_left (by simpa using hi), List.getElem?_map, List.getElem?_eq_getElem hi] at h
      cases h
    · rw [List.getElem?_append_right (by simpa using hi), List.getElem?_replicate] at h
      split at h <;> cases h
/-- a def's body by its slots' data -/
theorem spd_body {N : List Str} {ts : TS} (hn : ∀ ds d, R ds d → ds.length ≤ N.length)
    (h : ∀ ds d, R ds d → ∀ (C : Ct) (Q : VK), C.K = K → Post C d Q → Go C ts { nx := fun _ H' => Q .non H', rt := Q } (ds.map Sl.dat ++ List.replicate (N.length - ds.length) .no)) :
    ∀ vs H Q E, SpD K R vs H Q E → ts { nx := fun _ H' => Q .non H', rt := Q } (L2.start N vs) H := fun vs H Q E ⟨Hc, ds, d, s, r, hr, q⟩ =>
  h ds d hr ⟨K, Hc, H, []⟩ Q rfl q _ _ _ (start_at r (hn ds d hr) H s Hc rfl)
end
end Bw
set_option Elab.async false
set_option linter.all false
set_option maxRecDepth 100000
set_option maxHeartbeats 2000000
namespace Bw
open PySem L2

/-! ### texts as lists of signs -/
def S (l : List Nat) : Str := ⟨l.toArray⟩
theorem S_cps (x : Str) : S x.cps.toList = x := by cases x; simp [S]
theorem S_list (l : List Nat) : (S l).cps.toList = l := by simp [S]
theorem S_inj {l m : List Nat} (h : S l = S m) : l = m := by
  have := congrArg (fun x : Str => x.cps.toList) h
  simpa [S] using this
theorem S_len (l : List Nat) : (S l).length = l.length := by show l.toArray.size = _; simp
theorem S_app (l m : List Nat) : S l ++ S m = S (l ++ m) := by
  show Str.append (S l) (S m) = _
  simp [S, Str.append]
theorem cutS_S (l : List Nat) (lo hi : Option Int) : cutS (S l) lo hi = S (cutD l lo hi) := by
  unfold cutS cutD
  rw [S_len, S_list] <;> rfl
def az : List Nat := (List.range 26).map (· + 97)
theorem az_eq : ("abcdefghijklmnopqrstuvwxyz" : Str) = S az := by decide +kernel
theorem az_len : az.length = 26 := by simp [az]
theorem az_at {i : Nat} (h : i < 26) : az[i]? = some (i + 97) := by simp [az, h]

theorem abc_at {z : Int} (h0 : 0 ≤ z) (h : z < 26) : atI ("abcdefghijklmnopqrstuvwxyz" : Str).cps.toList z = some (z.toNat + 97) := by
  rw [az_eq, S_list]
  exact at_nat h0 (az_at (by omega))
theorem len1 (c : Nat) : (⟨#[c]⟩ : Str).length = 1 := rfl
theorem S_one (c : Nat) : (⟨#[c]⟩ : Str) = S [c] := rfl
/-! ### the drawing -/
def mixed (c k : Int) : Int := ((c + 7919 * k + 11) * 48271 % 2147483647 * ((c + 7919 * k + 11) * 48271 % 2147483647) + 40692 * ((c + 7919 * k + 11) * 48271 % 2147483647)) % 2147483399
theorem mixed_lo (c k : Int) : 0 ≤ mixed c k := Int.emod_nonneg _ (by decide)
theorem mixed_hi (c k : Int) : mixed c k < 2147483399 := Int.emod_lt_of_pos _ (by decide)
def cellAt (ns : List Int) (k : Nat) : Int := mixed (ns.getD k 0) (300 + k)
theorem cellAt_lo (ns : List Int) (k : Nat) : 0 ≤ cellAt ns k := mixed_lo _ _
theorem cellAt_hi (ns : List Int) (k : Nat) : cellAt ns k < 2147483399 := mixed_hi _ _
/-! names -/
def baseLen (c : Int) : Nat := (mixed c 1 / 7 % 8).toNat
def baseAt (c : Int) (k : Nat) : Nat := (mixed c (10 + k) / 31 % 26).toNat + 97
def bas (c : Int) (n : Nat) : List Nat := (List.range n).map (baseAt c)
def putAt (c : Int) : Nat := (mixed c 2 / 7 % ((baseLen c : Int) + 1)).toNat
def hop (c : Int) : Int := [1, 3, 5].getD (mixed c 3 / 7 % 3).toNat 0
def letter (c : Int) (k : Nat) : Nat := ((c / 17 + hop c * k) % 26).toNat + 97
def nameOf (c : Int) (k : Nat) : List Nat := (bas c (baseLen c)).take (putAt c) ++ [letter c k] ++ (bas c (baseLen c)).drop (putAt c)
def names (c : Int) (n : Nat) : List Str := (List.range n).map fun k => S (nameOf c k)
theorem baseLen_lt (c : Int) : baseLen c < 8 := by
  unfold baseLen
  have := Int.emod_lt_of_pos (mixed c 1 / 7) (show (0 : Int) < 8 by decide)
  omega
theorem bas_len (c : Int) (n : Nat) : (bas c n).length = n := by simp [bas]
theorem nameOf_len (c : Int) (k : Nat) : (nameOf c k).length = baseLen c + 1 := by
  unfold nameOf
  rw [List.length_append, List.length_append, List.length_take, List.length_drop, bas_len, List.length_singleton]
  omega
theorem baseAt_in (c : Int) (k : Nat) : 97 ≤ baseAt c k ∧ baseAt c k < 123 := by
  unfold baseAt
  have h1 := Int.emod_lt_of_pos (mixed c (10 + k) / 31) (show (0 : Int) < 26 by decide)
  have h2 := Int.emod_nonneg (mixed c (10 + k) / 31) (show (26 : Int) ≠ 0 by decide)
  omega
theorem letter_in (c : Int) (k : Nat) : 97 ≤ letter c k ∧ letter c k < 123 := by
  unfold letter
  have h1 := Int.emod_lt_of_pos (c / 17 + hop c * k) (show (0 : Int) < 26 by decide)
  have h2 := Int.emod_nonneg (c / 17 + hop c * k) (show (26 : Int) ≠ 0 by decide)
  omega
theorem hop_at {z : Int} (h0 : 0 ≤ z) (h : z < 3) : atI [Da.int 1, Da.int 3, Da.int 5] z = some (.int ([1, 3, 5].getD z.toNat 0)) := by
  have : z = 0 ∨ z = 1 ∨ z = 2 := by omega
  rcases this with rfl | rfl | rfl <;> rfl
theorem bas_succ (c : Int) (i : Nat) : bas c (i + 1) = bas c i ++ [baseAt c i] := by
  unfold bas
  rw [List.range_succ, List.map_append] <;> rfl
theorem hop_of (c : Int) : hop c = 1 ∨ hop c = 3 ∨ hop c = 5 := by
  unfold hop
  have h1 := Int.emod_lt_of_pos (mixed c 3 / 7) (show (0 : Int) < 3 by decide)
  have h2 := Int.emod_nonneg (mixed c 3 / 7) (show (3 : Int) ≠ 0 by decide)
  generalize mixed c 3 / 7 % 3 = z at h1 h2
  have : z = 0 ∨ z = 1 ∨ z = 2 := by omega
  rcases this with rfl | rfl | rfl
  · exact .inl rfl
  · exact .inr (.inl rfl)
  · exact .inr (.inr rfl)
/-- a name: one to eight small letters -/
def isNm (x : Str) : Prop := 1 ≤ x.length ∧ x.length ≤ 8 ∧ ∀ c ∈ x.cps.toList, 97 ≤ c ∧ c < 123
theorem nameOf_nm (c : Int) (k : Nat) : isNm (S (nameOf c k)) := by
  refine ⟨by rw [S_len, nameOf_len]; omega, by rw [S_len, nameOf_len]; have := baseLen_lt c; omega, fun z hz => ?_⟩
  rw [S_list] at hz
  unfold nameOf at hz
  have hb : ∀ z ∈ bas c (baseLen c), 97 ≤ z ∧ z < 123 := fun z hz => by
    obtain ⟨j, _, rfl⟩ := List.mem_map.mp hz
    exact baseAt_in c j
  rcases List.mem_append.mp hz with hz | hz
  · rcases List.mem_append.mp hz with hz | hz
    · exact hb z (List.mem_of_mem_take hz)
    · rw [List.mem_singleton.mp hz]
      exact letter_in c k
  · exact hb z (List.mem_of_mem_drop hz)
theorem nameOf_inj {c : Int} {j k : Nat} (hj : j < 9) (hk : k < 9) (h : nameOf c j = nameOf c k) : j = k := by
  unfold nameOf at h
  have h1 := List.append_cancel_right h
  have h2 := List.append_cancel_left h1
  have h3 : letter c j = letter c k := by simpa using h2
  unfold letter at h3
  have a1 := Int.emod_nonneg (c / 17 + hop c * j) (show (26 : Int) ≠ 0 by decide)
  have a2 := Int.emod_nonneg (c / 17 + hop c * k) (show (26 : Int) ≠ 0 by decide)
  rcases hop_of c with e | e | e <;> rw [e] at h3 a1 a2 <;> omega
theorem names_len (c : Int) (n : Nat) : (names c n).length = n := by simp [names]
theorem names_nm {c : Int} {n : Nat} : ∀ x ∈ names c n, isNm x := fun x hx => by
  obtain ⟨k, _, rfl⟩ := List.mem_map.mp hx
  exact nameOf_nm c k
theorem nd_map {α β : Type} {f : α → β} {l : List α} (h : l.Nodup) (hf : ∀ a ∈ l, ∀ b ∈ l, f a = f b → a = b) : (l.map f).Nodup := by
  show List.Pairwise (· ≠ ·) _
  rw [List.pairwise_map]
  exact List.Pairwise.imp_of_mem (fun ha hb hne e => hne (hf _ ha _ hb e)) h
theorem names_nd {c : Int} {n : Nat} (hn : n ≤ 9) : (names c n).Nodup := by
  unfold names
  refine nd_map List.nodup_range ?_
  intro j hj k hk h
  rw [List.mem_range] at hj hk
  exact nameOf_inj (by omega) (by omega) (S_inj h)
/-! pairs -/
abbrev Pr := Str × Str
def nth (nms : List Str) (i : Int) : Str := nms.getD i.toNat (S [])
def swaps (nms : List Str) (way : Int) (p : Pr) : Bool := decide (way ∈ [2, 3, 4]) && decide ((nms.idxOf p.1 : Int) > nms.idxOf p.2)
def pair0 (nms : List Str) (m : Int) : Pr := (nth nms (m % nms.length), nth nms (m / 8 % nms.length))
def pairOf (nms : List Str) (way m : Int) : Pr := if swaps nms way (pair0 nms m) then ((pair0 nms m).2, (pair0 nms m).1) else pair0 nms m
def adds (nms : List Str) (way : Int) (f : List Pr) (m : Int) : Bool := (!decide (pairOf nms way m ∈ f)) && ((!decide ((pairOf nms way m).1 = (pairOf nms way m).2)) || decide (m / 320 % 3 = 0))
def addPair (nms : List Str) (way : Int) (f : List Pr) (m : Int) : List Pr := if adds nms way f m then f ++ [pairOf nms way m] else f
def ahead (nms : List Str) : List Pr := (List.range (nms.length - 1)).map fun (k : Nat) => (nth nms k, nth nms (k + 1))
def aback (nms : List Str) : List Pr := ((List.range (nms.length - 1)).filter fun k => decide (((k : Nat) : Int) % 3 < 2)).map fun (k : Nat) => (nth nms (k + 1), nth nms k)
def begun (nms : List Str) (way : Int) : List Pr := if way = 1 then aback nms else if way = 0 then ahead nms else []
def most (ns : List Int) : Nat := [64, 28, 14, 12, 10, 9, 8, 7].getD (cellAt ns 1 / 40 % 8).toNat 0
theorem most_at {z : Int} (h0 : 0 ≤ z) (h : z < 8) : atI [Da.int 64, .int 28, .int 14, .int 12, .int 10, .int 9, .int 8, .int 7] z = some (.int (([64, 28, 14, 12, 10, 9, 8, 7].getD z.toNat 0 : Nat) : Int)) := by
  have : z = 0 ∨ z = 1 ∨ z = 2 ∨ z = 3 ∨ z = 4 ∨ z = 5 ∨ z = 6 ∨ z = 7 := by omega
  rcases this with rfl | rfl | rfl | rfl | rfl | rfl | rfl | rfl <;> rfl
def way (ns : List Int) : Int := cellAt ns 1 / 5 % 8
def grown (ns : List Int) (nms : List Str) (j : Nat) : List Pr := (List.range j).foldl (fun f k => addPair nms (way ns) f (cellAt ns (2 + k) / 11)) (begun nms (way ns))
def pairsOf (ns : List Int) (nms : List Str) : List Pr := if nms = [] then [] else (grown ns nms (ns.length - 2)).take (most ns)
theorem grown_succ (ns : List Int) (nms : List Str) (j : Nat) : grown ns nms (j + 1) = addPair nms (way ns) (grown ns nms j) (cellAt ns (2 + j) / 11) := by
  unfold grown
  rw [List.range_succ, List.foldl_append] <;> rfl
/-- pairs of names, none twice -/
structure GoodP (nms : List Str) (ps : List Pr) : Prop where
  nd : ps.Nodup
  mem : ∀ p ∈ ps, p.1 ∈ nms ∧ p.2 ∈ nms
theorem nth_mem {nms : List Str} {i : Int} (h0 : 0 ≤ i) (h : i < nms.length) : nth nms i ∈ nms := by
  unfold nth
  rw [List.getD_eq_getElem?_getD, List.getElem?_eq_getElem (by omega)]
  exact List.getElem_mem _
theorem nth_at {nms : List Str} {i : Int} (h0 : 0 ≤ i) (h : i < nms.length) : nms[i.toNat]? = some (nth nms i) := by
  unfold nth
  rw [List.getD_eq_getElem?_getD, List.getElem?_eq_getElem (by omega)] <;> rfl
theorem nth_inj {nms : List Str} (hn : nms.Nodup) {i j : Int} (h0 : 0 ≤ i) (h : i < nms.length) (k0 : 0 ≤ j) (k : j < nms.length) (e : nth nms i = nth nms j) : i = j := by
  have a := nth_at h0 h
  have b := nth_at k0 k
  rw [e] at a
  have := nodup_ix hn a b
  omega
theorem pair0_mem {nms : List Str} {m : Int} (hn : nms ≠ []) : (pair0 nms m).1 ∈ nms ∧ (pair0 nms m).2 ∈ nms := by
  have hl : 0 < nms.length := List.length_pos_iff.mpr hn
  have h : (0 : Int) < nms.length := by omega
  exact ⟨nth_mem (Int.emod_nonneg _ (by omega)) (Int.emod_lt_of_pos _ h), nth_mem (Int.emod_nonneg _ (by omega)) (Int.emod_lt_of_pos _ h)⟩
theorem pairOf_mem {nms : List Str} {w m : Int} (hn : nms ≠ []) : (pairOf nms w m).1 ∈ nms ∧ (pairOf nms w m).2 ∈ nms := by
  unfold pairOf
  have h := pair0_mem (m := m) hn
  split
  · exact ⟨h.2, h.1⟩
  · exact h
theorem nd_snoc' {α : Type} {l : List α} {x : α} (h : l.Nodup) (hx : x ∉ l) : (l ++ [x]).Nodup := by
  rw [List.nodup_append]
  refine ⟨h, by simp, fun a ha b hb e => ?_⟩
  rw [List.mem_singleton] at hb
  subst hb
  subst e
  exact hx ha
theorem good_add {nms : List Str} {w m : Int} {f : List Pr} (hn : nms ≠ []) (g : GoodP nms f) : GoodP nms (addPair nms w f m) := by
  unfold addPair
  split
  · rename_i h
    unfold adds at h
    simp only [Bool.and_eq_true, Bool.not_eq_true', decide_eq_false_iff_not] at h
    refine ⟨nd_snoc' g.nd h.1, fun p hp => ?_⟩
    rcases List.mem_append.mp hp with hp | hp
    · exact g.mem p hp
    · rw [List.mem_singleton.mp hp]
      exact pairOf_mem hn
  · exact g
theorem good_begun {nms : List Str} (hn : nms.Nodup) (w : Int) : GoodP nms (begun nms w) := by
  unfold begun
  split
  · refine ⟨nd_map (List.nodup_range.sublist List.filter_sublist) ?_, fun p hp => ?_⟩
    · intro a ha b hb e
      have ha := List.mem_range.mp (List.mem_filter.mp ha).1
      have hb := List.mem_range.mp (List.mem_filter.mp hb).1
      have := nth_inj hn (by omega) (by omega) (by omega) (by omega) (Prod.mk.inj e).2
      omega
    · obtain ⟨k, hk, rfl⟩ := List.mem_map.mp hp
      have hk := List.mem_range.mp (List.mem_filter.mp hk).1
      exact ⟨nth_mem (by omega) (by omega), nth_mem (by omega) (by omega)⟩
  · split
    · refine ⟨nd_map List.nodup_range ?_, fun p hp => ?_⟩
      · intro a ha b hb e
        have ha := List.mem_range.mp ha
        have hb := List.mem_range.mp hb
        have := nth_inj hn (by omega) (by omega) (by omega) (by omega) (Prod.mk.inj e).1
        omega
      · obtain ⟨k, hk, rfl⟩ := List.mem_map.mp hp
        have hk := List.mem_range.mp hk
        exact ⟨nth_mem (by omega) (by omega), nth_mem (by omega) (by omega)⟩
    · exact ⟨List.nodup_nil, fun p hp => by cases hp⟩
theorem good_grown {ns : List Int} {nms : List Str} (hn : nms.Nodup) (h0 : nms ≠ []) : ∀ j, GoodP nms (grown ns nms j)
  | 0 => good_begun hn _
  | j + 1 => by
    rw [grown_succ]
    exact good_add h0 (good_grown hn h0 j)
theorem good_pairs {ns : List Int} {nms : List Str} (hn : nms.Nodup) : GoodP nms (pairsOf ns nms) := by
  unfold pairsOf
  split
  · exact ⟨List.nodup_nil, fun p hp => by cases hp⟩
  · rename_i h0
    have g := good_grown (ns := ns) hn h0 (ns.length - 2)
    exact ⟨g.nd.sublist (List.take_sublist ..), fun p hp => g.mem p (List.mem_of_mem_take hp)⟩
theorem begun_len {nms : List Str} {w : Int} : (begun nms w).length ≤ nms.length := by
  unfold begun aback ahead
  split
  · rw [List.length_map]
    have h := List.length_filter_le (fun k => decide (((k : Nat) : Int) % 3 < 2)) (List.range (nms.length - 1))
    rw [List.length_range] at h
    omega
  · split
    · rw [List.length_map, List.length_range]; omega
    · exact Nat.zero_le _
theorem grown_len {ns : List Int} {nms : List Str} : ∀ j, (grown ns nms j).length ≤ nms.length + j
  | 0 => begun_len
  | j + 1 => by
    have h := grown_len (ns := ns) (nms := nms) j
    rw [grown_succ]
    unfold addPair
    split
    · rw [List.length_append, List.length_singleton]; omega
    · omega
theorem pairs_len {ns : List Int} {nms : List Str} (h1 : nms.length ≤ 12) (h2 : ns.length ≤ 63) : (pairsOf ns nms).length ≤ 80 := by
  unfold pairsOf
  split
  · exact Nat.zero_le _
  · rw [List.length_take]
    have := grown_len (ns := ns) (nms := nms) (ns.length - 2)
    omega

/-! ### names and pairs as data -/
def dS (x : Str) : Da := .str x
def dP (p : Pr) : Da := .tup [.str p.1, .str p.2]
theorem nm_ok {x : Str} (h : isNm x) : PyData.strOk x = true := by
  unfold PyData.strOk
  rw [← Array.all_toList, List.all_eq_true]
  intro c hc
  have := (h.2.2 c hc).2
  exact decide_eq_true (by omega)
def okS (x : Str) : Prop := PyData.strOk x = true
theorem ok_str {n : Nat} {x : Str} (h : okS x) : okD n (.str x) := by cases n <;> exact h
theorem ok_strs {n : Nat} {xs : List Str} (h : ∀ x ∈ xs, okS x) : okD (n + 1) (.lst (xs.map Da.str)) := by
  intro d hd
  obtain ⟨x, hx, rfl⟩ := List.mem_map.mp hd
  exact ok_str (h x hx)
theorem ok_strT {n : Nat} {xs : List Str} (h : ∀ x ∈ xs, okS x) : okD (n + 1) (.tup (xs.map Da.str)) := by
  intro d hd
  obtain ⟨x, hx, rfl⟩ := List.mem_map.mp hd
  exact ok_str (h x hx)
theorem ok_dP {n : Nat} {p : Pr} (h : okS p.1 ∧ okS p.2) : okD (n + 1) (dP p) := by
  intro d hd
  rcases List.mem_cons.mp hd with rfl | hd
  · exact ok_str h.1
  · rw [List.mem_singleton.mp hd]
    exact ok_str h.2
theorem ok_dPs {n : Nat} {ps : List Pr} (h : ∀ p ∈ ps, okS p.1 ∧ okS p.2) : okD (n + 2) (.lst (ps.map dP)) := by
  intro d hd
  obtain ⟨x, hx, rfl⟩ := List.mem_map.mp hd
  exact ok_dP (h x hx)
theorem ok_dPT {n : Nat} {ps : List Pr} (h : ∀ p ∈ ps, okS p.1 ∧ okS p.2) : okD (n + 2) (.tup (ps.map dP)) := by
  intro d hd
  obtain ⟨x, hx, rfl⟩ := List.mem_map.mp hd
  exact ok_dP (h x hx)
theorem pur_str {n : Nat} {x : Str} : pur n (.str x) := by cases n <;> trivial
theorem pur_int {n : Nat} {x : Int} : pur n (.int x) := by cases n <;> trivial
theorem pur_non {n : Nat} : pur n .non := by cases n <;> trivial
theorem pur_strs {n : Nat} {xs : List Str} : pur (n + 1) (.lst (xs.map Da.str)) := by
  intro d hd
  obtain ⟨x, hx, rfl⟩ := List.mem_map.mp hd
  exact pur_str
theorem pur_strT {n : Nat} {xs : List Str} : pur (n + 1) (.tup (xs.map Da.str)) := by
  intro d hd
  obtain ⟨x, hx, rfl⟩ := List.mem_map.mp hd
  exact pur_str
theorem pur_dP {n : Nat} {p : Pr} : pur (n + 1) (dP p) := by
  intro d hd
  rcases List.mem_cons.mp hd with rfl | hd
  · exact pur_str
  · rw [List.mem_singleton.mp hd]
    exact pur_str
theorem pur_dPs {n : Nat} {ps : List Pr} : pur (n + 2) (.lst (ps.map dP)) := by
  intro d hd
  obtain ⟨x, hx, rfl⟩ := List.mem_map.mp hd
  exact pur_dP
theorem pur_dPT {n : Nat} {ps : List Pr} : pur (n + 2) (.tup (ps.map dP)) := by
  intro d hd
  obtain ⟨x, hx, rfl⟩ := List.mem_map.mp hd
  exact pur_dP
theorem str_inj {xs ys : List Str} (h : xs.map Da.str = ys.map Da.str) : xs = ys := by
  induction xs generalizing ys with
  | nil => cases ys with
    | nil => rfl
    | cons y ys => cases h
  | cons x xs ih => cases ys with
    | nil => cases h
    | cons y ys =>
      rw [List.map_cons, List.map_cons] at h
      injection h with h1 h2
      injection h1 with h1
      rw [h1, ih h2]
theorem dP_inj {p q : Pr} (h : dP p = dP q) : p = q := by
  obtain ⟨a, b⟩ := p
  obtain ⟨c, d⟩ := q
  unfold dP at h
  injection h with h
  injection h with h1 h2
  injection h1 with h1
  injection h2 with h2 _
  injection h2 with h2
  have h1 : a = c := h1
  have h2 : b = d := h2
  rw [h1, h2]
theorem dPs_inj {xs ys : List Pr} (h : xs.map dP = ys.map dP) : xs = ys := by
  induction xs generalizing ys with
  | nil => cases ys with
    | nil => rfl
    | cons y ys => cases h
  | cons x xs ih => cases ys with
    | nil => cases h
    | cons y ys =>
      rw [List.map_cons, List.map_cons] at h
      injection h with h1 h2
      rw [dP_inj h1, ih h2]
theorem eqD_of {n : Nat} {d e : Da} {p : Prop} [Decidable p] (h1 : pur n d) (h2 : pur n e) (h : d = e ↔ p) : eqD d e = decide p := by
  have q := (eqD_iff n d e h1 h2).trans h
  by_cases hp : p
  · rw [decide_eq_true hp]
    exact q.mpr hp
  · rw [decide_eq_false hp]
    cases e1 : eqD d e with
    | false => rfl
    | true => exact absurd (q.mp e1) hp
theorem eqD_str {x y : Str} : eqD (.str x) (.str y) = decide (x = y) := eqD_of (n := 0) pur_str pur_str ⟨fun h => by injection h, fun h => by rw [h]⟩
theorem eqD_int {x y : Int} : eqD (.int x) (.int y) = decide (x = y) := eqD_of (n := 0) pur_int pur_int ⟨fun h => by injection h, fun h => by rw [h]⟩
theorem eqD_strs {xs ys : List Str} : eqD (.lst (xs.map Da.str)) (.lst (ys.map Da.str)) = decide (xs = ys) :=
  eqD_of (n := 1) pur_strs pur_strs ⟨fun h => str_inj (by injection h), fun h => by rw [h]⟩
theorem eqD_strT {xs ys : List Str} : eqD (.tup (xs.map Da.str)) (.tup (ys.map Da.str)) = decide (xs = ys) :=
  eqD_of (n := 1) pur_strT pur_strT ⟨fun h => str_inj (by injection h), fun h => by rw [h]⟩
theorem eqD_dP {p q : Pr} : eqD (dP p) (dP q) = decide (p = q) := eqD_of (n := 1) pur_dP pur_dP ⟨dP_inj, fun h => by rw [h]⟩
theorem eqD_dPs {xs ys : List Pr} : eqD (.lst (xs.map dP)) (.lst (ys.map dP)) = decide (xs = ys) :=
  eqD_of (n := 2) pur_dPs pur_dPs ⟨fun h => dPs_inj (by injection h), fun h => by rw [h]⟩
theorem eqD_dPT {xs ys : List Pr} : eqD (.tup (xs.map dP)) (.tup (ys.map dP)) = decide (xs = ys) :=
  eqD_of (n := 2) pur_dPT pur_dPT ⟨fun h => dPs_inj (by injection h), fun h => by rw [h]⟩
theorem any_dP {p : Pr} : ∀ {ps : List Pr}, ((ps.map dP).any fun z => eqD z (dP p)) = decide (p ∈ ps)
  | [] => by simp
  | q :: ps => by
    rw [List.map_cons, List.any_cons, any_dP, eqD_dP]
    by_cases h : q = p
    · subst h; simp
    · have h' : ¬ p = q := fun z => h z.symm
      simp [h, h']
theorem swap_mem {nms : List Str} {p : Pr} (h : p.1 ∈ nms ∧ p.2 ∈ nms) : p.2 ∈ nms ∧ p.1 ∈ nms := ⟨h.2, h.1⟩
theorem at_dP {ds : List Da} {l : List Str} {i : Int} (h0 : 0 ≤ i) (h : i < l.length) (e : ds = l.map Da.str) : atI ds i = some (.str (nth l i)) := by
  subst e
  refine at_nat h0 ?_
  rw [List.getElem?_map, nth_at h0 h] <;> rfl
/-! ### what a script draws -/
def nmsOf (ns : List Int) : List Str := names (cellAt ns 0) (cellAt ns 0 / 3 % 9).toNat
def psOf (ns : List Int) : List Pr := pairsOf ns (nmsOf ns)
theorem nmsOf_len (ns : List Int) : (nmsOf ns).length ≤ 8 := by
  unfold nmsOf
  rw [names_len]
  omega
theorem nmsOf_nd (ns : List Int) : (nmsOf ns).Nodup := names_nd (by omega)
theorem nmsOf_nm (ns : List Int) : ∀ x ∈ nmsOf ns, isNm x := names_nm
theorem psOf_good (ns : List Int) : GoodP (nmsOf ns) (psOf ns) := good_pairs (nmsOf_nd ns)
theorem psOf_len {ns : List Int} (h : ns.length ≤ 63) : (psOf ns).length ≤ 80 := pairs_len (by have := nmsOf_len ns; omega) h
end Bw
set_option Elab.async false
set_option linter.all false
set_option maxRecDepth 100000
set_option maxHeartbeats 2000000
namespace Bw
open PySem L2

theorem units65 {A : Around} {k : Nat} (hr : Room k A) : A.units + 65 < cLine := by have := hr.un; omega
/-! ### chains, fields, index, methods -/
section
variable {K : PySem.W.Frag} {δ : List Sl} {ta tb tc : TE} {t : TA} {d d1 d2 d3 : Da} {ds es : List Da} {r r' : R2} {b c : Bool} {i j : Int}
theorem evs_chain (ha : EvS K ta δ d1) (hb : EvS K tb δ d2) (hc : EvS K tc δ d3) (h1 : RV K r d1 d2 (.bl b)) (h2 : RV K r' d2 d3 (.bl c)) : EvS K (tChain r r' ta tb tc) δ (.bl (b && c)) := fun σ Hk D H s Q q =>
  ha σ Hk D H s _ fun v1 H1 H1' x1 r1 => hb σ H1 (D.up x1.kn) H1' x1.st _ fun v2 H2 H2' x2 r2 =>
    h1 H2 H2' v1 v2 x2.st (r1.up x2.kn) r2 _ fun v H3 H3' x3 r3 => by
      cases r3
      refine ⟨b, rfl, ?_⟩
      have x := (x1.trans x2).trans x3
      cases b with
      | true =>
        refine iteT ?_
        exact hc σ H3 (D.up x.kn) H3' x3.st _ fun v4 H4 H4' x4 r4 => h2 H4 H4' v2 v4 x4.st ((r2.up x3.kn).up x4.kn) r4 Q fun v5 H5 H5' x5 r5 => q v5 H5 H5' ((x.trans x4).trans x5) r5
      | false =>
        refine iteF ?_
        exact q _ H3 H3' x (.bl false)
theorem zip_look {f : Str} {v : V} : ∀ {ks : List Str} {xs : List V} {k : Nat}, ks.Nodup → ks[k]? = some f → xs[k]? = some v → (ks.zip xs).lookup f = some v
  | [], _, _, _, h, _ => by simp at h
  | y :: ys, [], _, _, _, h => by simp at h
  | y :: ys, x :: xs, 0, _, h, h2 => by
    simp at h h2
    subst h; subst h2
    simp [List.lookup]
  | y :: ys, x :: xs, k + 1, nd, h, h2 => by
    have h : ys[k]? = some f := by simpa using h
    have h2 : xs[k]? = some v := by simpa using h2
    have ne : ¬ f = y := fun z => by
      subst z
      exact (List.nodup_cons.mp nd).1 (List.mem_of_getElem? h)
    have e : (f == y) = false := by simpa using ne
    rw [List.zip_cons_cons, List.lookup_cons, e]
    exact zip_look (List.nodup_cons.mp nd).2 h h2
theorem zip_none {f : Str} : ∀ {ks : List Str} {xs : List V}, f ∉ ks → (ks.zip xs).lookup f = none
  | [], _, _ => by simp
  | y :: ys, [], _ => by simp
  | y :: ys, x :: xs, h => by
    have e : (f == y) = false := by simpa using fun z => h (by simp [z])
    rw [List.zip_cons_cons, List.lookup_cons, e]
    exact zip_none fun z => h (by simp [z])
/-- o.f -/
theorem evs_fld {C : Addr} {ks : List Str} {f : Str} {k : Nat} (ha : EvS K ta δ (.ins C ks ds)) (cl : Cls K C) (nf : NoAttr K C f) (nd : ks.Nodup) (hk : ks[k]? = some f) (hd : ds[k]? = some d) : EvS K (tFld K ta f) δ d := fun σ Hk D H s Q q =>
  ha σ Hk D H s _ fun v H1 H1' x1 r1 => by
    cases r1 with
    | ins e hl r =>
      obtain ⟨w, e2, r2⟩ := r.at hd
      exact ⟨_, _, _, _, w, rfl, x1.st _ _ e, cl, nf, zip_look (k := k) nd hk e2, q w H1 H1' x1 r2⟩
/-- xs.index(y), texts -/
theorem idx_at {x : Str} : ∀ {xs : List Str}, x ∈ xs → (xs.map V.str)[xs.idxOf x]? = some (V.str x) ∧ ∀ (m : Nat) (z' : V), m < xs.idxOf x → (xs.map V.str)[m]? = some z' → eqV z' (.str x) = false
  | y :: ys, h => by
    by_cases e : y = x
    · subst e
      rw [List.idxOf_cons_self]
      exact ⟨rfl, fun m z' hm => by omega⟩
    · have e' : (y == x) = false := by simpa using e
      have h' : x ∈ ys := (List.mem_cons.mp h).resolve_left fun z => e z.symm
      obtain ⟨h1, h2⟩ := idx_at h'
      rw [List.idxOf_cons, e']
      refine ⟨by simpa using h1, fun m z' hm hz => ?_⟩
      cases m with
      | zero =>
        simp at hz
        subst hz
        exact e'
      | succ m =>
        exact h2 m z' (by simp at hm; omega) (by simpa using hz)
theorem evs_index {xs : List Str} {x : Str} (ho : EvS K ta δ (.lst (xs.map Da.str))) (hx : EvS K tb δ (.str x)) (h : x ∈ xs) : EvS K (tBM K "list" (rIndex K) ta (tCons tb tNil)) δ (.int (xs.idxOf x : Nat)) := fun σ Hk D H s Q q =>
  ho σ Hk D H s _ fun v H1 H1' x1 r1 => by
    cases r1 with
    | lst e r =>
      have e1 := r.of_strs
      subst e1
      refine ⟨.inl ⟨rfl, _, SqL.of (x1.st _ _ e)⟩, ?_⟩
      refine hx σ H1 (D.up x1.kn) H1' x1.st _ fun w H2 H2' x2 r2 => ?_
      cases r2
      obtain ⟨h1, h2⟩ := idx_at h
      exact ⟨_, _, _, _, _, rfl, rfl, SqL.of (x2.up _ _ (x1.st _ _ e)), rfl, flat_strs, h1, beq_self_eq_true x, h2, q _ H2 H2' (x1.trans x2) (.int _)⟩
/-- sorted of texts is one list -/
theorem rc_sortedS {xs : List Str} (srt : List Str → List Str) (hs : ∀ ys, ys.Perm xs → PyProof.Rows.sortedS ys = true → ys = srt xs) (h : xs.length < 64) : RCN K (rSortedS K) [.lst (xs.map Da.str)] ((srt xs).map Da.str) := fun Hk H vs s a Q q => by
  obtain ⟨v, rfl, a1⟩ := a.one_of
  cases a1 with
  | lst e r =>
    have e1 := r.of_strs
    subst e1
    refine ⟨_, xs, rfl, SqL.of (s _ _ e), h, fun ys p hp hsrt new => ?_⟩
    rw [← hs ys hp hsrt] at q
    exact q p _ Hk _ ⟨same_upd new, Same.refl _, s.trans (same_upd new), fun b o e n => by rw [n] at e; cases e⟩ new (s.free new) upd_same DRs.strs
end
end Bw
set_option Elab.async false
set_option linter.all false
set_option maxRecDepth 100000
set_option maxHeartbeats 2000000
namespace PySem
open Sem (wp)
set_option maxHeartbeats 1000000 in
/-- enumerate(v) of what an iterator is made of -/
theorem bw_meets_enum {v : Value} {o : Obj} {H : Heap → Prop} (B : Begins v o H) :
    Meets (Builtin.«enumerate.__new__» ⟨[.type "enumerate", v], []⟩) (fun _ R s => H s.heap ∧
      R (.ok (.ret (.ref (s.heap.push o).objs.size))) { s with heap := (s.heap.push o).push { cls := .type "enumerate", data := .fields #[.none, .bool false, .ref s.heap.objs.size, rawInt 0, .none, .none] } }) :=
  .of_wp fun prog w A R s h => by
    obtain ⟨mem, gn, d, tick, sys⟩ := s; obtain ⟨h1, h⟩ := h
    have subE := sub_enumerate
    have step : ∀ {A' : Around} {E : Value → Shared → Prop} {Q : Value → Shared → Prop}, Q (.ref mem.objs.size) ⟨mem.push o, gn, d, tick, sys⟩ → wpAny (model prog w) A' (pyIter v) Q E ⟨mem, gn, d, tick, sys⟩ :=
      fun q => B.iter prog w _ _ ⟨mem, gn, d, tick, sys⟩ _ h1 q
    wp_walk using step
    refine wpAny_stack_any fun state => wpAny_pure ?_
    split
    · rename_i c _ _ _ _ _
      cases (c == Value.type "enumerate")
      · wp_walk using step
        exact ⟨_, rfl, h⟩
      · wp_walk using step
        exact ⟨_, rfl, h⟩
    · wp_walk using step
      exact ⟨_, rfl, h⟩
section
variable {prog : Program} {w : World} {A : Around} {E : Value → Shared → Prop} {s : Shared}
theorem bw_call_enum {v : Value} {o : Obj} {H : Heap → Prop} {Q : Value → Shared → Prop} (B : Begins v o H) (h1 : H s.heap)
    (h : ∀ h', IsEnum h' (s.heap.objs.size + 1) s.heap.objs.size 0 .none → h'.get? s.heap.objs.size = some o → h'.objs.size = s.heap.objs.size + 2 →
      (∀ b o, s.heap.get? b = some o → h'.get? b = some o) → Q (.ref (s.heap.objs.size + 1)) { s with heap := h' }) :
    wpAny (model prog w) A (call (.type "enumerate") [v]) Q E s := by
  refine callType_new F.called_enumerate (by decide) (F.typeCall_enumerate_1 _) (F.newCall_enumerate_1 _) (fun obj => F.args_object_init_2 obj _) F.entry_enumerate_new
    (bw_meets_enum B) ⟨h1, ?_⟩
  have szE : (s.heap.push o).objs.size = s.heap.objs.size + 1 := Heap.size_push ..
  show _ ∧ _
  rw [szE]
  have enAt : IsEnum ((s.heap.push o).push { cls := .type "enumerate", data := .fields #[.none, .bool false, .ref s.heap.objs.size, rawInt 0, .none, .none] }) (s.heap.objs.size + 1) s.heap.objs.size 0 .none := by
    have := Heap.get?_push_size (s.heap.push o) (o := { cls := .type "enumerate", data := .fields #[.none, .bool false, .ref s.heap.objs.size, rawInt 0, .none, .none] }) rfl
    rw [szE] at this; exact this
  refine ⟨⟨_, enAt, rfl⟩, h _ enAt (Heap.get?_push_of_some _ (Heap.get?_push_size _ B.free)) (by rw [Heap.size_push, szE]) fun b o x => Heap.get?_push_of_some _ (Heap.get?_push_of_some _ x)⟩
end
end PySem
namespace L2
open PySem PySem.Spec PyProof.Rows
/-- the tuple at a, each item in a okNew pair -/
def IteT (K : PySem.W.Frag) (a : Addr) : It :=
  ⟨fun i H => ∃ (xs : List V) (x : V), SqT K H a xs ∧ xs[i]? = some x, fun i H v H' => ∃ T x, v = .ref T ∧ H T = none ∧ H' = upd H T (.tup [.int (i : Nat), x]) ∧ ∀ xs, SqT K H a xs → xs[i]? = some x, fun i H => ∃ xs : List V, SqT K H a xs ∧ xs.length = i⟩
theorem turn_enumT {P : Program} {w : World} {K : PySem.W.Frag} {elts : List Expr} {kk : Nat} {tpos : Pos} (a e it : Addr) (nAI : a ≠ it) (nAE : a ≠ e) (nEI : e ≠ it) :
    Turn P w K (.Tuple elts kk tpos) (IteT K a) [e, it] e (fun i h => (∃ prev, IsEnum h e it ((i : Nat) : Int) prev) ∧ h.IsTupleIter it a i) where
  mem := by simp
  obj := fun i h state b hb => by
    obtain ⟨⟨prev, enAt⟩, ⟨o, objT, quiet, hd⟩⟩ := state
    have which : b = e ∨ b = it := by simpa using hb
    rcases which with z | z
    · rw [z]; exact ⟨_, enAt, fun v q => nomatch q⟩
    · rw [z]; exact ⟨o, objT, fun v q => by rw [hd] at q; cases q⟩
  keep := fun i h h' state k => let ⟨⟨prev, enAt⟩, ⟨o, objT, r⟩⟩ := state; ⟨⟨prev, k e (by simp) _ enAt⟩, ⟨o, k it (by simp) _ objT, r⟩⟩
  item := by
    intro X eP eW eK quiet i pins s σ H E I free state goesOn
    subst eP eW eK
    obtain ⟨⟨prev, enAt⟩, itAt⟩ := state
    obtain ⟨xs, x, isT, atX⟩ := goesOn
    obtain ⟨vals, rels, p, szE⟩ := I.tuple isT
    obtain ⟨u, atU, relU⟩ := rels.get atX
    have ltE : e < s.heap.objs.size := Heap.lt_size enAt
    have ltI : it < s.heap.objs.size := by obtain ⟨_, q, _⟩ := itAt; exact Heap.lt_size q
    have inR : i < vals.toArray.size := by
      have := (List.getElem?_eq_some_iff.mp atU).1
      simpa using this
    have calm0 : X.A.in1.handled = none := I.ok.hd quiet
    refine wpAny_pyNext_enum_itemD (Draws.tuple (A := X.A.in1) calm0 it a nAI vals.toArray) enAt ⟨itAt, p⟩ inR nEI (by simp [nEI, Ne.symm nAE]) fun y h' tick got objT state2 tupT szT keepT => ?_
    have same : y = u := by
      rw [List.getElem?_toArray, atU] at got
      exact (Option.some.inj got).symm
    subst same
    refine ⟨_, rfl, wpAny_letOwnedTupleGo_enum (s := { s with heap := h', toks := tick + 1 }) objT fun mem2 en2 but => ?_⟩
    have tupT2 : mem2.get? s.heap.objs.size = some { cls := .type "tuple", data := .seq #[.int i tick, y] } := (but.2 _ (Nat.ne_of_gt ltE)).trans tupT
    have okNew : ObjOk X.prog X.w (upd H s.heap.objs.size (.tup [.int (i : Nat), x])) mem2 s.heap.objs.size (.tup [.int (i : Nat), x]) :=
      ⟨by show 2 ≤ sizeLine; decide, [.int i tick, y], .cons ⟨_, rfl⟩ (.cons relU .nil), ⟨_, tupT2, rfl, _, rfl⟩⟩
    have J : Inv X pins σ (upd H s.heap.objs.size (.tup [.int (i : Nat), x])) { s with heap := mem2, toks := tick + 1 } :=
      I.turnedNew (ch := [e, it]) (fun b ob hb q => (but.2 b (fun z => hb (by simp [z]))).trans (keepT b ob (fun z => hb (by simp [z])) (fun z => hb (by simp [z])) q)) free (Nat.le_refl _) okNew
    refine ⟨.ref s.heap.objs.size, _, J, rfl, ⟨_, x, rfl, I.hok.fresh (Nat.le_refl _), rfl, fun ys got => by rw [I.tuple_inj got isT]; exact atX⟩, ⟨⟨y, ?_⟩, ?_⟩, fun b hb => ?_⟩
    · have oneUp : ((i + 1 : Nat) : Int) = (i : Int) + 1 := by omega
      rw [oneUp]; exact en2
    · obtain ⟨⟨o, ho2, r⟩, _⟩ := state2
      exact ⟨o, (but.2 it (Ne.symm nEI)).trans ho2, r⟩
    · have ltB : b < s.heap.objs.size := by
        have which : b = e ∨ b = it := by simpa using hb
        rcases which with z | z
        · rw [z]; exact ltE
        · rw [z]; exact ltI
      rw [upd_ne (Nat.ne_of_lt ltB)]
      exact (free b hb).1
  done := by
    intro X eP eW eK quiet i pins s σ H E I free state goesOn
    subst eP eW eK
    obtain ⟨⟨prev, enAt⟩, itAt⟩ := state
    obtain ⟨xs, isT, atX⟩ := goesOn
    obtain ⟨vals, rels, p, szE⟩ := I.tuple isT
    obtain ⟨z0, z1, z2, z3, z4, z5⟩ := free it (by simp)
    have lens := rels.length
    have calm0 : X.A.in1.handled = none := I.ok.hd quiet
    have atEnd : i = vals.toArray.size := by rw [List.size_toArray]; omega
    rw [atEnd] at enAt itAt
    exact wpAny_pyNext_enum_endD (Draws.tuple (A := X.A.in1) calm0 it a nAI vals.toArray) enAt ⟨itAt, p⟩ fun h' stays => ⟨rfl, I.turned (t' := s.toks) (fun b o hb q => stays b o hb q) z0 z1 z3 z4 z5⟩
  self := fun A i s Q E state h => let ⟨⟨_, enAt⟩, _⟩ := state; wpAny_pyIter_enum enAt h
def iEnumT (K : PySem.W.Frag) (ta : TA) : TI := fun σ H R => ta σ H fun vs H1 => ∃ a xs, vs = [.ref a] ∧ SqT K H1 a xs ∧ R (IteT K a) H1
theorem pi_enumT {X : Cx} {e : Expr} {ta : TA} {p pos tpos : Pos} {elts : List Expr} {kk : Nat} (goesOn : Gl X "enumerate") (hm : X.mg "enumerate" = none) (ha : PA X [e] ta) (hs : starEach [e] X.env = [(false, eval e X.env)] := by rfl) :
    PI X (.Tuple elts kk tpos) (.Call (.Name "enumerate" p) [e] [] pos) (iEnumT X.K ta) := by
  refine ⟨fun pins s σ H R I h => ?_⟩
  refine Call_ (ld_blt I goesOn hm boot_enumerate (PyProof.Rows.callWith_type1 (thn (ha.run pos pins s σ H _ I h) fun us s1 ⟨vs, H1, J, relA, step⟩ => ?_) hs rfl))
  obtain ⟨a, xs, ex, isT, q⟩ := step
  subst ex
  cases relA with
  | cons r relR =>
    cases relR
    cases r
    obtain ⟨vals, rels, rawT, szE⟩ := J.tuple isT
    have isTup : s1.heap.IsTuple a vals.toArray := rawT
    have ltA : a < s1.heap.objs.size := by obtain ⟨o, objT, _⟩ := isTup; exact Heap.lt_size objT
    refine bw_call_enum (begins_tuple a vals.toArray) isTup fun h' enAt itAt szT keepT => wpAny_pyIter_enum enAt ?_
    have J2 : Inv X pins σ H1 { s1 with heap := h' } := J.kept (t' := s1.toks) keepT
    refine ⟨s1.heap.objs.size + 1, [s1.heap.objs.size + 1, s1.heap.objs.size], _, _, H1, rfl, J2, turn_enumT a (s1.heap.objs.size + 1) s1.heap.objs.size (Nat.ne_of_lt ltA) (Nat.ne_of_lt (Nat.lt_succ_of_lt ltA)) (Nat.succ_ne_self _), ⟨⟨.none, enAt⟩, ⟨_, itAt, rfl, rfl⟩⟩, fun b hb => ?_, q⟩
    have which : b = s1.heap.objs.size + 1 ∨ b = s1.heap.objs.size := by simpa using hb
    have above : s1.heap.objs.size ≤ b := by
      rcases which with z | z
      · rw [z]; exact Nat.le_add_right _ _
      · rw [z]; exact Nat.le_refl _
    exact J.fpOk above (J.hok.fresh above)
/-- a list or a tuple -/
def iEnumU (K : PySem.W.Frag) (ta : TA) : TI := fun σ H R => iEnum K ta σ H R ∨ iEnumT K ta σ H R
theorem pi_enumU {X : Cx} {e : Expr} {ta : TA} {p pos tpos : Pos} {elts : List Expr} {kk : Nat} (hg : Gl X "enumerate") (hm : X.mg "enumerate" = none) (ha : PA X [e] ta) (hs : starEach [e] X.env = [(false, eval e X.env)] := by rfl) :
    PI X (.Tuple elts kk tpos) (.Call (.Name "enumerate" p) [e] [] pos) (iEnumU X.K ta) :=
  ⟨fun pins s σ H R I h => h.elim ((pi_enum hg hm ha hs).run pins s σ H R I) ((pi_enumT hg hm ha hs).run pins s σ H R I)⟩
end L2
namespace Bw
open PySem L2
section
variable {K : PySem.W.Frag} {δ : List Sl} {ta : TA} {te : TE} {ds : List Da} {d : Da}
theorem itok_enumT {a : Addr} {xs : List V} {Hs : Hp} (h : SqT K Hs a xs) (r : DRs K Hs xs ds) : ItOk K (IteT K a) (enums ds) Hs where
  go := fun i H e s q => by
    obtain ⟨d, e1, _⟩ := enums_at q
    obtain ⟨v, e2, _⟩ := r.at e1
    exact ⟨xs, v, same_t s h, e2⟩
  yld := fun i H x H' e Hk s1 s2 q y => by
    obtain ⟨T, w, rfl, hT, rfl, y⟩ := y
    obtain ⟨d, e1, rfl⟩ := enums_at q
    obtain ⟨v, e2, r2⟩ := r.at e1
    have e3 := y xs (same_t (s1.trans s2) h)
    rw [e2] at e3
    cases e3
    have k := s2.free hT
    exact ⟨_, (Ext.refl s2).new hT, .tup (SqT.of upd_same) (.cons (.int _) (.one ((r2.up s1).up (same_upd k))))⟩
  stop := fun H s => ⟨xs, same_t s h, by rw [enums_len, r.len]⟩
theorem itd_enumU (hd : d = .lst ds ∨ d = .tup ds) (h : EvSA K ta δ [d]) : ItD K (iEnumU K ta) δ (enums ds) := fun σ Hk D H s R q =>
  match hd with
  | .inl e => .inl (h σ Hk D H s _ fun vs Hs H' x r => by
      subst e
      obtain ⟨v, rfl, r1⟩ := r.one_of
      cases r1 with
      | lst e r3 => exact ⟨_, _, rfl, x.st.seq (SqL.of e), q _ Hs H' x (itok_enum (SqL.of e) r3)⟩)
  | .inr e => .inr (h σ Hk D H s _ fun vs Hs H' x r => by
      subst e
      obtain ⟨v, rfl, r1⟩ := r.one_of
      cases r1 with
      | tup e r3 => exact ⟨_, _, rfl, same_t x.st e, q _ Hs H' x (itok_enumT e r3)⟩)
/-! a sign in a text -/
def rInC : R2 := fun x y H Q => ∃ (c : Nat) (z : Str), x = .str ⟨#[c]⟩ ∧ y = .str z ∧ Q (.bl (decide (c ∈ z.cps.toList))) H
def rNiC : R2 := fun x y H Q => ∃ (c : Nat) (z : Str), x = .str ⟨#[c]⟩ ∧ y = .str z ∧ Q (.bl (!decide (c ∈ z.cps.toList))) H
theorem op_in_signU {X : Cx} : OpR X (compareOp .In) rInC := op_in_sign
theorem op_notIn_signU {X : Cx} : OpR X (compareOp .NotIn) rNiC := op_notIn_sign
theorem rv_inC {c : Nat} {z : Str} : RV K rInC (.str ⟨#[c]⟩) (.str z) (.bl (decide (c ∈ z.cps.toList))) := rv_now fun Hk H v1 v2 s a1 a2 Q q => by
  cases a1; cases a2
  exact ⟨c, z, rfl, rfl, q _ (.bl _)⟩
theorem rv_niC {c : Nat} {z : Str} : RV K rNiC (.str ⟨#[c]⟩) (.str z) (.bl (!decide (c ∈ z.cps.toList))) := rv_now fun Hk H v1 v2 s a1 a2 Q q => by
  cases a1; cases a2
  exact ⟨c, z, rfl, rfl, q _ (.bl _)⟩

/-! ### promises of defs that may raise -/
def SpX (K : PySem.W.Frag) (R : List Da → Da → Prop) (RX : List Da → Addr → Prop) : Sp := fun vs H Q E => ∃ Hc ds, Same Hc H ∧ DRs K Hc vs ds ∧
  ((∃ d, R ds d ∧ ∀ v Hs H', Ext Hc H Hs H' → DR K Hs v d → Q v H') ∨ (∃ C, RX ds C ∧ ∀ H', Same H H' → E (.ref C) none H'))
theorem spx_len {R : List Da → Da → Prop} {RX : List Da → Addr → Prop} {n : Nat} (h : ∀ ds d, R ds d → ds.length = n) (h2 : ∀ ds C, RX ds C → ds.length = n) : ∀ vs H Q E, SpX K R RX vs H Q E → vs.length = n := fun vs H Q E ⟨Hc, ds, s, r, hr⟩ => by
  rw [r.len]
  rcases hr with ⟨d, hr, _⟩ | ⟨C, hr, _⟩
  · exact h ds d hr
  · exact h2 ds C hr
theorem evs_callX {R : List Da → Da → Prop} {RX : List Da → Addr → Prop} {E : XK} (ha : EvSA K ta δ ds) (hr : R ds d) : EvS K (tCall (SpX K R RX) [] E ta) δ d := fun σ Hk D H s Q q =>
  ha σ Hk D H s _ fun vs H1 H1' x1 r1 => by
    show SpX K R RX (vs ++ []) H1' Q E
    rw [List.append_nil]
    exact ⟨H1, ds, x1.st, r1, .inl ⟨d, hr, fun v H2 H2' x2 r2 => q v H2 H2' (x1.trans x2) r2⟩⟩
/-- the call raises: whatever was wanted behind it -/
theorem callX_raises {R : List Da → Da → Prop} {RX : List Da → Addr → Prop} {E : XK} {C : Addr} {σ : L2.St} {Hk H : Hp} {Q : VK} (D : Dats K δ σ Hk) (s : Same Hk H) (ha : EvSA K ta δ ds) (hr : RX ds C) (hE : ∀ H', Same H H' → E (.ref C) none H') : tCall (SpX K R RX) [] E ta σ H Q :=
  ha σ Hk D H s _ fun vs H1 H1' x1 r1 => by
    show SpX K R RX (vs ++ []) H1' Q E
    rw [List.append_nil]
    exact ⟨H1, ds, x1.st, r1, .inr ⟨C, hr, fun H' u => hE H' (x1.up.trans u)⟩⟩
theorem go_dropX {C : Ct} {D : Ends} {R : List Da → Da → Prop} {RX : List Da → Addr → Prop} {E : XK} {B : Addr} (ha : EvSA C.K ta δ ds) (hr : RX ds B) (hE : ∀ H', Same C.H0 H' → E (.ref B) none H') : Go C (tDrop (tCall (SpX C.K R RX) [] E ta)) D δ := fun σ Hk H a =>
  callX_raises a.dat a.same ha hr fun H' u => hE H' (a.ext.up.trans u)
/-- raise C(..) -/
def tRaise (E : XK) (C : Addr) : TS := fun _ _ H => E (.ref C) none H
def tRaise1 (E : XK) (C : Addr) (te : TE) : TS := fun _ σ H => te σ H fun _ H1 => E (.ref C) none H1
theorem go_raise {C : Ct} {D : Ends} {E : XK} {B : Addr} (hE : ∀ H', Same C.H0 H' → E (.ref B) none H') : Go C (tRaise E B) D δ := fun σ Hk H a => hE H a.ext.up
theorem go_raise1 {C : Ct} {D : Ends} {E : XK} {B : Addr} {te : TE} {d : Da} (h : EvS C.K te (δ.map Sl.frz) d) (hE : ∀ H', Same C.H0 H' → E (.ref B) none H') : Go C (tRaise1 E B te) D δ := fun σ Hk H a =>
  h σ H a.frz H (Same.refl _) _ fun v Hs H' x r => hE H' (a.ext.up.trans x.up)
theorem spx_body {R : List Da → Da → Prop} {RX : List Da → Addr → Prop} {N : List Str} {ts : XK → TS} (hn : ∀ ds d, R ds d → ds.length ≤ N.length) (hn2 : ∀ ds d, RX ds d → ds.length ≤ N.length)
    (h : ∀ ds d, R ds d → ∀ (C : Ct) (Q : VK) (E : XK), C.K = K → Post C d Q → Go C (ts E) { nx := fun _ H' => Q .non H', rt := Q } (ds.map Sl.dat ++ List.replicate (N.length - ds.length) .no))
    (h2 : ∀ ds B, RX ds B → ∀ (C : Ct) (Q : VK) (E : XK), C.K = K → (∀ H', Same C.H0 H' → E (.ref B) none H') → Go C (ts E) { nx := fun _ H' => Q .non H', rt := Q } (ds.map Sl.dat ++ List.replicate (N.length - ds.length) .no)) :
    ∀ vs H Q E, SpX K R RX vs H Q E → ts E { nx := fun _ H' => Q .non H', rt := Q } (L2.start N vs) H := fun vs H Q E ⟨Hc, ds, s, r, hr⟩ => by
  rcases hr with ⟨d, hr, q⟩ | ⟨B, hr, q⟩
  · exact h ds d hr ⟨K, Hc, H, []⟩ Q E rfl q _ _ _ (start_at r (hn ds d hr) H s Hc rfl)
  · exact h2 ds B hr ⟨K, Hc, H, []⟩ Q E rfl q _ _ _ (start_at r (hn2 ds B hr) H s Hc rfl)
end
end Bw
set_option Elab.async false
set_option linter.all false
set_option maxRecDepth 100000
set_option maxHeartbeats 2000000
namespace Bw
open PySem L2

/-! ### f-strings -/
def tJoin (ts : List TE) : TE := fun σ H Q => tJs ts Str.empty σ H fun out H1 => Q (.str out) H1
inductive EvJ (K : PySem.W.Frag) (δ : List Sl) : List TE → Prop where
  | nil : EvJ K δ []
  | cons {t : TE} {ts : List TE} {y : Str} (h : EvS K t δ (.str y)) (hl : y.length ≤ 1000) (r : EvJ K δ ts) : EvJ K δ (t :: ts)
section
variable {K : PySem.W.Frag} {δ : List Sl} {te : TE} {ts : List TE} {d : Da}
theorem str_app_len (x y : Str) : (x ++ y).length = x.length + y.length := by
  show (Str.append x y).cps.size = _
  unfold Str.append
  rw [Array.size_append] <;> rfl
/-- some text -/
def EvX (K : PySem.W.Frag) (te : TE) (δ : List Sl) : Prop := ∀ σ Hk, Dats K δ σ Hk → ∀ H, Same Hk H → ∀ Q : VK, (∀ v H', Same H H' → Q v H') → te σ H Q
theorem EvS.x (h : EvS K te δ d) : EvX K te δ := fun σ Hk D H s Q q => h σ Hk D H s Q fun v Hs H' x r => q v H' x.up
theorem evx_join (h : EvJ K δ ts) (hl : ts.length ≤ 100) : EvX K (tJoin ts) δ := by
  have all : ∀ (ts : List TE), EvJ K δ ts → ∀ (acc : Str) (m : Nat), acc.length + 1000 * ts.length ≤ m → m ≤ 1000000 → ∀ σ Hk, Dats K δ σ Hk → ∀ H, Same Hk H → ∀ Q : Str → Hp → Prop, (∀ v H', Same H H' → Q v H') → tJs ts acc σ H Q := by
    intro ts h
    induction h with
    | nil => intro acc m _ _ σ Hk D H s Q q; exact q acc H (Same.refl _)
    | cons h hl r ih =>
      intro acc m hm hm2 σ Hk D H s Q q
      refine h σ Hk D H s _ fun v Hs H' x rr => ?_
      cases rr
      rw [List.length_cons] at hm
      refine ⟨_, rfl, Nat.le_trans (by rw [str_app_len]; omega : _ ≤ 1000000) (by decide), ?_⟩
      exact ih _ m (by rw [str_app_len]; omega) hm2 σ Hs (D.up x.kn) H' x.st Q fun v H2 u => q v H2 (x.up.trans u)
  intro σ Hk D H s Q q
  exact all ts h Str.empty 200000 (by show 0 + _ ≤ _; omega) (by omega) σ Hk D H s _ fun v H' u => q _ H' u
theorem small_int : ∀ i : Nat, i < 64 → (Str.ofString (toString ((i : Nat) : Int))).length ≤ 1000 ∧ (((i : Nat) : Int).natAbs.log2 < 1920) := by decide +kernel
theorem evs_fmtI {i : Nat} (h : EvS K te δ (.int (i : Nat))) (hi : i < 64) : EvS K (tFmt te) δ (.str (Str.ofString (toString ((i : Nat) : Int)))) := fun σ Hk D H s Q q =>
  h σ Hk D H s _ fun v Hs H' x r => by
    cases r
    exact .inr ⟨_, rfl, (small_int i hi).2, q _ Hs H' x (.str _)⟩
theorem evs_fmtS {y : Str} (h : EvS K te δ (.str y)) (hy : y.length ≤ 1000) : EvS K (tFmt te) δ (.str y) := fun σ Hk D H s Q q =>
  h σ Hk D H s _ fun v Hs H' x r => by
    cases r
    exact .inl ⟨_, rfl, Nat.le_of_lt (small1000 hy), q _ Hs H' x (.str _)⟩
theorem go_raiseX {C : Ct} {D : Ends} {E : XK} {B : Addr} (h : EvX C.K te (δ.map Sl.frz)) (hE : ∀ H', Same C.H0 H' → E (.ref B) none H') : Go C (tRaise1 E B te) D δ := fun σ Hk H a =>
  h σ H a.frz H (Same.refl _) _ fun v H' x => hE H' (a.ext.up.trans x)
end

/-! ### what a bench takes -/
def isNameB : Da → Bool
  | .str x => (decide ((1 : Int) ≤ (x.length : Nat)) && decide (((x.length : Nat) : Int) ≤ 8)) && x.cps.toList.all fun c => decide (c ∈ az)
  | _ => false
theorem isNameB_str {x : Str} : isNameB (.str x) = ((decide ((1 : Int) ≤ (x.length : Nat)) && decide (((x.length : Nat) : Int) ≤ 8)) && x.cps.toList.all fun c => decide (c ∈ az)) := rfl
theorem az_mem {c : Nat} : c ∈ az ↔ 97 ≤ c ∧ c < 123 := by
  unfold az
  rw [List.mem_map]
  constructor
  · rintro ⟨k, hk, rfl⟩
    have := List.mem_range.mp hk
    omega
  · intro h
    exact ⟨c - 97, List.mem_range.mpr (by omega), by omega⟩
theorem isNameB_iff {x : Str} : isNameB (.str x) = true ↔ isNm x := by
  unfold isNameB isNm
  rw [Bool.and_eq_true, Bool.and_eq_true, decide_eq_true_eq, decide_eq_true_eq, List.all_eq_true]
  constructor
  · rintro ⟨⟨h1, h2⟩, h3⟩
    exact ⟨by omega, by omega, fun c hc => az_mem.mp (of_decide_eq_true (h3 c hc))⟩
  · rintro ⟨h1, h2, h3⟩
    exact ⟨⟨by omega, by omega⟩, fun c hc => decide_eq_true (az_mem.mpr (h3 c hc))⟩
/-- the names so far, and the things to come: the names, or one that is bad -/
def chk : List Str → List Da → Option (List Str)
  | seen, [] => some seen
  | seen, .str x :: ts => if isNameB (.str x) && !decide (x ∈ seen) then chk (seen ++ [x]) ts else none
  | _, _ :: _ => none
theorem chk_str {seen : List Str} {x : Str} {ts : List Da} : chk seen (.str x :: ts) = if isNameB (.str x) && !decide (x ∈ seen) then chk (seen ++ [x]) ts else none := by simp only [chk]
theorem chk_app : ∀ (ts us : List Da) (seen : List Str), chk seen (ts ++ us) = (chk seen ts).bind fun s => chk s us
  | [], us, seen => by simp [chk]
  | .str x :: ts, us, seen => by
    rw [List.cons_append, chk_str, chk_str]
    split
    · exact chk_app ts us _
    · rfl
  | .non :: _, _, _ => by simp [chk]
  | .bl _ :: _, _, _ => by simp [chk]
  | .int _ :: _, _, _ => by simp [chk]
  | .lst _ :: _, _, _ => by simp [chk]
  | .tup _ :: _, _, _ => by simp [chk]
  | .scr _ :: _, _, _ => by simp [chk]
  | .ty _ :: _, _, _ => by simp [chk]
  | .cls _ :: _, _, _ => by simp [chk]
  | .ins _ _ _ :: _, _, _ => by simp [chk]
  | .dct _ _ :: _, _, _ => by simp [chk]
  | .dcf _ _ _ :: _, _, _ => by simp [chk]
theorem chk_good : ∀ (xs seen : List Str), (∀ x ∈ xs, isNm x) → (seen ++ xs).Nodup → chk seen (xs.map Da.str) = some (seen ++ xs)
  | [], seen, _, _ => by simp [chk]
  | x :: xs, seen, h, nd => by
    have e : seen ++ x :: xs = (seen ++ [x]) ++ xs := by simp
    have hx : x ∉ seen := fun z => by
      rw [List.nodup_append] at nd
      exact nd.2.2 x z x (List.mem_cons_self ..) rfl
    rw [List.map_cons]
    unfold chk
    rw [isNameB_iff.mpr (h x (List.mem_cons_self ..)), decide_eq_false hx, e]
    simp only [Bool.not_false, Bool.and_self, if_true]
    rw [e] at nd
    exact chk_good xs (seen ++ [x]) (fun y hy => h y (List.mem_cons_of_mem _ hy)) nd
theorem chk_len : ∀ (ts : List Da) (seen ns : List Str), chk seen ts = some ns → ns.length = seen.length + ts.length
  | [], seen, ns, h => by
    unfold chk at h
    cases h
    rfl
  | .str x :: ts, seen, ns, h => by
    unfold chk at h
    split at h
    · have := chk_len ts _ ns h
      rw [List.length_append, List.length_singleton] at this
      rw [List.length_cons]
      omega
    · cases h
  | .non :: _, _, _, h => by simp [chk] at h
  | .bl _ :: _, _, _, h => by simp [chk] at h
  | .int _ :: _, _, _, h => by simp [chk] at h
  | .lst _ :: _, _, _, h => by simp [chk] at h
  | .tup _ :: _, _, _, h => by simp [chk] at h
  | .scr _ :: _, _, _, h => by simp [chk] at h
  | .ty _ :: _, _, _, h => by simp [chk] at h
  | .cls _ :: _, _, _, h => by simp [chk] at h
  | .ins _ _ _ :: _, _, _, h => by simp [chk] at h
theorem chk_one {seen : List Str} {t : Da} : chk seen [t] = match t with | .str x => if isNameB (.str x) && !decide (x ∈ seen) then some (seen ++ [x]) else none | _ => none := by
  cases t <;> simp [chk]
theorem chk_nm : ∀ (ts : List Da) (seen ns : List Str), chk seen ts = some ns → (∀ x ∈ seen, isNm x) → ∀ x ∈ ns, isNm x
  | [], seen, ns, h, hs => by
    unfold chk at h
    cases h
    exact hs
  | .str x :: ts, seen, ns, h, hs => by
    unfold chk at h
    split at h
    · rename_i c
      rw [Bool.and_eq_true] at c
      refine chk_nm ts _ ns h fun y hy => ?_
      rcases List.mem_append.mp hy with hy | hy
      · exact hs y hy
      · rw [List.mem_singleton.mp hy]
        exact isNameB_iff.mp c.1
    · cases h
  | .non :: _, _, _, h, _ => by simp [chk] at h
  | .bl _ :: _, _, _, h, _ => by simp [chk] at h
  | .int _ :: _, _, _, h, _ => by simp [chk] at h
  | .lst _ :: _, _, _, h, _ => by simp [chk] at h
  | .tup _ :: _, _, _, h, _ => by simp [chk] at h
  | .scr _ :: _, _, _, h, _ => by simp [chk] at h
  | .ty _ :: _, _, _, h, _ => by simp [chk] at h
  | .cls _ :: _, _, _, h, _ => by simp [chk] at h
  | .ins _ _ _ :: _, _, _, h, _ => by simp [chk] at h
/-- a pair as it is handed in: a tuple or a list of two -/
def dQ (q : Bool × Pr) : Da := if q.1 then dP q.2 else .lst [.str q.2.1, .str q.2.2]
inductive PR where
  | ok (ps : List Pr) | strange | twice
def chkP (ns : List Str) : List Pr → List (Bool × Pr) → PR
  | seen, [] => .ok seen
  | seen, q :: qs => if decide (q.2.1 ∈ ns) && decide (q.2.2 ∈ ns) then (if q.2 ∈ seen then .twice else chkP ns (seen ++ [q.2]) qs) else .strange
theorem chkP_cons {ns : List Str} {seen : List Pr} {q : Bool × Pr} {qs : List (Bool × Pr)} : chkP ns seen (q :: qs) = if decide (q.2.1 ∈ ns) && decide (q.2.2 ∈ ns) then (if q.2 ∈ seen then .twice else chkP ns (seen ++ [q.2]) qs) else .strange := by simp only [chkP]
def PR.bind (r : PR) (f : List Pr → PR) : PR := match r with | .ok ps => f ps | x => x
theorem chkP_app {ns : List Str} : ∀ (qs rs : List (Bool × Pr)) (seen : List Pr), chkP ns seen (qs ++ rs) = (chkP ns seen qs).bind fun s => chkP ns s rs
  | [], rs, seen => rfl
  | q :: qs, rs, seen => by
    rw [List.cons_append, chkP_cons, chkP_cons]
    split
    · split
      · rfl
      · exact chkP_app qs rs _
    · rfl
theorem chkP_good {ns : List Str} : ∀ (qs : List (Bool × Pr)) (seen : List Pr), (∀ q ∈ qs, q.2.1 ∈ ns ∧ q.2.2 ∈ ns) → (seen ++ qs.map (·.2)).Nodup → chkP ns seen qs = .ok (seen ++ qs.map (·.2))
  | [], seen, _, _ => by simp [chkP]
  | q :: qs, seen, h, nd => by
    have e : seen ++ (q :: qs).map (·.2) = (seen ++ [q.2]) ++ qs.map (·.2) := by simp
    have hx : q.2 ∉ seen := fun z => by
      rw [List.nodup_append] at nd
      exact nd.2.2 q.2 z q.2 (by simp) rfl
    have hq := h q (List.mem_cons_self ..)
    rw [e] at nd ⊢
    unfold chkP
    rw [decide_eq_true hq.1, decide_eq_true hq.2, if_neg hx]
    simp only [Bool.and_self, if_true]
    exact chkP_good qs _ (fun y hy => h y (List.mem_cons_of_mem _ hy)) nd
theorem chkP_ok {ns : List Str} : ∀ (qs : List (Bool × Pr)) (seen ps : List Pr), chkP ns seen qs = .ok ps → (∀ p ∈ seen, p.1 ∈ ns ∧ p.2 ∈ ns) → ps.length = seen.length + qs.length ∧ ∀ p ∈ ps, p.1 ∈ ns ∧ p.2 ∈ ns
  | [], seen, ps, h, hs => by
    unfold chkP at h
    cases h
    exact ⟨rfl, hs⟩
  | q :: qs, seen, ps, h, hs => by
    unfold chkP at h
    split at h
    · rename_i c
      split at h
      · cases h
      · rw [Bool.and_eq_true, decide_eq_true_eq, decide_eq_true_eq] at c
        obtain ⟨h1, h2⟩ := chkP_ok qs _ ps h fun p hp => by
          rcases List.mem_append.mp hp with hp | hp
          · exact hs p hp
          · rw [List.mem_singleton.mp hp]
            exact c
        rw [List.length_append, List.length_singleton] at h1
        exact ⟨by rw [List.length_cons]; omega, h2⟩
    · cases h
theorem rc_lenU {K : PySem.W.Frag} {d : Da} {ds : List Da} (h : d = .lst ds ∨ d = .tup ds) : RC K (rLen K) [d] (.int ds.length) := by
  rcases h with rfl | rfl
  · exact rc_lenL
  · exact rc_lenT
theorem isNameB_of {t : Da} (h : isNameB t = true) : ∃ x, t = .str x := by
  cases t <;> first | exact ⟨_, rfl⟩ | exact absurd h (by simp [isNameB])
theorem chk_step {ts : List Da} {i : Nat} {t : Da} {seen : List Str} (e : ts[i]? = some t) (h : chk [] (ts.take i) = some seen) : chk [] (ts.take (i + 1)) = chk seen [t] := by
  obtain ⟨hi, rfl⟩ := List.getElem?_eq_some_iff.mp e
  rw [(List.take_append_getElem hi).symm, chk_app, h] <;> rfl
theorem chk_fail {ts : List Da} {i : Nat} (h : chk [] (ts.take i) = none) : chk [] ts = none := by
  have e : ts = ts.take i ++ ts.drop i := (List.take_append_drop ..).symm
  rw [e, chk_app, h] <;> rfl
theorem chkP_step {ns : List Str} {qs : List (Bool × Pr)} {i : Nat} {q : Bool × Pr} {seen : List Pr} (e : qs[i]? = some q) (h : chkP ns [] (qs.take i) = .ok seen) : chkP ns [] (qs.take (i + 1)) = chkP ns seen [q] := by
  obtain ⟨hi, rfl⟩ := List.getElem?_eq_some_iff.mp e
  rw [(List.take_append_getElem hi).symm, chkP_app, h] <;> rfl
theorem chkP_fail {ns : List Str} {qs : List (Bool × Pr)} {i : Nat} {r : PR} (h : chkP ns [] (qs.take i) = r) (hr : r = .strange ∨ r = .twice) : chkP ns [] qs = r := by
  have e : qs = qs.take i ++ qs.drop i := (List.take_append_drop ..).symm
  rw [e, chkP_app, h]
  rcases hr with rfl | rfl <;> rfl
theorem DRs.freshS {K : PySem.W.Frag} {H : Hp} {xs : List Str} : DRs K H (xs.map V.str) (xs.map Da.str) := DRs.strs

/-! ### texts in order -/
section
open PySem.Spec
theorem lt_irr : ∀ a : List Nat, ltCps a a = false
  | [] => rfl
  | x :: a => by simp [ltCps, lt_irr a]
theorem lt_tot : ∀ a b : List Nat, ltCps a b = true → ltCps b a = false
  | [], [], h => by simp [ltCps] at h
  | [], _ :: _, _ => rfl
  | _ :: _, [], h => by simp [ltCps] at h
  | x :: a, y :: b, h => by
    simp only [ltCps, Bool.or_eq_true, Bool.and_eq_true, decide_eq_true_eq, beq_iff_eq] at h
    simp only [ltCps, Bool.or_eq_false_iff, Bool.and_eq_false_iff, decide_eq_false_iff_not]
    rcases h with h | ⟨rfl, h⟩
    · exact ⟨by omega, .inl (by simp; omega)⟩
    · exact ⟨by omega, .inr (lt_tot a b h)⟩
theorem lt_anti : ∀ a b : List Nat, ltCps a b = false → ltCps b a = false → a = b
  | [], [], _, _ => rfl
  | [], _ :: _, h, _ => by simp [ltCps] at h
  | _ :: _, [], _, h => by simp [ltCps] at h
  | x :: a, y :: b, h, k => by
    simp only [ltCps, Bool.or_eq_false_iff, Bool.and_eq_false_iff, decide_eq_false_iff_not, beq_eq_false_iff_ne] at h k
    have e : x = y := by omega
    subst e
    rw [lt_anti a b (h.2.resolve_left fun z => z rfl) (k.2.resolve_left fun z => z rfl)]
theorem lt_tr : ∀ a b c : List Nat, ltCps b a = false → ltCps c b = false → ltCps c a = false
  | [], _, [], _, _ => rfl
  | [], [], _ :: _, _, h => by simp [ltCps] at h ⊢
  | [], _ :: _, _ :: _, _, _ => rfl
  | _ :: _, [], _, h, _ => by simp [ltCps] at h
  | _ :: _, _ :: _, [], _, h => by simp [ltCps] at h
  | x :: a, y :: b, z :: c, h, k => by
    simp only [ltCps, Bool.or_eq_false_iff, Bool.and_eq_false_iff, decide_eq_false_iff_not, beq_eq_false_iff_ne] at h k ⊢
    refine ⟨by omega, ?_⟩
    by_cases e : z = x
    · subst e
      have e2 : y = z := by omega
      subst e2
      exact .inr (lt_tr a b c (h.2.resolve_left fun w => w rfl) (k.2.resolve_left fun w => w rfl))
    · exact .inl e
def leS (a b : Str) : Bool := !ltCps b.cps.toList a.cps.toList
theorem leS_tr (a b c : Str) (h : leS a b = true) (k : leS b c = true) : leS a c = true := by
  unfold leS at h k ⊢
  rw [Bool.not_eq_true'] at h k ⊢
  exact lt_tr _ _ _ h k
theorem leS_tot (a b : Str) : (leS a b || leS b a) = true := by
  unfold leS
  cases h : ltCps b.cps.toList a.cps.toList with
  | false => rfl
  | true => rw [lt_tot _ _ h] <;> rfl
theorem leS_anti {a b : Str} (h : leS a b = true) (k : leS b a = true) : a = b := by
  unfold leS at h k
  rw [Bool.not_eq_true'] at h k
  have := lt_anti _ _ h k
  rw [← S_cps a, ← S_cps b, this]
def sortS (xs : List Str) : List Str := xs.mergeSort leS
theorem sortS_perm (xs : List Str) : (sortS xs).Perm xs := List.mergeSort_perm ..
theorem sortS_pw (xs : List Str) : (sortS xs).Pairwise fun a b => leS a b = true := List.pairwise_mergeSort leS_tr leS_tot xs
theorem rising_pw : ∀ (p : Str) (l : List Str), PyProof.Rows.risingS p l = true → (p :: l).Pairwise fun a b => leS a b = true
  | p, [], _ => by simp
  | p, x :: r, h => by
    unfold PyProof.Rows.risingS at h
    rw [Bool.and_eq_true] at h
    have ih := rising_pw x r h.2
    refine List.pairwise_cons.mpr ⟨fun y hy => ?_, ih⟩
    rcases List.mem_cons.mp hy with rfl | hy
    · exact h.1
    · exact leS_tr _ _ _ h.1 ((List.pairwise_cons.mp ih).1 y hy)
theorem sorted_pw {ys : List Str} (h : PyProof.Rows.sortedS ys = true) : ys.Pairwise fun a b => leS a b = true := by
  cases ys with
  | nil => exact List.Pairwise.nil
  | cons x r => exact rising_pw x r h
theorem sortS_uniq {xs ys : List Str} (hp : ys.Perm xs) (h : ys.Pairwise fun a b => leS a b = true) : ys = sortS xs :=
  List.Perm.eq_of_pairwise (fun a b _ _ h k => leS_anti h k) h (sortS_pw xs) (hp.trans (sortS_perm xs).symm)
theorem sortS_only {xs : List Str} : ∀ ys, ys.Perm xs → PyProof.Rows.sortedS ys = true → ys = sortS xs := fun ys hp h => sortS_uniq hp (sorted_pw h)
theorem rc_sorted {K : PySem.W.Frag} {xs : List Str} (h : xs.length < 64) : RCN K (rSortedS K) [.lst (xs.map Da.str)] ((sortS xs).map Da.str) := rc_sortedS sortS sortS_only h
end
/-- those that speak against x, rising -/
def spk (ps : List Pr) (x : Str) : List Str := sortS ((ps.filter fun p => decide (p.2 = x)).map (·.1))
/-- distinct ones of a few are few -/
theorem nd_len {α : Type} [DecidableEq α] : ∀ {l m : List α}, l.Nodup → (∀ x ∈ l, x ∈ m) → l.length ≤ m.length
  | [], _, _, _ => Nat.zero_le _
  | x :: l, m, h, s => by
    obtain ⟨h1, h2⟩ := List.nodup_cons.mp h
    have hx := s x (List.mem_cons_self ..)
    have ih := nd_len (l := l) (m := m.erase x) h2 fun y hy => (List.mem_erase_of_ne (fun (z : y = x) => h1 (z ▸ hy))).mpr (s y (List.mem_cons_of_mem _ hy))
    rw [List.length_erase_of_mem hx] at ih
    have : 0 < m.length := List.length_pos_of_mem hx
    rw [List.length_cons]
    omega
theorem spk_nd {ps : List Pr} {x : Str} (h : ps.Nodup) : ((ps.filter fun p => decide (p.2 = x)).map (·.1)).Nodup := by
  refine nd_map (h.sublist List.filter_sublist) fun a ha b hb e => ?_
  have ea := of_decide_eq_true (List.mem_filter.mp ha).2
  have eb := of_decide_eq_true (List.mem_filter.mp hb).2
  obtain ⟨a1, a2⟩ := a
  obtain ⟨b1, b2⟩ := b
  have ea : a2 = x := ea
  have eb : b2 = x := eb
  have e : a1 = b1 := e
  rw [e, ea, eb]
theorem spk_len {ns : List Str} {ps : List Pr} {x : Str} (g : GoodP ns ps) : ((ps.filter fun p => decide (p.2 = x)).map (·.1)).length ≤ ns.length := by
  refine nd_len (spk_nd g.nd) fun y hy => ?_
  obtain ⟨p, hp, rfl⟩ := List.mem_map.mp hy
  exact (g.mem p (List.mem_filter.mp hp).1).1
theorem spk_mem {ps : List Pr} {x y : Str} : y ∈ spk ps x ↔ (y, x) ∈ ps := by
  unfold spk
  rw [(sortS_perm _).mem_iff, List.mem_map]
  constructor
  · rintro ⟨p, hp, rfl⟩
    obtain ⟨h1, h2⟩ := List.mem_filter.mp hp
    have h2 := of_decide_eq_true h2
    rw [← h2]
    exact h1
  · intro h
    exact ⟨(y, x), List.mem_filter.mpr ⟨h, decide_eq_true rfl⟩, rfl⟩
/-! ### o.m(..) -/
section
variable {K : PySem.W.Frag} {δ : List Sl} {ta : TE} {t : TA} {ds es : List Da} {d : Da} {C : Addr} {ks : List Str} {m : Str} {E : XK}
theorem evs_methX {R : List Da → Da → Prop} {RX : List Da → Addr → Prop} (ho : EvS K ta δ (.ins C ks es)) (hm : m ∉ ks) (ha : EvSA K t δ ds) (hr : R (.ins C ks es :: ds) d) : EvS K (tMeth C m (SpX K R RX) [] E ta t) δ d := fun σ Hk D H s Q q =>
  ho σ Hk D H s _ fun v H1 H1' x1 r1 => by
    cases id r1 with
    | ins e hl r =>
      refine ⟨_, _, _, rfl, x1.st _ _ e, zip_none hm, ?_⟩
      refine ha σ H1 (D.up x1.kn) H1' x1.st _ fun vs H2 H2' x2 r2 => ?_
      rw [List.append_nil]
      exact ⟨H2, _, x2.st, .cons (r1.up x2.kn) r2, .inl ⟨d, hr, fun v H3 H3' x3 r3 => q v H3 H3' ((x1.trans x2).trans x3) r3⟩⟩
theorem methX_raises {R : List Da → Da → Prop} {RX : List Da → Addr → Prop} {B : Addr} {σ : L2.St} {Hk H : Hp} {Q : VK} (D : Dats K δ σ Hk) (s : Same Hk H) (ho : EvS K ta δ (.ins C ks es)) (hm : m ∉ ks) (ha : EvSA K t δ ds) (hr : RX (.ins C ks es :: ds) B) (hE : ∀ H', Same H H' → E (.ref B) none H') :
    tMeth C m (SpX K R RX) [] E ta t σ H Q :=
  ho σ Hk D H s _ fun v H1 H1' x1 r1 => by
    cases id r1 with
    | ins e hl r =>
      refine ⟨_, _, _, rfl, x1.st _ _ e, zip_none hm, ?_⟩
      refine ha σ H1 (D.up x1.kn) H1' x1.st _ fun vs H2 H2' x2 r2 => ?_
      rw [List.append_nil]
      exact ⟨H2, _, x2.st, .cons (r1.up x2.kn) r2, .inr ⟨B, hr, fun H' u => hE H' ((x1.trans x2).up.trans u)⟩⟩
theorem evs_meth {R : List Da → Da → Prop} (ho : EvS K ta δ (.ins C ks es)) (hm : m ∉ ks) (ha : EvSA K t δ ds) (hr : R (.ins C ks es :: ds) d) : EvS K (tMeth C m (SpD K R) [] E ta t) δ d := fun σ Hk D H s Q q =>
  ho σ Hk D H s _ fun v H1 H1' x1 r1 => by
    cases id r1 with
    | ins e hl r =>
      refine ⟨_, _, _, rfl, x1.st _ _ e, zip_none hm, ?_⟩
      refine ha σ H1 (D.up x1.kn) H1' x1.st _ fun vs H2 H2' x2 r2 => ?_
      rw [List.append_nil]
      exact ⟨H2, _, d, x2.st, .cons (r1.up x2.kn) r2, hr, fun v H3 H3' x3 r3 => q v H3 H3' ((x1.trans x2).trans x3) r3⟩
end
theorem fields_nd : (["names", "pairs"] : List Str).Nodup := by decide +kernel
end Bw
set_option Elab.async false
set_option linter.all false
set_option maxRecDepth 100000
set_option maxHeartbeats 2000000
namespace Bw
open PySem L2

/-! ### what holds no list -/
mutual
def noL : Da → Bool
  | .lst _ => false
  | .scr _ => false
  | .tup ds => noLs ds
  | .ins _ _ ds => noLs ds
  | .dct _ ds => noLs ds
  | .dcf _ _ ds => noLs ds
  | _ => true
def noLs : List Da → Bool
  | [] => true
  | d :: ds => noL d && noLs ds
end
section
variable {K : PySem.W.Frag} {H H' : Hp}
mutual
theorem DR.noL (k : ∀ b o, H b = some o → (∀ xs, o ≠ .lst xs) → H' b = some o) : ∀ (d : Da) (v : V), noL d = true → DR K H v d → DR K H' v d
  | .non, _, _, h => by cases h; exact .non
  | .bl b, _, _, h => by cases h; exact .bl b
  | .int i, _, _, h => by cases h; exact .int i
  | .str x, _, _, h => by cases h; exact .str x
  | .ty x, _, _, h => by cases h; exact .ty x
  | .cls x, _, _, h => by cases h; exact .cls x
  | .lst ds, _, n, _ => by simp [Bw.noL] at n
  | .scr ns, _, n, _ => by simp [Bw.noL] at n
  | .tup ds, _, n, h => by
    have n : noLs ds = true := by simpa [Bw.noL] using n
    cases h with
    | tup hs ha =>
      refine .tup ?_ (DRs.noL k ds _ n ha)
      rcases hs with (h | ⟨o, h⟩) | h
      · exact .inl (.inl (k _ _ h fun xs z => by cases z))
      · exact .inl (.inr ⟨o, k _ _ h fun xs z => by cases z⟩)
      · exact .inr h
  | .ins C ks ds, _, n, h => by
    have n : noLs ds = true := by simpa [Bw.noL] using n
    cases h with
    | ins hs hl ha => exact .ins (k _ _ hs fun xs z => by cases z) hl (DRs.noL k ds _ n ha)
  | .dct ks ds, _, n, h => by
    have n : noLs ds = true := by simpa [Bw.noL] using n
    cases h with
    | dct hs hl ha => exact .dct (k _ _ hs fun xs z => by cases z) hl (DRs.noL k ds _ n ha)
  | .dcf _ ks ds, _, n, h => by
    have n : noLs ds = true := by simpa [Bw.noL] using n
    cases h with
    | dcf hs hl ha => exact .dcf (k _ _ hs fun xs z => by cases z) hl (DRs.noL k ds _ n ha)
theorem DRs.noL (k : ∀ b o, H b = some o → (∀ xs, o ≠ .lst xs) → H' b = some o) : ∀ (ds : List Da) (vs : List V), noLs ds = true → DRs K H vs ds → DRs K H' vs ds
  | [], _, _, h => by cases h; exact .nil
  | d :: ds, _, n, h => by
    have n : noL d = true ∧ noLs ds = true := by simpa [noLs] using n
    cases h with
    | cons h1 h2 => exact .cons (DR.noL k d _ n.1 h1) (DRs.noL k ds _ n.2 h2)
end
end
theorem noLs_map {α : Type} {f : α → Da} (h : ∀ x, noL (f x) = true) : ∀ xs : List α, noLs (xs.map f) = true
  | [] => rfl
  | x :: xs => by rw [List.map_cons]; unfold noLs; rw [h x, noLs_map h xs] <;> rfl
/-- some things are forgotten -/
def less (H : Hp) (bs : List Addr) : Hp := fun b => if b ∈ bs then none else H b
theorem less_some {H : Hp} {bs : List Addr} {b : Addr} {o : HO} (h : less H bs b = some o) : b ∉ bs ∧ H b = some o := by
  unfold less at h
  split at h
  · cases h
  · rename_i n
    exact ⟨n, h⟩
theorem less_of {H : Hp} {bs : List Addr} {b : Addr} {o : HO} (h : H b = some o) (n : b ∉ bs) : less H bs b = some o := by
  unfold less
  rw [if_neg n]
  exact h
theorem less_none {H : Hp} {bs : List Addr} {b : Addr} (n : b ∈ bs) : less H bs b = none := by
  unfold less
  rw [if_pos n]
section
variable {C : Ct} {δ : List Sl} {σ : L2.St} {Hk Hs H H' : Hp} {i : Nat}
theorem At.setNo (a : At C δ σ Hk H) {x : Option V} : At C (δ.set i .no) (σ.set i x) Hk H where
  ext := a.ext
  dat := ⟨by rw [List.length_set, List.length_set]; exact a.len, fun j e h => by
    rcases set_at h with ⟨rfl, z⟩ | ⟨n, z⟩
    · cases z
    · obtain ⟨w, e1, r1⟩ := a.dat.get j e z
      exact ⟨w, by rw [List.getElem?_set_ne (Ne.symm n)]; exact e1, r1⟩⟩
  own := fun j es h => by
    rcases set_at h with ⟨rfl, z⟩ | ⟨n, z⟩
    · cases z
    · obtain ⟨l, xs, e1, q⟩ := a.own j es z
      exact ⟨l, xs, by rw [List.getElem?_set_ne (Ne.symm n)]; exact e1, q⟩
  sep := fun j k es fs l n h1 h2 h3 h4 => by
    rcases set_at h1 with ⟨rfl, z⟩ | ⟨n1, z1⟩
    · cases z
    · rcases set_at h2 with ⟨rfl, z⟩ | ⟨n2, z2⟩
      · cases z
      · rw [List.getElem?_set_ne (Ne.symm n1)] at h3
        rw [List.getElem?_set_ne (Ne.symm n2)] at h4
        exact a.sep j k es fs l n z1 z2 h3 h4
  pin := a.pin
/-- the actual heap changes where nothing is known -/
theorem At.other (a : At C δ σ Hk H) (k : Same Hk H') (k0 : Same C.H0 H') (ow : ∀ (j : Nat) (es : Ow), δ[j]? = some (.ow es) → False) : At C δ σ Hk H' :=
  ⟨⟨k0, a.ext.kn, k, a.ext.nw⟩, a.dat, fun j es h => (ow j es h).elim, fun j _ es _ _ _ h => (ow j es h).elim, a.pin⟩
end
/-- what is wanted of an error, whatever the slots -/
def EW (n : Nat) (W : WX) : XK := fun cls d H => ∀ σ : L2.St, σ.length = n → W cls d σ H
theorem passW {X : Cx} {W : WX} {n : Nat} (tk : Takes X W) (hn : X.N.length = n) : Passes (L2.CX X.prog X.w) X (EW n W) := fun _ σ _ _ e s' I c => tk e s' (XE.of_call I (fun cls d H' h => h σ (I.len.trans hn)) c)
/-- an error of a class below T (or T) is what «except T» names -/
theorem exm_same {K : PySem.W.Frag} {S T : Addr} (h1 : PySem.W.subIn K (.ref T) (.type "BaseException") = some true) (h2 : PySem.W.isClsIn K T = true) (h3 : PySem.W.typeIn K (.ref T) = some (.type "type")) (h4 : PySem.W.subIn K (.ref S) (.ref T) = some true) :
    PySem.W.exmOne K (.ref S) (.ref T) = some true := by
  have e1 : (PySem.W.subIn K (.ref T) (.type "BaseException") == some true) = true := by rw [h1] <;> rfl
  have e2 : ((PySem.W.clsIn K T).isSome && PySem.W.typeIn K (.ref T) == some (.type "type")) = true := by
    have h2' : (PySem.W.clsIn K T).isSome = true := h2
    rw [h2', h3] <;> rfl
  show (if (PySem.W.subIn K (.ref T) (.type "BaseException") == some true) = true then (if ((PySem.W.clsIn K T).isSome && PySem.W.typeIn K (.ref T) == some (.type "type")) = true then PySem.W.subIn K (.ref S) (.ref T) else none) else none) = some true
  rw [if_pos e1, if_pos e2]
  exact h4
section
variable {C : Ct} {δ δ2 : List Sl} {σ : L2.St} {Hk Hs H H' : Hp} {D : Ends} {te : TE} {d : Da} {t1 t2 : TS}
theorem At.forget (a : At C δ σ Hk H) (i : Nat) : At C (δ.set i .no) σ Hk H where
  ext := a.ext
  dat := ⟨by rw [List.length_set]; exact a.len, fun j e h => by
    rcases set_at h with ⟨rfl, z⟩ | ⟨n, z⟩
    · cases z
    · exact a.dat.get j e z⟩
  own := fun j es h => by
    rcases set_at h with ⟨rfl, z⟩ | ⟨n, z⟩
    · cases z
    · exact a.own j es z
  sep := fun j k es fs l n h1 h2 h3 h4 => by
    rcases set_at h1 with ⟨rfl, z⟩ | ⟨n1, z1⟩
    · cases z
    · rcases set_at h2 with ⟨rfl, z⟩ | ⟨n2, z2⟩
      · cases z
      · exact a.sep j k es fs l n z1 z2 h3 h4
  pin := a.pin
theorem go_forget (i : Nat) (q : Go C t1 D (δ.set i .no)) : Go C t1 D δ := fun σ Hk H a => q σ Hk H (a.forget i)
/-- a, b = e -/
theorem sq_setG {g : TG} (h : EvS C.K te δ d) (tg : TgA C.K g d δ δ2) (q : Go C t2 D δ2) : Go C (tSeq (tAsg te g) t2) D δ := fun σ Hk H a =>
  h σ Hk a.dat H a.same _ fun v Hs H' x r => tg C v σ Hs H' rfl (a.go x) r _ fun σ' a' => q σ' Hs H' a'
end
/-! ### good benches are taken -/
theorem okB_of {ns : List Str} {ps : List Pr} (b : Bool) (hn : ∀ x ∈ ns, isNm x) (nd : ns.Nodup) (hl : ns.length ≤ 8) (g : GoodP ns ps) (hp : ps.length ≤ 200) :
    (((∀ t ∈ ns.map Da.str, (∃ T, tyName t = some T) ∧ ∀ x, t = .str x → x.length ≤ 1000) ∧ (ns.map Da.str).length ≤ 8 ∧ chk [] (ns.map Da.str) = some ns) ∧
      ((∀ x ∈ ns, isNm x) ∧ (∀ q ∈ ps.map (fun p => (b, p)), okS q.2.1 ∧ okS q.2.2) ∧ (ps.map (fun p => (b, p))).length ≤ 200) ∧ chkP ns [] (ps.map fun p => (b, p)) = .ok ps) := by
  refine ⟨⟨fun t ht => ?_, by rw [List.length_map]; exact hl, chk_good ns [] hn (by simpa using nd)⟩, ⟨hn, fun q hq => ?_, by rw [List.length_map]; exact hp⟩, ?_⟩
  · obtain ⟨x, hx, rfl⟩ := List.mem_map.mp ht
    refine ⟨⟨"str", rfl⟩, fun y e => ?_⟩
    injection e with e
    subst e
    have := (hn _ hx).2.1
    omega
  · obtain ⟨p, hp, rfl⟩ := List.mem_map.mp hq
    exact ⟨nm_ok (hn _ (g.mem p hp).1), nm_ok (hn _ (g.mem p hp).2)⟩
  · have e : (ps.map fun p => (b, p)).map (fun q : Bool × Pr => q.2) = ps := by rw [List.map_map]; exact List.map_id' ps
    have h := chkP_good (ns := ns) (ps.map fun p => (b, p)) [] (fun q hq => by
      obtain ⟨p, hp, rfl⟩ := List.mem_map.mp hq
      exact g.mem p hp) (by rw [e]; simpa using g.nd)
    rw [e] at h
    simpa using h
theorem dQ_t (ps : List Pr) : (ps.map fun p => (true, p)).map dQ = ps.map dP := by rw [List.map_map]; rfl
def dL (p : Pr) : Da := .lst [.str p.1, .str p.2]
theorem dQ_f (ps : List Pr) : (ps.map fun p => (false, p)).map dQ = ps.map dL := by rw [List.map_map]; rfl
theorem not_nm {x : Str} (h : x = "Aa" ∨ x = "" ∨ x = "abcdefghi") : ¬ isNm x := by
  rintro ⟨h1, h2, h3⟩
  rcases h with rfl | rfl | rfl
  · have := h3 65 (by decide +kernel)
    omega
  · exact absurd h1 (by decide +kernel)
  · exact absurd h2 (by decide +kernel)
/-! statements at a heap -/
section
variable {K : PySem.W.Frag} {σ : L2.St} {Hk H : Hp} {D : Ends} {tt : TT} {te : TE} {t1 t2 t3 : TS} {i : Nat} {d : Da}
theorem st_noT (h : EvT tt σ Hk false) (s : Same Hk H) (q : ∀ H', Same H H' → t3 D σ H') : tSeq (tIfS tt t1 tNext) t3 D σ H := h H s _ fun H' u => iteF (q H' u)
theorem st_yesT (h : EvT tt σ Hk true) (s : Same Hk H) (q : ∀ H', Same H H' → t1 { D with nx := t3 D } σ H') : tSeq (tIfS tt t1 t2) t3 D σ H := h H s _ fun H' u => iteT (q H' u)
theorem st_asg (h : Ev K te σ Hk d) (s : Same Hk H) (q : ∀ v Hs H', Ext Hk H Hs H' → DR K Hs v d → t3 D (σ.set i (some v)) H') : tSeq (tAsg te (gName i)) t3 D σ H := h H s _ q
/-- x = [a, b], two new lists -/
theorem st_two {ta tb : TE} {ds es : List Da} {δ : List Sl} (h1 : EvN K ta σ Hk ds) (h2 : ∀ Hs, Dats K δ σ Hs → EvN K tb σ Hs es) (Dt : Dats K δ σ Hk) (s : Same Hk H)
    (q : ∀ a0 x0 Hs1 H1 a1 x1' Hs2 H2 l, Ext Hk H Hs1 H1 → H a0 = none → Hs1 a0 = none → H1 a0 = some (.lst x0) → DRs K Hs1 x0 ds → Ext Hs1 H1 Hs2 H2 → H1 a1 = none → Hs2 a1 = none → H2 a1 = some (.lst x1') → DRs K Hs2 x1' es → H2 l = none →
      t3 D (σ.set i (some (.ref l))) (upd H2 l (.lst [.ref a0, .ref a1]))) : tSeq (tAsg (tLst (tCons ta (tCons tb tNil))) (gName i)) t3 D σ H :=
  h1 H s _ fun a0 x0 Hs1 H1 x1 h0 s0 g0 r0 => h2 Hs1 (Dt.up x1.kn) H1 x1.st _ fun a1 x1' Hs2 H2 x2 k1 s1 g1 r1 => ⟨by show 2 ≤ sizeLine; decide, fun l hl => q a0 x0 Hs1 H1 a1 x1' Hs2 H2 l x1 h0 s0 g0 r0 x2 k1 s1 g1 r1 hl⟩
end
end Bw
set_option Elab.async false
set_option linter.all false
set_option maxRecDepth 100000
set_option maxHeartbeats 2000000
namespace Bw
open PySem L2

/-! ### dicts of texts -/
def dget : List Str → List Da → Str → Option Da
  | k :: ks, d :: ds, x => if k = x then some d else dget ks ds x
  | _, _, _ => none
def DRo (K : PySem.W.Frag) (H : Hp) : Option V → Option Da → Prop
  | some v, some d => DR K H v d
  | none, none => True
  | _, _ => False
theorem kvz_cons {k : Str} {ks : List Str} {x : V} {xs : List V} : kvz (k :: ks) (x :: xs) = (.inr k, x) :: kvz ks xs := rfl
theorem kvz_len {ks : List Str} {xs : List V} (h : ks.length = xs.length) : (kvz ks xs).length = ks.length := by
  unfold kvz
  rw [List.length_zip, List.length_map]
  omega
theorem kvz_snoc {ks : List Str} {xs : List V} {k : Str} {x : V} (h : ks.length = xs.length) : kvz (ks ++ [k]) (xs ++ [x]) = kvz ks xs ++ [(.inr k, x)] := by
  unfold kvz
  rw [List.map_append, List.zip_append (by rw [List.length_map]; exact h)] <;> rfl
theorem kvz_app {ks ls : List Str} {xs ys : List V} (h : ks.length = xs.length) : kvz (ks ++ ls) (xs ++ ys) = kvz ks xs ++ kvz ls ys := by
  unfold kvz
  rw [List.map_append, List.zip_append (by rw [List.length_map]; exact h)]
theorem dget_o {K : PySem.W.Frag} {H : Hp} : ∀ {ks : List Str} {xs : List V} {ds : List Da} (x : Str), ks.length = xs.length → DRs K H xs ds → DRo K H (valV (kvz ks xs) (.inr x)) (dget ks ds x)
  | [], [], _, x, _, r => by cases r; exact True.intro
  | k :: ks, v :: xs, _, x, h, r => by
    cases r with
    | cons r1 r2 =>
      rw [kvz_cons]
      unfold dget
      by_cases e : k = x
      · subst e
        rw [valV_pos rfl, if_pos rfl]
        exact r1
      · rw [valV_neg (fun z => e (Sum.inr.inj z)), if_neg e]
        exact dget_o x (by simpa using h) r2
theorem DRo.none_of {K : PySem.W.Frag} {H : Hp} {o : Option V} {d : Option Da} (h : DRo K H o d) (e : d = none) : o = none := by
  subst e
  cases o with
  | none => rfl
  | some v => exact h.elim
theorem DRo.some_of {K : PySem.W.Frag} {H : Hp} {o : Option V} {d : Da} (h : DRo K H o (some d)) : ∃ v, o = some v ∧ DR K H v d := by
  cases o with
  | none => exact h.elim
  | some v => exact ⟨v, rfl, h⟩
theorem DRo.isSome {K : PySem.W.Frag} {H : Hp} {o : Option V} {d : Option Da} (h : DRo K H o d) : o.isSome = d.isSome := by
  cases o <;> cases d <;> first | rfl | exact h.elim
theorem dget_none {ks : List Str} {ds : List Da} {x : Str} (h : x ∉ ks) : dget ks ds x = none := by
  induction ks generalizing ds with
  | nil => rfl
  | cons k ks ih =>
    cases ds with
    | nil => rfl
    | cons d ds =>
      unfold dget
      rw [if_neg (fun z => h (by simp [z]))]
      exact ih fun z => h (List.mem_cons_of_mem _ z)
theorem dget_mem : ∀ {ks : List Str} {ds : List Da} {x : Str}, x ∈ ks → ks.length = ds.length → ∃ d, dget ks ds x = some d ∧ d ∈ ds
  | k :: ks, d :: ds, x, h, l => by
    unfold dget
    by_cases e : k = x
    · exact ⟨d, by rw [if_pos e], List.mem_cons_self ..⟩
    · obtain ⟨d', e1, e2⟩ := dget_mem (ks := ks) (ds := ds) (x := x) ((List.mem_cons.mp h).resolve_left fun z => e z.symm) (by simpa using l)
      exact ⟨d', by rw [if_neg e]; exact e1, List.mem_cons_of_mem _ e2⟩
theorem dget_map {α : Type} {f : α → Str} {g : α → Da} {xs : List α} {x : Str} : dget (xs.map f) (xs.map g) x = (xs.find? fun a => decide (f a = x)).map g := by
  induction xs with
  | nil => rfl
  | cons a xs ih =>
    rw [List.map_cons, List.map_cons]
    unfold dget
    rw [List.find?_cons]
    by_cases e : f a = x
    · rw [if_pos e, decide_eq_true e] <;> rfl
    · rw [if_neg e, decide_eq_false e]
      exact ih
def rLenD : List V → Hp → VK → Prop := fun xs H Q => ∃ a kvs, xs = [V.ref a] ∧ H a = some (.dK kvs) ∧ Q (.int kvs.length) H
theorem call_lenDD {X : Cx} : CallR X (.builtin "len") rLenD := call_lenD
section
variable {K : PySem.W.Frag} {δ : List Sl} {ta tb tc td ty tk tv te : TE} {d d1 d2 : Da} {ds es : List Da} {ks ls : List Str} {x : Str} {b : Bool} {t : TA} {E : XK}
theorem rc_lenD (hl : ks.length = ds.length) : RC K rLenD [.dct ks ds] (.int ks.length) := rc_now fun Hk H vs s a Q q => by
  obtain ⟨v, rfl, a1⟩ := a.one_of
  cases a1 with
  | dct e h r => exact ⟨_, _, rfl, s _ _ e, by rw [kvz_len h]; exact q _ (.int _)⟩
theorem evs_din (hy : EvS K ty δ (.str x)) (hd : EvS K td δ (.dct ks ds)) : EvS K (tDIn ty td) δ (.bl (dget ks ds x).isSome) := fun σ Hk D H s Q q =>
  hy σ Hk D H s _ fun v1 H1 H1' x1 r1 => hd σ H1 (D.up x1.kn) H1' x1.st _ fun v2 H2 H2' x2 r2 => by
    cases r1
    cases r2 with
    | dct e h r =>
      refine ⟨_, _, rfl, DGet.k (k := .inr x) (x2.st _ _ e), ?_⟩
      rw [(dget_o x h r).isSome]
      exact q _ H2 H2' (x1.trans x2) (.bl _)
theorem evs_dnotin (hy : EvS K ty δ (.str x)) (hd : EvS K td δ (.dct ks ds)) : EvS K (tDNotIn ty td) δ (.bl (!(dget ks ds x).isSome)) := fun σ Hk D H s Q q =>
  hy σ Hk D H s _ fun v1 H1 H1' x1 r1 => hd σ H1 (D.up x1.kn) H1' x1.st _ fun v2 H2 H2' x2 r2 => by
    cases r1
    cases r2 with
    | dct e h r =>
      refine ⟨_, _, rfl, DGet.k (k := .inr x) (x2.st _ _ e), ?_⟩
      rw [(dget_o x h r).isSome]
      exact q _ H2 H2' (x1.trans x2) (.bl _)
theorem evs_dget (hd : EvS K td δ (.dct ks ds)) (hy : EvS K ty δ (.str x)) (e : dget ks ds x = some d) : EvS K (tDGet td ty) δ d := fun σ Hk D H s Q q =>
  hd σ Hk D H s _ fun v1 H1 H1' x1 r1 => hy σ H1 (D.up x1.kn) H1' x1.st _ fun v2 H2 H2' x2 r2 => by
    cases r2
    cases r1.up x2.kn with
    | dct e1 h r =>
      have o := dget_o x h r
      rw [e] at o
      obtain ⟨v, ev, rv⟩ := o.some_of
      refine ⟨_, v, rfl, ?_, q _ H2 H2' (x1.trans x2) rv⟩
      rw [← ev]
      exact DGet.k (k := .inr x) (x2.st _ _ e1)
theorem evs_dget2 (hd : EvS K td δ (.dct ks ds)) (hy : EvS K ty δ (.str x)) (hz : EvS K tc δ d) : EvS K (tDGet2 td ty tc) δ ((dget ks ds x).getD d) := fun σ Hk D H s Q q =>
  hd σ Hk D H s _ fun v1 H1 H1' x1 r1 => by
    cases id r1 with
    | dct e0 _ _ =>
      refine ⟨_, rfl, .inl ⟨_, .inl (x1.st _ _ e0)⟩, ?_⟩
      refine hy σ H1 (D.up x1.kn) H1' x1.st _ fun v2 H2 H2' x2 r2 => hz σ H2 ((D.up x1.kn).up x2.kn) H2' x2.st _ fun v3 H3 H3' x3 r3 => ?_
      cases r2
      cases (r1.up x2.kn).up x3.kn with
      | dct e1 h r =>
        refine ⟨_, DGet.k (k := .inr x) (x3.st _ _ e1), ?_⟩
        have o := dget_o x h r
        cases e : dget ks ds x with
        | none =>
          rw [e] at o
          rw [o.none_of rfl]
          exact q _ H3 H3' ((x1.trans x2).trans x3) (by rw [e]; exact r3)
        | some d' =>
          rw [e] at o
          obtain ⟨v, ev, rv⟩ := o.some_of
          rw [ev]
          exact q _ H3 H3' ((x1.trans x2).trans x3) (by rw [e]; exact rv)
/-- a new dict -/
def EvSB (K : PySem.W.Frag) (te : TE) (δ : List Sl) (ks : List Str) (ds : List Da) : Prop := ∀ σ Hk, Dats K δ σ Hk → ∀ H, Same Hk H → ∀ Q : VK, (∀ l xs Hs H', Ext Hk H Hs H' → H l = none → Hs l = none → H' l = some (.dK (kvz ks xs)) → ks.length = xs.length → DRs K Hs xs ds → Q (.ref l) H') → te σ H Q
theorem EvSB.ev (h : EvSB K te δ ks ds) : EvS K te δ (.dct ks ds) := fun σ Hk D H s Q q => h σ Hk D H s Q fun l xs Hs H' x h0 hs hl e r =>
  q _ _ _ (x.know h0 hl hs) (.dct upd_same e (r.up (same_upd hs)))
theorem EvSB.to (h : EvSB K te δ ks ds) (e : ks = ls) (e2 : ds = es) : EvSB K te δ ls es := by
  subst e
  subst e2
  exact h
theorem evs_dnew : EvSB K tDNewK δ [] [] := fun σ Hk D H s Q q p hp => q p [] Hk _ ⟨same_upd hp, Same.refl _, s.trans (same_upd hp), fun b o e n => by rw [n] at e; cases e⟩ hp (s.free hp) upd_same rfl .nil
/-- list(d.items()) -/
def itemsD (ks : List Str) (ds : List Da) : List Da := List.zipWith (fun k d => Da.tup [.str k, d]) ks ds
theorem items_dr {H H' : Hp} (u : Same H H') : ∀ {ks : List Str} {xs : List V} {ds : List Da} {ts : List Addr}, ks.length = xs.length → DRs K H' xs ds → Paired (fun (t : Addr) (q : Key × V) => H' t = some (.tup [kV q.1, q.2])) ts (kvz ks xs) →
    DRs K H' (ts.map V.ref) (itemsD ks ds)
  | [], [], _, _, _, r, p => by cases r; cases p; exact .nil
  | k :: ks, v :: xs, _, _, h, r, p => by
    cases r with
    | cons r1 r2 =>
      rw [kvz_cons] at p
      cases p with
      | cons p1 p2 => exact .cons (.tup (SqT.of p1) (.cons (.str _) (.cons r1 .nil))) (items_dr u (by simpa using h) r2 p2)
theorem evs_items (h : EvS K te δ (.dct ks ds)) : EvSN K (LiI.tListItems te) δ (itemsD ks ds) := fun σ Hk D H s Q q =>
  h σ Hk D H s _ fun v H1 H1' x1 r1 => by
    cases r1 with
    | dct e hl r =>
      refine ⟨_, _, rfl, x1.st _ _ e, fun H' p ts u hp ht np hH' pr => ?_⟩
      let Hs : Hp := fun b => if b ∈ ts then H' b else H1 b
      have k1 : Same H1 Hs := fun b o z => by
        show (if b ∈ ts then H' b else H1 b) = some o
        split
        · exact u _ _ (x1.st _ _ z)
        · exact z
      have k2 : Same Hs H' := fun b o z => by
        have z : (if b ∈ ts then H' b else H1 b) = some o := z
        split at z
        · exact z
        · exact u _ _ (x1.st _ _ z)
      have x2 : Ext H1 H1' Hs H' := ⟨u, k1, k2, fun b o z n => by
        have z : (if b ∈ ts then H' b else H1 b) = some o := z
        split at z
        · rename_i hb
          exact ht b hb
        · rw [n] at z
          cases z⟩
      refine q p _ Hs H' (x1.trans x2) (x1.up.free hp) (by
        show (if p ∈ ts then H' p else H1 p) = none
        rw [if_neg np]
        exact x1.st.free hp) hH' ?_
      refine items_dr (H := H1) k1 hl (r.up k1) ?_
      have all : ∀ (us : List Addr) (kvs : List (Key × V)), (∀ t ∈ us, t ∈ ts) → Paired (fun (t : Addr) (q : Key × V) => H' t = some (.tup [kV q.1, q.2])) us kvs → Paired (fun (t : Addr) (q : Key × V) => Hs t = some (.tup [kV q.1, q.2])) us kvs := by
        intro us kvs hu pp
        induction pp with
        | nil => exact .nil
        | cons p1 p2 ih =>
          refine .cons ?_ (ih fun t m => hu t (List.mem_cons_of_mem _ m))
          show (if _ ∈ ts then H' _ else H1 _) = _
          rw [if_pos (hu _ (List.mem_cons_self ..))]
          exact p1
      exact all ts _ (fun _ m => m) pr
end
/-! ### slots that are dicts -/
def PostB (C : Ct) (ks : List Str) (ds : List Da) (Q : VK) : Prop := ∀ l xs Hs H', Ext C.Hc C.H0 Hs H' → C.H0 l = none → Hs l = none → H' l = some (.dK (kvz ks xs)) → ks.length = xs.length → DRs C.K Hs xs ds → Q (.ref l) H'
section
variable {C : Ct} {δ : List Sl} {D : Ends} {te tk tv : TE} {tt : TT} {t1 t2 u : TS} {d : Da} {ds es : List Da} {ks ls : List Str} {x : Str} {i j : Nat} {p : Option Addr} {o : Ow}
theorem go_freezeW (i : Nat) (e : δ[i]? = some (.ow o)) (q : Go C t1 D (δ.set i (.dat o.da))) : Go C t1 D δ := fun σ Hk H a => by
  obtain ⟨Hs, a'⟩ := a.freezeW e
  exact q σ Hs H a'
theorem go_setB (h : EvSB C.K te δ ks ds) (q : Nx C D.nx (δ.set i (.dct ks ds))) : Go C (tAsg te (gName i)) D δ := fun σ Hk H a =>
  h σ Hk a.dat H a.same _ fun l xs Hs H' x h0 hs hl e r => q _ Hs H' ((a.go x).setW (o := ⟨some ks, none, ds⟩) (a.ext.up.free h0) hs hl ⟨r, fun _ z => by cases z; exact e, fun _ z => (by cases z)⟩ fun j es m e1 e2 => own_ne a h0 j es m e1 e2)
theorem sq_setB (h : EvSB C.K te δ ks ds) (q : Go C t2 D (δ.set i (.dct ks ds))) : Go C (tSeq (tAsg te (gName i)) t2) D δ := go_seq (go_setB h q)
theorem go_retB (h : EvSB C.K te δ ks ds) (q : PostB C ks ds D.rt) : Go C (tRet te) D δ := fun σ Hk H a =>
  h σ Hk a.dat H a.same _ fun l xs Hs H' x h0 hs hl e r => q l xs Hs H' (a.ext.trans x) (a.ext.up.free h0) hs hl e r
/-- d[k] = v, k is new -/
theorem go_dput (e : δ[i]? = some (.ow ⟨some ks, p, ds⟩)) (hv : EvS C.K tv δ d) (hk : EvS C.K tk δ (.str x)) (nw : x ∉ ks) (hl : ds.length < 1000) (q : Nx C D.nx (δ.set i (.ow ⟨some (ks ++ [x]), p, ds ++ [d]⟩))) : Go C (sDPut (tVar i) tk tv) D δ := fun σ Hk H a => by
  refine hv σ Hk a.dat H a.same _ fun v Hs H' x1 r => ?_
  have a1 := a.go x1
  obtain ⟨l, xs, e1, e2, e3, e4, rs⟩ := a1.own i _ e
  refine ⟨_, e1, ?_⟩
  refine hk σ Hs a1.dat H' a1.same _ fun y Ht H2 x2 r2 => ?_
  cases r2
  have a2 := a1.go x2
  have hle := rs.kl ks rfl
  have hxl : xs.length = ds.length := rs.rs.len
  have e4' : H2 l = some (.dK (kvz ks xs)) := x2.up _ _ e4
  have hn : valV (kvz ks xs) (.inr x) = none := (dget_o x hle rs.rs).none_of (dget_none nw)
  refine ⟨l, _, rfl, DPut.k (k := .inr x) e4' (by rw [kvz_len hle]; exact small1000 (by omega)), ?_⟩
  rw [putK_new v hn, ← kvz_snoc hle]
  exact q _ _ _ (a2.mutW (o' := ⟨some (ks ++ [x]), p, ds ++ [d]⟩) e e1 ⟨(rs.rs.up x2.kn).snoc (r.up x2.kn), fun _ z => by cases z; simp [hle], rs.pl⟩)
theorem sq_dput (e : δ[i]? = some (.ow ⟨some ks, p, ds⟩)) (hv : EvS C.K tv δ d) (hk : EvS C.K tk δ (.str x)) (nw : x ∉ ks) (hl : ds.length < 1000) (q : Go C t2 D (δ.set i (.ow ⟨some (ks ++ [x]), p, ds ++ [d]⟩))) : Go C (tSeq (sDPut (tVar i) tk tv) t2) D δ := go_seq (go_dput e hv hk nw hl q)
/-- d.clear() -/
theorem go_dclear (e : δ[i]? = some (.ow ⟨some ks, p, ds⟩)) (q : Nx C D.nx (δ.set i (.ow ⟨some [], p, []⟩))) : Go C (tDrop (tBM0 C.K "dict" rDClear (tVar i))) D δ := fun σ Hk H a => by
  obtain ⟨l, xs, e1, e2, e3, e4, rs⟩ := a.own i _ e
  have e4 : H l = some (.dK (kvz ks xs)) := e4
  refine ⟨_, e1, .inr (.inr (.inl ⟨rfl, .inl ⟨_, e4⟩⟩)), l, _, rfl, rfl, e4, ?_⟩
  exact q _ _ _ (a.mutW (xs' := []) (o' := ⟨some [], p, []⟩) e e1 ⟨.nil, fun _ z => by cases z; rfl, rs.pl⟩)
theorem sq_dclear (e : δ[i]? = some (.ow ⟨some ks, p, ds⟩)) (q : Go C t2 D (δ.set i (.ow ⟨some [], p, []⟩))) : Go C (tSeq (tDrop (tBM0 C.K "dict" rDClear (tVar i))) t2) D δ := go_seq (go_dclear e q)
end
end Bw
set_option Elab.async false
set_option linter.all false
set_option maxRecDepth 100000
set_option maxHeartbeats 2000000
namespace Bw
open PySem L2
/-! ### d.update(e) -/
def rDUpd : V → List V → Hp → VK → Prop := fun x vs H Q => ∃ (a b : Addr) (kvs more : List (Key × V)), x = .ref a ∧ vs = [.ref b] ∧ a ≠ b ∧ H a = some (.dK kvs) ∧ H b = some (.dK more) ∧ kvs.length + more.length ≤ sizeLine ∧ Q .non (upd H a (.dK (mergeK kvs more)))
open PyProof.Rows PySem.Spec in
theorem mt_dupd {X : Cx} : MtR X "dict.update" rDUpd := by
  intro pins s σ H x vs v us Q I rx rv h
  obtain ⟨a, b, kvs, more, ex, ev, ne, e1, e2, hz, q⟩ := h
  subst ex
  subst ev
  obtain rfl : v = Value.ref a := rx
  obtain ⟨u, rfl, ru⟩ := rv.one
  obtain rfl : u = Value.ref b := ru
  obtain ⟨z, hd, vs, rel, dd⟩ := dk_of I.hok e1
  obtain ⟨z2, hd2, vs2, rel2, dd2⟩ := dk_of I.hok e2
  refine call_meetsIn PySem.F.slot_dict_update dd.typeIs PySem.F.entry_dict_update (PySem.F.args_dict_update_2 _ _) (meets_dict_update (mixKind X.prog X.w) a b ne hd2) ⟨vs, vs2, dd, dd2, by rw [← rel.length, ← rel2.length]; exact hz, fun h' dd' _ hs => ?_⟩
  have he : ∃ q, h'.get? a = some q := let ⟨q, _, _, hq, _⟩ := dd'; ⟨q, hq⟩
  exact ⟨.non, _, d_write (t' := s.toks) I (by rw [e1]; exact True.intro) hs he (dk_new (Nat.le_trans (length_mergeK more kvs) hz) hd (KV.merge rel2 rel) dd'), rfl, q⟩
theorem merge_new : ∀ {ls : List Str} {ys : List V} {ks : List Str} {xs : List V} {K : PySem.W.Frag} {H : Hp} {ds : List Da}, ks.length = xs.length → ls.length = ys.length → DRs K H xs ds → (∀ l ∈ ls, l ∉ ks) → ls.Nodup → (∀ v ∈ ys, ∃ d, DR K H v d) → mergeK (kvz ks xs) (kvz ls ys) = kvz (ks ++ ls) (xs ++ ys)
  | [], [], ks, xs, K, H, ds, _, _, _, _, _, _ => by
    show kvz ks xs = _
    rw [List.append_nil, List.append_nil]
  | l :: ls, y :: ys, ks, xs, K, H, ds, h1, h2, r, hn, nd, hy => by
    rw [kvz_cons]
    show mergeK (putK (kvz ks xs) (.inr l) y) (kvz ls ys) = _
    have e : valV (kvz ks xs) (.inr l) = none := (dget_o l h1 r).none_of (dget_none (hn l (List.mem_cons_self ..)))
    rw [putK_new y e, ← kvz_snoc h1]
    obtain ⟨d, ry⟩ := hy y (List.mem_cons_self ..)
    have nd := List.nodup_cons.mp nd
    rw [merge_new (K := K) (H := H) (ds := ds ++ [d]) (by simp [h1]) (by simpa using h2) (r.snoc ry) (fun m hm => by
      rw [List.mem_append]
      rintro (z | z)
      · exact hn m (List.mem_cons_of_mem _ hm) z
      · rw [List.mem_singleton] at z
        subst z
        exact nd.1 hm) nd.2 fun v hv => hy v (List.mem_cons_of_mem _ hv)]
    rw [List.append_assoc, List.append_assoc] <;> rfl
theorem DRs.all {K : PySem.W.Frag} {H : Hp} : ∀ {ys : List V} {ds : List Da}, DRs K H ys ds → ∀ v ∈ ys, ∃ d, DR K H v d
  | _, [], r, v, hv => by cases r; cases hv
  | _, d :: ds, r, v, hv => by
    cases r with
    | cons r1 r2 =>
      rcases List.mem_cons.mp hv with rfl | hv
      · exact ⟨_, r1⟩
      · exact DRs.all r2 v hv
section
variable {C : Ct} {δ : List Sl} {D : Ends} {te tk tv ta : TE} {tt : TT} {t1 t2 u tb : TS} {d d1 : Da} {ds es : List Da} {ks ls : List Str} {x : Str} {i j : Nat} {p p2 : Option Addr} {o o' : Ow} {σ : L2.St} {Hk Hs H H' : Hp}
theorem go_dupd (e : δ[i]? = some (.ow ⟨some ks, p, ds⟩)) (e2 : δ[j]? = some (.ow ⟨some ls, p2, es⟩)) (ne : i ≠ j) (hn : ∀ l ∈ ls, l ∉ ks) (nd : ls.Nodup) (hl : ks.length + ls.length ≤ 1000) (q : Nx C D.nx (δ.set i (.ow ⟨some (ks ++ ls), p, ds ++ es⟩))) :
    Go C (tDrop (tBM C.K "dict" rDUpd (tVar i) (tCons (tVar j) tNil))) D δ := fun σ Hk H a => by
  obtain ⟨l, xs, a1, a2, a3, a4, a5⟩ := a.own i _ e
  obtain ⟨m, ys, b1, b2, b3, b4, b5⟩ := a.own j _ e2
  have a4 : H l = some (.dK (kvz ks xs)) := a4
  have b4 : H m = some (.dK (kvz ls ys)) := b4
  have k1 := a5.kl _ rfl
  have k2 := b5.kl _ rfl
  refine ⟨_, a1, .inr (.inr (.inl ⟨rfl, .inl ⟨_, a4⟩⟩)), _, b1, ?_⟩
  refine ⟨l, m, _, _, rfl, rfl, fun z => ?_, a4, b4, ?_, ?_⟩
  · subst z
    exact a.sep i j _ _ l ne e e2 a1 b1
  · rw [kvz_len k1, kvz_len k2]
    exact Nat.le_of_lt (small1000 hl)
  · rw [merge_new k1 k2 a5.rs hn nd b5.rs.all]
    exact q _ _ _ (a.mutW (o' := ⟨some (ks ++ ls), p, ds ++ es⟩) e a1 ⟨a5.rs.app b5.rs, fun _ z => by cases z; simp [k1, k2], a5.pl⟩)
theorem sq_dupd (e : δ[i]? = some (.ow ⟨some ks, p, ds⟩)) (e2 : δ[j]? = some (.ow ⟨some ls, p2, es⟩)) (ne : i ≠ j) (hn : ∀ l ∈ ls, l ∉ ks) (nd : ls.Nodup) (hl : ks.length + ls.length ≤ 1000) (q : Go C t2 D (δ.set i (.ow ⟨some (ks ++ ls), p, ds ++ es⟩))) :
    Go C (tSeq (tDrop (tBM C.K "dict" rDUpd (tVar i) (tCons (tVar j) tNil))) t2) D δ := go_seq (go_dupd e e2 ne hn nd hl q)
/-- i += k -/
theorem go_aug {f : Int → Int → Int} {n k : Int} (e : δ[i]? = some (.dat (.int n))) (h : EvS C.K te δ (.int k)) (q : Nx C D.nx (δ.set i (.dat (.int (f n k))))) : Go C (tAug i te (ipI f)) D δ := fun σ Hk H a => by
  obtain ⟨v, e1, r⟩ := a.dat.get i _ e
  cases r
  refine ⟨_, e1, ?_⟩
  refine h σ Hk a.dat H a.same _ fun w Hs H' x r => ?_
  cases r
  exact ⟨_, _, rfl, rfl, q _ Hs H' ((a.go x).set (.int _))⟩
/-! ### while -/
def ReachL (C : Ct) (I : Nat → List Sl → Prop) (m : Nat) (σ : L2.St) (H : Hp) : Prop := ∃ m', m' < m ∧ Reach C (I m') σ H
theorem go_while (I : Nat → List Sl → Prop) (m0 : Nat) (h0 : I m0 δ)
    (hs : ∀ m δ1 σ Hk H, I m δ1 → At C δ1 σ Hk H → ∀ Q : Bool → Hp → Prop, (∀ b H1 Hk1 δ2, At C δ2 σ Hk1 H1 → (b = true → Go C tb { D with nx := ReachL C I m, ct := ReachL C I m, bk := D.nx } δ2) → (b = false → Nx C D.nx δ2) → Q b H1) → tt σ H Q) : Go C (tWhile tt tb) D δ := fun σ Hk H a => by
  refine ⟨fun m σ1 H1 => Reach C (I m) σ1 H1, ⟨m0, δ, Hk, h0, a⟩, ?_⟩
  rintro m σ1 H1 ⟨δ1, Hk1, hI, a1⟩
  refine hs m δ1 σ1 Hk1 H1 hI a1 _ fun b H2 Hk2 δ2 a2 g1 g2 => ?_
  cases b with
  | true =>
    refine iteT ?_
    exact ⟨ReachL C I m, fun σ' H' h => h, g1 rfl σ1 Hk2 H2 a2⟩
  | false =>
    refine iteF ?_
    exact g2 rfl σ1 Hk2 H2 a2
/-- a slot's own thing was changed by a call -/
theorem At.mutX (a : At C δ σ Hk H) {l : Addr} {xs' : List V} (e : δ[i]? = some (.ow o)) (e1 : σ[i]? = some (some (.ref l))) (x : Ext Hk (less H [l]) Hs H') (hs : Hs l = none) (hl : H' l = some (box o'.k xs')) (r : OwR C.K Hs l o' xs') :
    At C (δ.set i (.ow o')) σ Hs H' := by
  obtain ⟨l', xs, f1, e2, e3, f4, rs⟩ := a.own i o e
  rw [e1] at f1
  cases f1
  have keep : ∀ b u, H b = some u → b ≠ l → H' b = some u := fun b u z n => x.up b u (less_of z (by simpa using n))
  refine ⟨⟨fun b u z => ?_, a.ext.kn.trans x.kn, x.st, fun b u z n => ?_⟩, ⟨by rw [List.length_set]; exact a.len, fun j d h => ?_⟩, fun j es h => ?_, fun j m es fs n ne h1 h2 h3 h4 => ?_, fun P hP => (a.pin P hP).trans x.kn⟩
  · exact keep b u (a.ext.up b u z) fun w => by rw [w, e2] at z; cases z
  · cases y : Hk b with
    | some w => exact a.ext.nw b w y n
    | none =>
      have := x.nw b u z y
      by_cases hb : b = l
      · rw [hb]; exact e2
      · cases w : H b with
        | none => exact a.ext.up.free w
        | some t =>
          rw [less_of w (by simpa using hb)] at this
          cases this
  · rcases set_at h with ⟨rfl, z⟩ | ⟨n, z⟩
    · cases z
    · obtain ⟨v, q1, q2⟩ := a.dat.get j d z
      exact ⟨v, q1, q2.up x.kn⟩
  · rcases set_at h with ⟨rfl, z⟩ | ⟨n, z⟩
    · cases z
      exact ⟨l, _, e1, e2, hs, hl, r⟩
    · obtain ⟨m, ys, q1, q2, q3, q4, q5⟩ := a.own j es z
      have hml : m ≠ l := fun y => by
        subst y
        exact a.sep j i es o m n z e q1 e1
      refine ⟨m, ys, q1, q2, ?_, keep m _ q4 hml, q5.up x.kn⟩
      cases w : Hs m with
      | none => rfl
      | some t =>
        have := x.nw m t w q3
        rw [less_of q4 (by simpa using hml)] at this
        cases this
  · have f1 : ∃ es', δ[j]? = some (.ow es') := by
      rcases set_at h1 with ⟨rfl, z⟩ | ⟨n1, z1⟩
      · exact ⟨_, e⟩
      · exact ⟨_, z1⟩
    have f2 : ∃ es', δ[m]? = some (.ow es') := by
      rcases set_at h2 with ⟨rfl, z⟩ | ⟨n1, z1⟩
      · exact ⟨_, e⟩
      · exact ⟨_, z1⟩
    obtain ⟨_, f1⟩ := f1
    obtain ⟨_, f2⟩ := f2
    exact a.sep j m _ _ n ne f1 f2 h3 h4
end
/-! ### a comprehension that makes a dict -/
section
variable {K : PySem.W.Frag} {δ : List Sl} {ds : List Da}
theorem evs_dcY {wi : TI} {g : TG} {tk tv : TE} {vs : List Nat} {α : Type} {xs : List α} {enc : α → Da} (hi : ItD K wi δ (xs.map enc)) (f : α → Str) (f2 : α → Da) (nd : (xs.map f).Nodup) (hl : xs.length ≤ 1000)
    (hb : ∀ x ∈ xs, ∃ δ', TgD K g (enc x) (wipeS δ vs) δ' vs ∧ EvS K tk δ' (.str (f x)) ∧ EvS K tv δ' (f2 x)) :
    EvSB K (tDc wi g tYes tk tv vs) δ (xs.map f) (xs.map f2) := fun σ Hk a H s Q q => by
  refine hi σ Hk a H s _ fun J Hs H1 x ok => ?_
  intro A hA
  have hsA : Hs A = none := x.st.free hA
  have h0A : H A = none := x.up.free hA
  refine ⟨fun i m H2 => i ≤ xs.length ∧ m = xs.length - i ∧ ∃ Hk2 acc, Ext Hk H Hk2 H2 ∧ Same Hs Hk2 ∧ Hk2 A = none ∧ H2 A = some (.dK (kvz ((xs.take i).map f) acc)) ∧ DRs K Hk2 acc ((xs.take i).map f2), ⟨_, Nat.zero_le _, rfl, Hs, [], ⟨x.up.trans (same_upd hA), x.kn, x.st.trans (same_upd hA), x.nw⟩, Same.refl _, hsA, upd_same, by simp; exact .nil⟩, ?_⟩
  rintro i m H2 ⟨hi, rfl, Hk2, acc, x2, s2, hk2, hacc, r⟩
  by_cases e : i < xs.length
  · have ed : (xs.map enc)[i]? = some (enc xs[i]) := by rw [List.getElem?_map, List.getElem?_eq_getElem e] <;> rfl
    have et : xs.take (i + 1) = xs.take i ++ [xs[i]] := (List.take_append_getElem e).symm
    refine .inr ⟨ok.go i H2 _ (s2.trans x2.st) ed, fun H3 => ∃ Hk3 acc3, Ext Hk H Hk3 H3 ∧ Same Hs Hk3 ∧ Hk3 A = none ∧ H3 A = some (.dK (kvz ((xs.take (i + 1)).map f) acc3)) ∧ DRs K Hk3 acc3 ((xs.take (i + 1)).map f2), fun H3 ⟨Hk3, acc3, z⟩ => ⟨_, by omega, e, rfl, Hk3, acc3, z⟩, fun v H3 y => ?_⟩
    obtain ⟨Hk3, x3, r3⟩ := ok.yld i H2 v H3 _ Hk2 s2 x2.st ed y
    obtain ⟨δ', tg, hk, hv⟩ := hb xs[i] (List.getElem_mem e)
    have a3 : Dats K (wipeS δ vs) (wipe σ vs) Hk3 := dats_wipe (a.up ((x2.kn).trans x3.kn))
    refine tg v (wipe σ vs) Hk3 H3 a3 r3 x3.st _ fun σ4 a4 hlen hw => ?_
    refine ⟨wipe_eq (by rw [hlen, wipe_length]) fun k hk => (hw k hk).trans (wipe_at hk), ?_⟩
    have ht : EvST K tYes δ' true := fun σ Hk D H s Q q => q H (Same.refl _)
    refine ht σ4 Hk3 a4 H3 x3.st _ fun H3b u3 => ?_
    refine iteT ?_
    refine hk σ4 Hk3 a4 H3b (x3.st.trans u3) _ fun y4 Hk4 H4 x4 r4 => hv σ4 Hk4 (a4.up x4.kn) H4 x4.st _ fun y5 Hk5 H5 x5 r5 => ?_
    cases r4
    have xx : Ext Hk2 H2 Hk5 H5 := ((x3.trans (Ext.of_up x3.st u3)).trans x4).trans x5
    have g5 : H5 A = _ := xx.up _ _ hacc
    have hk5 : Hk5 A = none := by
      cases z : Hk5 A with
      | none => rfl
      | some o =>
        have := xx.nw A o z hk2
        rw [hacc] at this
        cases this
    have hle : ((xs.take i).map f).length = acc.length := by rw [r.len, List.length_map, List.length_map]
    have nw : f xs[i] ∉ (xs.take i).map f := fun z => by
      have h2 : (xs.map f).take (i + 1) = (xs.take i).map f ++ [f xs[i]] := by rw [← List.map_take, et, List.map_append] <;> rfl
      have h3 := (List.take_sublist (i + 1) (xs.map f)).nodup nd
      rw [h2, List.nodup_append] at h3
      exact h3.2.2 _ z _ (List.mem_singleton.mpr rfl) rfl
    have hn := (dget_o (f xs[i]) hle r).none_of (dget_none nw)
    refine ⟨_, .inr (f xs[i]), rfl, g5, ?_, Hk5, acc ++ [y5], ?_, (s2.trans xx.kn), hk5, ?_, ?_⟩
    · rw [kvz_len hle, List.length_map, List.length_take]
      exact small1000 (by omega)
    · have x6 := x2.trans xx
      exact ⟨same_updK x6.up h0A, x6.kn, same_updK x6.st hk5, x6.nw⟩
    · rw [upd_same, putK_new y5 hn, et, List.map_append, ← kvz_snoc hle] <;> rfl
    · rw [et, List.map_append]
      exact (r.up xx.kn).snoc r5
  · have e' : i = xs.length := by omega
    subst e'
    rw [List.take_length] at r hacc
    have es := ok.stop H2 (s2.trans x2.st)
    rw [List.length_map] at es
    exact .inl ⟨es, q A acc Hk2 H2 x2 h0A hk2 hacc (by rw [r.len, List.length_map, List.length_map]) r⟩
end
/-! ### promises of defs that hand back a new dict, or change one -/
def SpB (K : PySem.W.Frag) (R : List Da → List Str → List Da → Prop) : Sp := fun vs H Q _ => ∃ Hc as ks ds, Same Hc H ∧ DRs K Hc vs as ∧ R as ks ds ∧ ∀ l xs Hs H', Ext Hc H Hs H' → H l = none → Hs l = none → H' l = some (.dK (kvz ks xs)) → ks.length = xs.length → DRs K Hs xs ds → Q (.ref l) H'
def SpM (K : PySem.W.Frag) (R : Da → List Da → List Str → List Da → List Str → List Da → Da → Prop) : Sp := fun vs H Q _ => ∃ Hc l v1 vr d1 dr ks xs ds ks' ds' d, vs = v1 :: .ref l :: vr ∧ Same Hc H ∧ Hc l = none ∧ H l = some (.dK (kvz ks xs)) ∧ ks.length = xs.length ∧ DRs K Hc xs ds ∧ DR K Hc v1 d1 ∧ DRs K Hc vr dr ∧ R d1 dr ks ds ks' ds' d ∧
  ∀ v xs' Hs H', Ext Hc (less H [l]) Hs H' → Hs l = none → H' l = some (.dK (kvz ks' xs')) → ks'.length = xs'.length → DRs K Hs xs' ds' → DR K Hs v d → Q v H'
section
variable {K : PySem.W.Frag} {δ : List Sl} {t : TA} {as : List Da} {ks : List Str} {ds : List Da} {R : List Da → List Str → List Da → Prop} {E : XK}
theorem evs_callB (ha : EvSA K t δ as) (hr : R as ks ds) : EvSB K (tCall (SpB K R) [] E t) δ ks ds := fun σ Hk D H s Q q =>
  ha σ Hk D H s _ fun vs H1 H1' x1 r1 => by
    show SpB K R (vs ++ []) H1' Q E
    rw [List.append_nil]
    exact ⟨H1, as, ks, ds, x1.st, r1, hr, fun l xs H2 H2' x2 h0 hs hl e r => q l xs H2 H2' (x1.trans x2) (x1.up.free h0) hs hl e r⟩
theorem spb_len {n : Nat} (h : ∀ as ks ds, R as ks ds → as.length = n) : ∀ vs H Q E, SpB K R vs H Q E → vs.length = n := fun vs H Q E ⟨Hc, as, ks, ds, s, r, hr, q⟩ => by
  rw [r.len]
  exact h as ks ds hr
theorem spb_body {N : List Str} {ts : TS} (hn : ∀ as ks ds, R as ks ds → as.length ≤ N.length)
    (h : ∀ as ks ds, R as ks ds → ∀ (C : Ct) (Q : VK), C.K = K → PostB C ks ds Q → Go C ts { nx := fun _ H' => Q .non H', rt := Q } (as.map Sl.dat ++ List.replicate (N.length - as.length) .no)) :
    ∀ vs H Q E, SpB K R vs H Q E → ts { nx := fun _ H' => Q .non H', rt := Q } (L2.start N vs) H := fun vs H Q E ⟨Hc, as, ks, ds, s, r, hr, q⟩ =>
  h as ks ds hr ⟨K, Hc, H, []⟩ Q rfl q _ _ _ (start_at r (hn as ks ds hr) H s Hc rfl)
end
/-- what is wanted of a def that changes the dict at l and hands back d -/
def PostM (C : Ct) (l : Addr) (ks : List Str) (ds : List Da) (d : Da) (Q : VK) : Prop := ∀ v xs Hs H', Ext C.Hc C.H0 Hs H' → Hs l = none → H' l = some (.dK (kvz ks xs)) → ks.length = xs.length → DRs C.K Hs xs ds → DR C.K Hs v d → Q v H'
section
variable {K : PySem.W.Frag} {R : Da → List Da → List Str → List Da → List Str → List Da → Da → Prop}
theorem spm_len {n : Nat} (h : ∀ d1 dr ks ds ks' ds' d, R d1 dr ks ds ks' ds' d → dr.length + 2 = n) : ∀ vs H Q E, SpM K R vs H Q E → vs.length = n := fun vs H Q E ⟨Hc, l, v1, vr, d1, dr, ks, xs, ds, ks', ds', d, ev, s, h1, h2, h3, h4, h5, h6, h7, h8⟩ => by
  rw [ev, ← h _ _ _ _ _ _ _ h7, List.length_cons, List.length_cons, h6.len]
theorem spm_body {N : List Str} {ts : TS} (hn : ∀ d1 dr ks ds ks' ds' d, R d1 dr ks ds ks' ds' d → dr.length + 2 ≤ N.length)
    (h : ∀ d1 dr ks ds ks' ds' d, R d1 dr ks ds ks' ds' d → ks.length = ds.length → ∀ (C : Ct) (Q : VK) (l : Addr), C.K = K → PostM C l ks' ds' d Q → Go C ts { nx := fun _ H' => Q .non H', rt := Q } (.dat d1 :: .ow ⟨some ks, some l, ds⟩ :: (dr.map Sl.dat ++ List.replicate (N.length - (dr.length + 2)) .no))) :
    ∀ vs H Q E, SpM K R vs H Q E → ts { nx := fun _ H' => Q .non H', rt := Q } (L2.start N vs) H := fun vs H Q E ⟨Hc, l, v1, vr, d1, dr, ks, xs, ds, ks', ds', d, ev, s, h1, h2, h3, h4, h5, h6, h7, h8⟩ => by
  subst ev
  have hN := hn _ _ _ _ _ _ _ h7
  have hl := h6.len
  refine h d1 dr ks ds ks' ds' d h7 (by rw [h3, h4.len]) ⟨K, Hc, less H [l], []⟩ Q l rfl h8 _ Hc H ?_
  have e0 : L2.start N (v1 :: .ref l :: vr) = some v1 :: some (.ref l) :: (vr.map some ++ List.replicate (N.length - (vr.length + 2)) none) := by simp [L2.start]
  rw [e0]
  have tail : ∀ (k : Nat) (z : Sl), (dr.map Sl.dat ++ List.replicate (N.length - (dr.length + 2)) Sl.no)[k]? = some z → (z = .no) ∨ ∃ d v, z = .dat d ∧ (vr.map some ++ List.replicate (N.length - (vr.length + 2)) none)[k]? = some (some v) ∧ DR K Hc v d := by
    intro k z hz
    by_cases hk : k < dr.length
    · rw [List.getElem?_append_left (by simpa using hk), List.getElem?_map, List.getElem?_eq_getElem hk] at hz
      cases hz
      obtain ⟨v, e, rv⟩ := h6.at (List.getElem?_eq_getElem hk)
      refine .inr ⟨_, v, rfl, ?_, rv⟩
      rw [List.getElem?_append_left (by rw [List.length_map]; omega), List.getElem?_map, e] <;> rfl
    · rw [List.getElem?_append_right (by simpa using hk), List.getElem?_replicate] at hz
      split at hz
      · cases hz; exact .inl rfl
      · cases hz
  refine ⟨⟨fun b u z => (less_some z).2, Same.refl _, s, fun b u z n => by
    have n : Hc b = none := n
    rw [n] at z
    cases z⟩, ⟨by simp [hl], fun k d z => ?_⟩, fun k o z => ?_, fun k m o o' n ne z1 z2 w1 w2 => ?_, fun P hP => by cases hP⟩
  · match k, z with
    | 0, z => cases z; exact ⟨v1, rfl, h5⟩
    | 1, z => cases z
    | k + 2, z =>
      rcases tail k _ z with z | ⟨d', v, z, q1, q2⟩
      · cases z
      · cases z; exact ⟨v, q1, q2⟩
  · match k, z with
    | 0, z => cases z
    | 1, z =>
      cases z
      exact ⟨l, xs, rfl, less_none (by simp), h1, h2, h4, fun _ z => by cases z; exact h3, fun _ z => by cases z; rfl⟩
    | k + 2, z =>
      rcases tail k _ z with z | ⟨d', v, z, q1, q2⟩
      · cases z
      · cases z
  · have one : ∀ k o, (Sl.dat d1 :: Sl.ow ⟨some ks, some l, ds⟩ :: (dr.map Sl.dat ++ List.replicate (N.length - (dr.length + 2)) Sl.no))[k]? = some (.ow o) → k = 1 := by
      intro k o z
      match k, z with
      | 0, z => cases z
      | 1, z => rfl
      | k + 2, z =>
        rcases tail k _ z with z | ⟨d', v, z, q1, q2⟩
        · cases z
        · cases z
    exact ne ((one k o z1).trans (one m o' z2).symm)
end
section
variable {C : Ct} {δ : List Sl} {D : Ends} {te ta : TE} {tr : TA} {d d1 : Da} {dr ds ds' : List Da} {ks ks' : List Str} {i : Nat} {p : Option Addr} {l : Addr} {b : Bool} {σ : L2.St} {Hk H : Hp} {E : XK} {Q : Bool → Hp → Prop}
/-- hand back flat data, the dict at l changed -/
theorem go_retM (e : δ[i]? = some (.ow ⟨some ks, some l, ds⟩)) (h : EvS C.K te (δ.map Sl.frz) d) (f : d.flat = true) (q : PostM C l ks ds d D.rt) : Go C (tRet te) D δ := fun σ Hk H a =>
  h σ H a.frz H (Same.refl _) _ fun v Hs H' x r => by
    have a' := a.go (Ext.of_up a.same x.up)
    obtain ⟨m, xs, e1, e2, e3, e4, e5⟩ := a'.own i _ e
    cases e5.pl l rfl
    exact q v xs Hk H' a'.ext e3 e4 (e5.kl _ rfl) e5.rs (r.flat f)
theorem at_callM {R : Da → List Da → List Str → List Da → List Str → List Da → Da → Prop} (a : At C δ σ Hk H) (e : δ[i]? = some (.ow ⟨some ks, p, ds⟩)) (h1 : EvS C.K ta δ d1) (hr : EvSA C.K tr δ dr) (r : R d1 dr ks ds ks' ds' (.bl b))
    (q : ∀ Hs H', At C (δ.set i (.ow ⟨some ks', p, ds'⟩)) σ Hs H' → Q b H') : tB (tCall (SpM C.K R) [] E (tCons ta (tCons (tVar i) tr))) σ H Q := by
  refine h1 σ Hk a.dat H a.same _ fun v1 H1 H1' x1 r1 => ?_
  have a1 := a.go x1
  obtain ⟨l, xs, e1, _, _, _, _⟩ := a1.own i _ e
  refine ⟨_, e1, ?_⟩
  refine hr σ H1 a1.dat H1' a1.same _ fun vr H2 H2' x2 r2 => ?_
  have a2 := a1.go x2
  obtain ⟨l2, xs, f1, f2, f3, f4, f5⟩ := a2.own i _ e
  rw [e1] at f1
  cases f1
  show SpM C.K R (v1 :: .ref l :: vr ++ []) H2' _ E
  rw [List.append_nil]
  refine ⟨H2, l, v1, vr, d1, dr, ks, xs, ds, ks', ds', .bl b, rfl, x2.st, f3, f4, f5.kl _ rfl, f5.rs, r1.up x2.kn, r2, r, fun v xs' Hs H' x hs hl hk rs rv => ?_⟩
  cases rv
  exact ⟨b, rfl, q Hs H' (a2.mutX (o' := ⟨some ks', p, ds'⟩) e e1 x hs hl ⟨rs, fun _ z => by cases z; exact hk, f5.pl⟩)⟩
end
end Bw
set_option Elab.async false
set_option linter.all false
set_option maxRecDepth 100000
set_option maxHeartbeats 2000000
namespace Bw
open PySem L2
/-! ### words and rounds -/
abbrev Fd := List (Str × Bool × Nat)
def fget (F : Fd) (x : Str) : Option (Bool × Nat) := (F.find? fun p => decide (p.1 = x)).map (·.2)
def wd (b : Bool) : Str := if b then "held" else "out"
def fda (q : Bool × Nat) : Da := .tup [.str (wd q.1), .int q.2]
def fks (F : Fd) : List Str := F.map (·.1)
def fvs (F : Fd) : List Da := F.map fun p => fda p.2
def dctF (F : Fd) : Da := .dct (fks F) (fvs F)
theorem fvs_len (F : Fd) : (fvs F).length = F.length := by simp [fvs]
theorem fks_len (F : Fd) : (fks F).length = F.length := by simp [fks]
theorem dget_F {F : Fd} {x : Str} : dget (fks F) (fvs F) x = (fget F x).map fda := by
  unfold fks fvs
  rw [dget_map]
  unfold fget
  rw [Option.map_map] <;> rfl
theorem fget_none {F : Fd} {x : Str} : fget F x = none ↔ x ∉ fks F := by
  unfold fget fks
  rw [Option.map_eq_none_iff, List.find?_eq_none]
  constructor
  · intro h m
    obtain ⟨p, hp, e⟩ := List.mem_map.mp m
    have := h p hp
    simp at this
    exact this e
  · intro h p hp
    simp only [decide_eq_true_eq]
    exact fun e => h (List.mem_map.mpr ⟨p, hp, e⟩)
theorem fget_app {F G : Fd} {x : Str} : fget (F ++ G) x = (fget F x).or (fget G x) := by
  unfold fget
  rw [List.find?_append]
  cases F.find? fun p => decide (p.1 = x) <;> rfl
def isW (F : Fd) (x : Str) (b : Bool) : Bool := match fget F x with
  | some q => q.1 == b
  | none => false
def canHeld (ps : List Pr) (F : Fd) (x : Str) : Bool := (fget F x).isNone && (spk ps x).all fun y => isW F y false
def canOut (ps : List Pr) (F : Fd) (x : Str) : Bool := (fget F x).isNone && (spk ps x).any fun y => isW F y true
def stepH (ns : List Str) (ps : List Pr) (F : Fd) (t : Nat) : Fd := F ++ (ns.filter (canHeld ps F)).map fun x => (x, true, t)
def stepO (ns : List Str) (ps : List Pr) (F : Fd) (t : Nat) : Fd := F ++ (ns.filter (canOut ps F)).map fun x => (x, false, t)
def step (ns : List Str) (ps : List Pr) (F : Fd) (t : Nat) : Fd := stepO ns ps (stepH ns ps F t) t
def rounds (ns : List Str) (ps : List Pr) : Nat → Fd
  | 0 => []
  | t + 1 => step ns ps (rounds ns ps t) (t + 1)
structure GoodF (ns : List Str) (F : Fd) : Prop where
  sub : ∀ x ∈ fks F, x ∈ ns
  nd : (fks F).Nodup
theorem fks_app {F G : Fd} : fks (F ++ G) = fks F ++ fks G := by simp [fks]
theorem fvs_app {F G : Fd} : fvs (F ++ G) = fvs F ++ fvs G := by simp [fvs]
theorem fks_new {xs : List Str} {b : Bool} {t : Nat} : fks (xs.map fun x => (x, b, t)) = xs := by
  unfold fks
  rw [List.map_map]
  exact List.map_id xs
theorem fvs_new {xs : List Str} {b : Bool} {t : Nat} : fvs (xs.map fun x => (x, b, t)) = xs.map fun _ => fda (b, t) := by
  unfold fvs
  rw [List.map_map] <;> rfl
theorem GoodF.grow {ns : List Str} {F : Fd} (g : GoodF ns F) (nd : ns.Nodup) {p : Str → Bool} (hp : ∀ x, p x = true → x ∉ fks F) {b : Bool} {t : Nat} : GoodF ns (F ++ (ns.filter p).map fun x => (x, b, t)) where
  sub := fun x hx => by
    rw [fks_app, fks_new, List.mem_append] at hx
    rcases hx with hx | hx
    · exact g.sub x hx
    · exact (List.mem_filter.mp hx).1
  nd := by
    rw [fks_app, fks_new, List.nodup_append]
    exact ⟨g.nd, nd.filter _, fun a ha c hc e => hp c (List.mem_filter.mp hc).2 (e ▸ ha)⟩
theorem canHeld_new {ps : List Pr} {F : Fd} {x : Str} (h : canHeld ps F x = true) : x ∉ fks F := by
  unfold canHeld at h
  rw [Bool.and_eq_true] at h
  exact fget_none.mp (Option.isNone_iff_eq_none.mp h.1)
theorem canOut_new {ps : List Pr} {F : Fd} {x : Str} (h : canOut ps F x = true) : x ∉ fks F := by
  unfold canOut at h
  rw [Bool.and_eq_true] at h
  exact fget_none.mp (Option.isNone_iff_eq_none.mp h.1)
section
variable {ns : List Str} {ps : List Pr} {F : Fd} {t : Nat}
theorem GoodF.stepH (g : GoodF ns F) (nd : ns.Nodup) : GoodF ns (stepH ns ps F t) := g.grow nd fun _ h => canHeld_new h
theorem GoodF.stepO (g : GoodF ns F) (nd : ns.Nodup) : GoodF ns (stepO ns ps F t) := g.grow nd fun _ h => canOut_new h
theorem GoodF.step (g : GoodF ns F) (nd : ns.Nodup) : GoodF ns (step ns ps F t) := (g.stepH nd).stepO nd
theorem GoodF.rounds (nd : ns.Nodup) : ∀ t, GoodF ns (rounds ns ps t)
  | 0 => ⟨fun x hx => (by cases hx), List.nodup_nil⟩
  | t + 1 => (GoodF.rounds nd t).step nd
theorem nodup_sub_len : ∀ {l ns : List Str}, l.Nodup → (∀ x ∈ l, x ∈ ns) → l.length ≤ ns.length
  | [], _, _, _ => Nat.zero_le _
  | x :: l, ns, nd, h => by
    have nd := List.nodup_cons.mp nd
    have hx := h x (List.mem_cons_self ..)
    have := nodup_sub_len (l := l) (ns := ns.erase x) nd.2 fun y hy => (List.mem_erase_of_ne (fun e => nd.1 (by rw [← e]; exact hy))).mpr (h y (List.mem_cons_of_mem _ hy))
    rw [List.length_erase_of_mem hx] at this
    have : 0 < ns.length := List.length_pos_of_mem hx
    simp only [List.length_cons]
    omega
theorem GoodF.len (g : GoodF ns F) : F.length ≤ ns.length := by
  rw [← fks_len]
  exact nodup_sub_len g.nd g.sub
theorem stepH_len : (stepH ns ps F t).length = F.length + (ns.filter (canHeld ps F)).length := by simp [stepH]
theorem stepO_len : (stepO ns ps F t).length = F.length + (ns.filter (canOut ps F)).length := by simp [stepO]
theorem step_len : F.length ≤ (step ns ps F t).length := by
  unfold step
  rw [stepO_len, stepH_len]
  omega
/-- a round that brings none: then none does any more -/
theorem step_same (h : (step ns ps F t).length = F.length) (u : Nat) : step ns ps F u = F := by
  unfold step at h ⊢
  rw [stepO_len, stepH_len] at h
  have e1 : ns.filter (canHeld ps F) = [] := List.eq_nil_of_length_eq_zero (by omega)
  have e2 : ∀ v, stepH ns ps F v = F := fun v => by
    unfold stepH
    rw [e1]
    simp
  rw [e2] at h
  have e3 : ns.filter (canOut ps F) = [] := List.eq_nil_of_length_eq_zero (by omega)
  rw [e2]
  unfold stepO
  rw [e3]
  simp
theorem rounds_rest (h : (rounds ns ps (t + 1)).length = (rounds ns ps t).length) : ∀ k, rounds ns ps (t + k) = rounds ns ps t
  | 0 => rfl
  | k + 1 => by
    show step ns ps (rounds ns ps (t + k)) (t + k + 1) = _
    rw [rounds_rest h k]
    exact step_same h _
/-- the last rounds -/
def told (ns : List Str) (ps : List Pr) : Fd := rounds ns ps (ns.length + 1)
theorem told_at (h : (rounds ns ps (t + 1)).length = (rounds ns ps t).length) (ht : t ≤ ns.length) : rounds ns ps t = told ns ps := by
  unfold told
  have := rounds_rest h (ns.length + 1 - t)
  rw [show t + (ns.length + 1 - t) = ns.length + 1 by omega] at this
  exact this.symm
end
def wda : Option (Bool × Nat) → Da
  | some q => fda q
  | none => .tup [.str "open", .int 0]
def wordsD (ns : List Str) (ps : List Pr) : List Da := ns.map fun x => wda (fget (told ns ps) x)
section
variable {K : PySem.W.Frag} {δ : List Sl} {td ty tc : TE} {F : Fd} {x : Str} {q : Bool × Nat}
theorem evs_dinF (hy : EvS K ty δ (.str x)) (hd : EvS K td δ (dctF F)) : EvS K (tDIn ty td) δ (.bl (fget F x).isSome) := by
  have h := evs_din hy hd
  rw [dget_F, Option.isSome_map] at h
  exact h
theorem evs_dnotinF (hy : EvS K ty δ (.str x)) (hd : EvS K td δ (dctF F)) : EvS K (tDNotIn ty td) δ (.bl (!(fget F x).isSome)) := by
  have h := evs_dnotin hy hd
  rw [dget_F, Option.isSome_map] at h
  exact h
theorem evs_dgetF (hd : EvS K td δ (dctF F)) (hy : EvS K ty δ (.str x)) (e : fget F x = some q) : EvS K (tDGet td ty) δ (fda q) := evs_dget hd hy (by rw [dget_F, e] <;> rfl)
theorem evs_dget2F (hd : EvS K td δ (dctF F)) (hy : EvS K ty δ (.str x)) (hz : EvS K tc δ (.tup [.str "open", .int 0])) : EvS K (tDGet2 td ty tc) δ (wda (fget F x)) := by
  have h := evs_dget2 hd hy hz
  rw [dget_F] at h
  cases e : fget F x with
  | none => rw [e] at h; exact h
  | some q => rw [e] at h; exact h
end
section
variable {C : Ct} {δ : List Sl} {D : Ends} {te : TE} {t2 : TS} {ds : List Da} {i : Nat}
/-- a new list that hangs on the slots' own things, of flat items -/
theorem go_setNF (h : EvSN C.K te (δ.map Sl.frz) ds) (f : ∀ d ∈ ds, d.flat = true) (q : Nx C D.nx (δ.set i (.own ds))) : Go C (tAsg te (gName i)) D δ := fun σ Hk H a =>
  h σ H a.frz H (Same.refl _) _ fun l xs Hs H' x h0 hs hl r => by
    have a' := a.go (Ext.of_up a.same x.up)
    have rf : ∀ (es : List Da) (ys : List V), (∀ d ∈ es, d.flat = true) → DRs C.K Hs ys es → DRs C.K Hk ys es := by
      intro es
      induction es with
      | nil => intro ys _ r; cases r; exact .nil
      | cons e es ih =>
        intro ys f r
        cases r with
        | cons r1 r2 => exact .cons (r1.flat (f e (List.mem_cons_self ..))) (ih _ (fun d hd => f d (List.mem_cons_of_mem _ hd)) r2)
    exact q _ Hk H' (a'.setO (a.ext.up.free h0) (a.same.free h0) hl (rf ds xs f r) fun j es m e1 e2 => own_ne a h0 j es m e1 e2)
theorem sq_setNF (h : EvSN C.K te (δ.map Sl.frz) ds) (f : ∀ d ∈ ds, d.flat = true) (q : Go C t2 D (δ.set i (.own ds))) : Go C (tSeq (tAsg te (gName i)) t2) D δ := go_seq (go_setNF h f q)
end
theorem flatD_strs {xs : List Str} : ∀ d ∈ xs.map Da.str, d.flat = true := by
  intro d hd
  obtain ⟨x, _, rfl⟩ := List.mem_map.mp hd
  rfl
theorem wd_ok (b : Bool) : okS (wd b) := by cases b <;> (unfold okS; decide +kernel)
theorem wd_inj {a b : Bool} : (wd a = wd b) ↔ a = b := by cases a <;> cases b <;> simp [wd] <;> decide +kernel
end Bw
set_option Elab.async false
set_option linter.all false
set_option maxRecDepth 100000
set_option maxHeartbeats 2000000
namespace Bw
open PySem L2
/-! ### for k in d -/
mutual
def noF : Da → Bool
  | .lst ds => noFs ds
  | .tup ds => noFs ds
  | .ins _ _ ds => noFs ds
  | .dct _ ds => noFs ds
  | .dcf _ _ _ => false
  | _ => true
def noFs : List Da → Bool
  | [] => true
  | d :: ds => noF d && noFs ds
end
section
variable {K : PySem.W.Frag} {H H' : Hp} {l : Addr} {o : Obj} {kvs : List (Key × V)}
theorem less_seq {a : Addr} {xs : List V} (e : H l = some (.frz o (.dK kvs))) (h : SqL K H a xs) : SqL K (less H [l]) a xs := by
  have k : ∀ b u, H b = some u → u ≠ .frz o (.dK kvs) → less H [l] b = some u := fun b u z n => less_of z (by
    rw [List.mem_singleton]
    intro w
    rw [w, e] at z
    cases z
    exact n rfl)
  rcases h with (h | ⟨o', h⟩) | h
  · exact .inl (.inl (k _ _ h fun z => by cases z))
  · exact .inl (.inr ⟨o', k _ _ h fun z => by cases z⟩)
  · exact .inr h
mutual
theorem DR.noF (e : H l = some (.frz o (.dK kvs))) : ∀ (d : Da) (v : V), noF d = true → DR K H v d → DR K (less H [l]) v d
  | .non, _, _, h => by cases h; exact .non
  | .bl b, _, _, h => by cases h; exact .bl b
  | .int i, _, _, h => by cases h; exact .int i
  | .str x, _, _, h => by cases h; exact .str x
  | .ty x, _, _, h => by cases h; exact .ty x
  | .cls x, _, _, h => by cases h; exact .cls x
  | .lst ds, _, n, h => by
    have n : noFs ds = true := by simpa [Bw.noF] using n
    cases h with
    | lst hs ha =>
      refine .lst (less_of hs ?_) (DRs.noF e ds _ n ha)
      rw [List.mem_singleton]
      intro w
      rw [w, e] at hs
      cases hs
  | .scr ns, _, _, h => by
    cases h with
    | scr hs => exact .scr (less_seq e hs)
  | .tup ds, _, n, h => by
    have n : noFs ds = true := by simpa [Bw.noF] using n
    cases h with
    | tup hs ha =>
      refine .tup ?_ (DRs.noF e ds _ n ha)
      rcases hs with (h | ⟨o', h⟩) | h
      · refine .inl (.inl (less_of h ?_))
        rw [List.mem_singleton]
        intro w
        rw [w, e] at h
        cases h
      · refine .inl (.inr ⟨o', less_of h ?_⟩)
        rw [List.mem_singleton]
        intro w
        rw [w, e] at h
        cases h
      · exact .inr h
  | .ins C ks ds, _, n, h => by
    have n : noFs ds = true := by simpa [Bw.noF] using n
    cases h with
    | ins hs hl ha =>
      refine .ins (less_of hs ?_) hl (DRs.noF e ds _ n ha)
      rw [List.mem_singleton]
      intro w
      rw [w, e] at hs
      cases hs
  | .dct ks ds, _, n, h => by
    have n : noFs ds = true := by simpa [Bw.noF] using n
    cases h with
    | dct hs hl ha =>
      refine .dct (less_of hs ?_) hl (DRs.noF e ds _ n ha)
      rw [List.mem_singleton]
      intro w
      rw [w, e] at hs
      cases hs
  | .dcf _ _ _, _, n, _ => by simp [Bw.noF] at n
theorem DRs.noF (e : H l = some (.frz o (.dK kvs))) : ∀ (ds : List Da) (vs : List V), noFs ds = true → DRs K H vs ds → DRs K (less H [l]) vs ds
  | [], _, _, h => by cases h; exact .nil
  | d :: ds, _, n, h => by
    have n : Bw.noF d = true ∧ noFs ds = true := by simpa [noFs] using n
    cases h with
    | cons h1 h2 => exact .cons (DR.noF e d _ n.1 h1) (DRs.noF e ds _ n.2 h2)
end
end
theorem noFs_map {α : Type} {f : α → Da} (h : ∀ x, noF (f x) = true) : ∀ xs : List α, noFs (xs.map f) = true
  | [] => rfl
  | x :: xs => by rw [List.map_cons]; unfold noFs; rw [h x, noFs_map h xs] <;> rfl
section
variable {K : PySem.W.Frag} {δ : List Sl} {td ty : TE} {ks : List Str} {ds : List Da} {l : Addr} {x : Str} {d : Da}
theorem evs_dgetL (hd : EvS K td δ (.dcf l ks ds)) (hy : EvS K ty δ (.str x)) (e : dget ks ds x = some d) : EvS K (tDGet td ty) δ d := fun σ Hk D H s Q q =>
  hd σ Hk D H s _ fun v1 H1 H1' x1 r1 => hy σ H1 (D.up x1.kn) H1' x1.st _ fun v2 H2 H2' x2 r2 => by
    cases r2
    cases r1.up x2.kn with
    | dcf e1 h r =>
      have o := dget_o x h r
      rw [e] at o
      obtain ⟨v, ev, rv⟩ := o.some_of
      refine ⟨_, v, rfl, ?_, q _ H2 H2' (x1.trans x2) rv⟩
      rw [← ev]
      exact .inl ⟨_, .inr x, .inr ⟨_, x2.st _ _ e1⟩, rfl, rfl⟩
theorem kvz_at : ∀ {ks : List Str} {xs : List V} {i : Nat} {k : Key} {v : V}, (kvz ks xs)[i]? = some (k, v) → ∃ z, ks[i]? = some z ∧ k = .inr z
  | [], _, i, k, v, h => by simp [kvz] at h
  | _ :: _, [], i, k, v, h => by simp [kvz] at h
  | z :: ks, y :: xs, 0, k, v, h => by
    rw [kvz_cons] at h
    cases h
    exact ⟨z, rfl, rfl⟩
  | z :: ks, y :: xs, i + 1, k, v, h => by
    rw [kvz_cons] at h
    obtain ⟨w, h1, h2⟩ := kvz_at (i := i) (by simpa using h)
    exact ⟨w, by simpa using h1, h2⟩
theorem itd_keysL (h : EvS K td δ (.dcf l ks ds)) : ItD K (iKeys td) δ (ks.map Da.str) := fun σ Hk D H s R q =>
  h σ Hk D H s _ fun v Hs H' x r => by
    cases r with
    | dcf e hl r1 =>
      refine ⟨_, _, rfl, .inl ⟨_, x.st _ _ e, q _ Hs H' x ⟨fun i H d s e2 => ⟨s _ _ e, ?_⟩, fun i H x H' d Hk s1 s2 e2 y => ?_, fun H s => ⟨s _ _ e, ?_⟩⟩⟩⟩
      · have := (List.getElem?_eq_some_iff.mp e2).1
        rw [List.length_map] at this
        rw [kvz_len hl]
        exact this
      · obtain ⟨rfl, k, v, y1, y2⟩ := y
        refine ⟨Hk, Ext.refl s2, ?_⟩
        obtain ⟨z, z1, z2⟩ := kvz_at y1
        rw [List.getElem?_map, z1] at e2
        cases e2
        subst y2
        subst z2
        exact .str z
      · rw [kvz_len hl, List.length_map]
        exact Nat.le_refl _
end
section
variable {C : Ct} {δ : List Sl} {D : Ends} {t2 : TS} {ds : List Da} {ks : List Str} {i : Nat}
theorem sq_lockK {g : TG} {tb : TS} (e : δ[i]? = some (.ow ⟨some ks, none, ds⟩)) (one : ∀ (j : Nat) (o : Ow), δ[j]? = some (Sl.ow o) → j = i) (I : Addr → Nat → List Sl → Prop) (h0 : ∀ l, I l 0 (δ.set i (.dat (.dcf l ks ds))))
    (hs : ∀ (C' : Ct) (rt : VK) (nx : L2.St → Hp → Prop) (l : Addr), C'.K = C.K → ∀ (j : Nat) (d : Da) (δ1 : List Sl), (ks.map Da.str)[j]? = some d → I l j δ1 → ∃ δ2, TgA C'.K g d δ1 δ2 ∧ Go C' tb { nx := Reach C' (I l (j + 1)), rt := rt, ct := Reach C' (I l (j + 1)), bk := nx } δ2)
    (hd : ∀ l δ1, I l ks.length δ1 → δ1[i]? = some (.dat (.dcf l ks ds)) ∧ (∀ (j : Nat) (o : Ow), δ1[j]? ≠ some (Sl.ow o)) ∧ (∀ (j : Nat) (d : Da), δ1[j]? = some (Sl.dat d) → j = i ∨ noF d = true) ∧ Go C t2 D (δ1.set i (.dct ks ds))) :
    Go C (tSeq (tLock (tFor (iKeys (tVar i)) g tb)) t2) D δ := fun σ Hk H a => by
  obtain ⟨l, xs, e1, e2, e3, e4, rs⟩ := a.own i _ e
  have e4 : H l = some (.dK (kvz ks xs)) := e4
  have hle := rs.kl _ rfl
  refine ⟨l, _, e4, True.intro, fun od => ?_⟩
  let F : HO := .frz od (.dK (kvz ks xs))
  have k0 : Same Hk (upd Hk l F) := same_upd e3
  have a0 : At C (δ.set i (.dat (.dcf l ks ds))) σ (upd Hk l F) (upd H l F) := by
    refine ⟨⟨same_updK a.ext.up e2, a.ext.kn.trans k0, same_upd2 a.ext.st, fun b u z n => ?_⟩, ⟨by rw [List.length_set]; exact a.len, fun j d h => ?_⟩, fun j es h => ?_, fun j m es fs n ne h1 h2 => ?_, fun P hP => (a.pin P hP).trans k0⟩
    · by_cases hb : b = l
      · rw [hb]; exact e2
      · rw [upd_ne hb] at z
        exact a.ext.nw b u z n
    · rcases set_at h with ⟨rfl, z⟩ | ⟨n, z⟩
      · cases z
        exact ⟨_, e1, .dcf upd_same hle (rs.rs.up k0)⟩
      · obtain ⟨v, q1, q2⟩ := a.dat.get j d z
        exact ⟨v, q1, q2.up k0⟩
    · rcases set_at h with ⟨rfl, z⟩ | ⟨n, z⟩
      · cases z
      · exact (n (one j es z)).elim
    · rcases set_at h1 with ⟨rfl, z⟩ | ⟨n1, z1⟩
      · cases z
      · exact (n1 (one j es z1)).elim
  have hl0 : C.Hc l = none := by
    cases z : C.Hc l with
    | none => rfl
    | some u =>
      have := a.ext.kn l u z
      rw [e3] at this
      cases this
  refine go_for (C := C.pin (upd Hk l F)) (itd_keysL (evs_var (List.getElem?_set_self (List.getElem?_eq_some_iff.mp e).1))) (I l) (h0 l) (fun P j d δ1 hj hI => hs ((C.pin (upd Hk l F)).pin P) _ _ l rfl j d δ1 hj hI) (fun δ1 hI => ?_) σ _ _ (a0.pinned (Same.refl _))
  rintro σ' Hk1 H1 a1
  rw [List.length_map] at hI
  obtain ⟨f1, f2, f3, f4⟩ := hd l δ1 hI
  have p1 : Hk1 l = some F := (a1.pin _ (List.mem_cons_self ..)) _ _ upd_same
  have p2 : H1 l = some F := a1.same _ _ p1
  refine ⟨p2, ?_⟩
  have kx : Same (less Hk1 [l]) (upd H1 l (.dK (kvz ks xs))) := fun b u z => by
    obtain ⟨z1, z2⟩ := less_some z
    rw [List.mem_singleton] at z1
    rw [upd_ne z1]
    exact a1.same _ _ z2
  obtain ⟨v, g1, g2⟩ := a1.dat.get i _ f1
  cases id g2 with
  | dcf w1 w2 w3 =>
    rename_i od2 xs2
    rw [p1] at w1
    have w1 : F = .frz od2 (.dK (kvz ks xs2)) := Option.some.inj w1
    have : xs2 = xs := by
      have w : kvz ks xs = kvz ks xs2 := by
        injection w1 with _ w
        injection w
      have h2 : ∀ (ks : List Str) (xs ys : List V), ks.length = xs.length → ks.length = ys.length → kvz ks xs = kvz ks ys → ys = xs := by
        intro ks
        induction ks with
        | nil => intro xs ys h1 h2 _; cases xs <;> cases ys <;> first | rfl | (simp at h1; done) | (simp at h2; done)
        | cons k ks ih =>
          intro xs ys h1 h2 h
          cases xs with
          | nil => simp at h1
          | cons x xs =>
            cases ys with
            | nil => simp at h2
            | cons y ys =>
              rw [kvz_cons, kvz_cons] at h
              injection h with h3 h4
              injection h3 with _ h3
              rw [h3, ih xs ys (by simpa using h1) (by simpa using h2) h4]
      exact h2 ks xs xs2 hle w2 w
    subst this
    have nn : ∀ (es : List Da) (ys : List V), DRs C.K Hk ys es → DRs C.K (less Hk1 [l]) ys es := fun es ys r => r.up fun b u z => less_of ((a1.pin _ (List.mem_cons_self ..)) _ _ (k0 _ _ z)) (by
      rw [List.mem_singleton]
      intro w
      rw [w, e3] at z
      cases z)
    refine f4 σ' (less Hk1 [l]) _ ⟨⟨same_updK a1.ext.up e2, fun b u z => ?_, kx, fun b u z n => a1.ext.nw b u (less_some z).2 n⟩, ⟨by rw [List.length_set]; exact a1.len, fun j d h => ?_⟩, fun j es h => ?_, fun j m es fs n ne h1 h2 => ?_, fun P hP => fun b u z => ?_⟩
    · refine less_of (a1.ext.kn _ _ z) ?_
      rw [List.mem_singleton]
      intro w
      have z : C.Hc b = some u := z
      rw [w, hl0] at z
      cases z
    · rcases set_at h with ⟨rfl, z⟩ | ⟨n, z⟩
      · cases z
      · obtain ⟨v, q1, q2⟩ := a1.dat.get j d z
        exact ⟨v, q1, DR.noF p1 d v ((f3 j d z).resolve_left n) q2⟩
    · rcases set_at h with ⟨rfl, z⟩ | ⟨n, z⟩
      · cases z
        exact ⟨l, xs2, g1, e2, less_none (by simp), upd_same, nn _ _ rs.rs, fun _ z => by cases z; exact hle, fun _ z => by cases z⟩
      · exact (f2 j es z).elim
    · rcases set_at h1 with ⟨rfl, z⟩ | ⟨n1, z1⟩
      · rcases set_at h2 with ⟨rfl, z⟩ | ⟨n2, z2⟩
        · exact (ne rfl).elim
        · exact (f2 m fs z2).elim
      · exact (f2 j es z1).elim
    · refine less_of (a1.pin P (List.mem_cons_of_mem _ hP) _ _ z) ?_
      rw [List.mem_singleton]
      intro w
      have := a.pin P hP _ _ z
      rw [w, e3] at this
      cases this
end
end Bw
set_option Elab.async false
set_option linter.all false
set_option maxRecDepth 100000
set_option maxHeartbeats 2000000
/-! sorted of pairs of a whole number and a text: some order of them -/
namespace Bw
open PySem L2
open PyProof.Rows.G (tupKeyC tupKeyC_of sorted_tups)
open PyProof.Rows (TupsOf TupOf)
/-- the form: a number first, then texts -/
def numTxt : Nat → Bool := fun k => k != 0
/-- what a tracked pair is in the heap -/
theorem pair_raw {X : Cx} {pins : List (Addr × Obj)} {σ : L2.St} {H : Hp} {s : Shared} (I : Inv X pins σ H s) {t : Addr} {j : Int} {z : Str} (h : SqT X.K H t [.int j, .str z]) :
    (∃ f, TupOf s.heap numTxt (.ref t) f) ∧ ∃ k, tupKeyC s.heap numTxt (.ref t) = some k := by
  obtain ⟨us, rel, ⟨ob, at_, cl, c, dat⟩, _⟩ := I.tuple h
  cases rel with
  | cons rj rest =>
    cases rest with
    | cons rz nil' =>
      cases nil'
      obtain ⟨tj, rfl⟩ := rj
      obtain ⟨tz, rfl⟩ := rz
      exact ⟨⟨.int j tj, t, ob, _, c, rfl, at_, cl, dat, rfl, fun _ => ⟨j, tj, rfl⟩, fun z => by cases z⟩, _, tupKeyC_of at_ cl dat rfl⟩
theorem pairs_raw {h : Heap} : ∀ us : List Value, (∀ u ∈ us, ∃ f, TupOf h numTxt u f) → ∃ fs, TupsOf h numTxt us fs
  | [], _ => ⟨[], .nil⟩
  | u :: us, all => by
    obtain ⟨f, hf⟩ := all u (List.mem_cons_self ..)
    obtain ⟨fs, hfs⟩ := pairs_raw us fun v hv => all v (List.mem_cons_of_mem _ hv)
    exact ⟨f :: fs, .cons hf hfs⟩
def rSortQ (K : PySem.W.Frag) : List V → Hp → VK → Prop := fun vs H Q => ∃ a xs, vs = [V.ref a] ∧ SqL K H a xs ∧ (∀ x ∈ xs, ∃ t i y, x = V.ref t ∧ SqT K H t [.int i, .str y]) ∧ ∀ ys p, ys.Perm xs → H p = none → Q (.ref p) (upd H p (.lst ys))
theorem cr_sortQ {X : Cx} : CallR X (.builtin "sorted") (rSortQ X.K) := fun pins s σ H vs us Q I rel ask => by
  obtain ⟨l, xs, hv, at_, form, wish⟩ := ask
  subst hv
  cases rel with
  | cons rl nil' =>
    cases nil'
    cases rl
    obtain ⟨items, ri, isl, small⟩ := I.list at_
    obtain ⟨back, refs⟩ := refs_back ri fun x hx => (form x hx).imp fun t h => h.elim fun _ h => h.elim fun _ h => h.1
    have raw : ∀ u ∈ items, (∃ f, TupOf s.heap numTxt u f) ∧ ∃ k, tupKeyC s.heap numTxt u = some k := fun u hu => by
      obtain ⟨t, rfl⟩ := refs u hu
      obtain ⟨t', j, z, et, ht⟩ := form (.ref t) (back ▸ List.mem_map.mpr ⟨_, hu, rfl⟩)
      cases et
      exact pair_raw I ht
    obtain ⟨fs, tups⟩ := pairs_raw items fun u hu => (raw u hu).1
    have fits : items.length ≤ sizeLine := ri.length ▸ small
    refine sorted_tups isl.isList tups (fun u hu => (raw u hu).2) fits fun st perm _ _ => ?_
    let out : List Value := ((PyProof.Rows.arrOf st).map (·.2)).toList
    have po : out.Perm items := by
      have e := (Array.perm_iff_toList_perm.mp perm).map fun q : Value × Value => q.2
      have z : ((PyProof.Rows.pairsOf items).toList.map fun q : Value × Value => q.2) = items := by
        rw [PyProof.Rows.pairsOf_toList, List.map_snd_zip (Nat.le_refl _)]
      rw [z] at e
      show ((PyProof.Rows.arrOf st).map (·.2)).toList.Perm items
      rw [Array.toList_map]
      exact e
    have ro : ∀ u ∈ out, ∃ t, u = Value.ref t := fun u hu => refs u (po.mem_iff.mp hu)
    have pm : (out.map backV).Perm xs := back ▸ po.map backV
    obtain ⟨c, here⟩ := PyProof.Rows.sortedAll_at s.heap items ((PyProof.Rows.arrOf st).map (·.2))
    exact ⟨.ref _, upd H (s.heap.objs.size + 1) (.lst (out.map backV)), I.laid (t' := s.toks) (fun _ _ old => PyProof.Rows.sortedAll_old old) (Nat.le_succ _) ⟨Nat.le_trans (Nat.le_of_eq pm.length_eq) small, out, c, vals_back ro, here⟩, rfl, wish _ _ pm (I.hok.fresh (Nat.le_succ _))⟩
section
variable {K : PySem.W.Frag}
/-- in some order: of data that have a form, the same data, in another order -/
theorem drs_perm {H : Hp} {xs ys : List V} (p : ys.Perm xs) : ∀ {ds : List Da}, DRs K H xs ds → ∃ es : List Da, es.Perm ds ∧ DRs K H ys es := by
  induction p with
  | nil => intro ds r; exact ⟨ds, .refl _, r⟩
  | @cons x l1 l2 p ih =>
    intro ds r
    cases r with
    | cons r1 r2 =>
      obtain ⟨es, h1, h2⟩ := ih r2
      exact ⟨_ :: es, h1.cons _, .cons r1 h2⟩
  | swap x y l =>
    intro ds r
    cases r with
    | cons r1 r2 =>
      cases r2 with
      | cons r3 r4 => exact ⟨_, .swap .., .cons r3 (.cons r1 r4)⟩
  | @trans a b c p1 p2 ih1 ih2 =>
    intro ds r
    obtain ⟨es, h1, h2⟩ := ih2 r
    obtain ⟨fs, h3, h4⟩ := ih1 h2
    exact ⟨fs, h3.trans h1, h4⟩
end
section
variable {C : Ct} {δ : List Sl} {D : Ends} {te : TE} {t2 : TS} {ds : List Da} {i : Nat}
theorem go_sortQ (h : EvSN C.K te δ ds) (form : ∀ d ∈ ds, ∃ j y, d = .tup [.int j, .str y]) (q : ∀ es, es.Perm ds → Nx C D.nx (δ.set i (.own es))) : Go C (tAsg (tCB (rSortQ C.K) (tCons te tNil)) (gName i)) D δ := fun σ Hk H a =>
  h σ Hk a.dat H a.same _ fun l xs Hs H' x h0 hs hl r => by
    refine ⟨l, xs, rfl, SqL.of hl, fun v hv => ?_, fun ys p hp hp0 => ?_⟩
    · obtain ⟨k, hk⟩ := List.getElem?_of_mem hv
      obtain ⟨d, e, rd⟩ := r.atv hk
      obtain ⟨j, y, rfl⟩ := form d (List.mem_of_getElem? e)
      cases rd with
      | tup e2 r2 =>
        cases r2 with
        | cons r3 r4 =>
          cases r3
          cases r4 with
          | cons r5 r6 =>
            cases r5
            cases r6
            exact ⟨_, _, _, rfl, same_t x.st e2⟩
    · obtain ⟨es, pe, re⟩ := drs_perm hp r
      have x2 : Ext Hs H' Hs (upd H' p (.lst ys)) := ⟨same_upd hp0, Same.refl _, x.st.trans (same_upd hp0), fun b o z n => by rw [n] at z; cases z⟩
      have a' := (a.go x).go x2
      exact q es pe _ Hs _ (a'.setO (a.ext.up.free (x.up.free hp0)) (x.st.free hp0) upd_same re fun j es m e1 e2 => own_ne (a.go x) hp0 j es m e1 e2)
theorem sq_sortQ (h : EvSN C.K te δ ds) (form : ∀ d ∈ ds, ∃ j y, d = .tup [.int j, .str y]) (q : ∀ es, es.Perm ds → Go C t2 D (δ.set i (.own es))) : Go C (tSeq (tAsg (tCB (rSortQ C.K) (tCons te tNil)) (gName i)) t2) D δ := go_seq (go_sortQ h form q)
end
end Bw
set_option Elab.async false
set_option linter.all false
set_option maxRecDepth 100000
set_option maxHeartbeats 2000000
namespace Bw
open PySem L2
/-! ### what the words tell -/
section
variable {ns : List Str} {ps : List Pr} {F G : Fd} {t : Nat} {x y : Str} {q : Bool × Nat}
theorem fget_new {xs : List Str} {b : Bool} : fget (xs.map fun x => (x, b, t)) x = if x ∈ xs then some (b, t) else none := by
  induction xs with
  | nil => rfl
  | cons z xs ih =>
    unfold fget at ih ⊢
    rw [List.map_cons, List.find?_cons]
    by_cases e : z = x
    · rw [decide_eq_true e, if_pos (by simp [e])] <;> rfl
    · rw [decide_eq_false e]
      show (List.find? _ _).map _ = _
      rw [ih]
      by_cases h : x ∈ xs
      · rw [if_pos h, if_pos (List.mem_cons_of_mem _ h)]
      · rw [if_neg h, if_neg (fun z => h ((List.mem_cons.mp z).resolve_left fun w => e w.symm))]
theorem fget_H : fget (stepH ns ps F t) x = (fget F x).or (if x ∈ ns ∧ canHeld ps F x = true then some (true, t) else none) := by
  unfold stepH
  rw [fget_app, fget_new]
  congr 1
  by_cases h : x ∈ ns ∧ canHeld ps F x = true
  · rw [if_pos h, if_pos (List.mem_filter.mpr h)]
  · rw [if_neg h, if_neg (fun z => h (List.mem_filter.mp z))]
theorem fget_O : fget (stepO ns ps F t) x = (fget F x).or (if x ∈ ns ∧ canOut ps F x = true then some (false, t) else none) := by
  unfold stepO
  rw [fget_app, fget_new]
  congr 1
  by_cases h : x ∈ ns ∧ canOut ps F x = true
  · rw [if_pos h, if_pos (List.mem_filter.mpr h)]
  · rw [if_neg h, if_neg (fun z => h (List.mem_filter.mp z))]
theorem H_keep (h : fget F x = some q) : fget (stepH ns ps F t) x = some q := by rw [fget_H, h] <;> rfl
theorem O_keep (h : fget F x = some q) : fget (stepO ns ps F t) x = some q := by rw [fget_O, h] <;> rfl
theorem H_inv (h : fget (stepH ns ps F t) x = some q) : fget F x = some q ∨ (fget F x = none ∧ q = (true, t) ∧ x ∈ ns ∧ canHeld ps F x = true) := by
  rw [fget_H] at h
  cases e : fget F x with
  | some r =>
    rw [e] at h
    exact .inl h
  | none =>
    rw [e] at h
    by_cases c : x ∈ ns ∧ canHeld ps F x = true
    · rw [if_pos c] at h
      exact .inr ⟨rfl, (Option.some.inj h).symm, c.1, c.2⟩
    · rw [if_neg c] at h
      cases h
theorem O_inv (h : fget (stepO ns ps F t) x = some q) : fget F x = some q ∨ (fget F x = none ∧ q = (false, t) ∧ x ∈ ns ∧ canOut ps F x = true) := by
  rw [fget_O] at h
  cases e : fget F x with
  | some r =>
    rw [e] at h
    exact .inl h
  | none =>
    rw [e] at h
    by_cases c : x ∈ ns ∧ canOut ps F x = true
    · rw [if_pos c] at h
      exact .inr ⟨rfl, (Option.some.inj h).symm, c.1, c.2⟩
    · rw [if_neg c] at h
      cases h
theorem isW_iff {b : Bool} : isW F x b = true ↔ ∃ r, fget F x = some (b, r) := by
  unfold isW
  cases fget F x with
  | none => simp
  | some p =>
    obtain ⟨p1, p2⟩ := p
    simp
theorem canHeld_iff : canHeld ps F x = true ↔ fget F x = none ∧ ∀ y ∈ spk ps x, ∃ r, fget F y = some (false, r) := by
  unfold canHeld
  rw [Bool.and_eq_true, Option.isNone_iff_eq_none, List.all_eq_true]
  exact ⟨fun h => ⟨h.1, fun y hy => isW_iff.mp (h.2 y hy)⟩, fun h => ⟨h.1, fun y hy => isW_iff.mpr (h.2 y hy)⟩⟩
theorem canOut_iff : canOut ps F x = true ↔ fget F x = none ∧ ∃ y ∈ spk ps x, ∃ r, fget F y = some (true, r) := by
  unfold canOut
  rw [Bool.and_eq_true, Option.isNone_iff_eq_none, List.any_eq_true]
  exact ⟨fun ⟨h, y, hy, z⟩ => ⟨h, y, hy, isW_iff.mp z⟩, fun ⟨h, y, hy, z⟩ => ⟨h, y, hy, isW_iff.mpr z⟩⟩
structure RI (ns : List Str) (ps : List Pr) (t : Nat) (F : Fd) : Prop where
  a : ∀ x q, fget F x = some q → q.2 ≤ t
  h : ∀ x n, fget F x = some (true, n) → ∀ y ∈ spk ps x, ∃ r, fget F y = some (false, r)
  o : ∀ x n, fget F x = some (false, n) → (∃ y ∈ spk ps x, fget F y = some (true, n)) ∧ ∀ y ∈ spk ps x, ∀ r, fget F y = some (true, r) → n ≤ r
  c : ∀ x ∈ ns, fget F x = none → ∀ y ∈ spk ps x, ∀ r, fget F y ≠ some (true, r)
theorem RI.step (i : RI ns ps t F) : RI ns ps (t + 1) (step ns ps F (t + 1)) := by
  unfold Bw.step
  have hG : ∀ y r, fget (stepO ns ps (stepH ns ps F (t + 1)) (t + 1)) y = some (true, r) → fget (stepH ns ps F (t + 1)) y = some (true, r) := fun y r e => by
    rcases O_inv e with e | ⟨_, e, _⟩
    · exact e
    · cases e
  refine ⟨fun x q e => ?_, fun x n e y hy => ?_, fun x n e => ?_, fun x hx e y hy r er => ?_⟩
  · rcases O_inv e with e | ⟨_, rfl, _⟩
    · rcases H_inv e with e | ⟨_, rfl, _⟩
      · exact Nat.le_succ_of_le (i.a x q e)
      · exact Nat.le_refl _
    · exact Nat.le_refl _
  · rcases H_inv (hG x n e) with e | ⟨_, _, _, hc⟩
    · obtain ⟨r, er⟩ := i.h x n e y hy
      exact ⟨r, O_keep (H_keep er)⟩
    · obtain ⟨r, er⟩ := (canHeld_iff.mp hc).2 y hy
      exact ⟨r, O_keep (H_keep er)⟩
  · rcases O_inv e with e | ⟨en, eq, hx, hc⟩
    · rcases H_inv e with e | ⟨_, eq, _⟩
      · obtain ⟨⟨y, hy, ey⟩, h2⟩ := i.o x n e
        refine ⟨⟨y, hy, O_keep (H_keep ey)⟩, fun z hz r er => ?_⟩
        rcases H_inv (hG z r er) with er | ⟨_, er, _⟩
        · exact h2 z hz r er
        · cases er
          exact Nat.le_succ_of_le (i.a x _ e)
      · cases eq
    · cases eq
      have eF : fget F x = none := by
        cases z : fget F x with
        | none => rfl
        | some q =>
          rw [H_keep z] at en
          cases en
      have all : ∀ z ∈ spk ps x, ∀ r, fget (stepH ns ps F (t + 1)) z = some (true, r) → r = t + 1 := fun z hz r er => by
        rcases H_inv er with er | ⟨_, er, _⟩
        · exact (i.c x hx eF z hz r er).elim
        · cases er; rfl
      obtain ⟨_, y, hy, r, er⟩ := canOut_iff.mp hc
      refine ⟨⟨y, hy, ?_⟩, fun z hz r er => Nat.le_of_eq (all z hz r (hG z r er)).symm⟩
      rw [all y hy r er] at er
      exact O_keep er
  · have eG : fget (stepH ns ps F (t + 1)) x = none := by
      cases z : fget (stepH ns ps F (t + 1)) x with
      | none => rfl
      | some q =>
        rw [O_keep z] at e
        cases e
    have : fget (stepO ns ps (stepH ns ps F (t + 1)) (t + 1)) x = some (false, t + 1) := by
      rw [fget_O, eG, if_pos ⟨hx, canOut_iff.mpr ⟨eG, y, hy, r, hG y r er⟩⟩] <;> rfl
    rw [this] at e
    cases e
theorem RI.rounds : ∀ t, RI ns ps t (rounds ns ps t)
  | 0 => ⟨fun _ _ h => (by cases h), fun _ _ h => (by cases h), fun _ _ h => (by cases h), fun _ _ _ _ _ _ h => (by cases h)⟩
  | t + 1 => (RI.rounds t).step
theorem rounds_keep (h : fget (rounds ns ps t) x = some q) : ∀ k, fget (rounds ns ps (t + k)) x = some q
  | 0 => h
  | k + 1 => by
    show fget (step ns ps (rounds ns ps (t + k)) (t + k + 1)) x = some q
    unfold step
    exact O_keep (H_keep (rounds_keep h k))
theorem step_none (h : (step ns ps F t).length = F.length) : ∀ x ∈ ns, canHeld ps F x = false := by
  unfold step at h
  rw [stepO_len, stepH_len] at h
  have e1 : ns.filter (canHeld ps F) = [] := List.eq_nil_of_length_eq_zero (by omega)
  intro x hx
  cases e : canHeld ps F x with
  | false => rfl
  | true =>
    have := List.mem_filter.mpr ⟨hx, e⟩
    rw [e1] at this
    cases this
theorem some_rest (nd : ns.Nodup) : ∃ t, t ≤ ns.length ∧ (rounds ns ps (t + 1)).length = (rounds ns ps t).length := by
  refine Classical.byContradiction fun no => ?_
  have g : ∀ t, t ≤ ns.length + 1 → t ≤ (rounds ns ps t).length := by
    intro t
    induction t with
    | zero => intro _; exact Nat.zero_le _
    | succ t ih =>
      intro ht
      have h1 := ih (by omega)
      have h2 : (rounds ns ps t).length ≤ (rounds ns ps (t + 1)).length := step_len
      have h3 : (rounds ns ps (t + 1)).length ≠ (rounds ns ps t).length := fun e => no ⟨t, by omega, e⟩
      omega
  have h1 := g (ns.length + 1) (Nat.le_refl _)
  have h2 := (GoodF.rounds (ps := ps) nd (ns.length + 1)).len
  omega
theorem told_open (nd : ns.Nodup) (hx : x ∈ ns) (e : fget (told ns ps) x = none) : ∃ y ∈ spk ps x, fget (told ns ps) y = none := by
  obtain ⟨t, ht, er⟩ := some_rest (ps := ps) nd
  have et := told_at er ht
  have hc := step_none (F := rounds ns ps t) er x hx
  rw [et] at hc
  refine Classical.byContradiction fun no => ?_
  have : canHeld ps (told ns ps) x = true := canHeld_iff.mpr ⟨e, fun y hy => by
    cases q : fget (told ns ps) y with
    | none => exact (no ⟨y, hy, q⟩).elim
    | some p =>
      obtain ⟨b, r⟩ := p
      cases b with
      | false => exact ⟨r, rfl⟩
      | true => exact ((RI.rounds (ps := ps) (ns.length + 1)).c x hx e y hy r q).elim⟩
  rw [this] at hc
  cases hc
end
/-! ### brought one by one -/
abbrev Ld := List (Str × Bool)
def lget (L : Ld) (x : Str) : Option Bool := (L.find? fun p => decide (p.1 = x)).map (·.2)
def lst (o : Option Bool) : Str := match o with
  | some b => wd b
  | none => "open"
def lks (L : Ld) : List Str := L.map (·.1)
def lvs (L : Ld) : List Da := L.map fun p => Da.str (wd p.2)
def dctL (L : Ld) : Da := .dct (lks L) (lvs L)
def bring1 (ps : List Pr) (L : Ld) (x : Str) : Option Bool :=
  if (lget L x).isSome then none else if (spk ps x).any (fun y => decide (lget L y = some true)) then some false else if (spk ps x).any (fun y => decide (lget L y = none)) then none else some true
def findB (ps : List Pr) (L : Ld) : List Str → Option (Str × Bool)
  | [] => none
  | x :: xs => match bring1 ps L x with
    | some b => some (x, b)
    | none => findB ps L xs
def bringN (ps : List Pr) (tn : List Str) : Nat → Ld
  | 0 => []
  | k + 1 => match findB ps (bringN ps tn k) (tn.drop k ++ tn.take k) with
    | some p => bringN ps tn k ++ [p]
    | none => bringN ps tn k
section
variable {ns tn : List Str} {ps : List Pr} {L : Ld} {x y : Str} {b : Bool}
theorem findB_some : ∀ {xs : List Str}, findB ps L xs = some (x, b) → x ∈ xs ∧ bring1 ps L x = some b
  | z :: xs, h => by
    unfold findB at h
    cases e : bring1 ps L z with
    | some c =>
      rw [e] at h
      cases h
      exact ⟨List.mem_cons_self .., e⟩
    | none =>
      rw [e] at h
      obtain ⟨h1, h2⟩ := findB_some h
      exact ⟨List.mem_cons_of_mem _ h1, h2⟩
theorem findB_none : ∀ {xs : List Str}, findB ps L xs = none ↔ ∀ x ∈ xs, bring1 ps L x = none
  | [] => by simp [findB]
  | z :: xs => by
    unfold findB
    cases e : bring1 ps L z with
    | some c => simp [e]
    | none => simp [e, findB_none (xs := xs)]
theorem lget_app {M : Ld} : lget (L ++ M) x = (lget L x).or (lget M x) := by
  unfold lget
  rw [List.find?_append]
  cases L.find? fun p => decide (p.1 = x) <;> rfl
theorem lget_one : lget [(y, b)] x = if y = x then some b else none := by
  unfold lget
  by_cases e : y = x
  · rw [if_pos e, List.find?_cons, decide_eq_true e] <;> rfl
  · rw [if_neg e, List.find?_cons, decide_eq_false e] <;> rfl
theorem lget_none : lget L x = none ↔ x ∉ lks L := by
  unfold lget lks
  rw [Option.map_eq_none_iff, List.find?_eq_none]
  constructor
  · intro h m
    obtain ⟨p, hp, e⟩ := List.mem_map.mp m
    have := h p hp
    simp at this
    exact this e
  · intro h p hp
    simp only [decide_eq_true_eq]
    exact fun e => h (List.mem_map.mpr ⟨p, hp, e⟩)
def Sound (ns : List Str) (ps : List Pr) (L : Ld) : Prop := ∀ x b, lget L x = some b → ∃ n, fget (told ns ps) x = some (b, n)
theorem bring1_new (h : bring1 ps L x = some b) : lget L x = none := by
  unfold bring1 at h
  split at h
  · cases h
  · rename_i z
    cases e : lget L x with
    | none => rfl
    | some c => rw [e] at z; exact (z rfl).elim
theorem Sound.bring (s : Sound ns ps L) (nd : ns.Nodup) (hx : x ∈ ns) (h : bring1 ps L x = some b) : ∃ n, fget (told ns ps) x = some (b, n) := by
  have i := RI.rounds (ns := ns) (ps := ps) (ns.length + 1)
  change RI ns ps (ns.length + 1) (told ns ps) at i
  unfold bring1 at h
  split at h
  · cases h
  · split at h
    · rename_i hh
      cases h
      obtain ⟨y, hy, ey⟩ := List.any_eq_true.mp hh
      obtain ⟨n, en⟩ := s y true (of_decide_eq_true ey)
      cases e : fget (told ns ps) x with
      | none => exact (i.c x hx e y hy n en).elim
      | some q =>
        obtain ⟨c, m⟩ := q
        cases c with
        | false => exact ⟨m, rfl⟩
        | true =>
          obtain ⟨r, er⟩ := i.h x m e y hy
          rw [en] at er
          cases er
    · split at h
      · cases h
      · rename_i n1 n2
        cases h
        have all : ∀ y ∈ spk ps x, ∃ n, fget (told ns ps) y = some (false, n) := fun y hy => by
          cases e : lget L y with
          | none => exact (n2 (List.any_eq_true.mpr ⟨y, hy, decide_eq_true e⟩)).elim
          | some c =>
            cases c with
            | true => exact (n1 (List.any_eq_true.mpr ⟨y, hy, decide_eq_true e⟩)).elim
            | false => exact s y false e
        cases e : fget (told ns ps) x with
        | none =>
          obtain ⟨y, hy, ey⟩ := told_open nd hx e
          obtain ⟨n, en⟩ := all y hy
          rw [ey] at en
          cases en
        | some q =>
          obtain ⟨c, m⟩ := q
          cases c with
          | true => exact ⟨m, rfl⟩
          | false =>
            obtain ⟨⟨y, hy, ey⟩, _⟩ := i.o x m e
            obtain ⟨n, en⟩ := all y hy
            rw [ey] at en
            cases en
structure BI (ns : List Str) (ps : List Pr) (k : Nat) (L : Ld) : Prop where
  s : Sound ns ps L
  sub : ∀ x ∈ lks L, x ∈ ns
  nd : (lks L).Nodup
  fin : L.length = k ∨ ∀ x ∈ ns, bring1 ps L x = none
theorem BI.run (nd : ns.Nodup) (hp : tn.Perm ns) : ∀ k, BI ns ps k (bringN ps tn k)
  | 0 => ⟨fun _ _ h => (by cases h), fun _ h => (by cases h), List.nodup_nil, .inl rfl⟩
  | k + 1 => by
    have i := BI.run nd hp k
    have hm : ∀ x, x ∈ tn.drop k ++ tn.take k ↔ x ∈ ns := fun x => by
      rw [List.mem_append, or_comm, ← List.mem_append, List.take_append_drop]
      exact hp.mem_iff
    unfold bringN
    cases e : findB ps (bringN ps tn k) (tn.drop k ++ tn.take k) with
    | none =>
      refine ⟨i.s, i.sub, i.nd, .inr fun x hx => findB_none.mp e x ((hm x).mpr hx)⟩
    | some p =>
      obtain ⟨x, b⟩ := p
      obtain ⟨h1, h2⟩ := findB_some e
      have hx := (hm x).mp h1
      have hn := bring1_new h2
      refine ⟨fun y c h => ?_, fun y hy => ?_, ?_, ?_⟩
      · rw [lget_app, lget_one] at h
        cases q : lget (bringN ps tn k) y with
        | some d =>
          rw [q] at h
          exact i.s y c (q.trans h)
        | none =>
          rw [q] at h
          by_cases z : x = y
          · rw [if_pos z] at h
            cases h
            exact z ▸ i.s.bring nd hx h2
          · rw [if_neg z] at h
            cases h
      · unfold lks at hy
        rw [List.map_append, List.mem_append] at hy
        rcases hy with hy | hy
        · exact i.sub y hy
        · have : y = x := by simpa using hy
          exact this ▸ hx
      · unfold lks
        rw [List.map_append, List.nodup_append]
        refine ⟨i.nd, by simp, fun a ha c hc z => ?_⟩
        have : c = x := by simpa using hc
        subst this
        subst z
        exact lget_none.mp hn ha
      · rcases i.fin with z | z
        · exact .inl (by rw [List.length_append, z] <;> rfl)
        · rw [z x hx] at h2
          cases h2
theorem BI.closed (i : BI ns ps ns.length L) (nd : ns.Nodup) : ∀ x ∈ ns, bring1 ps L x = none := by
  rcases i.fin with z | z
  · intro x hx
    have e : x ∈ lks L := by
      refine Classical.byContradiction fun no => ?_
      have : (x :: lks L).length ≤ ns.length := nodup_sub_len (List.nodup_cons.mpr ⟨no, i.nd⟩) fun y hy => by
        rcases List.mem_cons.mp hy with rfl | hy
        · exact hx
        · exact i.sub y hy
      simp only [List.length_cons, lks, List.length_map] at this
      omega
    unfold bring1
    cases q : lget L x with
    | none => exact (lget_none.mp q e).elim
    | some c => rfl
  · exact z
theorem closed_all (s : Sound ns ps L) (cl : ∀ x ∈ ns, bring1 ps L x = none) (hs : ∀ x, ∀ y ∈ spk ps x, y ∈ ns) : ∀ t, t ≤ ns.length + 1 → ∀ x q, fget (rounds ns ps t) x = some q → x ∈ ns → lget L x ≠ none
  | 0, _, _, _, h, _ => by cases h
  | t + 1, ht, x, q, h, hx => by
    have ih := closed_all s cl hs t (by omega)
    have keep : ∀ y p, fget (rounds ns ps (t + 1)) y = some p → fget (told ns ps) y = some p := fun y p e => by
      have := rounds_keep e (ns.length + 1 - (t + 1))
      rw [show t + 1 + (ns.length + 1 - (t + 1)) = ns.length + 1 by omega] at this
      exact this
    have lab : ∀ y c r, y ∈ ns → fget (rounds ns ps (t + 1)) y = some (c, r) → lget L y ≠ none → lget L y = some c := fun y c r hy e n => by
      cases z : lget L y with
      | none => exact (n z).elim
      | some d =>
        obtain ⟨m, em⟩ := s y d z
        rw [keep y _ e] at em
        cases em
        rfl
    have stepR : rounds ns ps (t + 1) = stepO ns ps (stepH ns ps (rounds ns ps t) (t + 1)) (t + 1) := rfl
    -- held in this round
    have hH : ∀ y p, fget (stepH ns ps (rounds ns ps t) (t + 1)) y = some p → y ∈ ns → lget L y ≠ none := fun y p e hy => by
      rcases H_inv e with e | ⟨_, _, _, hc⟩
      · exact ih y p e hy
      · intro no
        have all := (canHeld_iff.mp hc).2
        have b := cl y hy
        unfold bring1 at b
        rw [no] at b
        have hl : ∀ z ∈ spk ps y, lget L z = some false := fun z hz => by
          obtain ⟨r, er⟩ := all z hz
          exact lab z false r (hs y z hz) (by rw [stepR]; exact O_keep (H_keep er)) (ih z _ er (hs y z hz))
        rw [if_neg (by simp), if_neg, if_neg] at b
        · cases b
        · intro w
          obtain ⟨z, hz, ez⟩ := List.any_eq_true.mp w
          have := of_decide_eq_true ez
          rw [hl z hz] at this
          cases this
        · intro w
          obtain ⟨z, hz, ez⟩ := List.any_eq_true.mp w
          have := of_decide_eq_true ez
          rw [hl z hz] at this
          cases this
    rw [stepR] at h
    rcases O_inv h with e | ⟨_, _, _, hc⟩
    · exact hH x q e hx
    · intro no
      obtain ⟨_, y, hy, r, er⟩ := canOut_iff.mp hc
      have hl := lab y true r (hs x y hy) (by rw [stepR]; exact O_keep er) (hH y _ er (hs x y hy))
      have b := cl x hx
      unfold bring1 at b
      rw [no, if_neg (by simp), if_pos (List.any_eq_true.mpr ⟨y, hy, decide_eq_true hl⟩)] at b
      cases b
/-- in whatever order: the same words -/
theorem brought_told (nd : ns.Nodup) (hp : tn.Perm ns) (hs : ∀ x, ∀ y ∈ spk ps x, y ∈ ns) (hx : x ∈ ns) : lget (bringN ps tn ns.length) x = (fget (told ns ps) x).map (·.1) := by
  have i := BI.run (ps := ps) nd hp ns.length
  have cl := i.closed nd
  cases e : lget (bringN ps tn ns.length) x with
  | some b =>
    obtain ⟨n, en⟩ := i.s x b e
    rw [en] <;> rfl
  | none =>
    cases q : fget (told ns ps) x with
    | none => rfl
    | some p => exact (closed_all i.s cl hs (ns.length + 1) (Nat.le_refl _) x p q hx e).elim
end
end Bw
set_option Elab.async false
set_option linter.all false
set_option maxRecDepth 100000
set_option maxHeartbeats 2000000
namespace Bw
open PySem L2
/-! ### a promise of flat data or of a new tuple of such -/
def FD (K : PySem.W.Frag) (H0 Hs : Hp) (v : V) (d : Da) : Prop := (d.flat = true ∧ DR K Hs v d) ∨ ∃ p xs es, v = .ref p ∧ H0 p = none ∧ Hs p = some (.tup xs) ∧ d = .tup es ∧ DRs K Hs xs es ∧ ∀ e ∈ es, e.flat = true
def SpF (K : PySem.W.Frag) (R : List Da → Da → Prop) : Sp := fun vs H Q _ => ∃ Hc ds d, Same Hc H ∧ DRs K Hc vs ds ∧ R ds d ∧ ∀ v Hs H', Ext Hc H Hs H' → FD K H Hs v d → Q v H'
def PostF (C : Ct) (d : Da) (Q : VK) : Prop := ∀ v Hs H', Ext C.Hc C.H0 Hs H' → FD C.K C.H0 Hs v d → Q v H'
theorem flats {K : PySem.W.Frag} {H H' : Hp} : ∀ {es : List Da} {ys : List V}, (∀ d ∈ es, d.flat = true) → DRs K H ys es → DRs K H' ys es
  | [], _, _, r => by cases r; exact .nil
  | e :: es, _, f, r => by
    cases r with
    | cons r1 r2 => exact .cons (r1.flat (f e (List.mem_cons_self ..))) (flats (fun d hd => f d (List.mem_cons_of_mem _ hd)) r2)
section
variable {C : Ct} {δ : List Sl} {D : Ends} {te : TE} {ta : TA} {t2 : TS} {d : Da} {ds es : List Da} {i : Nat} {R : List Da → Da → Prop} {E : XK}
theorem go_setCF (ha : EvSA C.K ta (δ.map Sl.frz) ds) (hr : R ds d) (q : Nx C D.nx (δ.set i (.dat d))) : Go C (tAsg (tCall (SpF C.K R) [] E ta) (gName i)) D δ := fun σ Hk H a =>
  ha σ H a.frz H (Same.refl _) _ fun vs H1 H1' x1 r1 => by
    show SpF C.K R (vs ++ []) H1' _ E
    rw [List.append_nil]
    refine ⟨H1, ds, d, x1.st, r1, hr, fun v H2 H2' x2 f => ?_⟩
    have up := x1.up.trans x2.up
    rcases f with ⟨f, r⟩ | ⟨p, xs, es, rfl, h0, hp, rfl, r, f⟩
    · exact q _ Hk H2' ((a.go (Ext.of_up a.same up)).set (r.flat f))
    · have hp0 : H p = none := x1.up.free h0
      have hk : Hk p = none := a.same.free hp0
      have x : Ext Hk H (upd Hk p (.tup xs)) H2' := ⟨up, same_upd hk, same_put (a.same.trans up) (x2.st _ _ hp), fun b o e n => by
        by_cases hb : b = p
        · rw [hb]; exact hp0
        · rw [upd_ne hb, n] at e
          cases e⟩
      exact q _ _ H2' ((a.go x).set (.tup (SqT.of upd_same) (flats f r)))
theorem sq_setCF (ha : EvSA C.K ta (δ.map Sl.frz) ds) (hr : R ds d) (q : Go C t2 D (δ.set i (.dat d))) : Go C (tSeq (tAsg (tCall (SpF C.K R) [] E ta) (gName i)) t2) D δ := go_seq (go_setCF ha hr q)
theorem go_retFT {t : TA} (h : EvSA C.K t δ es) (f : ∀ e ∈ es, e.flat = true) (hl : es.length ≤ 1000) (q : PostF C (.tup es) D.rt) : Go C (tRet (tTup t)) D δ := fun σ Hk H a =>
  h σ Hk a.dat H a.same _ fun vs H1 H1' x1 r1 => ⟨Nat.le_of_lt (small1000 (by rw [r1.len]; exact hl)), fun p hp => q _ _ _ ((a.ext.trans x1).new hp) (.inr ⟨p, vs, es, rfl, (a.ext.trans x1).up.free hp, upd_same, rfl, r1.up (same_upd (x1.st.free hp)), f⟩)⟩
theorem go_retFF (h : EvS C.K te δ d) (f : d.flat = true) (q : PostF C d D.rt) : Go C (tRet te) D δ := fun σ Hk H a =>
  h σ Hk a.dat H a.same _ fun v Hs H' x r => q v Hs H' (a.ext.trans x) (.inl ⟨f, r⟩)
end
section
variable {K : PySem.W.Frag} {R : List Da → Da → Prop}
theorem spf_len {n : Nat} (h : ∀ ds d, R ds d → ds.length = n) : ∀ vs H Q E, SpF K R vs H Q E → vs.length = n := fun vs H Q E ⟨Hc, ds, d, s, r, hr, q⟩ => by
  rw [r.len]
  exact h ds d hr
theorem spf_body {N : List Str} {ts : TS} (hn : ∀ ds d, R ds d → ds.length ≤ N.length)
    (h : ∀ ds d, R ds d → ∀ (C : Ct) (Q : VK), C.K = K → PostF C d Q → Go C ts { nx := fun _ H' => Q .non H', rt := Q } (ds.map Sl.dat ++ List.replicate (N.length - ds.length) .no)) :
    ∀ vs H Q E, SpF K R vs H Q E → ts { nx := fun _ H' => Q .non H', rt := Q } (L2.start N vs) H := fun vs H Q E ⟨Hc, ds, d, s, r, hr, q⟩ =>
  h ds d hr ⟨K, Hc, H, []⟩ Q rfl q _ _ _ (start_at r (hn ds d hr) H s Hc rfl)
/-- is None, is not None -/
theorem rv_notN {d : Da} {b : Bool} (h : b = true ↔ d ≠ .non) : RV K (fun x y H Q => y = V.non ∧ Q (V.bl !decide (x = V.non)) H) d .non (.bl b) := rv_now fun Hk H v1 v2 s a1 a2 Q q => by
  cases a2
  refine ⟨rfl, ?_⟩
  have : (!decide (v1 = V.non)) = b := by
    cases b with
    | true =>
      have := h.mp rfl
      rw [decide_eq_false (fun z => this (by subst z; cases a1; rfl))] <;> rfl
    | false =>
      have : d = .non := Classical.byContradiction fun z => Bool.noConfusion (h.mpr z)
      subst this
      cases a1
      rfl
  rw [this]
  exact q _ (.bl _)
theorem rc_min {is : List Int} {m : Int} (hm : m ∈ is) (hle : ∀ y ∈ is, m ≤ y) : RC K (rMin K) [.lst (is.map Da.int)] (.int m) := rc_now fun Hk H vs s a Q q => by
  obtain ⟨v, rfl, a1⟩ := a.one_of
  cases a1 with
  | lst e r =>
    have e2 := r.of_ints
    subst e2
    refine ⟨_, is, rfl, SqL.of (s _ _ e), List.length_pos_of_mem hm, fun k hk hk2 => ?_⟩
    have : k = m := by
      have h1 := hk2 m hm
      have h2 := hle k hk
      omega
    rw [this]
    exact q _ (.int _)
end
section
variable {ns : List Str} {ps : List Pr} {L : Ld} {x : Str}
theorem dget_L : dget (lks L) (lvs L) x = (lget L x).map fun b => Da.str (wd b) := by
  unfold lks lvs
  rw [dget_map (f := fun p : Str × Bool => p.1) (g := fun p => Da.str (wd p.2))]
  unfold lget
  rw [Option.map_map] <;> rfl
theorem lst_held {o : Option Bool} : lst o = "held" ↔ o = some true := by
  cases o with
  | none => exact ⟨fun h => absurd h (by decide +kernel), fun h => by cases h⟩
  | some b => cases b with
    | true => exact ⟨fun _ => rfl, fun _ => rfl⟩
    | false => exact ⟨fun h => absurd h (by decide +kernel), fun h => by cases h⟩
theorem lst_open {o : Option Bool} : lst o = "open" ↔ o = none := by
  cases o with
  | none => exact ⟨fun _ => rfl, fun _ => rfl⟩
  | some b => cases b with
    | true => exact ⟨fun h => absurd h (by decide +kernel), fun h => by cases h⟩
    | false => exact ⟨fun h => absurd h (by decide +kernel), fun h => by cases h⟩
theorem lst_out {o : Option Bool} : lst o = "out" ↔ o = some false := by
  cases o with
  | none => exact ⟨fun h => absurd h (by decide +kernel), fun h => by cases h⟩
  | some b => cases b with
    | true => exact ⟨fun h => absurd h (by decide +kernel), fun h => by cases h⟩
    | false => exact ⟨fun _ => rfl, fun _ => rfl⟩
theorem lst_ok (o : Option Bool) : okS (lst o) := by
  cases o with
  | none => unfold okS; decide +kernel
  | some q => exact wd_ok _
theorem mem_kinds {ys : List Str} {g : Str → Option Bool} {z : Str} {o : Option Bool} (h : ∀ p, lst p = z ↔ p = o) : decide (z ∈ ys.map fun y => lst (g y)) = ys.any fun y => decide (g y = o) := by
  rw [← Bool.coe_iff_coe, decide_eq_true_iff, List.any_eq_true, List.mem_map]
  constructor
  · rintro ⟨y, hy, e⟩
    exact ⟨y, hy, decide_eq_true ((h _).mp e)⟩
  · rintro ⟨y, hy, e⟩
    exact ⟨y, hy, (h _).mpr (of_decide_eq_true e)⟩
theorem perm_inv {α β : Type} {f : α → β} {es ms : List β} (p : es.Perm ms) : ∀ l : List α, ms = l.map f → ∃ l' : List α, l'.Perm l ∧ es = l'.map f := by
  induction p with
  | nil =>
    intro l h
    cases l with
    | nil => exact ⟨[], .refl _, rfl⟩
    | cons a l => cases h
  | @cons x l1 l2 p ih =>
    intro l h
    cases l with
    | nil => cases h
    | cons a l =>
      rw [List.map_cons] at h
      injection h with h1 h2
      obtain ⟨l', q1, q2⟩ := ih l h2
      exact ⟨a :: l', q1.cons _, by rw [List.map_cons, q2, h1]⟩
  | swap x y l0 =>
    intro l h
    match l, h with
    | a :: b :: l, h =>
      rw [List.map_cons, List.map_cons] at h
      injection h with h1 h2
      injection h2 with h2 h3
      exact ⟨b :: a :: l, .swap .., by rw [List.map_cons, List.map_cons, h1, h2, h3]⟩
  | @trans a b c p1 p2 ih1 ih2 =>
    intro l h
    obtain ⟨l1, q1, q2⟩ := ih2 l h
    obtain ⟨l2, q3, q4⟩ := ih1 l1 q2
    exact ⟨l2, q3.trans q1, q4⟩
end
end Bw
set_option Elab.async false
set_option linter.all false
set_option maxRecDepth 100000
set_option maxHeartbeats 2000000
/-! A caught error goes as an argument into a def that asks its class. -/
namespace Bw
open PySem PySem.Spec PyProof.Rows L2
open L2H (RoomH PinOk cxH inv_startH)
/-- isinstance of an error that the context holds -/
theorem call_isH {X : Cx} {a D : Addr} {oe : Obj} (held : (a, oe) ∈ X.pn) (C : ExcC X.K D) (z : Zc (.ref D) none oe) (f : ∃ vs, oe.data = .fields vs) : CallR X (.builtin "isinstance") (rIsE X.K D a) := by
  rintro pins s σ H _ us Q I rel ⟨c, cv, b, rfl, only, says, q⟩
  cases rel with
  | cons r1 rel =>
    cases rel with
    | cons r2 rel =>
      cases rel
      cases r1
      cases only _ r2
      have at_ := (I.pin (a, oe) (List.mem_append_left _ held)).1
      have inst : PySem.W.InstAt s.heap a oe D none := by
        obtain ⟨c0, d0, dat, sl⟩ := oe
        obtain ⟨vs, hvs⟩ := f
        cases z.1
        cases z.2
        cases hvs
        exact ⟨at_, rfl, rfl, trivial⟩
      exact PySem.W.kia_one (PySem.W.handS_kitx_exc C.hg C.hk C.hs C.hd C.ha C.hn C.ht C.hm) I.kIn inst says (fun w => nomatch w) fun k => ⟨.bl b, H, I.kept (t' := k) fun _ _ w => w, rfl, q⟩
/-- a def of one argument, called with a held error of the class D: it hands back the text z, nothing known changes -/
def FnE (P : Program) (w : World) (K : PySem.W.Frag) (mg : Str → Option Value) (base : Heap) (k : Nat) (f : Addr) (fd : FuncData) (x : Str) (R : Addr → Str → Prop) : Prop :=
  ∀ (A : Around) (outer : List Env) (s : Shared) (H : Hp) (args : Args) (Q : VK) (E : XK) (p : Addr × Obj) (D : Addr) (z : Str), RoomH k A → PinOk outer H s p → Zc (.ref D) none p.2 → (∃ vs, p.2.data = .fields vs) →
    Env0 P w K mg base A outer s H → BindsTo s fd args [(x, .ref p.1)] → R D z → (∀ H', Same H H' → Q (.str z) H') → codeAny (model P w) A (.call (.ref f) args) (CR CX0 outer P w H s Q E) s
theorem fnE_of {P : Program} {w : World} {K : PySem.W.Frag} {mg : Str → Option Value} {base : Heap} {k : Nat} {f : Addr} {fd : FuncData} {x name qual : Str} {st : Stmt} {N : List Str} {R : Addr → Str → Prop}
    (F : Fun K name qual st f fd) (S : FnScope N [x] (defScope st))
    (body : ∀ (cdv : Value) (A : Around) (outer : List Env) (s : Shared) (H : Hp) (Q : VK) (E : XK) (p : Addr × Obj) (D : Addr) (z : Str), RoomH k (A.deeper (envOfC qual (defScope st) s.heap.objs.size f cdv)) → Zc (.ref D) none p.2 → (∃ vs, p.2.data = .fields vs) → R D z → (∀ H', Same H H' → Q (.str z) H') →
      ∃ t, PSs (cxH CX0 P w K mg base N qual (defScope st) f cdv A outer s H E p) (defBody st) t ∧ t { nx := fun _ H' => Q .non H', rt := Q } (L2.start N [.ref p.1]) H) : FnE P w K mg base (k + 1) f fd x R := by
  obtain ⟨oc, od, kV, doc, pm, an, cdv, ct, osl, rfl, lk, code⟩ := F.ex
  intro A outer s H args Q E p D z room pin cls flds env binds good wish
  have inK : K.In s.heap := env.mod.kin.keeps fun b o e => (env.bs b o e).1
  have loose : s.heap.NoLimit := env.mod.nolimit.keeps fun b o e => (env.bs b o e).1
  have slots : ∀ y ∈ [(x, Value.ref p.1)], (defScope st).names.lookup y.1 = some .local ∨ ((defScope st).names.lookup y.1 = some .cell ∧ ((cellsFrom (s.heap.objs.size + 1) (defScope st).names []).lookup y.1).isSome = true) := fun y hy => by
    cases List.mem_singleton.mp hy
    exact (S.par x (List.mem_cons_self ..)).imp id fun c => ⟨c, PySem.W.cellsFrom_some _ _ _ (.inl c)⟩
  refine codeAny_call_function room.depth (inK _ _ lk) rfl S.co S.gen rfl (PySem.W.codeRec_of inK code) (binds _ _ _ _ ?_)
  refine wpAny_newFunctionEnv_cells S.kind slots fun env1 same s1 begun => ?_
  subst same
  refine ⟨loose.keeps begun.toInCall.keep, codeAny_func ?_⟩
  obtain ⟨t, ht, goes⟩ := body cdv A outer s H Q E p D z (room.deeper _) cls flds good wish
  have I : Inv (cxH CX0 P w K mg base N qual (defScope st) f cdv A outer s H E p) [] (L2.start N [.ref p.1]) H s1 := inv_startH S pin env rfl (.cons rfl .nil) begun
  refine wpAny_mono (ht.run [] s1 _ H _ I goes) (fun end_ s2 done => ?_) fun _ _ fell => fell
  have back : ∀ {σ2 : L2.St} {H2 : Hp} {v : V} {u : Value}, Inv (cxH CX0 P w K mg base N qual (defScope st) f cdv A outer s H E p) [] σ2 H2 s2 → RelV v u → Q v H2 → CE outer P w H s Q u s2 := fun J rv q => ⟨_, _, J.os, J.bare, J.base, J.hok, rv, q⟩
  cases end_ with
  | ret u =>
    obtain ⟨v, σ2, H2, J, rv, q⟩ := done
    exact back J rv q
  | next =>
    obtain ⟨σ2, H2, J, q⟩ := done
    exact back (v := V.non) (u := Value.none) J rfl q
  | brk =>
    obtain ⟨_, _, _, q⟩ := done
    exact q.elim
  | cont =>
    obtain ⟨_, _, _, q⟩ := done
    exact q.elim
/-- what such a call gives: the error stands in slot i -/
def tKind (a : Addr) (cls : Value) (d : Option Addr) (i : Nat) (R : Addr → Str → Prop) : TE := fun σ H Q => ∃ D z, cls = .ref D ∧ d = none ∧ σ[i]? = some (some (.ref a)) ∧ R D z ∧ ∀ H', Same H H' → Q (.str z) H'
theorem pe_callE {X : Cx} {k : Nat} {f a : Addr} {oe : Obj} {cls : Value} {d : Option Addr} {fd : FuncData} {n x : Str} {R : Addr → Str → Prop} {q pos : Pos} {e : Expr} {i : Nat} (F : FnE X.prog X.w X.K X.mg X.base k f fd x R) (hr : RoomH k X.A) (held : (a, oe) ∈ X.pn) (z : Zc cls d oe) (fl : ∃ vs, oe.data = .fields vs)
    (hg : Gl X n) (hm : X.mg n = some (.ref f)) (hk : PySem.W.keepIn X.K (.ref f) = true) (hb : Binds X.K fd [x] []) (he : PE X e (tVar i)) (hdb : (n == ("__debug__" : Str)) = false := by decide)
    (hst : starEach [e] X.env = (false, eval e X.env) :: starEach [] X.env := by rfl) : PE X (.Call (.Name n q) [e] [] pos) (tKind a cls d i R) := by
  refine ⟨fun pins s σ H Q I ask => ?_⟩
  obtain ⟨D, y, rfl, rfl, slot, good, wish⟩ := ask
  have arg : PA X [e] (tCons (tVar i) tNil) := pa_cons he pa_nil hst
  refine wpAny_Call_Name_kw (ld_glob I hg hm ?_ hdb)
  refine PySem.W.callWith_K (h₀ := X.base) I.ok.mod.kin hk (thn (arg.run pos pins s σ H (fun vs H1 => vs = [.ref a] ∧ H1 = H) I ⟨_, slot, rfl, rfl⟩) fun us s1 got => ?_) hst (by rfl)
  obtain ⟨vs, H1, J, rel, rfl, rfl⟩ := got
  refine ⟨J.kIn, ?_⟩
  cases rel with
  | cons r1 rel =>
    cases rel
    cases r1
    have at_ := J.pin (a, oe) (List.mem_append_left _ held)
    have pin : PinOk X.stack H1 s1 (a, oe) := ⟨at_.1, at_.2.1, fun m => (List.mem_cons.mp (J.stkSub a m)).elim at_.2.2.1 at_.2.2.2.1, at_.2.2.2.2⟩
    refine wpAny_call (codeAny_mono (F X.A X.stack s1 H1 _ Q (fun _ _ _ => False) (a, oe) D y hr pin z fl J.env0 (hb s1 [.ref a] J.kIn rfl) good wish) fun r s2 res => ?_)
    cases r with
    | error err => exact (show False from res).elim
    | ok fin =>
      cases fin with
      | ret u => exact J.after res
      | next => exact (show False from res).elim
      | brk => exact (show False from res).elim
      | cont => exact (show False from res).elim
end Bw
set_option Elab.async false
set_option linter.all false
set_option maxRecDepth 100000
set_option maxHeartbeats 2000000
namespace Bw
open PySem L2
/-! ### xs.count(True), xs.index(True) of truths -/
def isT : Value → Bool
  | .bool b => b
  | _ => false
def rCntB (K : PySem.W.Frag) : V → List V → Hp → VK → Prop := fun x vs H Q => ∃ (l : Addr) (bs : List Bool), x = .ref l ∧ vs = [.bl true] ∧ SqL K H l (bs.map V.bl) ∧ Q (.int (bs.count true : Nat)) H
theorem bls_back : ∀ {bs : List Bool} {us : List Value}, Vals (bs.map V.bl) us → us = bs.map Value.bool
  | [], _, r => by cases r; rfl
  | b :: bs, _, r => by
    cases r with
    | cons r1 r2 =>
      cases r1
      rw [bls_back r2] <;> rfl
open PySem.Spec PyProof.Rows in
theorem mt_countB {X : Cx} : MtR X "list.count" (rCntB X.K) := by
  rintro pins s σ H _ _ v us Q I rx rv ⟨l, bs, rfl, rfl, at_, q⟩
  cases rx
  obtain ⟨u, rfl, ru⟩ := rv.one
  cases ru
  obtain ⟨items, rel, ⟨⟨cl, dd, dat, sl⟩, n, here, c, _, hd⟩, _⟩ := I.list at_
  cases (show cl = Value.type "list" from c)
  cases (show dat = Data.seq items.toArray n from hd)
  cases bls_back rel
  refine call_meets PySem.F.slot_list_count ⟨_, here, rfl⟩ PySem.F.entry_list_count (PySem.F.args_list_count_2 _ _) (SeqAt.list_countAt l (bs.map Value.bool).toArray n dd sl (.bool true) isT) ⟨here, fun y hy => ?_, ?_⟩
  · obtain ⟨b, _, rfl⟩ := List.mem_map.mp (show y ∈ bs.map Value.bool by simpa using hy)
    have e : isT (.bool b) = (b == true) := by cases b <;> rfl
    rw [e]
    exact SeqAt.EqAt.bool_bool b true
  · have e : (bs.map Value.bool).toArray.toList.countP isT = bs.count true := by
      show (bs.map Value.bool).countP isT = _
      rw [List.countP_map]
      refine List.countP_congr fun b _ => ?_
      cases b <;> rfl
    rw [e]
    exact ⟨.int (bs.count true : Nat), H, I.tok _, ⟨s.toks, rfl⟩, q⟩
section
variable {K : PySem.W.Frag} {δ : List Sl} {te tc : TE} {bs : List Bool} {a D : Addr} {d2 : Da} {b : Bool} {cv : Value}
theorem evs_countB (h : EvS K te δ (.lst (bs.map Da.bl))) : EvS K (tBM K "list" (rCntB K) te (tCons (tC (.bl true)) tNil)) δ (.int (bs.count true : Nat)) := fun σ Hk Dt H s Q q =>
  h σ Hk Dt H s _ fun v Hs H' x r => by
    cases r with
    | lst e r =>
      cases r.of_bls
      exact ⟨.inl ⟨rfl, _, SqL.of (x.st _ _ e)⟩, _, bs, rfl, rfl, SqL.of (x.st _ _ e), q _ Hs H' x (.int _)⟩
theorem flat_bls {bs : List Bool} : (bs.map V.bl).all flatV = true := by
  induction bs with
  | nil => rfl
  | cons b bs ih =>
    rw [List.map_cons, List.all_cons, ih] <;> rfl
/-- the place of the first truth -/
theorem evs_indexB {j : Nat} (h : EvS K te δ (.lst (bs.map Da.bl))) (hj : bs[j]? = some true) (no : ∀ m : Nat, m < j → bs[m]? ≠ some true) : EvS K (tBM K "list" (rIndex K) te (tCons (tC (.bl true)) tNil)) δ (.int (j : Nat)) := fun σ Hk Dt H s Q q =>
  h σ Hk Dt H s _ fun v Hs H' x r => by
    cases r with
    | lst e r =>
      cases r.of_bls
      refine ⟨.inl ⟨rfl, _, SqL.of (x.st _ _ e)⟩, _, _, .bl true, j, .bl true, rfl, rfl, SqL.of (x.st _ _ e), rfl, flat_bls, by rw [List.getElem?_map, hj] <;> rfl, rfl, fun m z hm hz => ?_, q _ Hs H' x (.int _)⟩
      rw [List.getElem?_map] at hz
      cases e2 : bs[m]? with
      | none => rw [e2] at hz; cases hz
      | some c =>
        rw [e2] at hz
        cases hz
        cases c with
        | false => rfl
        | true => exact (no m hm e2).elim
/-- isinstance(e, C), e held, of the class D -/
theorem evs_isE (he : EvS K te δ (.cls a)) (hc : EvS K tc δ d2) (form : (∃ C, d2 = .cls C ∧ cv = .ref C) ∨ ∃ n, d2 = .ty n ∧ cv = .type n) (says : PySem.W.kitOne K (.ref D) cv = some b) : EvS K (tCB (rIsE K D a) (tCons te (tCons tc tNil))) δ (.bl b) := fun σ Hk Dt H s Q q =>
  he σ Hk Dt H s _ fun v1 H1 H1' x1 r1 => hc σ H1 (Dt.up x1.kn) H1' x1.st _ fun v2 H2 H2' x2 r2 => by
    cases r1
    rcases form with ⟨C, rfl, rfl⟩ | ⟨n, rfl, rfl⟩
    · cases r2
      exact ⟨_, _, b, rfl, fun u e => e, says, q _ H2 H2' (x1.trans x2) (.bl b)⟩
    · cases r2
      exact ⟨_, _, b, rfl, fun u e => e, says, q _ H2 H2' (x1.trans x2) (.bl b)⟩
end
end Bw
set_option Elab.async false
set_option linter.all false
set_option maxRecDepth 100000
set_option maxHeartbeats 2000000
namespace Bw
open PySem L2
/-! ### text * number, int(truth), xs[::-1], d[k] = v for the key put last -/
def rMulS : R2 := fun x y H Q => ∃ z n, x = .str z ∧ y = .int n ∧ MulOk z n ∧ Q (.str (Txt.mul z n)) H
theorem op_mulS {X : Cx} : OpR X (binaryOp .Mult) rMulS := by
  rintro pins s σ H _ _ v u Q I rx ry ⟨z, n, rfl, rfl, ok, q⟩
  obtain ⟨t, rfl⟩ := rx
  obtain ⟨t', rfl⟩ := ry
  exact SB.mul ok fun t2 k => ⟨.str (Txt.mul z n), H, I.tok _, ⟨t2, rfl⟩, q⟩
def rIntB : List V → Hp → VK → Prop := fun xs H Q => ∃ b, xs = [.bl b] ∧ Q (.int (if b then 1 else 0)) H
theorem call_intB {X : Cx} : CallR X (.type "int") rIntB := fun pins s σ H xs us Q I r h => call_int1 pins s σ H xs us Q I r (.inr h)
section
variable {K : PySem.W.Frag} {δ : List Sl} {te : TE} {ds : List Da}
theorem rv_mulS {z : Str} {n : Int} (ok : MulOk z n) : RV K rMulS (.str z) (.int n) (.str (Txt.mul z n)) := rv_now fun Hk H v1 v2 s a1 a2 Q q => by
  cases a1
  cases a2
  exact ⟨z, n, rfl, rfl, ok, q _ (.str _)⟩
theorem rc_intB {b : Bool} : RC K rIntB [.bl b] (.int (if b then 1 else 0)) := rc_now fun Hk H vs s a Q q => by
  obtain ⟨v, rfl, a1⟩ := a.one_of
  cases a1
  exact ⟨b, rfl, q _ (.int _)⟩
theorem evs_rev (h : EvS K te δ (.lst ds)) : EvSN K (tRevL K te) δ ds.reverse := fun σ Hk D H s Q q =>
  h σ Hk D H s _ fun v Hs H' x r => by
    cases r with
    | lst e r =>
      refine ⟨_, _, rfl, SqL.of (x.st _ _ e), fun p hp => ?_⟩
      exact q p _ Hs _ ⟨x.up.trans (same_upd hp), x.kn, x.st.trans (same_upd hp), x.nw⟩ (x.up.free hp) (x.st.free hp) upd_same r.rev
end
theorem putK_last {ks : List Str} {xs : List V} {k : Str} {v w : V} {K : PySem.W.Frag} {H : Hp} {ds : List Da} (h : ks.length = xs.length) (n : k ∉ ks) : putK (kvz (ks ++ [k]) (xs ++ [v])) (.inr k) w = kvz (ks ++ [k]) (xs ++ [w]) := by
  have all : ∀ (ls : List Str) (ys : List V), k ∉ ls → (kvz ls ys).map (fun kv => if kv.1 = (.inr k : Key) then (kv.1, w) else kv) = kvz ls ys := by
    intro ls
    induction ls with
    | nil => intro ys _; rfl
    | cons l ls ih =>
      intro ys hn
      cases ys with
      | nil => rfl
      | cons y ys =>
        rw [kvz_cons, List.map_cons, ih ys (fun z => hn (List.mem_cons_of_mem _ z)), if_neg]
        intro e
        exact hn (by rw [Sum.inr.inj e]; exact List.mem_cons_self ..)
  unfold putK
  rw [kvz_snoc h, kvz_snoc h, if_pos (by simp), List.map_append, all ks xs n]
  simp
section
variable {C : Ct} {δ : List Sl} {D : Ends} {tk tv : TE} {t2 : TS} {d d0 : Da} {ds : List Da} {ks : List Str} {x : Str} {i : Nat} {p : Option Addr}
theorem go_dputL (e : δ[i]? = some (.ow ⟨some (ks ++ [x]), p, ds ++ [d0]⟩)) (hv : EvS C.K tv δ d) (hk : EvS C.K tk δ (.str x)) (nw : x ∉ ks) (hl : ds.length < 999) (q : Nx C D.nx (δ.set i (.ow ⟨some (ks ++ [x]), p, ds ++ [d]⟩))) : Go C (sDPut (tVar i) tk tv) D δ := fun σ Hk H a => by
  refine hv σ Hk a.dat H a.same _ fun v Hs H' x1 r => ?_
  have a1 := a.go x1
  obtain ⟨l, xs, e1, e2, e3, e4, rs⟩ := a1.own i _ e
  refine ⟨_, e1, ?_⟩
  refine hk σ Hs a1.dat H' a1.same _ fun y Ht H2 x2 r2 => ?_
  cases r2
  have a2 := a1.go x2
  have hle : (ks ++ [x]).length = xs.length := rs.kl _ rfl
  have hxl : xs.length = (ds ++ [d0]).length := rs.rs.len
  have e4' : H2 l = some (.dK (kvz (ks ++ [x]) xs)) := x2.up _ _ e4
  have hn0 : xs ≠ [] := fun z => by rw [z] at hle; simp at hle
  obtain ⟨ys, w, rfl⟩ : ∃ ys w, xs = ys ++ [w] := ⟨xs.dropLast, xs.getLast hn0, (List.dropLast_concat_getLast hn0).symm⟩
  have hy : ks.length = ys.length := by simpa using hle
  have rd : DRs C.K Hs ys ds := by
    have := rs.rs.take ys.length
    have l2 : ys.length = ds.length := by simpa using hxl
    rw [List.take_left, l2, List.take_left] at this
    exact this
  refine ⟨l, _, rfl, DPut.k (k := .inr x) e4' (by rw [kvz_len hle, List.length_append]; exact small1000 (by simp at hxl ⊢; omega)), ?_⟩
  rw [putK_last (K := C.K) (H := H) (ds := ds) hy nw]
  exact q _ _ _ (a2.mutW (o' := ⟨some (ks ++ [x]), p, ds ++ [d]⟩) e e1 ⟨(rd.up x2.kn).snoc (r.up x2.kn), fun _ z => by cases z; simp [hy], rs.pl⟩)
end
/-! ### two benches side by side keep their words -/
section
variable {ns ms : List Str} {ps qs : List Pr} {F G : Fd} {t : Nat} {x : Str}
theorem spk_left (h : ∀ q ∈ qs, q.2 ≠ x) : spk (ps ++ qs) x = spk ps x := by
  unfold spk
  have e : qs.filter (fun p => decide (p.2 = x)) = [] := List.filter_eq_nil_iff.mpr fun q hq => by simpa using h q hq
  rw [List.filter_append, e, List.append_nil]
theorem spk_right (h : ∀ p ∈ ps, p.2 ≠ x) : spk (ps ++ qs) x = spk qs x := by
  unfold spk
  have e : ps.filter (fun p => decide (p.2 = x)) = [] := List.filter_eq_nil_iff.mpr fun q hq => by simpa using h q hq
  rw [List.filter_append, e, List.nil_append]
/-- a part of a bench that stands for itself: its names, who speaks against them -/
structure Part (ns : List Str) (ps : List Pr) (all : List Str) (al : List Pr) : Prop where
  sub : ∀ x ∈ ns, x ∈ all
  spk : ∀ x ∈ ns, spk al x = Bw.spk ps x
  own : ∀ x ∈ ns, ∀ y ∈ Bw.spk ps x, y ∈ ns
variable {all : List Str} {al : List Pr}
def Agree (ns : List Str) (F G : Fd) : Prop := ∀ x ∈ ns, fget F x = fget G x
theorem Agree.isW (a : Agree ns F G) (hx : x ∈ ns) {b : Bool} : Bw.isW F x b = Bw.isW G x b := by
  unfold Bw.isW
  rw [a x hx]
theorem any_eq {xs : List Str} {f g : Str → Bool} (h : ∀ y ∈ xs, f y = g y) : xs.any f = xs.any g := by
  induction xs with
  | nil => rfl
  | cons z xs ih => rw [List.any_cons, List.any_cons, h z (List.mem_cons_self ..), ih fun y hy => h y (List.mem_cons_of_mem _ hy)]
theorem all_eq {xs : List Str} {f g : Str → Bool} (h : ∀ y ∈ xs, f y = g y) : xs.all f = xs.all g := by
  induction xs with
  | nil => rfl
  | cons z xs ih => rw [List.all_cons, List.all_cons, h z (List.mem_cons_self ..), ih fun y hy => h y (List.mem_cons_of_mem _ hy)]
theorem Agree.held (p : Part ns ps all al) (a : Agree ns F G) (hx : x ∈ ns) : canHeld al F x = canHeld ps G x := by
  unfold canHeld
  rw [a x hx, p.spk x hx, all_eq fun y hy => a.isW (p.own x hx y hy)]
theorem Agree.out (p : Part ns ps all al) (a : Agree ns F G) (hx : x ∈ ns) : canOut al F x = canOut ps G x := by
  unfold canOut
  rw [a x hx, p.spk x hx, any_eq fun y hy => a.isW (p.own x hx y hy)]
theorem Agree.step (p : Part ns ps all al) (a : Agree ns F G) : Agree ns (step all al F t) (step ns ps G t) := by
  have h1 : Agree ns (stepH all al F t) (stepH ns ps G t) := fun x hx => by
    rw [fget_H, fget_H, a x hx, a.held p hx]
    simp only [hx, p.sub x hx, true_and]
  intro x hx
  unfold Bw.step
  rw [fget_O, fget_O, h1 x hx, h1.out p hx]
  simp only [hx, p.sub x hx, true_and]
theorem Agree.rounds (p : Part ns ps all al) : ∀ t, Agree ns (rounds all al t) (rounds ns ps t)
  | 0 => fun _ _ => rfl
  | t + 1 => (Agree.rounds p t).step p
theorem told_more (nd : ns.Nodup) (k : Nat) : rounds ns ps (ns.length + 1 + k) = told ns ps := by
  obtain ⟨t, ht, e⟩ := some_rest (ps := ps) nd
  have h1 := rounds_rest e (ns.length + 1 - t + k)
  rw [show t + (ns.length + 1 - t + k) = ns.length + 1 + k by omega] at h1
  rw [h1]
  exact told_at e ht
theorem told_part (p : Part ns ps all al) (nd : ns.Nodup) (le : ns.length ≤ all.length) (hx : x ∈ ns) : fget (told all al) x = fget (told ns ps) x := by
  have h := Agree.rounds p (all.length + 1) x hx
  rw [show all.length + 1 = ns.length + 1 + (all.length - ns.length) by omega] at h
  rw [told_more nd] at h
  unfold told at h ⊢
  rw [show ns.length + 1 + (all.length - ns.length) = all.length + 1 by omega] at h
  exact h
end
/-! ### isinstance of an own class -/
structure IsO (K : PySem.W.Frag) (C : Addr) : Prop where
  ha : PySem.W.findIn K (.ref C) "__class__" = some (some (.builtin "object.__class__"))
  hn : PySem.W.specialIn K (.builtin "object.__class__") "__get__" = some (some (.builtin "getset_descriptor.__get__"))
  ht : PySem.W.takesIn K (.builtin "object.__class__") = some true
  hm : PySem.W.mroIn K C (.type "object") = some true
theorem rc_isiO {K : PySem.W.Frag} {C : Addr} {ks : List Str} {ds : List Da} (io : IsO K C) (cl : Cls K C) : RC K (rIsi K) [.ins C ks ds, .cls C] (.bl true) := rc_now fun Hk H vs s a Q q => by
  obtain ⟨v, w, rfl, a1, a2⟩ := a.two_of
  cases a2
  cases a1 with
  | ins e hl r =>
    have k : PySem.W.kitOne K (.ref C) (.ref C) = some true := by
      unfold PySem.W.kitOne
      rw [if_pos (beq_self_eq_true _)]
    exact ⟨_, _, _, _, true, rfl, .own C, .base (.ins (s _ _ e) cl io.ha io.hn io.ht io.hm), k, q _ (.bl _)⟩
end Bw
set_option Elab.async false
set_option linter.all false
set_option maxRecDepth 100000
set_option maxHeartbeats 2000000
/-! two fors in one comprehension; a comprehension over a dict's keys, the dict locked meanwhile -/
namespace Bw
open PySem L2
section
variable {K : PySem.W.Frag} {δ : List Sl} {te : TE} {ta : TA} {ds : List Da}
/-- the list in the making: at D, of the data ds; what is known grows -/
def AccR (K : PySem.W.Frag) (Hk H Hlow : Hp) (D : Addr) (ds : List Da) (H2 : Hp) : Prop := ∃ Hk2 acc, Ext Hk H Hk2 H2 ∧ Same Hlow Hk2 ∧ Hk2 D = none ∧ H2 D = some (.lst acc) ∧ DRs K Hk2 acc ds
theorem ext_none {Hk H Hs H' : Hp} {D : Addr} {o : HO} (x : Ext Hk H Hs H') (h : H D = some o) (n : Hk D = none) : Hs D = none := by
  cases z : Hs D with
  | none => rfl
  | some u =>
    have := x.nw D u z n
    rw [h] at this
    cases this
theorem AccR.push {Hk H Hl Hl2 Hk2 H2 Hk5 H5 : Hp} {D : Addr} {acc : List V} {y : V} {d : Da} (x2 : Ext Hk H Hk2 H2) (sl : Same Hl2 Hk2) (n2 : Hk2 D = none) (h2 : H2 D = some (.lst acc)) (r : DRs K Hk2 acc ds) (x5 : Ext Hk2 H2 Hk5 H5) (r5 : DR K Hk5 y d) (h0 : H D = none) : AccR K Hk H Hl2 D (ds ++ [d]) (upd H5 D (.lst (acc ++ [y]))) := by
  have n5 := ext_none x5 h2 n2
  have x6 := x2.trans x5
  exact ⟨Hk5, acc ++ [y], ⟨same_updK x6.up h0, x6.kn, same_updK x6.st n5, x6.nw⟩, sl.trans x5.kn, n5, upd_same, (r.up x5.kn).snoc r5⟩
theorem TgD.more {K : PySem.W.Frag} {g : TG} {d : Da} {δ δ' : List Sl} {vs vs' : List Nat} (h : TgD K g d δ δ' vs) (s : ∀ i ∈ vs, i ∈ vs') : TgD K g d δ δ' vs' := fun v σ Hk H a r e P q => h v σ Hk H a r e P fun σ' a' hl hw => q σ' a' hl fun i hi => hw i fun z => hi (s i z)
/-- [e for x in xs for y in ys(x)] -/
theorem evs_lc2 {wi wi1 : TI} {g g1 : TG} {vs vs1 : List Nat} {α β : Type} {xs : List α} {enc : α → Da} (hi : ItD K wi δ (xs.map enc)) (ys : α → List β) (enc1 : α → β → Da) (f : α → β → Da) (hl : (xs.flatMap ys).length ≤ 1000)
    (hb : ∀ x ∈ xs, ∃ δ1, TgD K g (enc x) (wipeS δ vs) δ1 vs ∧ ItD K wi1 δ1 ((ys x).map (enc1 x)) ∧ ∀ y ∈ ys x, ∃ δ2, TgD K g1 (enc1 x y) (wipeS δ1 vs1) δ2 vs1 ∧ EvS K te δ2 (f x y)) :
    EvSN K (tLc2 wi g tYes wi1 g1 tYes te vs vs1) δ (xs.flatMap fun x => (ys x).map (f x)) := fun σ Hk a H s Q q => by
  refine hi σ Hk a H s _ fun J Hs H1 x ok => ?_
  intro A hA
  have hsA : Hs A = none := x.st.free hA
  have h0A : H A = none := x.up.free hA
  refine ⟨fun i m H2 => i ≤ xs.length ∧ m = xs.length - i ∧ AccR K Hk H Hs A ((xs.take i).flatMap fun x => (ys x).map (f x)) H2, ⟨_, Nat.zero_le _, rfl, Hs, [], ⟨x.up.trans (same_upd hA), x.kn, x.st.trans (same_upd hA), x.nw⟩, Same.refl _, hsA, upd_same, by simp; exact .nil⟩, ?_⟩
  rintro i m H2 ⟨hi, rfl, Hk2, acc, x2, s2, hk2, hacc, r⟩
  by_cases e : i < xs.length
  · have ed : (xs.map enc)[i]? = some (enc xs[i]) := by rw [List.getElem?_map, List.getElem?_eq_getElem e] <;> rfl
    have et : xs.take (i + 1) = xs.take i ++ [xs[i]] := (List.take_append_getElem e).symm
    have el : ((xs.take i).flatMap ys).length + (ys xs[i]).length ≤ 1000 := by
      have h1 : (xs.take (i + 1)).flatMap ys = (xs.take i).flatMap ys ++ ys xs[i] := by rw [et, List.flatMap_append]; simp
      have h2 : (xs.flatMap ys).length = ((xs.take (i + 1)).flatMap ys).length + ((xs.drop (i + 1)).flatMap ys).length := by
        rw [← List.length_append, ← List.flatMap_append, List.take_append_drop]
      rw [h1, List.length_append] at h2
      omega
    refine .inr ⟨ok.go i H2 _ (s2.trans x2.st) ed, fun H3 => AccR K Hk H Hs A ((xs.take (i + 1)).flatMap fun x => (ys x).map (f x)) H3, fun H3 z => ⟨_, by omega, e, rfl, z⟩, fun v H3 y => ?_⟩
    obtain ⟨Hk3, x3, r3⟩ := ok.yld i H2 v H3 _ Hk2 s2 x2.st ed y
    obtain ⟨δ1, tg, hi1, hb1⟩ := hb xs[i] (List.getElem_mem e)
    have hk3 : Hk3 A = none := ext_none x3 hacc hk2
    have a3 : Dats K (wipeS δ vs) (wipe σ vs) Hk3 := dats_wipe (a.up ((x2.kn).trans x3.kn))
    refine tg v (wipe σ vs) Hk3 H3 a3 r3 x3.st _ fun σ4 a4 hlen hw => ?_
    refine ⟨wipe_eq (by rw [hlen, wipe_length]) fun k hk => (hw k hk).trans (wipe_at hk), ?_⟩
    refine hi1 σ4 Hk3 a4 H3 x3.st _ fun J1 Hs1 H4 x4 ok1 => ?_
    have xa : Ext Hk2 H2 Hs1 H4 := x3.trans x4
    have n1 := ext_none xa hacc hk2
    have hacc4 : H4 A = some (.lst acc) := xa.up _ _ hacc
    refine ⟨fun j k H5 => j ≤ (ys xs[i]).length ∧ k = (ys xs[i]).length - j ∧ AccR K Hk H Hs1 A (((xs.take i).flatMap fun x => (ys x).map (f x)) ++ ((ys xs[i]).take j).map (f xs[i])) H5, ⟨_, Nat.zero_le _, rfl, Hs1, acc, x2.trans xa, Same.refl _, n1, hacc4, by simpa using r.up xa.kn⟩, ?_⟩
    rintro j k H5 ⟨hj, rfl, Hk5, acc5, x5, s5, n5, hacc5, r5⟩
    by_cases ej : j < (ys xs[i]).length
    · have ed1 : ((ys xs[i]).map (enc1 xs[i]))[j]? = some (enc1 xs[i] (ys xs[i])[j]) := by rw [List.getElem?_map, List.getElem?_eq_getElem ej] <;> rfl
      have et1 : (ys xs[i]).take (j + 1) = (ys xs[i]).take j ++ [(ys xs[i])[j]] := (List.take_append_getElem ej).symm
      refine .inr ⟨ok1.go j H5 _ (s5.trans x5.st) ed1, fun H6 => AccR K Hk H Hs1 A (((xs.take i).flatMap fun x => (ys x).map (f x)) ++ ((ys xs[i]).take (j + 1)).map (f xs[i])) H6, fun H6 z => ⟨_, by omega, ej, rfl, z⟩, fun v6 H6 y6 => ?_⟩
      obtain ⟨Hk6, x6, r6⟩ := ok1.yld j H5 v6 H6 _ Hk5 s5 x5.st ed1 y6
      obtain ⟨δ2, tg1, he⟩ := hb1 _ (List.getElem_mem ej)
      have n6 : Hk6 A = none := ext_none x6 hacc5 n5
      have a6 : Dats K (wipeS δ1 vs1) (wipe σ4 vs1) Hk6 := dats_wipe (a4.up ((x4.kn.trans s5).trans x6.kn))
      refine tg1 v6 (wipe σ4 vs1) Hk6 H6 a6 r6 x6.st _ fun σ7 a7 hlen7 hw7 => ?_
      refine ⟨wipe_eq (by rw [hlen7, wipe_length]) fun k hk => (hw7 k hk).trans (wipe_at hk), ?_⟩
      refine he σ7 Hk6 a7 H6 x6.st _ fun y Hk8 H8 x8 r8 => ?_
      have hl5 := r5.len
      rw [List.length_append, List.length_map, List.length_take, List.length_flatMap] at hl5
      refine ⟨acc5, (x6.trans x8).up _ _ hacc5, small1000 ?_, ?_⟩
      · rw [List.length_flatMap] at el
        have e9 : (List.map (fun x => ((ys x).map (f x)).length) (xs.take i)) = List.map (fun a => (ys a).length) (xs.take i) := List.map_congr_left fun a _ => by rw [List.length_map]
        rw [e9] at hl5
        omega
      · have z := AccR.push (K := K) (Hl := Hs1) x5 s5 n5 hacc5 r5 (x6.trans x8) r8 h0A
        rw [et1, List.map_append, ← List.append_assoc]
        exact z
    · have e' : j = (ys xs[i]).length := by omega
      subst e'
      rw [List.take_length] at r5
      have es := ok1.stop H5 (s5.trans x5.st)
      rw [List.length_map] at es
      refine .inl ⟨es, Hk5, acc5, x5, ((s2.trans x3.kn).trans x4.kn).trans s5, n5, hacc5, ?_⟩
      rw [et, List.flatMap_append]
      simpa using r5
  · have e' : i = xs.length := by omega
    subst e'
    rw [List.take_length] at r
    have es := ok.stop H2 (s2.trans x2.st)
    rw [List.length_map] at es
    exact .inl ⟨es, q A acc Hk2 H2 x2 h0A hk2 hacc r⟩
end
/-! a dict that is data, locked while it is walked -/
mutual
def noD : Da → Bool
  | .lst ds => noDs ds
  | .tup ds => noDs ds
  | .ins _ _ ds => noDs ds
  | .dct _ _ => false
  | .dcf _ _ ds => noDs ds
  | _ => true
def noDs : List Da → Bool
  | [] => true
  | d :: ds => noD d && noDs ds
end
section
variable {K : PySem.W.Frag} {H H' : Hp}
theorem keep_seq {a : Addr} {xs : List V} (k : ∀ b o, H b = some o → (∀ kvs, o ≠ .dK kvs) → H' b = some o) (h : SqL K H a xs) : SqL K H' a xs := by
  rcases h with (h | ⟨o, h⟩) | h
  · exact .inl (.inl (k _ _ h fun _ z => by cases z))
  · exact .inl (.inr ⟨o, k _ _ h fun _ z => by cases z⟩)
  · exact .inr h
mutual
theorem DR.noD (k : ∀ b o, H b = some o → (∀ kvs, o ≠ .dK kvs) → H' b = some o) : ∀ (d : Da) (v : V), noD d = true → DR K H v d → DR K H' v d
  | .non, _, _, h => by cases h; exact .non
  | .bl b, _, _, h => by cases h; exact .bl b
  | .int i, _, _, h => by cases h; exact .int i
  | .str x, _, _, h => by cases h; exact .str x
  | .ty x, _, _, h => by cases h; exact .ty x
  | .cls x, _, _, h => by cases h; exact .cls x
  | .scr ns, _, _, h => by
    cases h with
    | scr hs => exact .scr (keep_seq k hs)
  | .lst ds, _, n, h => by
    have n : noDs ds = true := by simpa [Bw.noD] using n
    cases h with
    | lst hs ha => exact .lst (k _ _ hs fun _ z => by cases z) (DRs.noD k ds _ n ha)
  | .tup ds, _, n, h => by
    have n : noDs ds = true := by simpa [Bw.noD] using n
    cases h with
    | tup hs ha =>
      refine .tup ?_ (DRs.noD k ds _ n ha)
      rcases hs with (h | ⟨o, h⟩) | h
      · exact .inl (.inl (k _ _ h fun _ z => by cases z))
      · exact .inl (.inr ⟨o, k _ _ h fun _ z => by cases z⟩)
      · exact .inr h
  | .ins C ks ds, _, n, h => by
    have n : noDs ds = true := by simpa [Bw.noD] using n
    cases h with
    | ins hs hl ha => exact .ins (k _ _ hs fun _ z => by cases z) hl (DRs.noD k ds _ n ha)
  | .dct ks ds, _, n, h => by simp [Bw.noD] at n
  | .dcf _ ks ds, _, n, h => by
    have n : noDs ds = true := by simpa [Bw.noD] using n
    cases h with
    | dcf hs hl ha => exact .dcf (k _ _ hs fun _ z => by cases z) hl (DRs.noD k ds _ n ha)
theorem DRs.noD (k : ∀ b o, H b = some o → (∀ kvs, o ≠ .dK kvs) → H' b = some o) : ∀ (ds : List Da) (vs : List V), noDs ds = true → DRs K H vs ds → DRs K H' vs ds
  | [], _, _, h => by cases h; exact .nil
  | d :: ds, _, n, h => by
    have n : noD d = true ∧ noDs ds = true := by simpa [noDs] using n
    cases h with
    | cons h1 h2 => exact .cons (DR.noD k d _ n.1 h1) (DRs.noD k ds _ n.2 h2)
end
end
theorem noDs_map {α : Type} {f : α → Da} (h : ∀ x, noD (f x) = true) : ∀ xs : List α, noDs (xs.map f) = true
  | [] => rfl
  | x :: xs => by rw [List.map_cons]; unfold noDs; rw [h x, noDs_map h xs] <;> rfl
section
variable {K : PySem.W.Frag} {δ : List Sl} {ks : List Str} {ds es : List Da}
/-- an expression that makes a list while it walks the dict in slot i -/
theorem evs_lockN {t : TE} {i : Nat} (e : δ[i]? = some (.dat (.dct ks ds))) (nod : ∀ j d, j ≠ i → δ[j]? = some (.dat d) → noD d = true) (nds : noDs ds = true) (nes : noFs es = true)
    (h : ∀ l, EvSN K t (δ.set i (.dat (.dcf l ks ds))) es) : EvSN K (tLockE t) δ es := fun σ Hk Dt H s Q q => by
  obtain ⟨v, e1, r⟩ := Dt.get i _ e
  cases r with
  | dct hk hl r =>
    rename_i a xs
    refine ⟨a, .dK (kvz ks xs), s _ _ hk, True.intro, fun od => ?_⟩
    have k : ∀ b o, Hk b = some o → (∀ kvs, o ≠ .dK kvs) → upd Hk a (.frz od (.dK (kvz ks xs))) b = some o := fun b o z n => by
      by_cases hb : b = a
      · subst hb
        rw [hk] at z
        cases z
        exact (n _ rfl).elim
      · rw [upd_ne hb]
        exact z
    have s1 : Same (upd Hk a (.frz od (.dK (kvz ks xs)))) (upd H a (.frz od (.dK (kvz ks xs)))) := same_upd2 s
    have D1 : Dats K (δ.set i (.dat (.dcf a ks ds))) σ (upd Hk a (.frz od (.dK (kvz ks xs)))) := ⟨by rw [List.length_set]; exact Dt.len, fun j d z => by
      rcases set_at z with ⟨ej, z⟩ | ⟨n, z⟩
      · cases z
        rw [ej]
        exact ⟨_, e1, .dcf upd_same hl (DRs.noD k _ _ nds r)⟩
      · obtain ⟨w, e2, r2⟩ := Dt.get j d z
        exact ⟨w, e2, DR.noD k _ _ (nod j d n z) r2⟩⟩
    refine h a σ _ D1 _ s1 _ fun l ys Hs H' x h0 hs hl' rs => ?_
    have ea : Hs a = some (.frz od (.dK (kvz ks xs))) := x.kn _ _ upd_same
    have la : l ≠ a := fun z => by rw [z, ea] at hs; cases hs
    have h0' : H l = none := by rw [upd_ne la] at h0; exact h0
    refine ⟨x.up _ _ upd_same, q l ys (upd Hs a (.dK (kvz ks xs))) _ ⟨fun b o z => ?_, fun b o z => ?_, same_upd2 x.st, fun b o z n => ?_⟩ h0' (by rw [upd_ne la]; exact hs) (by rw [upd_ne la]; exact hl') ?_⟩
    · by_cases hb : b = a
      · subst hb
        rw [s _ _ hk] at z
        rw [upd_same, ← z]
      · rw [upd_ne hb]
        exact x.up b o (by rw [upd_ne hb]; exact z)
    · by_cases hb : b = a
      · subst hb
        rw [hk] at z
        rw [upd_same, ← z]
      · rw [upd_ne hb]
        exact x.kn b o (by rw [upd_ne hb]; exact z)
    · have hb : b ≠ a := fun w => by rw [w, hk] at n; cases n
      rw [upd_ne hb] at z
      have := x.nw b o z (by rw [upd_ne hb]; exact n)
      rw [upd_ne hb] at this
      exact this
    · refine (DRs.noF ea _ _ nes rs).up fun b o z => ?_
      obtain ⟨n, z⟩ := less_some z
      rw [upd_ne (fun w => n (by rw [w]; simp))]
      exact z
end
end Bw
set_option Elab.async false
set_option linter.all false
set_option maxRecDepth 100000
set_option maxHeartbeats 2000000
/-! choosing some of a list, in order; all sets of names, by size, of one size rising -/
namespace Bw
open PySem L2
def comb {α : Type} : List α → Nat → List (List α)
  | _, 0 => [[]]
  | [], _ + 1 => []
  | x :: xs, r + 1 => (comb xs r).map (x :: ·) ++ comb xs (r + 1)
section
variable {α β : Type}
theorem comb_zero (l : List α) : comb l 0 = [[]] := by cases l <;> rfl
theorem comb_cons (x : α) (xs : List α) (r : Nat) : comb (x :: xs) (r + 1) = (comb xs r).map (x :: ·) ++ comb xs (r + 1) := rfl
theorem comb_map (f : α → β) : ∀ (l : List α) (r : Nat), comb (l.map f) r = (comb l r).map (List.map f)
  | l, 0 => by rw [comb_zero, comb_zero] <;> rfl
  | [], r + 1 => rfl
  | x :: xs, r + 1 => by
    rw [List.map_cons, comb_cons, comb_cons, comb_map f xs r, comb_map f xs (r + 1), List.map_append, List.map_map, List.map_map] <;> rfl
theorem comb_mem : ∀ {l : List α} {r : Nat} {v : List α}, v ∈ comb l r ↔ List.Sublist v l ∧ v.length = r
  | l, 0, v => by
    rw [comb_zero, List.mem_singleton]
    exact ⟨fun h => by subst h; exact ⟨List.nil_sublist _, rfl⟩, fun h => List.eq_nil_of_length_eq_zero h.2⟩
  | [], r + 1, v => by
    constructor
    · intro h
      cases h
    · rintro ⟨h, e⟩
      rw [List.sublist_nil.mp h] at e
      cases e
  | x :: xs, r + 1, v => by
    rw [comb_cons, List.mem_append, List.mem_map]
    constructor
    · rintro (⟨w, hw, rfl⟩ | h)
      · have := comb_mem.mp hw
        exact ⟨this.1.cons_cons x, by rw [List.length_cons, this.2]⟩
      · have := comb_mem.mp h
        exact ⟨this.1.cons x, this.2⟩
    · rintro ⟨h, e⟩
      cases h with
      | cons _ h => exact .inr (comb_mem.mpr ⟨h, e⟩)
      | cons_cons _ h =>
        rename_i w
        exact .inl ⟨w, comb_mem.mpr ⟨h, by simpa using e⟩, rfl⟩
/-- all sets, by size -/
def allSets (l : List α) : List (List α) := (List.range (l.length + 1)).flatMap (comb l)
theorem allSets_mem {l v : List α} : v ∈ allSets l ↔ List.Sublist v l := by
  unfold allSets
  rw [List.mem_flatMap]
  constructor
  · rintro ⟨r, _, h⟩
    exact (comb_mem.mp h).1
  · intro h
    exact ⟨v.length, List.mem_range.mpr (Nat.lt_succ_of_le h.length_le), comb_mem.mpr ⟨h, rfl⟩⟩
/-- sets the way of doubling -/
def dbl : List α → List (List α) → List (List α)
  | [], f => f
  | x :: xs, f => dbl xs (f ++ f.map (· ++ [x]))
theorem dbl_mem : ∀ {l : List α} {f : List (List α)} {v : List α}, v ∈ dbl l f ↔ ∃ a b, a ∈ f ∧ List.Sublist b l ∧ v = a ++ b
  | [], f, v => by
    constructor
    · intro h
      exact ⟨v, [], h, List.Sublist.refl _, by simp⟩
    · rintro ⟨a, b, h, s, rfl⟩
      rw [List.sublist_nil.mp s, List.append_nil]
      exact h
  | x :: xs, f, v => by
    show v ∈ dbl xs (f ++ f.map (· ++ [x])) ↔ _
    rw [dbl_mem]
    constructor
    · rintro ⟨a, b, h, s, rfl⟩
      rw [List.mem_append, List.mem_map] at h
      rcases h with h | ⟨c, h, rfl⟩
      · exact ⟨a, b, h, s.cons x, rfl⟩
      · exact ⟨c, x :: b, h, s.cons_cons x, by simp⟩
    · rintro ⟨a, b, h, s, rfl⟩
      cases s with
      | cons _ s => exact ⟨a, b, List.mem_append_left _ h, s, rfl⟩
      | cons_cons _ s =>
        rename_i c
        exact ⟨a ++ [x], c, List.mem_append_right _ (List.mem_map.mpr ⟨a, h, rfl⟩), s, by simp⟩
theorem nodup_app {l m : List α} : (l ++ m).Nodup ↔ l.Nodup ∧ m.Nodup ∧ ∀ x ∈ l, x ∉ m := by
  rw [List.nodup_append]
  exact ⟨fun h => ⟨h.1, h.2.1, fun x hx hm => h.2.2 x hx x hm rfl⟩, fun h => ⟨h.1, h.2.1, fun x hx y hy e => h.2.2 x hx (e ▸ hy)⟩⟩
/-- the elements of f have none of l -/
theorem dbl_nd : ∀ {l : List α} {f : List (List α)}, l.Nodup → f.Nodup → (∀ v ∈ f, ∀ x ∈ l, x ∉ v) → (dbl l f).Nodup
  | [], f, _, h, _ => h
  | x :: xs, f, nd, h, ap => by
    have nx := List.nodup_cons.mp nd
    show (dbl xs (f ++ f.map (· ++ [x]))).Nodup
    refine dbl_nd nx.2 (nodup_app.mpr ⟨h, nd_map h fun a _ b _ e => List.append_cancel_right e, fun v hv hm => ?_⟩) fun v hv y hy => ?_
    · obtain ⟨w, _, rfl⟩ := List.mem_map.mp hm
      exact ap _ hv x (List.mem_cons_self ..) (by simp)
    · rcases List.mem_append.mp hv with hv | hv
      · exact ap v hv y (List.mem_cons_of_mem _ hy)
      · obtain ⟨w, hw, rfl⟩ := List.mem_map.mp hv
        rw [List.mem_append, List.mem_singleton]
        rintro (z | rfl)
        · exact ap w hw y (List.mem_cons_of_mem _ hy) z
        · exact nx.1 hy
theorem dbl_all_mem {l v : List α} : v ∈ dbl l [[]] ↔ List.Sublist v l := by
  rw [dbl_mem]
  exact ⟨fun ⟨a, b, h, s, e⟩ => by rw [List.mem_singleton] at h; subst h; subst e; simpa using s, fun h => ⟨[], v, List.mem_singleton.mpr rfl, h, by simp⟩⟩
end
open PySem.Spec
/-! order of sets: by size, then as tuples of texts -/
/-- as tuples of texts rise -/
def ltT : List Str → List Str → Bool
  | [], [] => false
  | [], _ :: _ => true
  | _ :: _, [] => false
  | x :: xs, y :: ys => ltCps x.cps.toList y.cps.toList || (decide (x = y) && ltT xs ys)
def ltZ (a b : List Str) : Bool := decide (a.length < b.length) || (decide (a.length = b.length) && ltT a b)
theorem lt_trans' : ∀ a b c : List Nat, ltCps a b = true → ltCps b c = true → ltCps a c = true
  | [], [], _, h, _ => by simp [ltCps] at h
  | [], _ :: _, [], _, h => by simp [ltCps] at h
  | [], _ :: _, _ :: _, _, _ => rfl
  | _ :: _, [], _, h, _ => by simp [ltCps] at h
  | _ :: _, _ :: _, [], _, h => by simp [ltCps] at h
  | x :: a, y :: b, z :: c, h, k => by
    simp only [ltCps, Bool.or_eq_true, decide_eq_true_eq, Bool.and_eq_true, beq_iff_eq] at h k ⊢
    rcases h with h | ⟨rfl, h⟩
    · rcases k with k | ⟨rfl, k⟩
      · exact .inl (Nat.lt_trans h k)
      · exact .inl h
    · rcases k with k | ⟨rfl, k⟩
      · exact .inl k
      · exact .inr ⟨rfl, lt_trans' a b c h k⟩
theorem str_ext {x y : Str} (h : x.cps.toList = y.cps.toList) : x = y := by rw [← S_cps x, ← S_cps y, h]
theorem ltT_irr : ∀ a : List Str, ltT a a = false
  | [] => rfl
  | x :: a => by simp [ltT, lt_irr, ltT_irr a]
theorem ltT_tr : ∀ a b c : List Str, ltT a b = true → ltT b c = true → ltT a c = true
  | [], [], _, h, _ => by simp [ltT] at h
  | [], _ :: _, [], _, h => by simp [ltT] at h
  | [], _ :: _, _ :: _, _, _ => rfl
  | _ :: _, [], _, h, _ => by simp [ltT] at h
  | _ :: _, _ :: _, [], _, h => by simp [ltT] at h
  | x :: a, y :: b, z :: c, h, k => by
    simp only [ltT, Bool.or_eq_true, decide_eq_true_eq, Bool.and_eq_true] at h k ⊢
    rcases h with h | ⟨rfl, h⟩
    · rcases k with k | ⟨rfl, k⟩
      · exact .inl (lt_trans' _ _ _ h k)
      · exact .inl h
    · rcases k with k | ⟨rfl, k⟩
      · exact .inl k
      · exact .inr ⟨rfl, ltT_tr a b c h k⟩
theorem ltZ_irr (a : List Str) : ltZ a a = false := by simp [ltZ, ltT_irr]
theorem ltZ_tr (a b c : List Str) (h : ltZ a b = true) (k : ltZ b c = true) : ltZ a c = true := by
  simp only [ltZ, Bool.or_eq_true, decide_eq_true_eq, Bool.and_eq_true] at h k ⊢
  rcases h with h | ⟨h1, h⟩
  · rcases k with k | ⟨k1, k⟩
    · exact .inl (Nat.lt_trans h k)
    · exact .inl (k1 ▸ h)
  · rcases k with k | ⟨k1, k⟩
    · exact .inl (h1 ▸ k)
    · exact .inr ⟨h1.trans k1, ltT_tr a b c h k⟩
/-- two arrangements of one list that both rise strictly are one -/
theorem rise_unique {α : Type} {lt : α → α → Bool} (irr : ∀ a, lt a a = false) (tr : ∀ a b c, lt a b = true → lt b c = true → lt a c = true) : ∀ {l m : List α}, l.Pairwise (fun a b => lt a b = true) → m.Pairwise (fun a b => lt a b = true) → (∀ x, x ∈ l ↔ x ∈ m) → l = m
  | [], [], _, _, _ => rfl
  | [], y :: m, _, _, h => absurd ((h y).mpr (List.mem_cons_self ..)) (by simp)
  | x :: l, [], _, _, h => absurd ((h x).mp (List.mem_cons_self ..)) (by simp)
  | x :: l, y :: m, p, q, h => by
    obtain ⟨p1, p2⟩ := List.pairwise_cons.mp p
    obtain ⟨q1, q2⟩ := List.pairwise_cons.mp q
    have exy : x = y := by
      rcases List.mem_cons.mp ((h x).mp (List.mem_cons_self ..)) with e | e
      · exact e
      · rcases List.mem_cons.mp ((h y).mpr (List.mem_cons_self ..)) with e2 | e2
        · exact e2.symm
        · have := tr _ _ _ (p1 y e2) (q1 x e)
          rw [irr] at this
          cases this
    subst exy
    have hx : x ∉ l := fun z => by have := p1 x z; rw [irr] at this; cases this
    have hy : x ∉ m := fun z => by have := q1 x z; rw [irr] at this; cases this
    rw [rise_unique irr tr p2 q2 fun z => ?_]
    constructor
    · intro hz
      rcases List.mem_cons.mp ((h z).mp (List.mem_cons_of_mem _ hz)) with e | e
      · exact absurd (e ▸ hz) hx
      · exact e
    · intro hz
      rcases List.mem_cons.mp ((h z).mpr (List.mem_cons_of_mem _ hz)) with e | e
      · exact absurd (e ▸ hz) hy
      · exact e
/-- strictly rising texts -/
def Ris (l : List Str) : Prop := l.Pairwise fun a b => ltCps a.cps.toList b.cps.toList = true
theorem comb_rise : ∀ {l : List Str} {r : Nat}, Ris l → (comb l r).Pairwise fun a b => ltT a b = true
  | l, 0, _ => by rw [comb_zero]; exact List.pairwise_singleton _ _
  | [], r + 1, _ => List.Pairwise.nil
  | x :: xs, r + 1, h => by
    obtain ⟨h1, h2⟩ := List.pairwise_cons.mp h
    rw [comb_cons, List.pairwise_append]
    refine ⟨List.pairwise_map.mpr ((comb_rise h2).imp fun {a b} z => by simp [ltT, z]), comb_rise h2, fun a ha b hb => ?_⟩
    obtain ⟨w, hw, rfl⟩ := List.mem_map.mp ha
    obtain ⟨s, e⟩ := comb_mem.mp hb
    cases b with
    | nil => cases e
    | cons y b =>
      have := h1 y (s.subset (List.mem_cons_self ..))
      simp [ltT, this]
theorem sets_rise {l : List Str} (h : Ris l) : (allSets l).Pairwise fun a b => ltZ a b = true := by
  unfold allSets
  generalize l.length + 1 = n
  induction n with
  | zero => exact List.Pairwise.nil
  | succ n ih =>
    rw [List.range_succ, List.flatMap_append, List.pairwise_append]
    refine ⟨ih, ?_, fun a ha b hb => ?_⟩
    · simp only [List.flatMap_cons, List.flatMap_nil, List.append_nil]
      refine (comb_rise (r := n) h).imp_of_mem fun {a b} ma mb z => ?_
      have e1 := (comb_mem.mp ma).2
      have e2 := (comb_mem.mp mb).2
      simp [ltZ, z, e1, e2]
    · obtain ⟨r, hr, h1⟩ := List.mem_flatMap.mp ha
      simp only [List.flatMap_cons, List.flatMap_nil, List.append_nil] at hb
      have e1 := (comb_mem.mp h1).2
      have e2 := (comb_mem.mp hb).2
      have := List.mem_range.mp hr
      simp [ltZ, e1, e2, this]
end Bw
set_option Elab.async false
set_option linter.all false
set_option maxRecDepth 100000
set_option maxHeartbeats 2000000
/-! views: which stand, the greatest, the closed ones -/
namespace Bw
open PySem L2 PySem.Spec
theorem sortS_ris {xs : List Str} (h : xs.Nodup) : Ris (sortS xs) := by
  have nd : (sortS xs).Nodup := (sortS_perm xs).nodup_iff.mpr h
  have p := sortS_pw xs
  refine (p.and nd).imp fun {a b} z => ?_
  obtain ⟨z1, z2⟩ := z
  cases e : ltCps a.cps.toList b.cps.toList with
  | true => rfl
  | false =>
    have z1 : ltCps b.cps.toList a.cps.toList = false := by simpa [leS] using z1
    exact absurd (str_ext (lt_anti _ _ e z1)) z2
theorem ris_nd {l : List Str} (h : Ris l) : l.Nodup := h.imp fun {a b} z e => by
  subst e
  rw [lt_irr] at z
  cases z
theorem ltT_tot : ∀ {a b : List Str}, a ≠ b → ltT a b = true ∨ ltT b a = true
  | [], [], h => absurd rfl h
  | [], _ :: _, _ => .inl rfl
  | _ :: _, [], _ => .inr rfl
  | x :: a, y :: b, h => by
    by_cases e : x = y
    · subst e
      have := ltT_tot (a := a) (b := b) fun z => h (by rw [z])
      simpa [ltT, lt_irr] using this
    · have n : ¬ (ltCps x.cps.toList y.cps.toList = false ∧ ltCps y.cps.toList x.cps.toList = false) := fun z => e (str_ext (lt_anti _ _ z.1 z.2))
      have e' : ¬ y = x := fun z => e z.symm
      cases h1 : ltCps x.cps.toList y.cps.toList with
      | true => left; simp [ltT, h1]
      | false =>
        cases h2 : ltCps y.cps.toList x.cps.toList with
        | true => right; simp [ltT, h2]
        | false => exact absurd ⟨h1, h2⟩ n
theorem ltZ_tot {a b : List Str} (h : a ≠ b) : ltZ a b = true ∨ ltZ b a = true := by
  unfold ltZ
  rcases Nat.lt_trichotomy a.length b.length with l | l | l
  · left; simp [l]
  · rcases ltT_tot h with z | z
    · left; simp [l, z]
    · right; simp [l, z]
  · right; simp [l]
/-- two subsets of one list with the same members -/
theorem sub_ext {α : Type} : ∀ {l v w : List α}, l.Nodup → List.Sublist v l → List.Sublist w l → (∀ x, x ∈ v ↔ x ∈ w) → v = w
  | [], v, w, _, hv, hw, _ => by rw [List.sublist_nil.mp hv, List.sublist_nil.mp hw]
  | x :: l, v, w, nd, hv, hw, h => by
    obtain ⟨n1, n2⟩ := List.nodup_cons.mp nd
    cases hv with
    | cons _ hv =>
      cases hw with
      | cons _ hw => exact sub_ext n2 hv hw h
      | cons_cons _ hw => exact absurd (hv.subset ((h x).mpr (List.mem_cons_self ..))) n1
    | cons_cons _ hv =>
      rename_i v
      cases hw with
      | cons _ hw => exact absurd (hw.subset ((h x).mp (List.mem_cons_self ..))) n1
      | cons_cons _ hw =>
        rename_i w
        have nv : x ∉ v := fun z => n1 (hv.subset z)
        have nw : x ∉ w := fun z => n1 (hw.subset z)
        rw [sub_ext n2 hv hw fun y => ?_]
        constructor
        · intro hy
          rcases List.mem_cons.mp ((h y).mp (List.mem_cons_of_mem _ hy)) with e | e
          · exact absurd (e ▸ hy) nv
          · exact e
        · intro hy
          rcases List.mem_cons.mp ((h y).mpr (List.mem_cons_of_mem _ hy)) with e | e
          · exact absurd (e ▸ hy) nw
          · exact e
def hitB (ps : List Pr) (x : Str) (v : List Str) : Bool := (spk ps x).any fun y => decide (y ∈ v)
def viewB (ps : List Pr) (v : List Str) : Bool := !(v.any fun x => hitB ps x v) && (v.flatMap (spk ps)).all fun y => hitB ps y v
def viewsL (ns : List Str) (ps : List Pr) : List (List Str) := (allSets (sortS ns)).filter (viewB ps)
def subB (v u : List Str) : Bool := v.all fun x => decide (x ∈ u)
def liesB (v u : List Str) : Bool := decide (v.length < u.length) && subB v u
def maxB (L : List (List Str)) (v : List Str) : Bool := !(L.any fun u => liesB v u)
def greatL (ns : List Str) (ps : List Pr) : List (List Str) := (viewsL ns ps).filter (maxB (viewsL ns ps))
def shutB (ns : List Str) (ps : List Pr) (v : List Str) : Bool := ns.all fun x => decide (x ∈ v) || hitB ps x v
def closedL (ns : List Str) (ps : List Pr) : List (List Str) := (viewsL ns ps).filter (shutB ns ps)
theorem hit_iff {ps : List Pr} {x : Str} {v : List Str} : hitB ps x v = true ↔ ∃ y ∈ v, (y, x) ∈ ps := by
  unfold hitB
  rw [List.any_eq_true]
  constructor
  · rintro ⟨y, hy, h⟩
    exact ⟨y, of_decide_eq_true h, spk_mem.mp hy⟩
  · rintro ⟨y, hy, h⟩
    exact ⟨y, spk_mem.mpr h, decide_eq_true hy⟩
theorem view_iff {ps : List Pr} {v : List Str} : viewB ps v = true ↔ (∀ x ∈ v, ∀ y ∈ v, (y, x) ∉ ps) ∧ ∀ x ∈ v, ∀ y, (y, x) ∈ ps → ∃ z ∈ v, (z, y) ∈ ps := by
  unfold viewB
  rw [Bool.and_eq_true, Bool.not_eq_true', List.any_eq_false, List.all_eq_true]
  constructor
  · rintro ⟨h1, h2⟩
    exact ⟨fun x hx y hy h => h1 x hx (hit_iff.mpr ⟨y, hy, h⟩), fun x hx y h => hit_iff.mp (h2 y (List.mem_flatMap.mpr ⟨x, hx, spk_mem.mpr h⟩))⟩
  · rintro ⟨h1, h2⟩
    refine ⟨fun x hx h => ?_, fun y hy => ?_⟩
    · obtain ⟨y, hy, h⟩ := hit_iff.mp h
      exact h1 x hx y hy h
    · obtain ⟨x, hx, h⟩ := List.mem_flatMap.mp hy
      exact hit_iff.mpr (h2 x hx y (spk_mem.mp h))
theorem view_ext {ps : List Pr} {v w : List Str} (h : ∀ x, x ∈ v ↔ x ∈ w) : viewB ps v = viewB ps w := by
  have key : ∀ {v w : List Str}, (∀ x, x ∈ v ↔ x ∈ w) → viewB ps v = true → viewB ps w = true := fun {v w} h z => by
    obtain ⟨h1, h2⟩ := view_iff.mp z
    refine view_iff.mpr ⟨fun x hx y hy => h1 x ((h x).mpr hx) y ((h y).mpr hy), fun x hx y hy => ?_⟩
    obtain ⟨z, hz, e⟩ := h2 x ((h x).mpr hx) y hy
    exact ⟨z, (h z).mp hz, e⟩
  cases e : viewB ps v with
  | true => rw [key h e]
  | false =>
    cases e2 : viewB ps w with
    | true => rw [key (fun x => (h x).symm) e2] at e; cases e
    | false => rfl
theorem sub_iff {v u : List Str} : subB v u = true ↔ ∀ x ∈ v, x ∈ u := by
  unfold subB
  rw [List.all_eq_true]
  exact ⟨fun h x hx => of_decide_eq_true (h x hx), fun h x hx => decide_eq_true (h x hx)⟩
theorem lies_iff {v u : List Str} : liesB v u = true ↔ v.length < u.length ∧ ∀ x ∈ v, x ∈ u := by
  unfold liesB
  rw [Bool.and_eq_true, decide_eq_true_eq, sub_iff]
theorem shut_iff {ns : List Str} {ps : List Pr} {v : List Str} : shutB ns ps v = true ↔ ∀ x ∈ ns, x ∈ v ∨ ∃ y ∈ v, (y, x) ∈ ps := by
  unfold shutB
  rw [List.all_eq_true]
  constructor
  · intro h x hx
    have := h x hx
    rw [Bool.or_eq_true, decide_eq_true_eq, hit_iff] at this
    exact this
  · intro h x hx
    rw [Bool.or_eq_true, decide_eq_true_eq, hit_iff]
    exact h x hx
theorem max_iff {L : List (List Str)} {v : List Str} : maxB L v = true ↔ ∀ u ∈ L, ¬ (v.length < u.length ∧ ∀ x ∈ v, x ∈ u) := by
  unfold maxB
  rw [Bool.not_eq_true', List.any_eq_false]
  exact ⟨fun h u hu z => h u hu (lies_iff.mpr z), fun h u hu z => h u hu (lies_iff.mp z)⟩
/-- of those above v, one that lies in no other -/
theorem top_of {L : List (List Str)} {n : Nat} (hn : ∀ u ∈ L, u.length ≤ n) : ∀ (k : Nat) (u : List Str), u ∈ L → n - u.length ≤ k → ∃ t ∈ L, maxB L t = true ∧ u.length ≤ t.length ∧ ∀ x ∈ u, x ∈ t
  | 0, u, hu, h => ⟨u, hu, max_iff.mpr fun w hw z => by have := hn w hw; have := hn u hu; omega, Nat.le_refl _, fun _ h => h⟩
  | k + 1, u, hu, h => by
    cases e : maxB L u with
    | true => exact ⟨u, hu, e, Nat.le_refl _, fun _ h => h⟩
    | false =>
      unfold maxB at e
      rw [Bool.not_eq_false', List.any_eq_true] at e
      obtain ⟨w, hw, e⟩ := e
      obtain ⟨e1, e2⟩ := lies_iff.mp e
      have := hn w hw
      obtain ⟨t, ht, h1, h2, h3⟩ := top_of hn k w hw (by omega)
      exact ⟨t, ht, h1, by omega, fun x hx => h3 x (e2 x hx)⟩
def gstep (f : List (List Str)) (v : List Str) : List (List Str) := if f.any fun u => subB v u then f else f ++ [v]
theorem great_fold {l : List Str} {L : List (List Str)} (nd : l.Nodup) (rs : L.Pairwise fun a b => ltZ a b = true) (sb : ∀ v ∈ L, List.Sublist v l) : ∀ (A B : List (List Str)), L = A ++ B → B.reverse.foldl gstep [] = (B.filter (maxB L)).reverse
  | A, [], _ => rfl
  | A, v :: B, e => by
    have ih := great_fold nd rs sb (A ++ [v]) B (by rw [e]; simp)
    rw [List.reverse_cons, List.foldl_append, ih]
    have hv : v ∈ L := by rw [e]; simp
    have key : ((B.filter (maxB L)).reverse.any fun u => subB v u) = !maxB L v := by
      rw [List.any_reverse]
      cases em : maxB L v with
      | true =>
        refine List.any_eq_false.mpr ?_
        intro u hu z
        obtain ⟨hu, _⟩ := List.mem_filter.mp hu
        have huL : u ∈ L := by rw [e]; simp [hu]
        have z := sub_iff.mp z
        have lt : ltZ v u = true := by
          rw [e, List.pairwise_append] at rs
          exact (List.pairwise_cons.mp rs.2.1).1 u hu
        have le := nd_len ((sb v hv).nodup nd) z
        have ge : ¬ v.length < u.length := fun g => max_iff.mp em u huL ⟨g, z⟩
        have eqv : v = u := sub_ext nd (sb v hv) (sb u huL) fun x => ⟨z x, fun hx => by
          by_cases hxv : x ∈ v
          · exact hxv
          · have := nd_len (l := x :: v) (m := u) (List.nodup_cons.mpr ⟨hxv, (sb v hv).nodup nd⟩) fun y hy => by
              rcases List.mem_cons.mp hy with rfl | hy
              · exact hx
              · exact z y hy
            rw [List.length_cons] at this
            omega⟩
        rw [eqv, ltZ_irr] at lt
        cases lt
      | false =>
        unfold maxB at em
        rw [Bool.not_eq_false', List.any_eq_true] at em
        obtain ⟨w, hw, em⟩ := em
        obtain ⟨e1, e2⟩ := lies_iff.mp em
        obtain ⟨t, ht, h1, h2, h3⟩ := top_of (n := l.length) (fun u hu => (sb u hu).length_le) _ w hw (Nat.le_refl _)
        refine List.any_eq_true.mpr ?_
        refine ⟨t, List.mem_filter.mpr ⟨?_, h1⟩, sub_iff.mpr fun x hx => h3 x (e2 x hx)⟩
        rw [e, List.mem_append, List.mem_cons] at ht
        rcases ht with ht | rfl | ht
        · rw [e, List.pairwise_append] at rs
          have := rs.2.2 t ht v (List.mem_cons_self ..)
          unfold ltZ at this
          simp only [Bool.or_eq_true, decide_eq_true_eq, Bool.and_eq_true] at this
          omega
        · omega
        · exact ht
    rw [List.foldl_cons, List.foldl_nil]
    unfold gstep
    rw [key]
    cases em : maxB L v with
    | true => rw [List.filter_cons_of_pos em, List.reverse_cons] <;> rfl
    | false => rw [List.filter_cons_of_neg (by simp [em])] <;> rfl
theorem views_rise {ns : List Str} {ps : List Pr} (h : ns.Nodup) : (viewsL ns ps).Pairwise fun a b => ltZ a b = true := (sets_rise (sortS_ris h)).sublist List.filter_sublist
theorem views_sub {ns : List Str} {ps : List Pr} {v : List Str} (h : v ∈ viewsL ns ps) : List.Sublist v (sortS ns) := allSets_mem.mp (List.mem_filter.mp h).1
theorem views_mem {ns : List Str} {ps : List Pr} {v : List Str} : v ∈ viewsL ns ps ↔ List.Sublist v (sortS ns) ∧ viewB ps v = true := by
  unfold viewsL
  rw [List.mem_filter, allSets_mem]
theorem great_is {ns : List Str} {ps : List Pr} (h : ns.Nodup) : ((viewsL ns ps).reverse.foldl gstep []).reverse = greatL ns ps := by
  rw [great_fold (l := sortS ns) (L := viewsL ns ps) ((sortS_perm ns).nodup_iff.mpr h) (views_rise h) (fun v hv => views_sub hv) [] (viewsL ns ps) rfl, List.reverse_reverse] <;> rfl
theorem views_len {ns : List Str} {ps : List Pr} (h : ns.length ≤ 8) : (viewsL ns ps).length ≤ 256 := by
  refine Nat.le_trans (List.length_filter_le ..) ?_
  have hl : (sortS ns).length ≤ 8 := by rw [(sortS_perm ns).length_eq]; exact h
  generalize sortS ns = l at hl
  have e : l = (List.range l.length).map fun i => l.getD i default := by
    apply List.ext_getElem?
    intro i
    rw [List.getElem?_map]
    by_cases hi : i < l.length
    · rw [List.getElem?_range hi, List.getElem?_eq_getElem hi, Option.map_some, List.getD_eq_getElem?_getD, List.getElem?_eq_getElem hi] <;> rfl
    · rw [List.getElem?_eq_none (by omega), List.getElem?_eq_none (by simpa using hi)] <;> rfl
  have key : (allSets l).length = (allSets (List.range l.length)).length := by
    conv => lhs; rw [e]
    unfold allSets
    rw [List.length_map, List.length_range, List.length_flatMap, List.length_flatMap]
    congr 1
    refine List.map_congr_left fun r _ => ?_
    rw [comb_map, List.length_map]
  rw [key]
  have all : ∀ n ≤ 8, (allSets (List.range n)).length ≤ 256 := by decide +kernel
  exact all _ hl
end Bw
set_option Elab.async false
set_option linter.all false
set_option maxRecDepth 100000
set_option maxHeartbeats 2000000
/-! itertools.combinations of a list, at the library's level -/
namespace BwCmb
open PySem PySem.Spec
open Sem (wp)
theorem mro_cmb : mroOf (.type "itertools.combinations") = pure [.type "itertools.combinations", .type "object"] := by rw [mroOf_type]; kernel_rfl
theorem lookup_cmb_new : typeLookup (.type "itertools.combinations") "__new__" = pure (some (.builtin "itertools.combinations.__new__")) := by rw [typeLookup_type, builtinLookup_eq_fast]; kernel_rfl
theorem sub_cmb : isSubtype (.type "itertools.combinations") (.type "itertools.combinations") = pure true := by rw [isSubtype_type]; kernel_rfl
theorem isc_cmb : PySem.isType (.type "itertools.combinations") = pure true := by first | rfl | kernel_rfl
theorem slot_cmb_init : Slot "itertools.combinations" "__init__" "object.__init__" :=
  .of (owner := "object") (n := "__init__") (by rw [typeLookup_type, builtinLookup_eq_fast]; kernel_rfl) (by decide +kernel) (by decide +kernel) (by decide +kernel)
    (by first | exact .inr (by decide +kernel) | exact .inl (by decide +kernel)) (by rw [isSubtype_type]; kernel_rfl)
theorem called_cmb : TypeCalled "itertools.combinations" "itertools.combinations.__new__" "object.__init__" :=
  ⟨by decide +kernel, by decide +kernel, ⟨_, _, mro_cmb⟩, madeBy_type mro_cmb lookup_cmb_new (by decide +kernel), by decide +kernel, sub_cmb, slot_cmb_init⟩
theorem typeCall_cmb (a b : Value) : checkTypeCall "itertools.combinations" ⟨[a, b], []⟩ = pure () := by kernel_rfl
theorem newCall_cmb (a b : Value) : checkBuiltinCall "itertools.combinations.__new__" ⟨[.type "itertools.combinations", a, b], []⟩ = pure () := by kernel_rfl
theorem entry_cmb_new : entryFor table "itertools.combinations.__new__" = some Builtin.«itertools.combinations.__new__» := entryFor_of_tree (by kernel_rfl)
theorem slot_cmb_iter : Slot "itertools.combinations" "__iter__" "itertools.combinations.__iter__" :=
  .of (owner := "itertools.combinations") (n := "__iter__") (by rw [typeLookup_type, builtinLookup_eq_fast]; kernel_rfl) (by decide +kernel) (by decide +kernel) (by decide +kernel)
    (by first | exact .inr (by decide +kernel) | exact .inl (by decide +kernel)) sub_cmb
theorem slot_cmb_next : Slot "itertools.combinations" "__next__" "itertools.combinations.__next__" :=
  .of (owner := "itertools.combinations") (n := "__next__") (by rw [typeLookup_type, builtinLookup_eq_fast]; kernel_rfl) (by decide +kernel) (by decide +kernel) (by decide +kernel)
    (by first | exact .inr (by decide +kernel) | exact .inl (by decide +kernel)) sub_cmb
theorem entry_cmb_iter : entryFor table "itertools.combinations.__iter__" = some Builtin.«dict_keyiterator.__iter__» :=
  entryFor_alias (id' := "dict_keyiterator.__iter__") (by kernel_rfl) (by first | decide +kernel | rfl | (unfold String.splitOn; simp +decide [String.splitOnAux])) (by decide +kernel) (by kernel_rfl)
theorem entry_cmb_next : entryFor table "itertools.combinations.__next__" = some Builtin.«itertools.combinations.__next__» := entryFor_of_tree (by kernel_rfl)
theorem owner_cmb : Manifest.owners.lookup (String.ofList "itertools.combinations".toList) = some Manifest.sig_itertools_combinations := by kernel_rfl
theorem args_cmb_iter (a : Value) : argsOk "itertools.combinations.__iter__" ⟨[a], []⟩ := by
  unfold argsOk; kernel_rfl
theorem args_cmb_next (a : Value) : argsOk "itertools.combinations.__next__" ⟨[a], []⟩ := by
  unfold argsOk; kernel_rfl
theorem noDict_cmb : typeHasDict (.type "itertools.combinations") = false := by decide +kernel
end BwCmb
set_option Elab.async false
set_option linter.all false
set_option maxRecDepth 100000
set_option maxHeartbeats 2000000
namespace BwCmb
open PySem PySem.Spec PyProof.Rows
open Sem (wp)
def poolO (vs : List Value) : Obj := { cls := .type "tuple", data := .seq vs.toArray }
def recF (pool : Addr) (st : Int) (prev : Value) (ix : List Nat) : Array Value := (([.ref pool, .int st 0, prev] : List Value) ++ ix.map fun (i : Nat) => rawInt i).toArray
def recO (pool : Addr) (st : Int) (prev : Value) (ix : List Nat) : Obj := { cls := .type "itertools.combinations", data := .fields (recF pool st prev ix) }
def copyH (h : Heap) (vs : List Value) : Heap := (h.push (seqObj "list" #[] 0)).update h.objs.size (Obj.mapSeq (· ++ vs.toArray))
def cmbH (h : Heap) (vs : List Value) (r : Nat) : Heap := ((copyH h vs).push (poolO vs)).push (recO (h.objs.size + 1) 0 .none (List.range r))
theorem meets_cmb_new (a : Addr) (vs : List Value) (r : Nat) (t : Tok) (hr : r ≤ vs.length) (hv : vs.length ≤ 64) :
    Meets (Builtin.«itertools.combinations.__new__» ⟨[.type "itertools.combinations", .ref a, .int r t], []⟩)
      (fun _ R s => s.heap.IsList a vs.toArray ∧ R (.ok (.ret (.ref (s.heap.objs.size + 2)))) { s with heap := cmbH s.heap vs r }) :=
  .of_wp fun prog w A R s h => by
    obtain ⟨hp, g, dd, tk, os⟩ := s
    obtain ⟨hl, h⟩ := h
    have es : ("itertools." ++ "combinations" : String) = "itertools.combinations" := by decide +kernel
    have hsub : isSubtype (.type "itertools.combinations") (.type ("itertools." ++ "combinations")) = pure true := by rw [es]; exact sub_cmb
    have hd := noDict_cmb
    have col : ∀ {A' : Around} {E : Value → Shared → Prop} {Q : List Value → Shared → Prop}, Q vs ⟨copyH hp vs, g, dd, tk, os⟩ → wpAny (model prog w) A' (collect (.ref a)) Q E ⟨hp, g, dd, tk, os⟩ := fun q => collect_list (s := ⟨hp, g, dd, tk, os⟩) hl q (by rw [sizeLine_eq]; omega)
    have hn : ¬ ((decide ((r : Int) < -(2 ^ 63 : Int)) || decide ((r : Int) ≥ 2 ^ 63)) = true) := by simp; omega
    wp_walk using col
    rw [if_neg hn]
    wp_walk using col
    have h1 : ¬ (Builtin.Itertools.itTooMany (r : Int) = true) := by unfold Builtin.Itertools.itTooMany; simp; omega
    rw [if_neg h1]
    refine wpAny_bind (wpAny_newTuple ?_ (by rw [sizeLine_eq]; omega))
    refine wpAny_pure ?_
    dsimp only
    rw [if_neg (show ¬ (((r : Int).toNat) > vs.length) by omega)]
    have szC : (copyH hp vs).objs.size = hp.objs.size + 1 := by
      unfold copyH
      rw [Heap.size_update, Heap.size_push]
    refine wpAny_bind ?_
    unfold Builtin.Itertools.itNewRecord
    rw [hd, if_pos (show (!false) = true from rfl)]
    refine wpAny_newObj_type ?_ ?_
    · have e2 : (((copyH hp vs).push (poolO vs)).objs.size) = hp.objs.size + 2 := by rw [Heap.size_push, szC]
      refine wpAny_pure ⟨_, rfl, ?_⟩
      have h' := h
      unfold cmbH at h'
      rw [← e2, ← szC] at h'
      exact h'
    · show _ ≤ _
      simp only [List.size_toArray, List.length_append, List.length_cons, List.length_nil, List.length_map, List.length_range]
      rw [sizeLine_eq]
      omega
end BwCmb
set_option Elab.async false
set_option linter.all false
set_option maxRecDepth 100000
set_option maxHeartbeats 2000000
namespace BwCmb
open PySem PySem.Spec PyProof.Rows
open Sem (wp)
/-- the next choice of places -/
def cnext (n : Nat) (ix : List Nat) : Option (List Nat) :=
  match (List.range ix.length).reverse.find? fun k => ix.getD k 0 != k + n - ix.length with
  | none => none
  | some k => some (ix.take k ++ (List.range (ix.length - k)).map (ix.getD k 0 + 1 + ·))
def chainB (n r : Nat) : Bool :=
  let L := Bw.comb (List.range n) r
  decide (L[0]? = some (List.range r)) && ((List.range L.length).all fun k => decide (cnext n (L.getD k []) = L[k + 1]?)) && L.all fun l => decide (l.length = r) && l.all fun i => decide (i < n)
theorem chain_all : ∀ n ≤ 8, ∀ r ≤ n, chainB n r = true := by decide +kernel
theorem recF_num (pool : Addr) (st : Int) (prev : Value) (ix : List Nat) : (((recF pool st prev ix).toList.drop 3).map fun | .int n _ => n.toNat | _ => 0) = ix := by
  unfold recF
  simp only [List.drop_succ_cons, List.drop_zero, List.cons_append, List.nil_append]
  induction ix with
  | nil => rfl
  | cons x ix ih =>
    simp only [List.map_cons] at ih ⊢
    rw [ih] <;> rfl
section
variable {prog : Program} {w : World} {A : Around} {E : Value → Shared → Prop} {s : Shared}
theorem num_from {it pool : Addr} {st : Int} {prev : Value} {ix : List Nat} {Q : List Nat → Shared → Prop} (hit : s.heap.get? it = some (recO pool st prev ix)) (h : Q ix s) : wpAny (model prog w) A (Builtin.Itertools.itNumbersFrom (.ref it) 3) Q E s := by
  unfold Builtin.Itertools.itNumbersFrom
  refine wpAny_bind (wpAny_load hit ?_)
  show wpAny _ _ (pure (((recF pool st prev ix).toList.drop 3).map fun | .int n _ => n.toNat | _ => 0)) _ _ s
  rw [recF_num]
  exact wpAny_pure h
theorem int_field {it pool : Addr} {st : Int} {prev : Value} {ix : List Nat} {Q : Int → Shared → Prop} (hit : s.heap.get? it = some (recO pool st prev ix)) (h : Q st s) : wpAny (model prog w) A (Builtin.Itertools.itIntField (.ref it) 1) Q E s := by
  unfold Builtin.Itertools.itIntField
  exact wpAny_bind (wpAny_field hit rfl (x := .int st 0) rfl (wpAny_pure h))
theorem pool_items {pool : Addr} {vs : List Value} {Q : Array Value → Shared → Prop} (hp : s.heap.get? pool = some (poolO vs)) (h : Q vs.toArray s) : wpAny (model prog w) A (Builtin.Itertools.itPoolItems (.ref pool)) Q E s := by
  unfold Builtin.Itertools.itPoolItems
  exact wpAny_bind (wpAny_seqItems hp rfl (wpAny_pure h))
theorem set_rec {it pool : Addr} {st st' : Int} {prev : Value} {ix : List Nat} {h : Heap} (hit : h.get? it = some (recO pool st prev ix)) : (h.update it (Obj.mapFields (·.setIfInBounds 1 (rawInt st')))).get? it = some (recO pool st' prev ix) := by
  have e := Heap.get?_update_self (Obj.mapFields (·.setIfInBounds 1 (rawInt st'))) hit rfl
  rw [e]
  unfold recO Obj.mapFields recF
  simp [rawInt]
theorem set_prev {it pool : Addr} {st : Int} {prev new : Value} {ix : List Nat} {h : Heap} (hit : h.get? it = some (recO pool st prev ix)) : (h.update it (Obj.mapFields (·.setIfInBounds 2 new))).get? it = some (recO pool st new ix) := by
  have e := Heap.get?_update_self (Obj.mapFields (·.setIfInBounds 2 new)) hit rfl
  rw [e]
  unfold recO Obj.mapFields recF
  simp
theorem set_nums {it pool : Addr} {st : Int} {prev : Value} {ix ix' : List Nat} {h : Heap} (hit : h.get? it = some (recO pool st prev ix)) : (h.update it (Obj.mapFields fun fs => fs.extract 0 3 ++ (ix'.map fun (n : Nat) => rawInt n).toArray)).get? it = some (recO pool st prev ix') := by
  have e := Heap.get?_update_self (Obj.mapFields fun fs => fs.extract 0 3 ++ (ix'.map fun (n : Nat) => rawInt n).toArray) hit rfl
  rw [e]
  unfold recO Obj.mapFields recF
  simp
end
end BwCmb
set_option Elab.async false
set_option linter.all false
set_option maxRecDepth 100000
set_option maxHeartbeats 2000000
namespace BwCmb
open PySem PySem.Spec PyProof.Rows
open Sem (wp)
section
variable {prog : Program} {w : World} {A : Around} {E : Value → Shared → Prop} {s : Shared}
/-- what a choice of places picks -/
def picks (vs : List Value) (ix : List Nat) : List Value := ix.map fun i => vs.toArray.getD i .none
theorem cmb_item {it pool : Addr} {vs : List Value} {st : Int} {prev : Value} {ix ix' : List Nat} {Q : Option Value → Shared → Prop} (hit : s.heap.get? it = some (recO pool st prev ix)) (hp : s.heap.get? pool = some (poolO vs)) (hne : pool ≠ it) (hl : ix'.length ≤ 64)
    (h : (st = 0 ∧ ix' = ix) ∨ (st = 1 ∧ cnext vs.length ix = some ix'))
    (hQ : ∀ h', h'.get? it = some (recO pool 1 (.ref s.heap.objs.size) ix') → h'.get? s.heap.objs.size = some (poolO (picks vs ix')) → (∀ b o, b ≠ it → s.heap.get? b = some o → h'.get? b = some o) → Q (some (.ref s.heap.objs.size)) { s with heap := h' }) :
    wpAny (model prog w) A (pyNext (.ref it)) Q E s := by
  have hT : s.TypeIs (.ref it) "itertools.combinations" := ⟨_, hit, rfl⟩
  have tail : ∀ {A' : Around} {E' : Value → Shared → Prop} {Q' : PySem.Fin → Shared → Prop} (h1 : Heap), h1.objs.size = s.heap.objs.size → h1.get? it = some (recO pool 1 prev ix') → (∀ b o, b ≠ it → s.heap.get? b = some o → h1.get? b = some o) →
      (∀ h', h'.get? it = some (recO pool 1 (.ref s.heap.objs.size) ix') → h'.get? s.heap.objs.size = some (poolO (picks vs ix')) → (∀ b o, b ≠ it → s.heap.get? b = some o → h'.get? b = some o) → Q' (.done (.ret (.ref s.heap.objs.size))) { s with heap := h' }) →
      wpAny (model prog w) A' (((Builtin.Itertools.itPoolItems (.ref pool) >>= fun items => newTuple (ix'.map fun i => items.getD i .none)) >>= fun result => field (.ref it) 2 >>= fun before => setField (.ref it) 2 result >>= fun _ => letGo [before] [result] >>= fun _ => ret result)) Q' E' { s with heap := h1 } := by
    intro A' E' Q' h1 hsz hit1 hk q
    refine wpAny_bind (wpAny_bind (pool_items (s := { s with heap := h1 }) (hk _ _ hne hp) (wpAny_newTuple ?_ (by rw [List.length_map, sizeLine_eq]; omega))))
    have hlt : it < h1.objs.size := Heap.lt_size hit1
    show wpAny _ _ _ _ _ { s with heap := h1.push (poolO (picks vs ix')) }
    have hit2 : (h1.push (poolO (picks vs ix'))).get? it = some (recO pool 1 prev ix') := Heap.get?_push_of_some _ hit1
    refine wpAny_bind (wpAny_field hit2 rfl (x := prev) rfl ?_)
    refine wpAny_bind (wpAny_setField hit2 rfl (by show 2 < (recF pool 1 prev ix').size; unfold recF; simp) ?_)
    refine wpAny_bind (wpAny_letGo ?_)
    have enew : (h1.push (poolO (picks vs ix'))).get? h1.objs.size = some (poolO (picks vs ix')) := Heap.get?_push_size _ rfl
    refine wpAny_pure ?_
    rw [hsz] at enew ⊢
    refine q _ (set_prev hit2) ?_ fun b o hb e => ?_
    · rw [Heap.get?_update_ne _ _ _ _ (by rw [← hsz]; exact Nat.ne_of_gt hlt)]
      exact enew
    · rw [Heap.get?_update_ne _ _ _ _ hb]
      exact Heap.get?_push_of_some _ (hk b o hb e)
  unfold pyNext
  refine wpAny_bind (wpAny_attempt (wpAny_callSpecial?_slot (name := Str.ofString "__next__") hT slot_cmb_next (wpAny_call_entry slot_cmb_next hT entry_cmb_next ?_ (args_cmb_next _))))
  show wpAny _ _ (field (.ref it) 0 >>= _) _ _ s
  refine wpAny_bind (wpAny_field hit rfl (x := .ref pool) rfl ?_)
  show wpAny _ _ (Builtin.Itertools.itNumbersFrom (.ref it) 3 >>= _) _ _ s
  refine wpAny_bind (num_from hit ?_)
  show wpAny _ _ (Builtin.Itertools.itIntField (.ref it) 1 >>= _) _ _ s
  refine wpAny_bind (int_field hit ?_)
  rcases h with ⟨rfl, rfl⟩ | ⟨rfl, hc⟩
  · show wpAny _ _ (setField (.ref it) 1 (rawInt 1) >>= _) _ _ s
    refine wpAny_bind (wpAny_setField hit rfl (by show 1 < (recF pool 0 prev ix').size; unfold recF; simp) ?_)
    refine tail _ (Heap.size_update ..) (set_rec hit) (fun b o hb e => by rw [Heap.get?_update_ne _ _ _ _ hb]; exact e) fun h' a1 a2 a3 => ?_
    exact ⟨_, rfl, wpAny_pure (hQ h' a1 a2 a3)⟩
  · show wpAny _ _ (Builtin.Itertools.itPoolItems (.ref pool) >>= _) _ _ s
    refine wpAny_bind (pool_items hp ?_)
    show wpAny _ _ (match cnext vs.toArray.size ix with | some next => _ | none => _) _ _ s
    rw [List.size_toArray, hc]
    show wpAny _ _ (Builtin.Itertools.itSetNumbersFrom (.ref it) 3 ix' >>= _) _ _ s
    refine wpAny_bind ?_
    unfold Builtin.Itertools.itSetNumbersFrom
    refine wpAny_updateFields hit rfl ?_ ?_
    · refine tail _ (Heap.size_update ..) (set_nums hit) (fun b o hb e => by rw [Heap.get?_update_ne _ _ _ _ hb]; exact e) fun h' a1 a2 a3 => ?_
      exact ⟨_, rfl, wpAny_pure (hQ h' a1 a2 a3)⟩
    · show (Array.extract (recF pool 1 prev ix) 0 3 ++ _).size ≤ _
      simp only [Array.size_append, Array.size_extract, List.size_toArray, List.length_map]
      rw [sizeLine_eq]
      omega
theorem cmb_end {it pool : Addr} {vs : List Value} {prev : Value} {ix : List Nat} {Q : Option Value → Shared → Prop} (hh : A.handled = none) (hit : s.heap.get? it = some (recO pool 1 prev ix)) (hp : s.heap.get? pool = some (poolO vs)) (hc : cnext vs.length ix = none)
    (hQ : ∀ h', Heap.ExtBut it s.heap h' → Q none { s with heap := h' }) : wpAny (model prog w) A (pyNext (.ref it)) Q E s := by
  have hT : s.TypeIs (.ref it) "itertools.combinations" := ⟨_, hit, rfl⟩
  unfold pyNext
  refine wpAny_bind (wpAny_attempt (wpAny_callSpecial?_slot (name := Str.ofString "__next__") hT slot_cmb_next (wpAny_call_entry slot_cmb_next hT entry_cmb_next ?_ (args_cmb_next _))))
  show wpAny _ _ (field (.ref it) 0 >>= _) _ _ s
  refine wpAny_bind (wpAny_field hit rfl (x := .ref pool) rfl ?_)
  show wpAny _ _ (Builtin.Itertools.itNumbersFrom (.ref it) 3 >>= _) _ _ s
  refine wpAny_bind (num_from hit ?_)
  show wpAny _ _ (Builtin.Itertools.itIntField (.ref it) 1 >>= _) _ _ s
  refine wpAny_bind (int_field hit ?_)
  show wpAny _ _ (Builtin.Itertools.itPoolItems (.ref pool) >>= _) _ _ s
  refine wpAny_bind (pool_items hp ?_)
  show wpAny _ _ (match cnext vs.toArray.size ix with | some next => _ | none => _) _ _ s
  rw [List.size_toArray, hc]
  show wpAny _ _ (setField (.ref it) 1 (rawInt 2) >>= _) _ _ s
  refine wpAny_bind (wpAny_setField hit rfl (by show 1 < (recF pool 1 prev ix).size; unfold recF; simp) ?_)
  show wpAny _ _ (newExc (.type "StopIteration") [] >>= _) _ _ _
  refine wpAny_bind ?_
  simp only [newTuple, newExc]
  refine wpAny_bind (wpAny_newObj_type ?_ (by size_fits))
  refine wpAny_bind (m := firstArgMember _ _) (wpAny_of_eq (a := Value.none) (by first | (simp only [firstArgMember]; rfl) | rfl) ?_)
  refine wpAny_newObj_type ?_ (by size_fits)
  simp only [raiseNew]
  refine wpAny_bind (wpAny_handled ?_)
  first | rw [hh] | rw [show A.in1.handled = none from hh]
  refine wpAny_bind (wpAny_pure (wpAny_throw ?_))
  refine wpAny_bind (wpAny_isInstance (T := "StopIteration") (b := true) ⟨_, Heap.get?_push_size _ rfl, rfl⟩ isSubtype_stop ?_)
  refine wpAny_pure (hQ _ ?_)
  exact ((show Heap.ExtBut it s.heap _ from fun b o hb e => by rw [Heap.get?_update_ne _ _ _ _ hb]; exact e).push _).push _
theorem cmb_iter {it pool : Addr} {st : Int} {prev : Value} {ix : List Nat} {Q : Value → Shared → Prop} (hit : s.heap.get? it = some (recO pool st prev ix)) (h : Q (.ref it) s) : wpAny (model prog w) A (pyIter (.ref it)) Q E s := by
  have hT : s.TypeIs (.ref it) "itertools.combinations" := ⟨_, hit, rfl⟩
  refine wpAny_pyIter_slot hT slot_cmb_iter (wpAny_call_entry slot_cmb_iter hT entry_cmb_iter ?_ (args_cmb_iter _))
  show wpAny _ _ (ret (.ref it)) _ _ s
  exact wpAny_pure ⟨_, rfl, "itertools.combinations", _, hT, slot_cmb_next.lookup, h⟩
theorem call_cmb {a : Addr} {vs : List Value} {r : Nat} {t : Tok} {Q : Value → Shared → Prop} (hl : s.heap.IsList a vs.toArray) (hr : r ≤ vs.length) (hv : vs.length ≤ 64)
    (h : ∀ h', h'.get? (s.heap.objs.size + 2) = some (recO (s.heap.objs.size + 1) 0 .none (List.range r)) → h'.get? (s.heap.objs.size + 1) = some (poolO vs) → (∀ b o, s.heap.get? b = some o → h'.get? b = some o) → Q (.ref (s.heap.objs.size + 2)) { s with heap := h' }) :
    wpAny (model prog w) A (call (.type "itertools.combinations") [.ref a, .int r t]) Q E s := by
  refine callType_new called_cmb (by decide +kernel) (typeCall_cmb _ _) (newCall_cmb _ _) (fun obj => F.args_object_init_3 obj _ _) entry_cmb_new (meets_cmb_new a vs r t hr hv) ⟨hl, ?_⟩
  have sz1 : (copyH s.heap vs).objs.size = s.heap.objs.size + 1 := by
    unfold copyH
    rw [Heap.size_update, Heap.size_push]
  have sz2 : ((copyH s.heap vs).push (poolO vs)).objs.size = s.heap.objs.size + 2 := by rw [Heap.size_push, sz1]
  have g1 : (cmbH s.heap vs r).get? (s.heap.objs.size + 2) = some (recO (s.heap.objs.size + 1) 0 .none (List.range r)) := by
    unfold cmbH
    rw [← sz2]
    exact Heap.get?_push_size _ rfl
  have g2 : (cmbH s.heap vs r).get? (s.heap.objs.size + 1) = some (poolO vs) := by
    unfold cmbH
    refine Heap.get?_push_of_some _ ?_
    rw [← sz1]
    exact Heap.get?_push_size _ rfl
  show _ ∧ _
  refine ⟨⟨_, g1, rfl⟩, h _ g1 g2 fun b o e => ?_⟩
  unfold cmbH copyH
  refine Heap.get?_push_of_some _ (Heap.get?_push_of_some _ ?_)
  rw [Heap.get?_update_ne _ _ _ _ (Nat.ne_of_lt (Heap.lt_size e))]
  exact Heap.get?_push_of_some _ e
end
end BwCmb
set_option Elab.async false
set_option linter.all false
set_option maxRecDepth 100000
set_option maxHeartbeats 2000000
namespace L2
open PySem PySem.Spec PyProof.Rows BwCmb
/-- each choice of r of vs, in order, a new tuple -/
def ItC (vs : List V) (r : Nat) : It :=
  ⟨fun i _ => i < (Bw.comb vs r).length, fun i H v H' => ∃ T ys, v = .ref T ∧ H T = none ∧ (Bw.comb vs r)[i]? = some ys ∧ H' = upd H T (.tup ys), fun i _ => i = (Bw.comb vs r).length⟩
theorem range_get {α : Type} (l : List α) (d : α) : l = (List.range l.length).map fun i => l.getD i d := by
  apply List.ext_getElem?
  intro i
  rw [List.getElem?_map]
  by_cases hi : i < l.length
  · rw [List.getElem?_range hi, List.getElem?_eq_getElem hi, Option.map_some, List.getD_eq_getElem?_getD, List.getElem?_eq_getElem hi] <;> rfl
  · rw [List.getElem?_eq_none (by omega), List.getElem?_eq_none (by simpa using hi)] <;> rfl
theorem comb_range (vs : List V) (r : Nat) : Bw.comb vs r = (Bw.comb (List.range vs.length) r).map (List.map fun i => vs.getD i .non) := by
  conv => lhs; rw [range_get vs .non]
  rw [Bw.comb_map]
theorem vals_picks {vs : List V} {us : List Value} (rv : Vals vs us) : ∀ {ix : List Nat}, (∀ i ∈ ix, i < us.length) → Vals (ix.map fun i => vs.getD i .non) (picks us ix)
  | [], _ => .nil
  | i :: ix, h => by
    have hi := h i (List.mem_cons_self ..)
    have hl := rv.length
    refine .cons ?_ (vals_picks rv fun j hj => h j (List.mem_cons_of_mem _ hj))
    have e1 : vs[i]? = some (vs.getD i .non) := by
      rw [List.getD_eq_getElem?_getD, List.getElem?_eq_getElem (show i < vs.length by omega)] <;> rfl
    obtain ⟨u, e2, r⟩ := rv.get e1
    have e3 : us.toArray.getD i .none = u := by
      simp [Array.getD, hi]
      rw [List.getElem?_eq_getElem hi] at e2
      exact Option.some.inj e2
    show RelV (vs.getD i .non) (us.toArray.getD i .none)
    rw [e3]
    exact r
theorem chain_facts {n r : Nat} (hn : n ≤ 8) (hr : r ≤ n) : (Bw.comb (List.range n) r)[0]? = some (List.range r) ∧ (∀ k l, (Bw.comb (List.range n) r)[k]? = some l → cnext n l = (Bw.comb (List.range n) r)[k + 1]?) ∧ ∀ l ∈ Bw.comb (List.range n) r, l.length = r ∧ ∀ i ∈ l, i < n := by
  have h := chain_all n hn r hr
  unfold chainB at h
  simp only [Bool.and_eq_true, decide_eq_true_eq, List.all_eq_true] at h
  obtain ⟨⟨h1, h2⟩, h3⟩ := h
  refine ⟨h1, fun k l e => ?_, fun l hl => ⟨(h3 l hl).1, fun i hi => (h3 l hl).2 i hi⟩⟩
  have hk := (List.getElem?_eq_some_iff.mp e).1
  have := h2 k (List.mem_range.mpr hk)
  rw [List.getD_eq_getElem?_getD, e] at this
  exact this
def cmbSt (pool it : Addr) (us : List Value) (r i : Nat) (h : Heap) : Prop := h.get? pool = some (poolO us) ∧ ∃ st prev ix, h.get? it = some (recO pool st prev ix) ∧ ((i = 0 ∧ st = 0 ∧ ix = List.range r) ∨ (st = 1 ∧ ∃ k, i = k + 1 ∧ (Bw.comb (List.range us.length) r)[k]? = some ix))
theorem turn_comb {P : Program} {w : World} {K : PySem.W.Frag} {tg : Expr} {vs : List V} {us : List Value} {r : Nat} (pool it : Addr) (ne : pool ≠ it) (rv : Vals vs us) (hn : us.length ≤ 8) (hr : r ≤ us.length) :
    Turn P w K tg (ItC vs r) [it, pool] it (cmbSt pool it us r) where
  mem := by simp
  obj := fun i h state b hb => by
    obtain ⟨hp, st, prev, ix, hit, _⟩ := state
    have which : b = it ∨ b = pool := by simpa using hb
    rcases which with z | z
    · rw [z]; exact ⟨_, hit, fun v q => by have q : Data.fields _ = Data.cell v := q; cases q⟩
    · rw [z]; exact ⟨_, hp, fun v q => by have q : Data.seq _ _ = Data.cell v := q; cases q⟩
  keep := fun i h h' state k => by
    obtain ⟨hp, st, prev, ix, hit, z⟩ := state
    exact ⟨k pool (by simp) _ hp, st, prev, ix, k it (by simp) _ hit, z⟩
  item := by
    intro X eP eW eK quiet i pins s σ H E I free state goesOn
    subst eP eW eK
    obtain ⟨hp, st, prev, ix, hit, z⟩ := state
    obtain ⟨c1, c2, c3⟩ := chain_facts hn hr
    have goesOn : i < (Bw.comb vs r).length := goesOn
    have lv := rv.length
    rw [comb_range, List.length_map, lv] at goesOn
    obtain ⟨ix', e1, hs⟩ : ∃ ix', (Bw.comb (List.range us.length) r)[i]? = some ix' ∧ ((st = 0 ∧ ix' = ix) ∨ (st = 1 ∧ cnext us.length ix = some ix')) := by
      rcases z with ⟨rfl, rfl, rfl⟩ | ⟨rfl, k, rfl, e⟩
      · exact ⟨_, c1, .inl ⟨rfl, rfl⟩⟩
      · exact ⟨_, List.getElem?_eq_getElem goesOn, .inr ⟨rfl, by rw [c2 k ix e, List.getElem?_eq_getElem goesOn]⟩⟩
    obtain ⟨d1, d2⟩ := c3 ix' (List.mem_of_getElem? e1)
    have ltI : it < s.heap.objs.size := Heap.lt_size hit
    have ltP : pool < s.heap.objs.size := Heap.lt_size hp
    refine cmb_item hit hp ne (by omega) hs fun h' g1 g2 g3 => ?_
    have ey : (Bw.comb vs r)[i]? = some (ix'.map fun i => vs.getD i .non) := by
      rw [comb_range, lv, List.getElem?_map, e1] <;> rfl
    have okNew : ObjOk X.prog X.w (upd H s.heap.objs.size (.tup (ix'.map fun i => vs.getD i .non))) h' s.heap.objs.size (.tup (ix'.map fun i => vs.getD i .non)) :=
      ⟨by rw [List.length_map, sizeLine_eq]; omega, picks us ix', vals_picks rv d2, ⟨_, g2, rfl, _, rfl⟩⟩
    have J : Inv X pins σ (upd H s.heap.objs.size (.tup (ix'.map fun i => vs.getD i .non))) { s with heap := h' } :=
      I.turnedNew (t' := s.toks) (ch := [it, pool]) (fun b ob hb q => g3 b ob (fun z => hb (by simp [z])) q) free (Nat.le_refl _) okNew
    refine ⟨_, rfl, go_of (s := { s with heap := h' }) (n := "itertools.combinations") g1 rfl rfl (by decide) ⟨.ref s.heap.objs.size, _, J, rfl, ⟨_, _, rfl, I.hok.fresh (Nat.le_refl _), ey, rfl⟩, ⟨g3 pool _ ne hp, 1, _, ix', g1, .inr ⟨rfl, i, rfl, e1⟩⟩, fun b hb => ?_⟩⟩
    have ltB : b < s.heap.objs.size := by
      have which : b = it ∨ b = pool := by simpa using hb
      rcases which with z | z
      · rw [z]; exact ltI
      · rw [z]; exact ltP
    rw [upd_ne (Nat.ne_of_lt ltB)]
    exact (free b hb).1
  done := by
    intro X eP eW eK quiet i pins s σ H E I free state goesOn
    subst eP eW eK
    obtain ⟨hp, st, prev, ix, hit, z⟩ := state
    obtain ⟨c1, c2, c3⟩ := chain_facts hn hr
    have goesOn : i = (Bw.comb vs r).length := goesOn
    have lv := rv.length
    rw [comb_range, List.length_map, lv] at goesOn
    have pos : 0 < (Bw.comb (List.range us.length) r).length := (List.getElem?_eq_some_iff.mp c1).1
    rcases z with ⟨rfl, rfl, rfl⟩ | ⟨rfl, k, rfl, e⟩
    · omega
    · obtain ⟨z0, z1, z2, z3, z4, z5⟩ := free it (by simp)
      refine cmb_end (I.ok.hd quiet) hit hp (by rw [c2 k ix e, List.getElem?_eq_none (by omega)]) fun h' eb => ⟨rfl, I.turned (t' := s.toks) (fun b o hb q => eb b o hb q) z0 z1 z3 z4 z5⟩
  self := fun A i s Q E state h => by
    obtain ⟨_, st, prev, ix, hit, _⟩ := state
    exact cmb_iter hit h
def iComb (K : PySem.W.Frag) (ta : TA) : TI := fun σ H R => ta σ H fun vs H1 => ∃ (a : Addr) (xs : List V) (r : Nat), vs = [.ref a, .int r] ∧ SqL K H1 a xs ∧ xs.length ≤ 8 ∧ r ≤ xs.length ∧ R (ItC xs r) H1
theorem pi_comb {X : Cx} {tg a b : Expr} {ta : TA} {p pos : Pos} (hg : Gl X "combinations") (hm : X.mg "combinations" = some (.type "itertools.combinations")) (ha : PA X [a, b] ta) (hs : starEach [a, b] X.env = [(false, eval a X.env), (false, eval b X.env)] := by rfl) (hs2 : starEach [b] X.env = [(false, eval b X.env)] := by rfl) :
    PI X tg (.Call (.Name "combinations" p) [a, b] [] pos) (iComb X.K ta) := by
  refine ⟨fun pins s σ H R I h => ?_⟩
  refine Call_ (ld_glob I hg hm (PyProof.Rows.callWith_type1 (thn (ha.run pos pins s σ H _ I h) fun us s1 ⟨vs, H1, J, relA, step⟩ => ?_) (by rw [hs, hs2]) (by rw [hs2]; rfl)))
  obtain ⟨l, xs, r, e, hl, h8, hr, q⟩ := step
  subst e
  cases relA with
  | cons r1 rr =>
    cases rr with
    | cons r2 rr =>
      cases rr
      cases r1
      obtain ⟨t, rfl⟩ := r2
      obtain ⟨its, rv, hpl, _⟩ := J.list hl
      have lv := rv.length
      refine call_cmb (vs := its) hpl.isList (by omega) (by omega) fun h' g1 g2 g3 => cmb_iter (s := { s1 with heap := h' }) g1 ?_
      have J2 : Inv X pins σ H1 { s1 with heap := h' } := J.kept (t' := s1.toks) g3
      refine ⟨s1.heap.objs.size + 2, [s1.heap.objs.size + 2, s1.heap.objs.size + 1], _, _, H1, rfl, J2, turn_comb (s1.heap.objs.size + 1) (s1.heap.objs.size + 2) (Nat.ne_of_lt (Nat.lt_succ_self _)) rv (by omega) (by omega), ⟨g2, 0, .none, _, g1, .inl ⟨rfl, rfl, rfl⟩⟩, fun b hb => ?_, q⟩
      have which : b = s1.heap.objs.size + 2 ∨ b = s1.heap.objs.size + 1 := by simpa using hb
      have above : s1.heap.objs.size ≤ b := by
        rcases which with z | z
        · rw [z]; exact Nat.le_add_right _ _
        · rw [z]; exact Nat.le_succ _
      exact J.fpOk above (J.hok.fresh above)
end L2
namespace Bw
open PySem L2
section
variable {K : PySem.W.Frag} {δ : List Sl} {ta : TA} {ds : List Da}
theorem drs_comb {H : Hp} : ∀ {vs : List V} {ds : List Da} {r i : Nat} {ys : List V}, DRs K H vs ds → (comb vs r)[i]? = some ys → ∃ es, (comb ds r)[i]? = some es ∧ DRs K H ys es := by
  intro vs ds r i ys h e
  rw [comb_range, List.getElem?_map] at e
  cases q : (comb (List.range vs.length) r)[i]? with
  | none => rw [q] at e; cases e
  | some ix =>
    rw [q] at e
    have e0 : ix.map (fun i => vs.getD i .non) = ys := Option.some.inj e
    have lv := h.len
    have mem := comb_mem.mp (List.mem_of_getElem? q)
    refine ⟨ix.map fun i => ds.getD i .non, ?_, ?_⟩
    · rw [show ds = (List.range ds.length).map fun i => ds.getD i .non from range_get ds .non, comb_map, List.getElem?_map, ← lv, q]
      show some (ix.map fun i => ds.getD i .non) = some (ix.map fun i => ((List.range vs.length).map fun i => ds.getD i .non).getD i .non)
      rw [lv, ← range_get ds .non]
    · rw [← e0]
      have hm : ∀ i ∈ ix, i < ds.length := fun i hi => by
        have := List.mem_range.mp (mem.1.subset hi)
        omega
      clear e e0 q mem
      induction ix with
      | nil => exact .nil
      | cons i ix ih =>
        refine .cons ?_ (ih fun j hj => hm j (List.mem_cons_of_mem _ hj))
        have hi := hm i (List.mem_cons_self ..)
        obtain ⟨v, e1, r1⟩ := h.at (List.getElem?_eq_getElem hi)
        show DR K H (vs.getD i .non) (ds.getD i .non)
        rw [List.getD_eq_getElem?_getD, e1, List.getD_eq_getElem?_getD, List.getElem?_eq_getElem hi]
        exact r1
theorem itd_comb {r : Nat} (h : EvSA K ta δ [.lst ds, .int (r : Nat)]) (h8 : ds.length ≤ 8) (hr : r ≤ ds.length) : ItD K (iComb K ta) δ ((comb ds r).map Da.tup) := fun σ Hk D H s R q =>
  h σ Hk D H s _ fun vs Hs H' x rs => by
    obtain ⟨v1, v2, rfl, r1, r2⟩ := rs.two_of
    cases r2
    cases r1 with
    | lst e r3 =>
      rename_i a xs
      have lv := r3.len
      refine ⟨a, xs, r, rfl, x.st.seq (SqL.of e), by omega, by omega, q _ Hs H' x ⟨fun i H d s e1 => ?_, fun i H x H' d Hk s1 s2 e1 y => ?_, fun H s => ?_⟩⟩
      · have := (List.getElem?_eq_some_iff.mp e1).1
        rw [List.length_map] at this
        show i < (comb xs r).length
        rw [show ds = (List.range ds.length).map fun i => ds.getD i .non from range_get ds .non, comb_map, List.length_map, ← lv] at this
        rw [comb_range, List.length_map]
        exact this
      · obtain ⟨T, ys, rfl, hT, e2, rfl⟩ := y
        obtain ⟨es, e3, r4⟩ := drs_comb r3 e2
        rw [List.getElem?_map, e3] at e1
        cases e1
        have k := s2.free hT
        exact ⟨_, (Ext.refl s2).new hT, .tup (SqT.of upd_same) ((r4.up s1).up (same_upd k))⟩
      · show _ = (comb xs r).length
        rw [List.length_map, comb_range, List.length_map]
        conv => lhs; rw [show ds = (List.range ds.length).map fun i => ds.getD i .non from range_get ds .non, comb_map, List.length_map, ← lv]
end
end Bw
set_option Elab.async false
set_option linter.all false
set_option maxRecDepth 100000
set_option maxHeartbeats 2000000
/-! sorted and min of data that are alike; sorted of a tuple of texts -/
namespace BwCmb
open PySem PySem.Spec PyProof.Rows
section
variable {prog : Program} {w : World} {A : Around} {E : Value → Shared → Prop} {s : Shared}
theorem collect_tup {l : Addr} {vs : List Value} {Q : List Value → Shared → Prop} (hl : IsTup s.heap l vs.toArray) (hz : vs.length ≤ sizeLine)
    (h : Q vs { s with heap := copyH s.heap vs }) : wpAny (model prog w) A (collect (.ref l)) Q E s := by
  obtain ⟨o, ho, hc, n, hd⟩ := hl
  unfold collect
  refine wpAny_bind (wpAny_runValue (codeAny_builtin entry_proto_collect' ?_))
  show wpAny _ _ (newList [] >>= fun x => again (.builtin "list.__iadd__" ⟨[x, .ref l], []⟩)) _ _ s
  refine wpAny_bind (wpAny_newList (wpAny_pure ⟨Code.quiet_builtin _ (by decide +kernel), codeAny_builtin entry_list_iadd' ?_⟩))
  show wpAny _ _ (Builtin.List.listExtendWith (.ref s.heap.objs.size) (.ref l) (.ref s.heap.objs.size)) _ _ { s with heap := s.heap.push (seqObj "list" #[] 0) }
  unfold Builtin.List.listExtendWith
  have ho' : (s.heap.push (seqObj "list" #[] 0)).get? l = some o := Heap.get?_push_of_some _ ho
  have hn0 : (s.heap.push (seqObj "list" #[] 0)).get? s.heap.objs.size = some (seqObj "list" #[] 0) := Heap.get?_push_size _ rfl
  refine wpAny_bind (wpAny_typeOf (T := "tuple") ⟨o, ho', hc⟩ ?_)
  rw [if_pos (show (Builtin.List.listSameRef (Value.ref s.heap.objs.size) (Value.ref l) || Value.type "tuple" == Value.type "list" || Value.type "tuple" == Value.type "tuple") = true by
    rw [show (Value.type "tuple" == Value.type "tuple") = true by decide +kernel, Bool.or_true])]
  refine wpAny_bind (listItems_at ho' hd ?_)
  refine wpAny_bind (listItems_at (xs := #[]) (n := 0) hn0 rfl ?_)
  rw [if_neg (by simp)]
  refine wpAny_bind (listUpdate_at (xs := #[]) (n := 0) hn0 rfl ?_ (Nat.zero_le _) (by show (#[] ++ vs.toArray).size ≤ sizeLine + 1; simp only [Array.size_append, List.size_toArray, List.length_nil]; omega))
  refine wpAny_pure ?_
  show wpAny (model prog w) A (load s.heap.objs.size >>= fun o => match o.data with | .seq xs _ => pure xs.toList | _ => unsupported "internal:collect") Q E { s with heap := copyH s.heap vs }
  refine wpAny_bind (wpAny_load (get?_update_seq hn0 _) ?_)
  show wpAny _ _ (pure ((#[] : Array Value) ++ vs.toArray).toList) Q E _
  rw [show ((#[] : Array Value) ++ vs.toArray).toList = vs by simp]
  exact wpAny_pure h
/-- sorted of a tuple of texts -/
theorem sorted_tup {l : Addr} {vs : List Value} {ss : List Str} {Q : Value → Shared → Prop} (hl : IsTup s.heap l vs.toArray) (hS : StrsAre vs ss) (h64 : vs.length < 64)
    (h : ∀ (out : Array Value) (ss' : List Str), StrsAre out.toList ss' → ss'.Perm ss → sortedS ss' = true → Q (.ref (s.heap.objs.size + 1)) { s with heap := sortedAll s.heap vs out }) :
    wpAny (model prog w) A (call (.builtin "sorted") [.ref l]) Q E s := by
  have hz : vs.length ≤ sizeLine := by rw [sizeLine_eq]; omega
  refine Calls.call_function_entry kind_sorted plain_sorted entry_sorted (args_sorted1 _) ?_
  unfold Builtin.«sorted»
  refine wpAny_bind (m := checkCount "sorted" 1 1 _) (wpAny_pure ?_)
  refine wpAny_bind (collect_tup hl hz ?_)
  refine wpAny_bind (wpAny_newList ?_ hz)
  have hsz : (copyH s.heap vs).objs.size = s.heap.objs.size + 1 := by
    unfold copyH
    rw [Heap.size_update, Heap.size_push]
  have hoL : ((copyH s.heap vs).push (seqObj "list" vs.toArray 0)).get? (s.heap.objs.size + 1) = some (seqObj "list" vs.toArray 0) := by
    rw [← hsz]; exact Heap.get?_push_size _ rfl
  show wpAny _ _ _ _ _ { s with heap := (copyH s.heap vs).push (seqObj "list" vs.toArray 0) }
  rw [hsz]
  refine wpAny_bind (wpAny_holding (wpAny_call_entry slot_list_sort ⟨_, hoL, rfl⟩ entry_list_sort (list_sort_treeK strKind_oneLt hoL hS.keysOf (fun v₁ v₂ rest e => keyKind_strs (by rw [← e]; exact hS)) h64 fun st' hp hs => ?_) (args_list_sort _)))
  refine ⟨_, rfl, wpAny_pure ⟨_, rfl, ?_⟩⟩
  obtain ⟨ss', h1, h2, h3⟩ := sorted_out_str hS hp hs
  exact h _ ss' h1 h2 h3
end
end BwCmb

namespace L2
open PySem PySem.Spec PyProof.Rows BwCmb
section
variable {X : Cx}
def rSortT (K : PySem.W.Frag) : List V → Hp → VK → Prop := fun vs H Q => ∃ (a : Addr) (xs : List Str), vs = [V.ref a] ∧ SqT K H a (xs.map V.str) ∧ xs.length < 64 ∧
  ∀ (ys : List Str) (p : Addr), ys.Perm xs → sortedS ys = true → H p = none → Q (.ref p) (upd H p (.lst (ys.map V.str)))
theorem cr_sortT : CallR X (.builtin "sorted") (rSortT X.K) := by
  intro pins s σ H vs us Q I r h
  obtain ⟨a, xs, rfl, hs, h64, q⟩ := h
  obtain ⟨its, rv, hl, _⟩ := I.tuple hs
  rw [Vals.ref1 r]
  have hlen0 := rv.length
  rw [List.length_map] at hlen0
  refine sorted_tup hl rv.strs (by omega) fun out ys h1 h2 h3 => ?_
  obtain ⟨ep, he'⟩ := PyProof.Rows.sortedAll_at s.heap its out
  have hlen : (ys.map V.str).length ≤ sizeLine := by rw [List.length_map, h2.length_eq]; exact small64 h64
  have new : ObjOk X.prog X.w (upd H (s.heap.objs.size + 1) (.lst (ys.map V.str))) (sortedAll s.heap its out) (s.heap.objs.size + 1) (.lst (ys.map V.str)) := ⟨hlen, out.toList, ep, vals_of_strs h1, he'⟩
  exact ⟨.ref _, _, I.laid (t' := s.toks) (fun _ _ => PyProof.Rows.sortedAll_old) (Nat.le_succ _) new, rfl, q ys _ h2 h3 (I.hok.fresh (Nat.le_succ _))⟩
/-- a list or a tuple of texts -/
def rSortU (K : PySem.W.Frag) : List V → Hp → VK → Prop := fun vs H Q => rSortedS K vs H Q ∨ rSortT K vs H Q
theorem cr_sortU : CallR X (.builtin "sorted") (rSortU X.K) := fun pins s σ H vs us Q I r h => h.elim (cr_sortedS pins s σ H vs us Q I r) (cr_sortT pins s σ H vs us Q I r)
/-- data that are alike -/
def rSortD (K : PySem.W.Frag) : List V → Hp → VK → Prop := fun vs H Q => ∃ (a : Addr) (bs : List (V × PyData)), vs = [.ref a] ∧ SqL K H a (bs.map (·.1)) ∧ (∀ b ∈ bs, Dp K H b.1 b.2) ∧ PySem.W.AllAlike (bs.map (·.2)) ∧ PySem.W.Sortable (bs.map (·.2)) ∧ (∀ b ∈ bs, b.2.depth ≤ 50) ∧
  ∀ p, H p = none → Q (.ref p) (upd H p (.lst ((bs.mergeSort (PySem.W.dataLe false fun b => b.2)).map (·.1))))
theorem each_vals {bs : List (V × PyData)} : ∀ {its : List Value}, Vals (bs.map (·.1)) its → PySem.W.EachIs (fun v b => RelV b.1 v) its bs := by
  induction bs with
  | nil => intro its r; cases r; exact .nil
  | cons b bs ih =>
    intro its r
    cases r with
    | cons r1 r2 => exact .cons r1 (ih r2)
theorem vals_each {bs : List (V × PyData)} : ∀ {its : List Value}, PySem.W.EachIs (fun v b => RelV b.1 v) its bs → Vals (bs.map (·.1)) its := by
  induction bs with
  | nil => intro its r; cases r; exact .nil
  | cons b bs ih =>
    intro its r
    cases r with
    | cons r1 r2 => exact .cons r1 (ih r2)
theorem cr_sortD (hu : X.A.units + 65 < cLine) : CallR X (.builtin "sorted") (rSortD X.K) := by
  intro pins s σ H vs us Q I r h
  obtain ⟨a, bs, rfl, hs, hd, hal, hk, hz, q⟩ := h
  obtain ⟨its, rv, hl, hlen⟩ := I.list hs
  rw [Vals.ref1 r]
  have e := each_vals rv
  have er : PySem.W.EachIs (fun v b => ∃ as, Reads s.heap v b.2 as) its bs := (PySem.W.each_mem e).mono fun v b ⟨r1, hb⟩ => Dp.reads I _ _ _ (hd b hb) r1
  refine PySem.W.sorted_data (enc := fun b : V × PyData => b.2) hl.isList e er hal hk (by rw [List.length_map] at hlen; exact hlen) (fun b hb => by have := hz b hb; omega) fun out ho eo => ?_
  obtain ⟨ep, he'⟩ := PyProof.Rows.sortedAll_at s.heap its out.toArray
  have new : ObjOk X.prog X.w (upd H (s.heap.objs.size + 1) (.lst ((bs.mergeSort (PySem.W.dataLe false fun b => b.2)).map (·.1)))) (sortedAll s.heap its out.toArray) (s.heap.objs.size + 1) (.lst ((bs.mergeSort (PySem.W.dataLe false fun b => b.2)).map (·.1))) :=
    ⟨by rw [List.length_map, List.length_mergeSort]; rw [List.length_map] at hlen; exact hlen, out, ep, vals_each eo, he'⟩
  exact ⟨.ref _, _, I.laid (t' := s.toks) (fun _ _ => PyProof.Rows.sortedAll_old) (Nat.le_succ _) new, rfl, q _ (I.hok.fresh (Nat.le_succ _))⟩
end
end L2
namespace Bw
open PySem L2 PySem.Spec
section
variable {K : PySem.W.Frag}
theorem rc_sortU {xs : List Str} {d : Da} (hd : d = .lst (xs.map Da.str) ∨ d = .tup (xs.map Da.str)) (h : xs.length < 64) : RCN K (rSortU K) [d] ((sortS xs).map Da.str) := by
  rcases hd with rfl | rfl
  · exact fun Hk H vs s a Q q => .inl (rc_sorted h Hk H vs s a Q q)
  · intro Hk H vs s a Q q
    refine .inr ?_
    obtain ⟨v, rfl, r⟩ := a.one_of
    cases r with
    | tup e r1 =>
      have ex := DRs.of_strs r1
      subst ex
      refine ⟨_, xs, rfl, same_t s e, h, fun ys p hp hs hn => ?_⟩
      rw [sortS_only ys hp hs]
      exact q p _ Hk _ ⟨same_upd hn, Same.refl _, s.trans (same_upd hn), fun b o e n => by rw [n] at e; cases e⟩ hn (s.free hn) upd_same DRs.strs
/-- the order that sorted goes by -/
def leD (d e : Da) : Bool := !PySem.W.dataLt (toPy e) (toPy d)
theorem drs_zip {H : Hp} {n : Nat} : ∀ {xs : List V} {ds : List Da}, DRs K H xs ds → (∀ d ∈ ds, okD n d) → ((xs.zip (ds.map toPy)).map (·.1) = xs ∧ (xs.zip (ds.map toPy)).map (·.2) = ds.map toPy) ∧ ∀ b ∈ xs.zip (ds.map toPy), Dp K H b.1 b.2
  | _, [], r, _ => by cases r; exact ⟨⟨rfl, rfl⟩, fun b hb => by cases hb⟩
  | _, d :: ds, r, ok => by
    cases r with
    | cons r1 r2 =>
      obtain ⟨⟨h1, h2⟩, h3⟩ := drs_zip r2 fun d hd => ok d (List.mem_cons_of_mem _ hd)
      refine ⟨⟨by rw [List.map_cons, List.zip_cons_cons, List.map_cons, h1], by rw [List.map_cons, List.zip_cons_cons, List.map_cons, h2]⟩, fun b hb => ?_⟩
      rw [List.map_cons, List.zip_cons_cons] at hb
      rcases List.mem_cons.mp hb with rfl | hb
      · exact DR.dp n d _ (ok d (List.mem_cons_self ..)) r1
      · exact h3 b hb
/-- sorted of data: any list that is an arrangement in order, if there is but one -/
theorem rc_sortD {n : Nat} {ds es : List Da} (ok : ∀ d ∈ ds, okD n d) (hn : n ≤ 50) (al : PySem.W.AllAlike (ds.map toPy)) (so : PySem.W.Sortable (ds.map toPy)) (only : ∀ fs : List Da, fs.Perm ds → fs.Pairwise (fun a b => leD a b = true) → fs = es) : RCN K (rSortD K) [.lst ds] es := fun Hk H vs s a Q q => by
  obtain ⟨v, rfl, r⟩ := a.one_of
  cases r with
  | lst e r1 =>
    rename_i l xs
    have r2 := r1.up s
    obtain ⟨⟨h1, h2⟩, h3⟩ := drs_zip r2 ok
    refine ⟨l, xs.zip (ds.map toPy), rfl, by rw [h1]; exact SqL.of (s _ _ e), h3, by rw [h2]; exact al, by rw [h2]; exact so, fun b hb => ?_, fun p hp => ?_⟩
    · have : b.2 ∈ ds.map toPy := by rw [← h2]; exact List.mem_map.mpr ⟨b, hb, rfl⟩
      obtain ⟨d, hd, e2⟩ := List.mem_map.mp this
      rw [← e2]
      exact Nat.le_trans (ok_lay n d (ok d hd)).2 hn
    · have key : ∀ (l0 : List (V × PyData)), l0.Perm (xs.zip (ds.map toPy)) → l0.Pairwise (fun a b => (!PySem.W.dataLt b.2 a.2) = true) → ∃ fs : List Da, fs.Perm ds ∧ fs.Pairwise (fun a b => leD a b = true) ∧ DRs K Hk (l0.map (·.1)) fs := by
        intro l0 hp hpw
        have ez : xs.zip (ds.map toPy) = (xs.zip ds).map fun q => (q.1, toPy q.2) := by
          rw [List.zip_map_right] <;> rfl
        rw [ez] at hp
        obtain ⟨l1, p1, e1⟩ := perm_inv hp _ rfl
        have lx : xs.length = ds.length := r1.len
        refine ⟨l1.map (·.2), ?_, ?_, ?_⟩
        · have := p1.map (·.2)
          rw [List.map_snd_zip (by omega)] at this
          exact this
        · rw [e1, List.pairwise_map] at hpw
          exact List.pairwise_map.mpr hpw
        · rw [e1, List.map_map]
          have all : ∀ q ∈ l1, DR K Hk q.1 q.2 := fun q hq => by
            have hq := p1.mem_iff.mp hq
            obtain ⟨i, hi⟩ := List.getElem?_of_mem hq
            rw [List.getElem?_zip_eq_some] at hi
            obtain ⟨d, e3, r3⟩ := r1.atv hi.1
            rw [hi.2] at e3
            cases e3
            exact r3
          clear e1 p1 hp hpw
          induction l1 with
          | nil => exact .nil
          | cons q l1 ih => exact .cons (all q (List.mem_cons_self ..)) (ih fun z hz => all z (List.mem_cons_of_mem _ hz))
      have pw : ((xs.zip (ds.map toPy)).mergeSort (PySem.W.dataLe false fun b : V × PyData => b.2)).Pairwise (fun a b => (PySem.W.dataLe false (fun b : V × PyData => b.2) a b) = true) := PySem.W.sort_pairwise (PySem.W.sortLe_total _ _ _) _
      obtain ⟨fs, p1, p2, rf⟩ := key _ (List.mergeSort_perm ..) pw
      have ef := only fs p1 p2
      subst ef
      exact q p _ Hk _ ⟨same_upd hp, Same.refl _, s.trans (same_upd hp), fun b o e n => by rw [n] at e; cases e⟩ hp (s.free hp) upd_same rf
end
end Bw
set_option Elab.async false
set_option linter.all false
set_option maxRecDepth 100000
set_option maxHeartbeats 2000000
/-! the order that sorted goes by, in plain words -/
namespace Bw
open PySem L2 PySem.Spec
theorem ltCps_lt : ∀ a b : List Nat, ltCps a b = decide (a < b)
  | [], [] => by simp [ltCps]
  | [], _ :: _ => by simp [ltCps]
  | _ :: _, [] => by simp [ltCps]
  | x :: a, y :: b => by
    have ih := ltCps_lt a b
    simp only [ltCps, ih]
    by_cases h : x < y
    · simp [h, List.cons_lt_cons_iff]
    · by_cases e : x = y
      · subst e
        simp [List.cons_lt_cons_iff]
      · simp [h, e, List.cons_lt_cons_iff]
theorem toPys_strs (xs : List Str) : toPys (xs.map Da.str) = xs.map PyData.str := by rw [toPys_map, List.map_map]; rfl
theorem lt_str (x y : Str) : PySem.W.dataLt (.str x) (.str y) = ltCps x.cps.toList y.cps.toList := by rw [PySem.W.dataLt_str, ltCps_lt]
theorem eqv_str (x y : Str) : PyData.eqv (.str x) (.str y) = decide (x = y) := by
  have := eqD_str (x := x) (y := y)
  exact this
theorem eqv_int (x y : Int) : PyData.eqv (.int x) (.int y) = decide (x = y) := by
  have := eqD_int (x := x) (y := y)
  exact this
theorem eqv_strT (xs ys : List Str) : PyData.eqv (.tuple (xs.map .str)) (.tuple (ys.map .str)) = decide (xs = ys) := by
  have := eqD_strT (xs := xs) (ys := ys)
  unfold eqD at this
  rw [toPy, toPy, toPys_strs, toPys_strs] at this
  exact this
theorem alike_strs : ∀ xs ys : List Str, PySem.W.alikeAll (xs.map PyData.str) (ys.map PyData.str) = true
  | [], _ => by simp [PySem.W.alikeAll]
  | _ :: _, [] => by simp [PySem.W.alikeAll]
  | x :: xs, y :: ys => by
    rw [List.map_cons, List.map_cons, PySem.W.alikeAll, alike_strs xs ys]
    simp [PySem.W.alike]
theorem lt_rows : ∀ xs ys : List Str, PyProof.Rows.lexLt PyProof.Rows.itemOrd (PySem.W.keyToksAll (xs.map PyData.str)) (PySem.W.keyToksAll (ys.map PyData.str)) = ltT xs ys
  | [], [] => rfl
  | [], _ :: _ => rfl
  | _ :: _, [] => rfl
  | x :: xs, y :: ys => by
    rw [List.map_cons, List.map_cons, PySem.W.dataLt_cons (by simp [PySem.W.alike]), eqv_str, lt_rows xs ys, lt_str]
    show _ = (ltCps x.cps.toList y.cps.toList || (decide (x = y) && ltT xs ys))
    by_cases e : x = y
    · subst e
      simp [lt_irr]
    · simp [e]
theorem lt_strT (xs ys : List Str) : PySem.W.dataLt (.tuple (xs.map .str)) (.tuple (ys.map .str)) = ltT xs ys := by rw [PySem.W.dataLt_tuple, lt_rows]
def dT (v : List Str) : Da := .tup (v.map Da.str)
/-- a view with its size ahead -/
def dV (v : List Str) : Da := .tup [.int (v.length : Nat), dT v]
def dNS (q : Int × Str) : Da := .tup [.int q.1, .str q.2]
theorem toPy_V (v : List Str) : toPy (dV v) = .tuple [.int (v.length : Nat), .tuple (v.map .str)] := by
  simp only [dV, dT, toPy, toPys, toPys_strs]
theorem toPy_NS (q : Int × Str) : toPy (dNS q) = .tuple [.int q.1, .str q.2] := by
  simp only [dNS, toPy, toPys]
theorem leD_V (v u : List Str) : leD (dV v) (dV u) = !ltZ u v := by
  unfold leD
  rw [toPy_V, toPy_V, PySem.W.dataLt_pair (by simp [PySem.W.alike]) (by simp [PySem.W.alike, alike_strs]), eqv_int, eqv_strT, PySem.W.dataLt_int, lt_strT]
  unfold ltZ
  congr 1
  by_cases e : u.length = v.length
  · by_cases e2 : u = v
    · subst e2
      simp [ltT_irr]
    · simp [e, e2]
  · have e' : ¬ ((u.length : Int) = (v.length : Int)) := by omega
    simp [e, e']
theorem leD_NS (p q : Int × Str) : leD (dNS p) (dNS q) = !(decide (q.1 < p.1) || (decide (q.1 = p.1) && ltCps q.2.cps.toList p.2.cps.toList)) := by
  unfold leD
  rw [toPy_NS, toPy_NS, PySem.W.dataLt_pair (by simp [PySem.W.alike]) (by simp [PySem.W.alike]), eqv_int, eqv_str, PySem.W.dataLt_int, lt_str]
  congr 1
  by_cases e : q.1 = p.1
  · by_cases e2 : q.2 = p.2
    · simp [e, e2, lt_irr]
    · simp [e, e2]
  · simp [e]
theorem ok_T {n : Nat} {v : List Str} (h : ∀ x ∈ v, okS x) : okD (n + 1) (dT v) := ok_strT h
theorem ok_V {n : Nat} {v : List Str} (h : ∀ x ∈ v, okS x) : okD (n + 2) (dV v) := by
  intro d hd
  rcases List.mem_cons.mp hd with rfl | hd
  · trivial
  · rcases List.mem_cons.mp hd with rfl | hd
    · exact ok_T h
    · cases hd
theorem ok_NS {n : Nat} {q : Int × Str} (h : okS q.2) : okD (n + 1) (dNS q) := by
  intro d hd
  rcases List.mem_cons.mp hd with rfl | hd
  · cases n <;> trivial
  · rcases List.mem_cons.mp hd with rfl | hd
    · exact ok_str h
    · cases hd
theorem dT_inj {v w : List Str} (h : dT v = dT w) : v = w := by
  unfold dT at h
  injection h with h
  exact str_inj h
theorem dV_inj {v w : List Str} (h : dV v = dV w) : v = w := by
  unfold dV at h
  injection h with h
  injection h with _ h
  injection h with h _
  exact dT_inj h
theorem dNS_inj {p q : Int × Str} (h : dNS p = dNS q) : p = q := by
  unfold dNS at h
  injection h with h
  injection h with h1 h
  injection h with h2 _
  injection h1 with h1
  injection h2 with h2
  exact Prod.ext h1 h2
/-- views sorted by size: L, if L rises and has the same members -/
theorem rc_sortV {K : PySem.W.Frag} {vs L : List (List Str)} (ok : ∀ v ∈ vs, ∀ x ∈ v, okS x) (nd : vs.Nodup) (rs : L.Pairwise fun a b => ltZ a b = true) (mem : ∀ v, v ∈ vs ↔ v ∈ L) : RCN K (rSortD K) [.lst (vs.map dV)] (L.map dV) := by
  refine rc_sortD (n := 2) (fun d hd => ?_) (by decide) ?_ ?_ fun fs p pw => ?_
  · obtain ⟨v, hv, rfl⟩ := List.mem_map.mp hd
    exact ok_V (ok v hv)
  · rw [List.map_map]
    exact PySem.W.AllAlike.of fun b b' => by
      show PySem.W.alike (toPy (dV b)) (toPy (dV b')) = true
      rw [toPy_V, toPy_V]
      simp [PySem.W.alike, PySem.W.alikeAll, alike_strs]
  · rw [List.map_map]
    exact PySem.W.Sortable.tuples fun b => ⟨_, _, toPy_V b⟩
  · obtain ⟨l', p1, rfl⟩ := perm_inv p vs rfl
    rw [List.pairwise_map] at pw
    have nd' : l'.Nodup := p1.nodup_iff.mpr nd
    rw [rise_unique ltZ_irr ltZ_tr ((pw.and nd').imp fun {a b} z => ?_) rs fun x => by rw [p1.mem_iff, mem]]
    obtain ⟨z1, z2⟩ := z
    rw [leD_V, Bool.not_eq_true'] at z1
    rcases ltZ_tot z2 with h | h
    · exact h
    · rw [h] at z1; cases z1
/-- numbers with names, all names unlike -/
def ltNS (p q : Int × Str) : Bool := decide (p.1 < q.1) || (decide (p.1 = q.1) && ltCps p.2.cps.toList q.2.cps.toList)
theorem ltNS_irr (a : Int × Str) : ltNS a a = false := by simp [ltNS, lt_irr]
theorem ltNS_tr (a b c : Int × Str) (h : ltNS a b = true) (k : ltNS b c = true) : ltNS a c = true := by
  simp only [ltNS, Bool.or_eq_true, decide_eq_true_eq, Bool.and_eq_true] at h k ⊢
  rcases h with h | ⟨h1, h⟩
  · rcases k with k | ⟨k1, k⟩
    · exact .inl (Int.lt_trans h k)
    · exact .inl (k1 ▸ h)
  · rcases k with k | ⟨k1, k⟩
    · exact .inl (h1 ▸ k)
    · exact .inr ⟨h1.trans k1, lt_trans' _ _ _ h k⟩
theorem ltNS_tot {a b : Int × Str} (h : a ≠ b) : ltNS a b = true ∨ ltNS b a = true := by
  unfold ltNS
  by_cases l : a.1 < b.1
  · left; simp [l]
  · by_cases g : b.1 < a.1
    · right; simp [g]
    · have e : a.1 = b.1 := by omega
      cases h1 : ltCps a.2.cps.toList b.2.cps.toList with
      | true => left; simp [e]
      | false =>
        cases h2 : ltCps b.2.cps.toList a.2.cps.toList with
        | true => right; simp [e]
        | false => exact absurd (Prod.ext e (str_ext (lt_anti _ _ h1 h2))) h
theorem rc_sortNS {K : PySem.W.Frag} {vs L : List (Int × Str)} (ok : ∀ v ∈ vs, okS v.2) (nd : vs.Nodup) (rs : L.Pairwise fun a b => ltNS a b = true) (mem : ∀ v, v ∈ vs ↔ v ∈ L) : RCN K (rSortD K) [.lst (vs.map dNS)] (L.map dNS) := by
  refine rc_sortD (n := 2) (fun d hd => ?_) (by decide) ?_ ?_ fun fs p pw => ?_
  · obtain ⟨v, hv, rfl⟩ := List.mem_map.mp hd
    exact ok_NS (ok v hv)
  · rw [List.map_map]
    exact PySem.W.AllAlike.of fun b b' => by
      show PySem.W.alike (toPy (dNS b)) (toPy (dNS b')) = true
      rw [toPy_NS, toPy_NS]
      simp [PySem.W.alike, PySem.W.alikeAll]
  · rw [List.map_map]
    exact PySem.W.Sortable.tuples fun b => ⟨_, _, toPy_NS b⟩
  · obtain ⟨l', p1, rfl⟩ := perm_inv p vs rfl
    rw [List.pairwise_map] at pw
    have nd' : l'.Nodup := p1.nodup_iff.mpr nd
    rw [rise_unique ltNS_irr ltNS_tr ((pw.and nd').imp fun {a b} z => ?_) rs fun x => by rw [p1.mem_iff, mem]]
    obtain ⟨z1, z2⟩ := z
    rw [leD_NS, Bool.not_eq_true'] at z1
    rcases ltNS_tot z2 with h | h
    · exact h
    · unfold ltNS at h
      rw [h] at z1
      cases z1
end Bw
set_option Elab.async false
set_option linter.all false
set_option maxRecDepth 100000
set_option maxHeartbeats 2000000
/-! more operations by data -/
namespace Bw
open PySem L2 PySem.Spec
section
variable {K : PySem.W.Frag}
theorem rv_isB {a b : Bool} : RV K rIsB (.bl a) (.bl b) (.bl (decide (a = b))) := rv_now fun Hk H v1 v2 s a1 a2 Q q => by
  cases a1
  cases a2
  exact ⟨a, b, rfl, rfl, q _ (.bl _)⟩
theorem rv_notB {a b : Bool} : RV K rNotB (.bl a) (.bl b) (.bl (!decide (a = b))) := rv_now fun Hk H v1 v2 s a1 a2 Q q => by
  cases a1
  cases a2
  exact ⟨a, b, rfl, rfl, q _ (.bl _)⟩
end
theorem ok_bl {n : Nat} {b : Bool} : okD n (.bl b) := by cases n <;> trivial
theorem ok_int {n : Nat} {b : Int} : okD n (.int b) := by cases n <;> trivial
theorem ok_non {n : Nat} : okD n .non := by cases n <;> trivial
theorem eqD_bl {a b : Bool} : eqD (.bl a) (.bl b) = decide (a = b) := by cases a <;> cases b <;> decide +kernel
theorem ok_Ts {n : Nat} {vs : List (List Str)} (h : ∀ v ∈ vs, ∀ x ∈ v, okS x) : okD (n + 2) (.lst (vs.map dT)) := by
  intro d hd
  obtain ⟨v, hv, rfl⟩ := List.mem_map.mp hd
  exact ok_T (h v hv)
theorem pur_T {n : Nat} {v : List Str} : pur (n + 1) (dT v) := pur_strT
theorem pur_Ts {n : Nat} {vs : List (List Str)} : pur (n + 2) (.lst (vs.map dT)) := by
  intro d hd
  obtain ⟨v, hv, rfl⟩ := List.mem_map.mp hd
  exact pur_T
theorem map_dT_inj {vs ws : List (List Str)} (h : vs.map dT = ws.map dT) : vs = ws := by
  induction vs generalizing ws with
  | nil => cases ws with
    | nil => rfl
    | cons y ys => cases h
  | cons x xs ih => cases ws with
    | nil => cases h
    | cons y ys =>
      rw [List.map_cons, List.map_cons] at h
      injection h with h1 h2
      rw [dT_inj h1, ih h2]
theorem eqD_T {v w : List Str} : eqD (dT v) (dT w) = decide (v = w) := eqD_strT
theorem eqD_Ts {vs ws : List (List Str)} : eqD (.lst (vs.map dT)) (.lst (ws.map dT)) = decide (vs = ws) :=
  eqD_of (n := 2) pur_Ts pur_Ts ⟨fun h => by injection h with h; exact map_dT_inj h, fun h => by rw [h]⟩
theorem any_dT {v : List Str} : ∀ {vs : List (List Str)}, ((vs.map dT).any fun z => eqD z (dT v)) = decide (v ∈ vs)
  | [] => by simp
  | w :: vs => by
    rw [List.map_cons, List.any_cons, any_dT, eqD_T]
    by_cases e : w = v
    · subst e; simp
    · have e' : ¬ v = w := fun z => e z.symm
      by_cases m : v ∈ vs
      · simp [e, m]
      · simp [e, e', m]
theorem view_all {ps : List Pr} {v : List Str} : viewB ps v = v.all fun x => (spk ps x).all fun y => !decide (y ∈ v) && hitB ps y v := by
  have h : ∀ {a b : Bool}, (a = true ↔ b = true) → a = b := fun {a b} h => by cases a <;> cases b <;> simp_all
  apply h
  rw [view_iff, List.all_eq_true]
  constructor
  · rintro ⟨h1, h2⟩ x hx
    rw [List.all_eq_true]
    intro y hy
    rw [Bool.and_eq_true, Bool.not_eq_true', decide_eq_false_iff_not, hit_iff]
    exact ⟨fun z => h1 x hx y z (spk_mem.mp hy), h2 x hx y (spk_mem.mp hy)⟩
  · intro h
    have h' : ∀ x ∈ v, ∀ y, (y, x) ∈ ps → y ∉ v ∧ ∃ z ∈ v, (z, y) ∈ ps := fun x hx y hy => by
      have := List.all_eq_true.mp (h x hx) y (spk_mem.mpr hy)
      rw [Bool.and_eq_true, Bool.not_eq_true', decide_eq_false_iff_not, hit_iff] at this
      exact this
    exact ⟨fun x hx y hy z => (h' x hx y z).1 hy, fun x hx y hy => (h' x hx y hy).2⟩
theorem hit_filter {ps : List Pr} {y : Str} {v : List Str} : (!decide ((spk ps y).filter (fun z => decide (z ∈ v)) = [])) = hitB ps y v := by
  unfold hitB
  generalize spk ps y = l
  induction l with
  | nil => rfl
  | cons a l ih =>
    by_cases h : a ∈ v
    · rw [List.filter_cons_of_pos (by simpa using h), List.any_cons, decide_eq_true h] <;> rfl
    · rw [List.filter_cons_of_neg (by simpa using h), List.any_cons, decide_eq_false h, Bool.false_or]
      exact ih
/-! ### promises of defs that hand back a new list -/
def SpN (K : PySem.W.Frag) (R : List Da → List Da → Prop) : Sp := fun vs H Q _ => ∃ Hc as es, Same Hc H ∧ DRs K Hc vs as ∧ R as es ∧ ∀ l xs Hs H', Ext Hc H Hs H' → H l = none → Hs l = none → H' l = some (.lst xs) → DRs K Hs xs es → Q (.ref l) H'
def PostN (C : Ct) (es : List Da) (Q : VK) : Prop := ∀ l xs Hs H', Ext C.Hc C.H0 Hs H' → C.H0 l = none → Hs l = none → H' l = some (.lst xs) → DRs C.K Hs xs es → Q (.ref l) H'
section
variable {K : PySem.W.Frag} {δ : List Sl} {t : TA} {as es ds : List Da} {R : List Da → List Da → Prop} {E : XK} {C : Ct} {D : Ends} {t2 : TS} {te : TE} {i : Nat}
theorem evs_callN (ha : EvSA K t δ as) (hr : R as es) : EvSN K (tCall (SpN K R) [] E t) δ es := fun σ Hk D H s Q q =>
  ha σ Hk D H s _ fun vs H1 H1' x1 r1 => by
    show SpN K R (vs ++ []) H1' Q E
    rw [List.append_nil]
    exact ⟨H1, as, es, x1.st, r1, hr, fun l xs H2 H2' x2 h0 hs hl r => q l xs H2 H2' (x1.trans x2) (x1.up.free h0) hs hl r⟩
theorem spn_len {n : Nat} (h : ∀ as es, R as es → as.length = n) : ∀ vs H Q E, SpN K R vs H Q E → vs.length = n := fun vs H Q E ⟨Hc, as, es, s, r, hr, q⟩ => by
  rw [r.len]
  exact h as es hr
theorem spn_body {N : List Str} {ts : TS} (hn : ∀ as es, R as es → as.length ≤ N.length)
    (h : ∀ as es, R as es → ∀ (C : Ct) (Q : VK), C.K = K → PostN C es Q → Go C ts { nx := fun _ H' => Q .non H', rt := Q } (as.map Sl.dat ++ List.replicate (N.length - as.length) .no)) :
    ∀ vs H Q E, SpN K R vs H Q E → ts { nx := fun _ H' => Q .non H', rt := Q } (L2.start N vs) H := fun vs H Q E ⟨Hc, as, es, s, r, hr, q⟩ =>
  h as es hr ⟨K, Hc, H, []⟩ Q rfl q _ _ _ (start_at r (hn as es hr) H s Hc rfl)
theorem go_retN' (h : EvSN C.K te δ es) (q : PostN C es D.rt) : Go C (tRet te) D δ := fun σ Hk H a =>
  h σ Hk a.dat H a.same _ fun l xs Hs H' x h0 hs hl r => q l xs Hs H' (a.ext.trans x) (a.ext.up.free h0) hs hl r
/-- the list in a slot of its own is handed back -/
theorem go_retO (e : δ[i]? = some (.own es)) (q : PostN C es D.rt) : Go C (tRet (tVar i)) D δ := fun σ Hk H a => by
  obtain ⟨l, xs, e1, e2, e3, e4, rs⟩ := a.own i _ e
  exact ⟨_, e1, q l xs Hk H a.ext e2 e3 e4 rs.rs⟩
/-- xs.clear() -/
theorem go_lclear (e : δ[i]? = some (.own ds)) (q : Nx C D.nx (δ.set i (.own []))) : Go C (tDrop (tBM0 C.K "list" rClear (tVar i))) D δ := fun σ Hk H a => by
  obtain ⟨l, xs, e1, e2, e3, e4, rs⟩ := a.own i _ e
  have e4 : H l = some (.lst xs) := e4
  refine ⟨_, e1, .inl ⟨rfl, _, SqL.of e4⟩, l, _, rfl, rfl, e4, ?_⟩
  exact q _ _ _ (a.mutW (xs' := []) (o' := ⟨none, none, []⟩) e e1 (.lst .nil))
theorem sq_lclear (e : δ[i]? = some (.own ds)) (q : Go C t2 D (δ.set i (.own []))) : Go C (tSeq (tDrop (tBM0 C.K "list" rClear (tVar i))) t2) D δ := go_seq (go_lclear e q)
end
/-! ### sets the way of doubling -/
section
variable {α : Type}
theorem dbl_snoc (x : α) : ∀ (l : List α) (f : List (List α)), dbl (l ++ [x]) f = dbl l f ++ (dbl l f).map (· ++ [x])
  | [], f => rfl
  | y :: l, f => dbl_snoc x l _
theorem dbl_len : ∀ (l : List α) (f : List (List α)), (dbl l f).length = 2 ^ l.length * f.length
  | [], f => by simp [dbl]
  | y :: l, f => by
    show (dbl l (f ++ f.map (· ++ [y]))).length = _
    rw [dbl_len l, List.length_append, List.length_map, List.length_cons, Nat.pow_succ, Nat.mul_assoc]
    congr 1
    omega
end
theorem pow_256 {n : Nat} (h : n ≤ 8) : 2 ^ n ≤ 256 := by
  have : ∀ n ≤ 8, 2 ^ n ≤ 256 := by decide
  exact this n h
theorem dget_at {ns : List Str} {g : Str → Da} {x : Str} (h : x ∈ ns) : dget ns (ns.map g) x = some (g x) := by
  induction ns with
  | nil => cases h
  | cons y ns ih =>
    rw [List.map_cons]
    unfold dget
    by_cases e : y = x
    · rw [if_pos e, e]
    · rw [if_neg e]
      exact ih ((List.mem_cons.mp h).resolve_left fun z => e z.symm)
end Bw
set_option Elab.async false
set_option linter.all false
set_option maxRecDepth 100000
set_option maxHeartbeats 2000000
/-! words and views: held ones are in each greatest view, out ones in none that stands -/
namespace Bw
open PySem L2 PySem.Spec
section
variable {ns : List Str} {ps : List Pr} {v : List Str}
theorem view_grow (hns : ns.Nodup) (hv : v ∈ greatL ns ps) {w : List Str} (hw : ∀ x ∈ w, x ∈ ns) (h : viewB ps (v ++ w) = true) : ∀ x ∈ w, x ∈ v := fun x hx => Classical.byContradiction fun no => by
  obtain ⟨h1, h2⟩ := List.mem_filter.mp hv
  obtain ⟨s1, s2⟩ := views_mem.mp h1
  have nd : (sortS ns).Nodup := (sortS_perm ns).nodup_iff.mpr hns
  have mem : ∀ y, y ∈ (sortS ns).filter (fun z => decide (z ∈ v ++ w)) ↔ y ∈ v ++ w := fun y => by
    rw [List.mem_filter, decide_eq_true_eq]
    refine ⟨fun z => z.2, fun z => ⟨?_, z⟩⟩
    rcases List.mem_append.mp z with z | z
    · exact s1.subset z
    · exact (sortS_perm ns).mem_iff.mpr (hw y z)
  have hu : (sortS ns).filter (fun z => decide (z ∈ v ++ w)) ∈ viewsL ns ps := views_mem.mpr ⟨List.filter_sublist, by rw [view_ext mem]; exact h⟩
  refine max_iff.mp h2 _ hu ⟨?_, fun y hy => (mem y).mpr (List.mem_append_left _ hy)⟩
  have := nd_len (l := x :: v) (m := (sortS ns).filter (fun z => decide (z ∈ v ++ w))) (List.nodup_cons.mpr ⟨no, s1.nodup nd⟩) fun y hy => by
    rcases List.mem_cons.mp hy with rfl | hy
    · exact (mem y).mpr (List.mem_append_right _ hx)
    · exact (mem y).mpr (List.mem_append_left _ hy)
  rw [List.length_cons] at this
  omega
theorem held_before {t : Nat} {x : Str} {n : Nat} (e : fget (rounds ns ps (t + 1)) x = some (true, n)) : (∃ n, fget (rounds ns ps t) x = some (true, n)) ∨ ∀ y ∈ spk ps x, ∃ r, fget (rounds ns ps t) y = some (false, r) := by
  have e : fget (stepO ns ps (stepH ns ps (rounds ns ps t) (t + 1)) (t + 1)) x = some (true, n) := e
  rcases O_inv e with e | ⟨_, e, _⟩
  · rcases H_inv e with e | ⟨_, _, _, hc⟩
    · exact .inl ⟨n, e⟩
    · exact .inr (canHeld_iff.mp hc).2
  · cases e
theorem held_in (hns : ns.Nodup) (hs : ∀ x, ∀ y ∈ spk ps x, y ∈ ns) (hv : v ∈ greatL ns ps) : ∀ (t : Nat) (x : Str) (n : Nat), x ∈ ns → fget (rounds ns ps t) x = some (true, n) → x ∈ v
  | 0, x, n, _, e => by cases e
  | t + 1, x, n, hx, e => by
    have ih := held_in hns hs hv t
    rcases held_before e with ⟨m, e⟩ | all
    · exact ih x m hx e
    · obtain ⟨v1, v2⟩ := view_iff.mp (views_mem.mp (List.mem_filter.mp hv).1).2
      -- what speaks against x is spoken against from v
      have def1 : ∀ y, (y, x) ∈ ps → ∃ z ∈ v, (z, y) ∈ ps := fun y hy => by
        have hy' := spk_mem.mpr hy
        obtain ⟨r, er⟩ := all y hy'
        obtain ⟨⟨z, hz, ez⟩, _⟩ := (RI.rounds (ns := ns) (ps := ps) t).o y r er
        exact ⟨z, ih z r (hs y z hz) ez, spk_mem.mp hz⟩
      -- so x is in no quarrel with v
      have q1 : ∀ y ∈ v, (y, x) ∉ ps := fun y hy h => by
        obtain ⟨z, hz, h2⟩ := def1 y h
        exact v1 y hy z hz h2
      have q2 : ∀ y ∈ v, (x, y) ∉ ps := fun y hy h => by
        obtain ⟨z, hz, h2⟩ := v2 y hy x h
        exact q1 z hz h2
      have q3 : (x, x) ∉ ps := fun h => by
        obtain ⟨z, hz, h2⟩ := def1 x h
        exact q1 z hz h2
      refine view_grow hns hv (w := [x]) (fun y hy => by rw [List.mem_singleton.mp hy]; exact hx) (view_iff.mpr ⟨fun a ha b hb h => ?_, fun a ha b h => ?_⟩) x (List.mem_singleton.mpr rfl)
      · rcases List.mem_append.mp ha with ha | ha <;> rcases List.mem_append.mp hb with hb | hb
        · exact v1 a ha b hb h
        · rw [List.mem_singleton.mp hb] at h; exact q2 a ha h
        · rw [List.mem_singleton.mp ha] at h; exact q1 b hb h
        · rw [List.mem_singleton.mp ha, List.mem_singleton.mp hb] at h; exact q3 h
      · rcases List.mem_append.mp ha with ha | ha
        · obtain ⟨z, hz, h2⟩ := v2 a ha b h
          exact ⟨z, List.mem_append_left _ hz, h2⟩
        · rw [List.mem_singleton.mp ha] at h
          obtain ⟨z, hz, h2⟩ := def1 b h
          exact ⟨z, List.mem_append_left _ hz, h2⟩
theorem out_not (hs : ∀ x, ∀ y ∈ spk ps x, y ∈ ns) (h : viewB ps v = true) : ∀ (t : Nat) (x : Str) (n : Nat), fget (rounds ns ps t) x = some (false, n) → x ∉ v
  | 0, x, n, e => by cases e
  | t + 1, x, n, e => fun hx => by
    have ih := out_not hs h t
    have e : fget (stepO ns ps (stepH ns ps (rounds ns ps t) (t + 1)) (t + 1)) x = some (false, n) := e
    rcases O_inv e with e | ⟨_, _, _, hc⟩
    · rcases H_inv e with e | ⟨_, e, _⟩
      · exact ih x n e hx
      · cases e
    · obtain ⟨_, y, hy, r, er⟩ := canOut_iff.mp hc
      have all : ∀ z ∈ spk ps y, ∃ r, fget (rounds ns ps t) z = some (false, r) := by
        rcases H_inv er with er | ⟨_, _, _, hc⟩
        · exact (RI.rounds (ns := ns) (ps := ps) t).h y r er
        · exact (canHeld_iff.mp hc).2
      obtain ⟨z, hz, h2⟩ := (view_iff.mp h).2 x hx y (spk_mem.mp hy)
      obtain ⟨r2, e2⟩ := all z (spk_mem.mpr h2)
      exact ih z r2 e2 hz
theorem great_some : greatL ns ps ≠ [] := fun z => by
  have h0 : ([] : List Str) ∈ viewsL ns ps := views_mem.mpr ⟨List.nil_sublist _, rfl⟩
  obtain ⟨t, ht, h1, _⟩ := top_of (L := viewsL ns ps) (n := (sortS ns).length) (fun u hu => (views_sub hu).length_le) _ [] h0 (Nat.le_refl _)
  have : t ∈ greatL ns ps := List.mem_filter.mpr ⟨ht, h1⟩
  rw [z] at this
  cases this
theorem sub_short {l u v : List Str} (nd : l.Nodup) (hu : List.Sublist u l) (hv : List.Sublist v l) (s : ∀ x ∈ v, x ∈ u) (g : ¬ v.length < u.length) : v = u := by
  refine sub_ext nd hv hu fun x => ⟨s x, fun hx => Classical.byContradiction fun no => ?_⟩
  have := nd_len (l := x :: v) (m := u) (List.nodup_cons.mpr ⟨no, hv.nodup nd⟩) fun y hy => by
    rcases List.mem_cons.mp hy with rfl | hy
    · exact hx
    · exact s y hy
  rw [List.length_cons] at this
  omega
theorem closed_great (hns : ns.Nodup) (hv : v ∈ closedL ns ps) : v ∈ greatL ns ps := by
  obtain ⟨h1, h2⟩ := List.mem_filter.mp hv
  refine List.mem_filter.mpr ⟨h1, max_iff.mpr fun u hu ⟨l, s⟩ => ?_⟩
  have nd : (sortS ns).Nodup := (sortS_perm ns).nodup_iff.mpr hns
  obtain ⟨x, hx, nx⟩ : ∃ x ∈ u, x ∉ v := Classical.byContradiction fun no => by
    have := nd_len (l := u) (m := v) ((views_sub hu).nodup nd) fun y hy => Classical.byContradiction fun z => no ⟨y, hy, z⟩
    omega
  rcases shut_iff.mp h2 x ((sortS_perm ns).mem_iff.mp ((views_sub hu).subset hx)) with z | ⟨y, hy, h⟩
  · exact nx z
  · exact (view_iff.mp (views_mem.mp hu).2).1 x hx y (s y hy) h
def heldB (ns : List Str) (ps : List Pr) (x : Str) : Bool := isW (told ns ps) x true
def outB (ns : List Str) (ps : List Pr) (x : Str) : Bool := isW (told ns ps) x false
theorem sort_filter {p : Str → Bool} (h : ns.Nodup) : (sortS ns).filter p = sortS (ns.filter p) := by
  refine sortS_uniq ((sortS_perm ns).filter p) ((sortS_pw ns).sublist List.filter_sublist)
theorem two_kinds {p q : Str → Bool} (dis : ∀ x, ¬ (p x = true ∧ q x = true)) : ∀ {l : List Str}, (l.filter p).length + (l.filter q).length = l.length → ∀ x ∈ l, p x = true ∨ q x = true
  | [], _, x, hx => by cases hx
  | a :: l, e, x, hx => by
    have le : ∀ l : List Str, (l.filter p).length + (l.filter q).length ≤ l.length := fun l => by
      induction l with
      | nil => simp
      | cons b l ih =>
        have := dis b
        cases h1 : p b <;> cases h2 : q b <;> simp_all <;> omega
    have l1 := le l
    have := dis a
    cases h1 : p a <;> cases h2 : q a
    · rw [List.filter_cons_of_neg (by simp [h1]), List.filter_cons_of_neg (by simp [h2]), List.length_cons] at e
      omega
    · rw [List.filter_cons_of_neg (by simp [h1]), List.filter_cons_of_pos h2, List.length_cons, List.length_cons] at e
      rcases List.mem_cons.mp hx with rfl | hx
      · exact .inr h2
      · exact two_kinds dis (by omega) x hx
    · rw [List.filter_cons_of_pos h1, List.filter_cons_of_neg (by simp [h2]), List.length_cons, List.length_cons] at e
      rcases List.mem_cons.mp hx with rfl | hx
      · exact .inl h1
      · exact two_kinds dis (by omega) x hx
    · exact absurd ⟨h1, h2⟩ this
/-- where no speech is open -/
theorem all_told (hns : ns.Nodup) (hs : ∀ x, ∀ y ∈ spk ps x, y ∈ ns) (all : ∀ x ∈ ns, heldB ns ps x = true ∨ outB ns ps x = true) : greatL ns ps = [sortS (ns.filter (heldB ns ps))] ∧ closedL ns ps = [sortS (ns.filter (heldB ns ps))] := by
  have R := RI.rounds (ns := ns) (ps := ps) (ns.length + 1)
  have nd : (sortS ns).Nodup := (sortS_perm ns).nodup_iff.mpr hns
  rw [← sort_filter hns]
  have mem : ∀ x, x ∈ (sortS ns).filter (heldB ns ps) ↔ x ∈ ns ∧ ∃ r, fget (told ns ps) x = some (true, r) := fun x => by
    rw [List.mem_filter, (sortS_perm ns).mem_iff]
    exact and_congr_right fun _ => isW_iff
  have hsub : List.Sublist ((sortS ns).filter (heldB ns ps)) (sortS ns) := List.filter_sublist
  generalize (sortS ns).filter (heldB ns ps) = hv at mem hsub
  have hview : viewB ps hv = true := by
    refine view_iff.mpr ⟨fun x hx y hy h => ?_, fun x hx y h => ?_⟩
    · obtain ⟨_, r, e⟩ := (mem x).mp hx
      obtain ⟨_, r2, e2⟩ := (mem y).mp hy
      obtain ⟨r3, e3⟩ := R.h x r e y (spk_mem.mpr h)
      have e3 : fget (told ns ps) y = some (false, r3) := e3
      rw [e2] at e3
      cases e3
    · obtain ⟨_, r, e⟩ := (mem x).mp hx
      obtain ⟨r3, e3⟩ := R.h x r e y (spk_mem.mpr h)
      obtain ⟨⟨z, hz, ez⟩, _⟩ := R.o y r3 e3
      exact ⟨z, (mem z).mpr ⟨hs y z hz, _, ez⟩, spk_mem.mp hz⟩
  have hin : hv ∈ viewsL ns ps := views_mem.mpr ⟨hsub, hview⟩
  have sub : ∀ u ∈ viewsL ns ps, ∀ x ∈ u, x ∈ hv := fun u hu x hx => by
    have hxn := (sortS_perm ns).mem_iff.mp ((views_sub hu).subset hx)
    rcases all x hxn with h | h
    · exact (mem x).mpr ⟨hxn, isW_iff.mp h⟩
    · obtain ⟨r, e⟩ := isW_iff.mp h
      exact (out_not hs (views_mem.mp hu).2 (ns.length + 1) x r e hx).elim
  have le : ∀ u ∈ viewsL ns ps, u.length ≤ hv.length := fun u hu => nd_len ((views_sub hu).nodup nd) (sub u hu)
  have hg : hv ∈ greatL ns ps := List.mem_filter.mpr ⟨hin, max_iff.mpr fun u hu z => by have := le u hu; omega⟩
  have hgo : ∀ u, u ∈ greatL ns ps → u = hv := fun u hu => by
    obtain ⟨h1, h2⟩ := List.mem_filter.mp hu
    exact sub_short nd hsub (views_sub h1) (sub u h1) fun z => max_iff.mp h2 hv hin ⟨z, sub u h1⟩
  have one : ∀ {L : List (List Str)}, L.Pairwise (fun a b => ltZ a b = true) → hv ∈ L → (∀ u, u ∈ L → u = hv) → L = [hv] := fun {L} p h1 h2 =>
    rise_unique ltZ_irr ltZ_tr p (List.pairwise_singleton _ _) fun x => ⟨fun hx => by rw [h2 x hx]; exact List.mem_singleton.mpr rfl, fun hx => by rw [List.mem_singleton.mp hx]; exact h1⟩
  refine ⟨one ((views_rise hns).sublist List.filter_sublist) hg hgo, one ((views_rise hns).sublist List.filter_sublist) (List.mem_filter.mpr ⟨hin, shut_iff.mpr fun x hx => ?_⟩) fun u hu => hgo u (closed_great hns hu)⟩
  rcases all x hx with h | h
  · exact .inl ((mem x).mpr ⟨hx, isW_iff.mp h⟩)
  · obtain ⟨r, e⟩ := isW_iff.mp h
    obtain ⟨⟨z, hz, ez⟩, _⟩ := R.o x r e
    exact .inr ⟨z, (mem z).mpr ⟨hs x z hz, _, ez⟩, spk_mem.mp hz⟩
end
end Bw
set_option Elab.async false
set_option linter.all false
set_option maxRecDepth 100000
set_option maxHeartbeats 2000000
/-! one more speech, which speaks against none of the others -/
namespace Bw
open PySem L2 PySem.Spec
def moreN (ns : List Str) (k : Nat) (new : Str) : List Str := ns.take k ++ [new] ++ ns.drop k
def moreA (as : List Str) (self : Bool) (new : Str) : List Str := as ++ (if self then [new] else [])
def moreP (ps : List Pr) (as : List Str) (self : Bool) (new : Str) : List Pr := ps ++ (moreA as self new).map fun y => (y, new)
section
variable {ns as : List Str} {ps : List Pr} {new : Str} {self : Bool} {k : Nat}
theorem moreN_mem {x : Str} : x ∈ moreN ns k new ↔ x = new ∨ x ∈ ns := by
  unfold moreN
  rw [List.mem_append, List.mem_append, List.mem_singleton]
  constructor
  · rintro ((h | h) | h)
    · exact .inr (List.mem_of_mem_take h)
    · exact .inl h
    · exact .inr (List.mem_of_mem_drop h)
  · rintro (h | h)
    · exact .inl (.inr h)
    · rw [← List.take_append_drop k ns, List.mem_append] at h
      exact h.elim (fun h => .inl (.inl h)) .inr
theorem moreN_nd (nd : ns.Nodup) (hn : new ∉ ns) : (moreN ns k new).Nodup := by
  have e : (moreN ns k new).Perm (new :: ns) := by
    unfold moreN
    rw [List.append_assoc]
    have h : (ns.take k ++ new :: ns.drop k).Perm (new :: (ns.take k ++ ns.drop k)) := List.perm_middle
    rw [List.take_append_drop] at h
    exact h
  exact e.nodup_iff.mpr (List.nodup_cons.mpr ⟨hn, nd⟩)
theorem moreN_len : (moreN ns k new).length = ns.length + 1 := by
  unfold moreN
  rw [List.length_append, List.length_append, List.length_take, List.length_drop, List.length_singleton]
  omega
theorem moreN_off (hn : new ∉ ns) : (moreN ns k new).filter (fun x => !decide (x ∈ [new])) = ns := by
  unfold moreN
  have h : ∀ l : List Str, (∀ x ∈ l, x ∈ ns) → l.filter (fun x => !decide (x ∈ [new])) = l := fun l hl => List.filter_eq_self.mpr fun x hx => by
    have : x ≠ new := fun e => hn (e ▸ hl x hx)
    simpa using this
  rw [List.filter_append, List.filter_append, h _ fun x hx => List.mem_of_mem_take hx, h _ fun x hx => List.mem_of_mem_drop hx, List.filter_cons_of_neg (by simp)]
  simp
theorem moreA_mem {y : Str} : y ∈ moreA as self new ↔ y ∈ as ∨ (self = true ∧ y = new) := by
  unfold moreA
  rw [List.mem_append]
  cases self <;> simp
theorem moreA_nd (ha : as.Nodup) (hs : ∀ y ∈ as, y ∈ ns) (hn : new ∉ ns) : (moreA as self new).Nodup := by
  unfold moreA
  cases self with
  | false => simpa using ha
  | true => exact nodup_app.mpr ⟨ha, by simp, fun x hx z => by rw [if_pos rfl, List.mem_singleton] at z; exact hn (z ▸ hs x hx)⟩
theorem moreP_good (g : GoodP ns ps) (ha : as.Nodup) (hs : ∀ y ∈ as, y ∈ ns) (hn : new ∉ ns) : GoodP (moreN ns k new) (moreP ps as self new) where
  nd := by
    unfold moreP
    refine nodup_app.mpr ⟨g.nd, nd_map (moreA_nd ha hs hn) fun a _ b _ e => (Prod.mk.inj e).1, fun p hp z => ?_⟩
    obtain ⟨y, _, rfl⟩ := List.mem_map.mp z
    exact hn (g.mem _ hp).2
  mem := fun p hp => by
    rcases List.mem_append.mp hp with hp | hp
    · exact ⟨moreN_mem.mpr (.inr (g.mem p hp).1), moreN_mem.mpr (.inr (g.mem p hp).2)⟩
    · obtain ⟨y, hy, rfl⟩ := List.mem_map.mp hp
      refine ⟨moreN_mem.mpr ?_, moreN_mem.mpr (.inl rfl)⟩
      rcases moreA_mem.mp hy with hy | ⟨_, hy⟩
      · exact .inr (hs y hy)
      · exact .inl hy
theorem more_part (g : GoodP ns ps) (hn : new ∉ ns) : Part ns ps (moreN ns k new) (moreP ps as self new) where
  sub := fun x hx => moreN_mem.mpr (.inr hx)
  spk := fun x hx => spk_left fun q hq e => by
    obtain ⟨y, _, rfl⟩ := List.mem_map.mp hq
    exact hn (by rw [show new = x from e]; exact hx)
  own := fun x _ y hy => (g.mem _ (spk_mem.mp hy)).1
theorem more_spk (g : GoodP ns ps) (hn : new ∉ ns) {y : Str} : y ∈ spk (moreP ps as self new) new ↔ y ∈ moreA as self new := by
  rw [spk_mem]
  unfold moreP
  rw [List.mem_append, List.mem_map]
  constructor
  · rintro (h | ⟨z, hz, e⟩)
    · exact (hn (g.mem _ h).2).elim
    · rw [← (Prod.mk.inj e).1]; exact hz
  · intro h
    exact .inr ⟨y, h, rfl⟩
theorem moreP_off (g : GoodP ns ps) (hn : new ∉ ns) : (moreP ps as self new).filter (fun p => decide (p.1 ∈ ns) && decide (p.2 ∈ ns)) = ps := by
  unfold moreP
  rw [List.filter_append, List.filter_eq_self.mpr, List.filter_eq_nil_iff.mpr, List.append_nil]
  · intro p hp
    obtain ⟨y, _, rfl⟩ := List.mem_map.mp hp
    simp [hn]
  · intro p hp
    have := g.mem p hp
    simp [this.1, this.2]
theorem sort_more (nd : ns.Nodup) (hn : new ∉ ns) : List.Sublist (sortS ns) (sortS (moreN ns k new)) := by
  have e := sort_filter (p := fun x => !decide (x ∈ [new])) (moreN_nd (k := k) nd hn)
  rw [moreN_off hn] at e
  rw [← e]
  exact List.filter_sublist
theorem view_more (nd : ns.Nodup) (g : GoodP ns ps) (hn : new ∉ ns) {v : List Str} (h : v ∈ viewsL ns ps) : v ∈ viewsL (moreN ns k new) (moreP ps as self new) := by
  obtain ⟨s, h2⟩ := views_mem.mp h
  obtain ⟨v1, v2⟩ := view_iff.mp h2
  have hv : ∀ x ∈ v, x ∈ ns := fun x hx => (sortS_perm ns).mem_iff.mp (s.subset hx)
  have old : ∀ {x y : Str}, x ∈ ns → (y, x) ∈ moreP ps as self new → (y, x) ∈ ps := fun {x y} hx h => by
    rcases List.mem_append.mp h with h | h
    · exact h
    · obtain ⟨z, _, e⟩ := List.mem_map.mp h
      exact (hn (by rw [(Prod.mk.inj e).2]; exact hx)).elim
  refine views_mem.mpr ⟨s.trans (sort_more nd hn), view_iff.mpr ⟨fun x hx y hy h => v1 x hx y hy (old (hv x hx) h), fun x hx y h => ?_⟩⟩
  obtain ⟨z, hz, e⟩ := v2 x hx y (old (hv x hx) h)
  exact ⟨z, hz, List.mem_append_left _ e⟩
/-- the word on the new one -/
theorem more_word (nd : ns.Nodup) (g : GoodP ns ps) (hs : ∀ y ∈ as, y ∈ ns) (hn : new ∉ ns) :
    (fget (told (moreN ns k new) (moreP ps as self new)) new).map (·.1) = if (as.any fun y => isW (told ns ps) y true) = true then some false else if ((as.all fun y => (fget (told ns ps) y).isSome) && !self) = true then some true else none := by
  have R := RI.rounds (ns := moreN ns k new) (ps := moreP ps as self new) ((moreN ns k new).length + 1)
  have same : ∀ y ∈ ns, fget (rounds (moreN ns k new) (moreP ps as self new) ((moreN ns k new).length + 1)) y = fget (told ns ps) y := fun y hy => told_part (more_part g hn) nd (by rw [moreN_len]; omega) hy
  have hnew : new ∈ moreN ns k new := moreN_mem.mpr (.inl rfl)
  have op := told_open (ps := moreP ps as self new) (moreN_nd (k := k) nd hn) hnew
  unfold told at op ⊢
  generalize rounds (moreN ns k new) (moreP ps as self new) ((moreN ns k new).length + 1) = F at R same op
  cases h1 : as.any fun y => isW (rounds ns ps (ns.length + 1)) y true with
  | true =>
    rw [if_pos rfl]
    obtain ⟨y, hy, e⟩ := List.any_eq_true.mp h1
    obtain ⟨r, e⟩ := isW_iff.mp e
    have ey : fget F y = some (true, r) := (same y (hs y hy)).trans e
    have sy : y ∈ spk (moreP ps as self new) new := (more_spk g hn).mpr (moreA_mem.mpr (.inl hy))
    cases q : fget F new with
    | none => exact (R.c new hnew q y sy r ey).elim
    | some p =>
      obtain ⟨b, n⟩ := p
      cases b with
      | false => rfl
      | true =>
        obtain ⟨r2, e2⟩ := R.h new n q y sy
        rw [ey] at e2
        cases e2
  | false =>
    rw [if_neg (by decide)]
    have noheld : ∀ y ∈ as, ∀ r, fget F y ≠ some (true, r) := fun y hy r e => by
      rw [same y (hs y hy)] at e
      exact List.any_eq_false.mp h1 y hy (isW_iff.mpr ⟨r, e⟩)
    have notout : ∀ n, fget F new ≠ some (false, n) := fun n e => by
      obtain ⟨⟨y, hy, ey⟩, _⟩ := R.o new n e
      rcases moreA_mem.mp ((more_spk g hn).mp hy) with h | ⟨_, rfl⟩
      · exact noheld y h n ey
      · rw [e] at ey; cases ey
    cases h2 : (as.all fun y => (fget (rounds ns ps (ns.length + 1)) y).isSome) && !self with
    | true =>
      rw [if_pos rfl]
      rw [Bool.and_eq_true, List.all_eq_true] at h2
      cases q : fget F new with
      | none =>
        obtain ⟨y, hy, ey⟩ := op q
        rcases moreA_mem.mp ((more_spk g hn).mp hy) with h | ⟨z, _⟩
        · have e3 := same y (hs y h)
          have := h2.1 y h
          rw [show fget (rounds ns ps (ns.length + 1)) y = fget F y from e3.symm, ey] at this
          cases this
        · rw [z] at h2; exact absurd h2.2 (by decide)
      | some p =>
        obtain ⟨b, n⟩ := p
        cases b with
        | false => exact (notout n q).elim
        | true => rfl
    | false =>
      rw [if_neg (by decide)]
      cases q : fget F new with
      | none => rfl
      | some p =>
        obtain ⟨b, n⟩ := p
        cases b with
        | false => exact (notout n q).elim
        | true =>
          have all := R.h new n q
          rw [Bool.and_eq_false_iff] at h2
          rcases h2 with h2 | h2
          · obtain ⟨y, hy, e⟩ := List.all_eq_false.mp h2
            obtain ⟨r, er⟩ := all y ((more_spk g hn).mpr (moreA_mem.mpr (.inl hy)))
            rw [show fget (rounds ns ps (ns.length + 1)) y = fget F y from (same y (hs y hy)).symm, er] at e
            exact (e rfl).elim
          · have hself : self = true := by simpa using h2
            obtain ⟨r, er⟩ := all new ((more_spk g hn).mpr (moreA_mem.mpr (.inr ⟨hself, rfl⟩)))
            rw [q] at er
            cases er
end
end Bw
set_option Elab.async false
set_option linter.all false
set_option maxRecDepth 100000
set_option maxHeartbeats 2000000
/-! what is to be taken off; dict(pairs); is None -/
namespace Bw
open PySem L2 PySem.Spec
def stayN (ns v : List Str) : List Str := ns.filter fun x => !decide (x ∈ v)
def stayP (ns : List Str) (ps : List Pr) (v : List Str) : List Pr := ps.filter fun p => decide (p.1 ∈ stayN ns v) && decide (p.2 ∈ stayN ns v)
def offB (ns : List Str) (ps : List Pr) (x : Str) (v : List Str) : Bool := heldB (stayN ns v) (stayP ns ps v) x
def othersOf (ns : List Str) (x : Str) : List Str := ns.filter fun y => !decide (y = x)
def leastO (ns : List Str) (ps : List Pr) (x : Str) : Option (List Str) := (allSets (sortS (othersOf ns x))).find? (offB ns ps x)
section
variable {ns : List Str} {ps : List Pr} {x : Str}
theorem others_mem {y : Str} : y ∈ othersOf ns x ↔ y ∈ ns ∧ y ≠ x := by
  unfold othersOf
  rw [List.mem_filter]
  simp
theorem set_mem {v : List Str} (h : v ∈ allSets (sortS (othersOf ns x))) : ∀ y ∈ v, y ∈ ns ∧ y ≠ x := fun y hy =>
  others_mem.mp ((sortS_perm _).mem_iff.mp ((allSets_mem.mp h).subset hy))
theorem held_free (nd : ns.Nodup) (hx : x ∈ ns) (h : spk ps x = []) : heldB ns ps x = true := by
  have R := RI.rounds (ns := ns) (ps := ps) (ns.length + 1)
  refine isW_iff.mpr ?_
  cases e : fget (told ns ps) x with
  | none =>
    obtain ⟨y, hy, _⟩ := told_open nd hx e
    rw [h] at hy
    cases hy
  | some q =>
    obtain ⟨b, n⟩ := q
    cases b with
    | true => exact ⟨n, rfl⟩
    | false =>
      obtain ⟨⟨y, hy, _⟩, _⟩ := R.o x n e
      rw [h] at hy
      cases hy
theorem least_none (hx : x ∈ ns) (h : (x, x) ∈ ps) : leastO ns ps x = none := by
  unfold leastO
  rw [List.find?_eq_none]
  intro v hv e
  have nx : x ∉ v := fun z => (set_mem hv x z).2 rfl
  have sx : x ∈ stayN ns v := List.mem_filter.mpr ⟨hx, by simpa using nx⟩
  have sp : (x, x) ∈ stayP ns ps v := List.mem_filter.mpr ⟨h, by simp [sx]⟩
  obtain ⟨r, er⟩ := isW_iff.mp e
  obtain ⟨r2, e2⟩ := (RI.rounds (ns := stayN ns v) (ps := stayP ns ps v) ((stayN ns v).length + 1)).h x r er x (spk_mem.mpr sp)
  have er' : fget (rounds (stayN ns v) (stayP ns ps v) ((stayN ns v).length + 1)) x = some (true, r) := er
  rw [er'] at e2
  cases e2
theorem least_some (nd : ns.Nodup) (hx : x ∈ ns) (h : (x, x) ∉ ps) : ∃ v, leastO ns ps x = some v := by
  refine Option.isSome_iff_exists.mp ?_
  unfold leastO
  rw [List.find?_isSome]
  refine ⟨sortS (othersOf ns x), allSets_mem.mpr (List.Sublist.refl _), ?_⟩
  have mem : ∀ y, y ∈ sortS (othersOf ns x) ↔ y ∈ ns ∧ y ≠ x := fun y => by rw [(sortS_perm _).mem_iff, others_mem]
  have sx : x ∈ stayN ns (sortS (othersOf ns x)) := List.mem_filter.mpr ⟨hx, by simp [mem]⟩
  refine held_free (nd.filter _) sx (List.eq_nil_iff_forall_not_mem.mpr fun y hy => ?_)
  obtain ⟨h1, h2⟩ := List.mem_filter.mp (spk_mem.mp hy)
  rw [Bool.and_eq_true, decide_eq_true_eq, decide_eq_true_eq] at h2
  obtain ⟨h3, h4⟩ := List.mem_filter.mp h2.1
  by_cases e : y = x
  · subst e
    exact h h1
  · have : y ∈ sortS (othersOf ns x) := (mem y).mpr ⟨h3, e⟩
    simp [this] at h4
theorem find_at {α : Type} {p : α → Bool} {L : List α} {i : Nat} {v : α} (h : L[i]? = some v) (no : ∀ u ∈ L.take i, p u = false) (e : p v = true) : L.find? p = some v := by
  have hi := (List.getElem?_eq_some_iff.mp h).1
  have hv : L[i] = v := (List.getElem?_eq_some_iff.mp h).2
  have eL : L = L.take i ++ v :: L.drop (i + 1) := by
    have h2 := List.drop_eq_getElem_cons hi
    rw [← hv, ← h2, List.take_append_drop]
  rw [eL, List.find?_append, List.find?_eq_none.mpr fun u hu => by rw [no u hu]; decide]
  simp [e]
theorem find_none {α : Type} {p : α → Bool} {L : List α} (no : ∀ u ∈ L, p u = false) : L.find? p = none := List.find?_eq_none.mpr fun u hu => by rw [no u hu]; decide
end
section
variable {K : PySem.W.Frag} {δ : List Sl} {te : TE} {ks : List Str} {ds : List Da}
def rDictP (K : PySem.W.Frag) : List V → Hp → VK → Prop := fun xs H Q => ∃ (a : Addr) (ps : List Addr) (kvs : List (Key × V)), xs = [.ref a] ∧ SqL K H a (ps.map V.ref) ∧ Paired (fun p kv => SqT K H p [kV kv.1, kv.2]) ps kvs ∧ ∀ p, H p = none → Q (.ref p) (upd H p (.dK (mergeK [] kvs)))
theorem cr_dictP {X : Cx} (hc : X.calm = true) : CallR X (.type "dict") (rDictP X.K) := call_dictP hc
theorem items_back {H : Hp} : ∀ {ks : List Str} {ds : List Da} {xs : List V}, ks.length = ds.length → DRs K H xs (itemsD ks ds) → ∃ (ts : List Addr) (ys : List V), xs = ts.map V.ref ∧ DRs K H ys ds ∧ Paired (fun p kv => SqT K H p [kV kv.1, kv.2]) ts (kvz ks ys)
  | [], [], xs, _, r => by cases r; exact ⟨[], [], rfl, .nil, .nil⟩
  | k :: ks, d :: ds, xs, h, r => by
    have r : DRs K H xs (.tup [.str k, d] :: itemsD ks ds) := r
    cases r with
    | cons r1 r2 =>
      obtain ⟨ts, ys, e, r3, p⟩ := items_back (by simpa using h) r2
      cases r1 with
      | tup et rt =>
        rename_i t zs
        obtain ⟨v1, v2, rfl, q1, q2⟩ := rt.two_of
        cases q1
        exact ⟨t :: ts, v2 :: ys, by rw [List.map_cons, e], .cons q2 r3, .cons et p⟩
theorem evs_dictP (h : EvS K te δ (.lst (itemsD ks ds))) (nd : ks.Nodup) (hl : ks.length = ds.length) : EvSB K (tCB (rDictP K) (tCons te tNil)) δ ks ds := fun σ Hk D H s Q q =>
  h σ Hk D H s _ fun v Hs H' x r => by
    cases r with
    | lst e r1 =>
      rename_i a xs
      obtain ⟨ts, ys, ex, r3, p⟩ := items_back hl r1
      subst ex
      have ly := r3.len
      have up : ∀ {ts : List Addr} {kvs : List (Key × V)}, Paired (fun p kv => SqT K Hs p [kV kv.1, kv.2]) ts kvs → Paired (fun p kv => SqT K H' p [kV kv.1, kv.2]) ts kvs := fun {ts kvs} p => by
        induction p with
        | nil => exact .nil
        | cons h _ ih => exact .cons (same_t x.st h) ih
      refine ⟨a, ts, kvz ks ys, rfl, x.st.seq (SqL.of e), up p, fun p hp => ?_⟩
      have em : mergeK [] (kvz ks ys) = kvz ks ys := by
        have := merge_new (ls := ks) (ys := ys) (ks := []) (xs := []) (K := K) (H := Hs) (ds := []) rfl (by omega) .nil (fun l _ z => by cases z) nd r3.all
        simpa [kvz] using this
      rw [em]
      have x2 : Ext Hk H Hs (upd H' p (.dK (kvz ks ys))) := ⟨x.up.trans (same_upd hp), x.kn, x.st.trans (same_upd hp), x.nw⟩
      exact q p ys Hs _ x2 (x.up.free hp) (x.st.free hp) upd_same (by omega) r3
theorem rv_isN {d : Da} {b : Bool} (h : b = true ↔ d = .non) : RV K (fun x y H Q => y = V.non ∧ Q (V.bl (decide (x = V.non))) H) d .non (.bl b) := rv_now fun Hk H v1 v2 s a1 a2 Q q => by
  cases a2
  refine ⟨rfl, ?_⟩
  have : (decide (v1 = V.non)) = b := by
    cases b with
    | true =>
      have := h.mp rfl
      subst this
      cases a1
      rfl
    | false =>
      have : d ≠ .non := fun z => Bool.noConfusion (h.mpr z)
      exact decide_eq_false fun z => this (by subst z; cases a1; rfl)
  rw [this]
  exact q _ (.bl _)
end
end Bw
set_option Elab.async false
set_option linter.all false
set_option maxRecDepth 100000
set_option maxHeartbeats 2000000
/-! min of data that are alike; pop and extend of lists -/
namespace L2
open PySem PySem.Spec PyProof.Rows BwCmb
def minOf : List PyData → PyData
  | [] => .none
  | x :: xs => PySem.W.minD x xs
section
variable {X : Cx}
def rMinD (K : PySem.W.Frag) : List V → Hp → VK → Prop := fun vs H Q => ∃ (a : Addr) (bs : List (V × PyData)), vs = [.ref a] ∧ SqL K H a (bs.map (·.1)) ∧ (∀ b ∈ bs, Dp K H b.1 b.2) ∧ PySem.W.AlikeAll (bs.map (·.2)) ∧ bs ≠ [] ∧ (∀ b ∈ bs, b.2.depth ≤ 50) ∧ (∀ b ∈ bs, b.2.canLay0 = true) ∧
  ∀ b ∈ bs, b.2 = minOf (bs.map (·.2)) → Q b.1 H
theorem reads_each {h : Heap} {bs : List (V × PyData)} : ∀ {its : List Value}, PySem.W.EachIs (fun v b => ∃ as, Reads h v b.2 as) its bs → ∃ as, ReadsAll h its (bs.map (·.2)) as := by
  induction bs with
  | nil => intro its r; cases r; exact ⟨_, .nil⟩
  | cons b bs ih =>
    intro its r
    cases r with
    | cons r1 r2 =>
      obtain ⟨as, r1⟩ := r1
      obtain ⟨cs, r2⟩ := ih r2
      exact ⟨_, .cons r1 r2⟩
theorem depthAll_le : ∀ {xs : List PyData} {n : Nat}, (∀ x ∈ xs, x.depth ≤ n) → PyData.depthAll xs ≤ n
  | [], n, _ => by simp [PyData.depthAll]
  | x :: xs, n, h => by
    have h1 := h x (List.mem_cons_self ..)
    have h2 := depthAll_le (xs := xs) (n := n) fun y hy => h y (List.mem_cons_of_mem _ hy)
    simp only [PyData.depthAll]
    omega
theorem cr_minD (hc : X.calm = true) (hu : X.A.units + 65 < cLine) : CallR X (.builtin "min") (rMinD X.K) := by
  intro pins s σ H vs us Q I r h
  obtain ⟨a, bs, rfl, hs, hd, hal, hne, hz, hy, q⟩ := h
  obtain ⟨its, rv, hl, hlen⟩ := I.list hs
  rw [Vals.ref1 r]
  have e := each_vals rv
  have er : PySem.W.EachIs (fun v b => ∃ as, Reads s.heap v b.2 as) its bs := (PySem.W.each_mem e).mono fun v b ⟨r1, hb⟩ => Dp.reads I _ _ _ (hd b hb) r1
  obtain ⟨as, ra⟩ := reads_each er
  cases bs with
  | nil => exact absurd rfl hne
  | cons b0 bs =>
    rw [List.map_cons] at ra hal
    have dl : PyData.depthAll (b0.2 :: bs.map (·.2)) ≤ 50 := depthAll_le fun x hx => by
      obtain ⟨b, hb, rfl⟩ := List.mem_map.mp (show x ∈ (b0 :: bs).map (·.2) from hx)
      exact hz b hb
    refine PySem.W.min_list_data (I.ok.hd hc) hl.isList (vs := its.toArray) ra hal (by omega) fun i v h' tk cs hv hr hk => ?_
    have hv : its[i]? = some v := by rw [← Array.getElem?_toList] at hv; exact hv
    have hi := (List.getElem?_eq_some_iff.mp hv).1
    have hle : its.length = (b0 :: bs).length := by
      have := rv.length
      rw [List.length_map] at this
      exact this.symm
    have hb := List.getElem_mem (l := b0 :: bs) (n := i) (by omega)
    obtain ⟨w, hw, rw'⟩ := rv.get (i := i) (x := ((b0 :: bs)[i]'(by omega)).1) (by rw [List.getElem?_map, List.getElem?_eq_getElem (by omega)] <;> rfl)
    rw [hv] at hw
    cases hw
    obtain ⟨ds, hrb⟩ := Dp.reads I _ _ _ (hd _ hb) rw'
    have same := PySem.SeqAt.Reads.unique _ _ _ _ _ (hy _ hb) (PySem.W.reads_keeps hk hrb) hr
    exact ⟨_, _, I.kept hk, rw', q _ hb same⟩
end
end L2
namespace L2
open PySem PySem.Spec PyProof.Rows
/-- e makes a dict; from here on it is locked -/
def tFz (te : TE) : TE := fun σ H Q => te σ H fun v H1 => ∃ d u, v = .ref d ∧ H1 d = some u ∧ Mut (some u) ∧ ∀ od, Q v (upd H1 d (.frz od u))
theorem pe_fz {X : Cx} {e : Expr} {te : TE} (h : PE X e te) : PE X e (tFz te) := by
  refine ⟨fun pins s σ H Q I hw => ?_⟩
  refine thn (h.run pins s σ H _ I hw) fun v s1 ⟨x, H1, I1, r, d, u, ex, hd, mu, q⟩ => ?_
  obtain ⟨od, I2⟩ := I1.lock hd mu
  exact ⟨x, _, I2, r, q od⟩
end L2
namespace Bw
open PySem L2 PySem.Spec
theorem ext_fz {Hk H Hs H' : Hp} {l : Addr} {o : HO} (x : Ext Hk H Hs H') (h0 : H l = none) (hs : Hs l = none) : Ext Hk H (upd Hs l o) (upd H' l o) :=
  ⟨same_updK x.up h0, x.kn.trans (same_upd hs), same_upd2 x.st, fun b u e n => by
    by_cases hb : b = l
    · subst hb; exact h0
    · rw [upd_ne hb] at e; exact x.nw b u e n⟩
theorem kvz_val {ks : List Str} {xs : List V} {i : Nat} {k : Key} {v : V} (h : (kvz ks xs)[i]? = some (k, v)) : xs[i]? = some v := by
  unfold kvz at h
  rw [List.getElem?_zip_eq_some] at h
  exact h.2
section
variable {C : Ct} {δ : List Sl} {D : Ends} {t2 : TS} {te : TE} {ks : List Str} {ds es : List Da} {i j : Nat} {d : Da}
theorem go_setFz (h : EvSB C.K te δ ks ds) (q : ∀ l, Nx C D.nx (δ.set i (.dat (.dcf l ks ds)))) : Go C (tAsg (tFz te) (gName i)) D δ := fun σ Hk H a =>
  h σ Hk a.dat H a.same _ fun l xs Hs H' x h0 hs hl hle r => ⟨l, _, rfl, hl, True.intro, fun od =>
    q l _ _ _ ((a.go (ext_fz (o := .frz od (.dK (kvz ks xs))) x h0 hs)).set (.dcf (o := od) upd_same hle (r.up (same_upd hs))))⟩
theorem sq_setFz (h : EvSB C.K te δ ks ds) (q : ∀ l, Go C t2 D (δ.set i (.dat (.dcf l ks ds)))) : Go C (tSeq (tAsg (tFz te) (gName i)) t2) D δ := go_seq (go_setFz h q)
/-- the dict in a slot of its own is handed back -/
theorem go_retBO (e : δ[i]? = some (.ow ⟨some ks, none, ds⟩)) (q : PostB C ks ds D.rt) : Go C (tRet (tVar i)) D δ := fun σ Hk H a => by
  obtain ⟨l, xs, e1, e2, e3, e4, rs⟩ := a.own i _ e
  exact ⟨_, e1, q l xs Hk H a.ext e2 e3 e4 (rs.kl _ rfl) rs.rs⟩
/-- y = xs.pop() -/
theorem go_lpop (e : δ[i]? = some (.own (ds ++ [d]))) (q : Nx C D.nx ((δ.set i (.own ds)).set j (.dat d))) : Go C (tAsg (tBM0 C.K "list" rPop (tVar i)) (gName j)) D δ := fun σ Hk H a => by
  obtain ⟨l, xs, e1, e2, e3, e4, rs⟩ := a.own i _ e
  have e4 : H l = some (.lst xs) := e4
  have r := rs.rs
  have hl := r.len
  rw [List.length_append, List.length_singleton] at hl
  obtain ⟨v, hv, rv⟩ := r.at (i := ds.length) (d := d) (by rw [List.getElem?_append_right (Nat.le_refl _), Nat.sub_self] <;> rfl)
  have ex : xs = xs.dropLast ++ [v] := by
    have h1 : xs ≠ [] := fun z => by subst z; simp at hl
    have h2 := List.dropLast_concat_getLast h1
    have h3 : xs.getLast h1 = v := by
      rw [List.getLast_eq_getElem]
      have := (List.getElem?_eq_some_iff.mp hv).2
      simp only [show xs.length - 1 = ds.length by omega]
      exact this
    rw [h3] at h2
    exact h2.symm
  have rd : DRs C.K Hk xs.dropLast ds := by
    have : ∀ (es : List Da) (ys : List V), DRs C.K Hk (ys ++ [v]) (es ++ [d]) → ys.length = es.length → DRs C.K Hk ys es := by
      intro es
      induction es with
      | nil => intro ys r h; rw [List.length_eq_zero_iff.mp h]; exact .nil
      | cons z es ih =>
        intro ys r h
        cases ys with
        | nil => cases h
        | cons y ys =>
          cases r with
          | cons r1 r2 => exact .cons r1 (ih ys r2 (by simpa using h))
    refine this ds xs.dropLast (by rw [← ex]; exact r) ?_
    rw [List.length_dropLast]
    omega
  refine ⟨_, e1, .inl ⟨rfl, _, SqL.of e4⟩, l, xs, v, rfl, rfl, e4, ?_, ?_⟩
  · rw [show xs.length - 1 = ds.length by omega]
    exact hv
  · exact q _ Hk _ ((a.mutW (xs' := xs.dropLast) (o' := ⟨none, none, ds⟩) e e1 (.lst rd)).set rv)
theorem sq_lpop (e : δ[i]? = some (.own (ds ++ [d]))) (q : Go C t2 D ((δ.set i (.own ds)).set j (.dat d))) : Go C (tSeq (tAsg (tBM0 C.K "list" rPop (tVar i)) (gName j)) t2) D δ := go_seq (go_lpop e q)
/-- xs.extend(ys), ys flat -/
theorem go_lextF (e : δ[i]? = some (.own ds)) (h : EvSN C.K te (δ.map Sl.frz) es) (f : ∀ d ∈ es, d.flat = true) (hl : ds.length + es.length ≤ 1000) (q : Nx C D.nx (δ.set i (.own (ds ++ es)))) :
    Go C (tDrop (tBM C.K "list" rExtend (tVar i) (tCons te tNil))) D δ := fun σ Hk H a => by
  obtain ⟨l, xs, e1, e2, e3, e4, rs⟩ := a.own i _ e
  have e4 : H l = some (.lst xs) := e4
  refine ⟨_, e1, .inl ⟨rfl, _, SqL.of e4⟩, ?_⟩
  refine h σ H a.frz H (Same.refl _) _ fun b zs Hs H' x h0 hs hl2 r => ?_
  have a' := a.go (Ext.of_up a.same x.up)
  have r' : DRs C.K Hk zs es := flats f r
  refine ⟨l, b, xs, zs, rfl, rfl, x.up _ _ e4, hl2, Nat.le_of_lt (small1000 (by rw [r'.len, rs.rs.len]; exact hl)), ?_⟩
  refine q _ Hk _ (a'.mutW (xs' := xs ++ zs) (o' := ⟨none, none, ds ++ es⟩) e e1 (.lst ?_))
  exact (rs.rs : DRs C.K Hk xs ds).app r'
end
section
variable {K : PySem.W.Frag} {δ : List Sl} {td ty : TE} {ks : List Str} {ds : List Da} {l : Addr} {x : Str} {d : Da}
theorem evs_dinL (hy : EvS K ty δ (.str x)) (hd : EvS K td δ (.dcf l ks ds)) : EvS K (tDIn ty td) δ (.bl (dget ks ds x).isSome) := fun σ Hk D H s Q q =>
  hy σ Hk D H s _ fun v1 H1 H1' x1 r1 => hd σ H1 (D.up x1.kn) H1' x1.st _ fun v2 H2 H2' x2 r2 => by
    cases r1
    cases r2 with
    | dcf e h r =>
      refine ⟨_, _, rfl, .inl ⟨_, .inr x, .inr ⟨_, x2.st _ _ e⟩, rfl, rfl⟩, ?_⟩
      rw [(dget_o x h r).isSome]
      exact q _ H2 H2' (x1.trans x2) (.bl _)
theorem evs_dnotinL (hy : EvS K ty δ (.str x)) (hd : EvS K td δ (.dcf l ks ds)) : EvS K (tDNotIn ty td) δ (.bl (!(dget ks ds x).isSome)) := fun σ Hk D H s Q q =>
  hy σ Hk D H s _ fun v1 H1 H1' x1 r1 => hd σ H1 (D.up x1.kn) H1' x1.st _ fun v2 H2 H2' x2 r2 => by
    cases r1
    cases r2 with
    | dcf e h r =>
      refine ⟨_, _, rfl, .inl ⟨_, .inr x, .inr ⟨_, x2.st _ _ e⟩, rfl, rfl⟩, ?_⟩
      rw [(dget_o x h r).isSome]
      exact q _ H2 H2' (x1.trans x2) (.bl _)
/-- the pairs of a dict just made, which is locked from here on -/
theorem itd_itemsF (h : EvSB K td δ ks ds) : ItD K (iItems (tFz td)) δ (List.zipWith (fun k d => Da.tup [.str k, d]) ks ds) := fun σ Hk D H s R q =>
  h σ Hk D H s _ fun l xs Hs H' x h0 hs hl hle r => ⟨l, _, rfl, hl, True.intro, fun od => ⟨l, od, kvz ks xs, rfl, upd_same, by
    have r1 : DRs K (upd Hs l (.frz od (.dK (kvz ks xs)))) xs ds := r.up (same_upd hs)
    have hd := r.len
    refine q _ (upd Hs l (.frz od (.dK (kvz ks xs)))) _ (ext_fz x h0 hs) ⟨fun i H d s e2 => ⟨s _ _ upd_same, ?_⟩, fun i H y H' d Hk s1 s2 e2 z => ?_, fun H s => ⟨s _ _ upd_same, ?_⟩⟩
    · have := (List.getElem?_eq_some_iff.mp e2).1
      rw [List.length_zipWith] at this
      rw [kvz_len hle]
      omega
    · obtain ⟨T, k, v, z1, rfl, hT, rfl⟩ := z
      obtain ⟨w, w1, rfl⟩ := kvz_at z1
      have v1 := kvz_val z1
      rw [List.getElem?_zipWith, w1] at e2
      cases ed : ds[i]? with
      | none => rw [ed] at e2; cases e2
      | some d0 =>
        rw [ed] at e2
        cases e2
        obtain ⟨u, u1, ru⟩ := r1.at ed
        rw [v1] at u1
        cases u1
        refine ⟨_, (Ext.refl s2).new hT, .tup (SqT.of upd_same) ?_⟩
        exact .cons (.str w) (.cons ((ru.up s1).up (same_upd (s2.free hT))) .nil)
    · rw [kvz_len hle, List.length_zipWith]
      omega⟩⟩
theorem tgd_n2 {i j k : Nat} {d1 d2 d3 : Da} : TgD K (gTup K 2 (gCons (gName i) (gCons (gTup K 2 (gCons (gName j) (gCons (gName k) gNil))) gNil))) (.tup [d1, .tup [d2, d3]]) δ (((δ.set i (.dat d1)).set j (.dat d2)).set k (.dat d3)) [i, j, k] := fun v σ Hk H a r s P q => by
  cases r with
  | tup e r1 =>
    cases r1 with
    | cons r2 r3 =>
      cases r3 with
      | cons r4 r5 =>
        cases r5
        cases r4 with
        | tup e' r6 =>
          cases r6 with
          | cons r7 r8 =>
            cases r8 with
            | cons r9 r10 =>
              cases r10
              refine ⟨_, _, rfl, same_t s e, rfl, _, _, rfl, _, _, rfl, ⟨_, _, rfl, same_t s e', rfl, _, _, rfl, _, _, rfl, rfl, ?_⟩⟩
              refine ⟨rfl, ?_⟩
              exact q _ (dats_set (dats_set (dats_set a r2) r7) r9) (by rw [List.length_set, List.length_set, List.length_set]) fun m hm => by
                rw [List.getElem?_set_ne (fun z => hm (by simp [z])), List.getElem?_set_ne (fun z => hm (by simp [z])), List.getElem?_set_ne (fun z => hm (by simp [z]))]
end
end Bw
namespace Bw
open PySem L2 PySem.Spec
def leastNS (x : Int × Str) (xs : List (Int × Str)) : Int × Str := xs.foldl (fun a y => if ltNS y a = true then y else a) x
theorem leastNS_mem : ∀ (xs : List (Int × Str)) (x : Int × Str), leastNS x xs ∈ x :: xs
  | [], x => List.mem_cons_self ..
  | z :: zs, x => by
    have := leastNS_mem zs (if ltNS z x = true then z else x)
    show leastNS (if ltNS z x = true then z else x) zs ∈ _
    rcases List.mem_cons.mp this with h | h
    · rw [h]
      split
      · exact List.mem_cons_of_mem _ (List.mem_cons_self ..)
      · exact List.mem_cons_self ..
    · exact List.mem_cons_of_mem _ (List.mem_cons_of_mem _ h)
theorem leastNS_le : ∀ (xs : List (Int × Str)) (x : Int × Str), ∀ y ∈ x :: xs, ltNS y (leastNS x xs) = false
  | [], x, y, h => by
    rw [List.mem_singleton.mp h]
    exact ltNS_irr x
  | z :: zs, x, y, h => by
    have ih := leastNS_le zs (if ltNS z x = true then z else x)
    show ltNS y (leastNS (if ltNS z x = true then z else x) zs) = false
    generalize hr : leastNS (if ltNS z x = true then z else x) zs = r at ih
    have key : ltNS x r = false ∧ ltNS z r = false := by
      by_cases c : ltNS z x = true
      · rw [if_pos c] at ih
        have h1 := ih z (List.mem_cons_self ..)
        refine ⟨?_, h1⟩
        cases e : ltNS x r with
        | false => rfl
        | true => rw [ltNS_tr _ _ _ c e] at h1; cases h1
      · rw [if_neg c] at ih
        have h1 := ih x (List.mem_cons_self ..)
        refine ⟨h1, ?_⟩
        cases e : ltNS z r with
        | false => rfl
        | true =>
          by_cases ez : z = x
          · rw [ez, h1] at e; cases e
          · rcases ltNS_tot ez with k | k
            · exact absurd k c
            · rw [ltNS_tr _ _ _ k e] at h1; cases h1
    rcases List.mem_cons.mp h with rfl | h
    · exact key.1
    · rcases List.mem_cons.mp h with rfl | h
      · exact key.2
      · exact ih y (List.mem_cons_of_mem _ h)
theorem leastNS_is {x m : Int × Str} {xs : List (Int × Str)} (hm : m ∈ x :: xs) (hle : ∀ v ∈ x :: xs, ltNS v m = false) : leastNS x xs = m := Classical.byContradiction fun n => by
  rcases ltNS_tot n with h | h
  · rw [hle _ (leastNS_mem xs x)] at h; cases h
  · rw [leastNS_le xs x m hm] at h; cases h
theorem lt_NS (a b : Int × Str) : PySem.W.dataLt (toPy (dNS a)) (toPy (dNS b)) = ltNS a b := by
  have := leD_NS b a
  unfold leD at this
  rw [Bool.not_inj_iff] at this
  rw [this]
  rfl
theorem minD_NS : ∀ (xs : List (Int × Str)) (x : Int × Str), PySem.W.minD (toPy (dNS x)) (xs.map fun y => toPy (dNS y)) = toPy (dNS (leastNS x xs))
  | [], x => rfl
  | z :: zs, x => by
    have ih := minD_NS zs (if ltNS z x = true then z else x)
    unfold PySem.W.minD at ih ⊢
    rw [List.map_cons, List.foldl_cons, lt_NS]
    show _ = toPy (dNS (leastNS (if ltNS z x = true then z else x) zs))
    rw [← ih]
    congr 1
    split <;> rfl
theorem toNS_inj {a b : Int × Str} (h : toPy (dNS a) = toPy (dNS b)) : a = b := by
  rw [toPy_NS, toPy_NS] at h
  injection h with h
  injection h with h1 h
  injection h with h2 _
  injection h1 with h1
  injection h2 with h2
  exact Prod.ext h1 h2
/-- min of numbers with names -/
theorem rc_minNS {K : PySem.W.Frag} {vs : List (Int × Str)} {m : Int × Str} (ok : ∀ v ∈ vs, okS v.2) (hm : m ∈ vs) (hle : ∀ v ∈ vs, ltNS v m = false) : RC K (rMinD K) [.lst (vs.map dNS)] (dNS m) := rc_now fun Hk H v s a Q q => by
  obtain ⟨v, rfl, a1⟩ := a.one_of
  cases a1 with
  | lst e r1 =>
    rename_i l xs
    have okd : ∀ d ∈ vs.map dNS, okD 2 d := fun d hd => by
      obtain ⟨v, hv, rfl⟩ := List.mem_map.mp hd
      exact ok_NS (ok v hv)
    have r2 := r1.up s
    obtain ⟨⟨h1, h2⟩, h3⟩ := drs_zip r2 okd
    have inz : ∀ b ∈ xs.zip ((vs.map dNS).map toPy), ∃ d ∈ vs.map dNS, b.2 = toPy d ∧ DR K Hk b.1 d := fun b hb => by
      obtain ⟨i, hi⟩ := List.getElem?_of_mem hb
      rw [List.getElem?_zip_eq_some, List.getElem?_map] at hi
      obtain ⟨d, e3, r3⟩ := r1.atv hi.1
      rw [e3] at hi
      exact ⟨d, List.mem_of_getElem? e3, by have := hi.2; simp at this; exact this.symm, r3⟩
    refine ⟨l, xs.zip ((vs.map dNS).map toPy), rfl, by rw [h1]; exact SqL.of (s _ _ e), h3, ?_, ?_, fun b hb => ?_, fun b hb => ?_, fun b hb eb => ?_⟩
    · rw [h2]
      refine ⟨fun x hx y hy => ?_, fun x hx => ?_⟩
      · obtain ⟨d, hd, rfl⟩ := List.mem_map.mp hx
        obtain ⟨p, _, rfl⟩ := List.mem_map.mp hd
        obtain ⟨d, hd, rfl⟩ := List.mem_map.mp hy
        obtain ⟨q, _, rfl⟩ := List.mem_map.mp hd
        rw [toPy_NS, toPy_NS]
        simp [PySem.W.alike, PySem.W.alikeAll]
      · obtain ⟨d, hd, rfl⟩ := List.mem_map.mp hx
        obtain ⟨p, _, rfl⟩ := List.mem_map.mp hd
        rw [toPy_NS]
        exact fun z => by cases z
    · intro z
      have : ((xs.zip ((vs.map dNS).map toPy)).map (·.2)) = [] := by rw [z] <;> rfl
      rw [h2, List.map_map] at this
      have := List.map_eq_nil_iff.mp this
      subst this
      cases hm
    · obtain ⟨d, hd, e2, _⟩ := inz b hb
      rw [e2]
      exact Nat.le_trans (ok_lay 2 d (okd d hd)).2 (by decide)
    · obtain ⟨d, hd, e2, _⟩ := inz b hb
      rw [e2]
      exact (ok_lay 2 d (okd d hd)).1
    · obtain ⟨d, hd, e2, rd⟩ := inz b hb
      obtain ⟨p, hp, rfl⟩ := List.mem_map.mp hd
      rw [h2] at eb
      have em : minOf ((vs.map dNS).map toPy) = toPy (dNS m) := by
        cases vs with
        | nil => cases hm
        | cons x vs =>
          rw [List.map_map]
          show PySem.W.minD (toPy (dNS x)) (vs.map fun y => toPy (dNS y)) = _
          rw [minD_NS, leastNS_is hm hle]
      rw [em, e2] at eb
      rw [toNS_inj eb] at rd
      exact q _ rd
end Bw
set_option Elab.async false
set_option linter.all false
set_option maxRecDepth 100000
set_option maxHeartbeats 2000000
/-! papers, in plain words -/
namespace Bw
open PySem L2 PySem.Spec
section
variable {ns : List Str} {ps : List Pr} {x y z : Str}
theorem held_turn : ∀ {t : Nat} {x : Str} {n : Nat}, fget (rounds ns ps t) x = some (true, n) → ∀ y ∈ spk ps x, ∃ r, r < n ∧ fget (rounds ns ps t) y = some (false, r)
  | 0, x, n, e => by cases e
  | t + 1, x, n, e => by
    intro y hy
    have e : fget (stepO ns ps (stepH ns ps (rounds ns ps t) (t + 1)) (t + 1)) x = some (true, n) := e
    have keep : ∀ r, fget (rounds ns ps t) y = some (false, r) → fget (rounds ns ps (t + 1)) y = some (false, r) := fun r er => rounds_keep er 1
    rcases O_inv e with e | ⟨_, e, _⟩
    · rcases H_inv e with e | ⟨_, e, _, hc⟩
      · obtain ⟨r, hr, er⟩ := held_turn e y hy
        exact ⟨r, hr, keep r er⟩
      · obtain ⟨r, er⟩ := (canHeld_iff.mp hc).2 y hy
        have := (RI.rounds (ns := ns) (ps := ps) t).a y _ er
        cases e
        exact ⟨r, Nat.lt_succ_of_le this, keep r er⟩
    · cases e
/-- the round of one that has a word -/
def trn (ns : List Str) (ps : List Pr) (x : Str) : Nat := match fget (told ns ps) x with
  | some q => q.2
  | none => 0
theorem held_fget (h : heldB ns ps x = true) : fget (told ns ps) x = some (true, trn ns ps x) := by
  obtain ⟨r, e⟩ := isW_iff.mp h
  rw [e]
  unfold trn
  rw [e] <;> rfl
def candQ (ns : List Str) (ps : List Pr) (y : Str) : List (Int × Str) := ((spk ps y).filter (heldB ns ps)).map fun z => (((trn ns ps z : Nat) : Int), z)
def ansQ (ns : List Str) (ps : List Pr) (y : Str) : Int × Str := match candQ ns ps y with
  | [] => (0, y)
  | q :: qs => leastNS q qs
def ansS (ns : List Str) (ps : List Pr) (y : Str) : Str := (ansQ ns ps y).2
abbrev Row := Str × List (Str × Str)
def ansL (ns : List Str) (ps : List Pr) (x : Str) : List (Str × Str) := (spk ps x).map fun y => (y, ansS ns ps y)
theorem ansQ_mem (h : candQ ns ps y ≠ []) : ansQ ns ps y ∈ candQ ns ps y := by
  unfold ansQ
  cases e : candQ ns ps y with
  | nil => exact absurd e h
  | cons q qs => exact leastNS_mem qs q
theorem ansQ_le : ∀ v ∈ candQ ns ps y, ltNS v (ansQ ns ps y) = false := by
  unfold ansQ
  cases e : candQ ns ps y with
  | nil => intro v hv; cases hv
  | cons q qs => exact leastNS_le qs q
theorem cand_of (hz : z ∈ spk ps y) (h : heldB ns ps z = true) : (((trn ns ps z : Nat) : Int), z) ∈ candQ ns ps y := List.mem_map.mpr ⟨z, List.mem_filter.mpr ⟨hz, h⟩, rfl⟩
/-- what the answer of one is, that speaks against a held one -/
theorem ans_ok (h : heldB ns ps x = true) (hy : y ∈ spk ps x) : candQ ns ps y ≠ [] ∧ ansS ns ps y ∈ spk ps y ∧ heldB ns ps (ansS ns ps y) = true ∧ trn ns ps (ansS ns ps y) < trn ns ps x ∧ ansQ ns ps y = (((trn ns ps (ansS ns ps y) : Nat) : Int), ansS ns ps y) := by
  obtain ⟨r, hr, er⟩ := held_turn (held_fget h) y hy
  obtain ⟨⟨z, hz, ez⟩, _⟩ := (RI.rounds (ns := ns) (ps := ps) (ns.length + 1)).o y r er
  have ez : fget (told ns ps) z = some (true, r) := ez
  have hz2 : heldB ns ps z = true := isW_iff.mpr ⟨r, ez⟩
  have tz : trn ns ps z = r := by unfold trn; rw [ez] <;> rfl
  have mz := cand_of hz hz2
  have ne : candQ ns ps y ≠ [] := fun e => by rw [e] at mz; cases mz
  obtain ⟨w, hw, ew⟩ := List.mem_map.mp (ansQ_mem ne)
  obtain ⟨hw1, hw2⟩ := List.mem_filter.mp hw
  have es : ansS ns ps y = w := by unfold ansS; rw [← ew] <;> rfl
  have le := ansQ_le _ mz
  rw [← ew] at le
  refine ⟨ne, by rw [es]; exact hw1, by rw [es]; exact hw2, ?_, by rw [es]; exact ew.symm⟩
  rw [es]
  have : ¬ ((trn ns ps z : Int) < (trn ns ps w : Int)) := fun c => by
    unfold ltNS at le
    rw [decide_eq_true c] at le
    cases le
  omega
/-- one that is answered by held ones is held -/
theorem held_of (hns : ns.Nodup) (hs : ∀ x, ∀ y ∈ spk ps x, y ∈ ns) (hx : x ∈ ns) (h : ∀ y ∈ spk ps x, ∃ z ∈ spk ps y, heldB ns ps z = true) : heldB ns ps x = true := by
  have R := RI.rounds (ns := ns) (ps := ps) (ns.length + 1)
  have outs : ∀ y ∈ spk ps x, ∃ r, fget (told ns ps) y = some (false, r) := fun y hy => by
    obtain ⟨z, hz, hh⟩ := h y hy
    obtain ⟨r, er⟩ := isW_iff.mp hh
    cases e : fget (told ns ps) y with
    | none => exact (R.c y (hs x y hy) e z hz r er).elim
    | some q =>
      obtain ⟨b, n⟩ := q
      cases b with
      | false => exact ⟨n, rfl⟩
      | true =>
        obtain ⟨r2, e2⟩ := R.h y n e z hz
        have e2 : fget (told ns ps) z = some (false, r2) := e2
        rw [er] at e2
        cases e2
  cases e : fget (told ns ps) x with
  | none =>
    obtain ⟨y, hy, ey⟩ := told_open hns hx e
    obtain ⟨r, er⟩ := outs y hy
    rw [er] at ey
    cases ey
  | some q =>
    obtain ⟨b, n⟩ := q
    cases b with
    | true => exact isW_iff.mpr ⟨n, e⟩
    | false =>
      obtain ⟨⟨y, hy, ey⟩, _⟩ := R.o x n e
      obtain ⟨r, er⟩ := outs y hy
      have ey : fget (told ns ps) y = some (true, n) := ey
      rw [er] at ey
      cases ey
/-! ### what fair lets by -/
def fairAt (ns : List Str) (ps : List Pr) (ah : List Str) (r : Row) : Bool := decide (r.1 ∈ ns) && (decide (r.2.map (·.1) = spk ps r.1) && r.2.all fun p => decide (p.2 ∈ spk ps p.1) && decide (p.2 ∈ ah))
def fairB (ns : List Str) (ps : List Pr) : List Str → List Row → Bool
  | _, [] => true
  | ah, r :: rs => fairAt ns ps ah r && fairB ns ps (ah ++ [r.1]) rs
theorem fair_app {rs ss : List Row} : ∀ {ah : List Str}, fairB ns ps ah (rs ++ ss) = (fairB ns ps ah rs && fairB ns ps (ah ++ rs.map (·.1)) ss) := by
  induction rs with
  | nil => intro ah; simp [fairB]
  | cons r rs ih =>
    intro ah
    rw [List.cons_append, fairB, fairB, ih, List.map_cons, List.append_assoc, Bool.and_assoc] <;> rfl
theorem fair_held (hns : ns.Nodup) (hs : ∀ x, ∀ y ∈ spk ps x, y ∈ ns) : ∀ {rs : List Row} {ah : List Str}, fairB ns ps ah rs = true → (∀ a ∈ ah, heldB ns ps a = true) → ∀ r ∈ rs, heldB ns ps r.1 = true
  | [], _, _, _ => fun r hr => by cases hr
  | r :: rs, ah, h, ha => by
    rw [fairB, Bool.and_eq_true] at h
    obtain ⟨h1, h2⟩ := h
    unfold fairAt at h1
    rw [Bool.and_eq_true, Bool.and_eq_true, decide_eq_true_eq, decide_eq_true_eq, List.all_eq_true] at h1
    obtain ⟨hx, he, hall⟩ := h1
    have hr : heldB ns ps r.1 = true := held_of hns hs hx fun y hy => by
      rw [← he] at hy
      obtain ⟨p, hp, rfl⟩ := List.mem_map.mp hy
      have := hall p hp
      rw [Bool.and_eq_true, decide_eq_true_eq, decide_eq_true_eq] at this
      exact ⟨p.2, this.1, ha _ this.2⟩
    have ih := fair_held hns hs h2 fun a h => by
      rw [List.mem_append] at h
      rcases h with h | h
      · exact ha a h
      · rw [List.mem_singleton.mp h]; exact hr
    intro q hq
    rcases List.mem_cons.mp hq with rfl | hq
    · exact hr
    · exact ih q hq
theorem fair_split : ∀ {rs : List Row} {ah : List Str}, (∀ l1 r l2, rs = l1 ++ r :: l2 → fairAt ns ps (ah ++ l1.map (·.1)) r = true) → fairB ns ps ah rs = true
  | [], _, _ => rfl
  | r :: rs, ah, h => by
    rw [fairB, Bool.and_eq_true]
    refine ⟨by have := h [] r rs rfl; rwa [List.map_nil, List.append_nil] at this, fair_split fun l1 q l2 e => ?_⟩
    have := h (r :: l1) q l2 (by rw [e] <;> rfl)
    rwa [List.append_assoc]
/-! ### the paper -/
inductive Rch (ns : List Str) (ps : List Pr) (x : Str) : Str → Prop
  | here : Rch ns ps x x
  | on {f y : Str} : Rch ns ps x f → y ∈ spk ps f → Rch ns ps x (ansS ns ps y)
def wrk (ns : List Str) (ps : List Pr) : Nat → List Str → List Str → List Str
  | 0, fs, _ => fs
  | n + 1, fs, as => match as.getLast? with
    | none => fs
    | some x => if x ∈ fs then wrk ns ps n fs as.dropLast else wrk ns ps n (fs ++ [x]) (as.dropLast ++ (ansL ns ps x).map (·.2))
theorem wrk_nil {n : Nat} {fs : List Str} : wrk ns ps n fs [] = fs := by cases n <;> rfl
theorem wrk_in {n : Nat} {fs as : List Str} (h : z ∈ fs) : wrk ns ps (n + 1) fs (as ++ [z]) = wrk ns ps n fs as := by
  rw [wrk, List.getLast?_concat]
  simp [h]
theorem wrk_new {n : Nat} {fs as : List Str} (h : z ∉ fs) : wrk ns ps (n + 1) fs (as ++ [z]) = wrk ns ps n (fs ++ [z]) (as ++ (ansL ns ps z).map (·.2)) := by
  rw [wrk, List.getLast?_concat]
  simp [h]
structure WJ (ns : List Str) (ps : List Pr) (x : Str) (fs as : List Str) : Prop where
  nd : fs.Nodup
  ok : ∀ z, z ∈ fs ∨ z ∈ as → z ∈ ns ∧ heldB ns ps z = true ∧ (z = x ∨ trn ns ps z < trn ns ps x) ∧ Rch ns ps x z
  cl : ∀ f ∈ fs, ∀ y ∈ spk ps f, ansS ns ps y ∈ fs ∨ ansS ns ps y ∈ as
  st : x ∈ fs ∨ x ∈ as
def muW (ns fs as : List Str) : Nat := 9 * (ns.length - fs.length) + as.length
theorem WJ.len {fs as : List Str} (j : WJ ns ps x fs as) : fs.length ≤ ns.length := nodup_sub_len j.nd fun z hz => (j.ok z (.inl hz)).1
theorem WJ.pop {fs as : List Str} (j : WJ ns ps x fs (as ++ [z])) (h : z ∈ fs) : WJ ns ps x fs as ∧ muW ns fs as + 1 ≤ muW ns fs (as ++ [z]) := by
  refine ⟨⟨j.nd, fun w hw => j.ok w (hw.imp id fun h => List.mem_append_left _ h), fun f hf y hy => ?_, ?_⟩, ?_⟩
  · rcases j.cl f hf y hy with c | c
    · exact .inl c
    · rw [List.mem_append, List.mem_singleton] at c
      rcases c with c | c
      · exact .inr c
      · rw [c]; exact .inl h
  · rcases j.st with c | c
    · exact .inl c
    · rw [List.mem_append, List.mem_singleton] at c
      rcases c with c | c
      · exact .inr c
      · rw [c]; exact .inl h
  · unfold muW
    rw [List.length_append, List.length_singleton]
    omega
theorem WJ.put {fs as : List Str} (hs : ∀ x, ∀ y ∈ spk ps x, y ∈ ns) (h8 : ∀ x, (spk ps x).length ≤ 8) (j : WJ ns ps x fs (as ++ [z])) (h : z ∉ fs) : WJ ns ps x (fs ++ [z]) (as ++ (ansL ns ps z).map (·.2)) ∧ muW ns (fs ++ [z]) (as ++ (ansL ns ps z).map (·.2)) + 1 ≤ muW ns fs (as ++ [z]) := by
  have oz := j.ok z (.inr (by simp))
  have el : (ansL ns ps z).map (·.2) = (spk ps z).map (ansS ns ps) := by
    unfold ansL
    rw [List.map_map] <;> rfl
  rw [el]
  have nd' : (fs ++ [z]).Nodup := List.nodup_append.mpr ⟨j.nd, by simp, fun a ha b hb e => by rw [List.mem_singleton] at hb; subst hb; subst e; exact h ha⟩
  have jj : WJ ns ps x (fs ++ [z]) (as ++ (spk ps z).map (ansS ns ps)) := by
    refine ⟨nd', fun w hw => ?_, fun f hf y hy => ?_, ?_⟩
    · rw [List.mem_append, List.mem_append, List.mem_singleton, List.mem_map] at hw
      rcases hw with (hw | hw) | (hw | ⟨y, hy, hw⟩)
      · exact j.ok w (.inl hw)
      · rw [hw]; exact oz
      · exact j.ok w (.inr (List.mem_append_left _ hw))
      · obtain ⟨_, h1, h2, h3, _⟩ := ans_ok oz.2.1 hy
        rw [← hw]
        refine ⟨hs y _ h1, h2, .inr ?_, .on oz.2.2.2 hy⟩
        rcases oz.2.2.1 with e | e
        · rw [← e]; exact h3
        · omega
    · rw [List.mem_append, List.mem_singleton] at hf
      rcases hf with hf | rfl
      · rcases j.cl f hf y hy with c | c
        · exact .inl (List.mem_append_left _ c)
        · rw [List.mem_append] at c
          rcases c with c | c
          · exact .inr (List.mem_append_left _ c)
          · exact .inl (List.mem_append_right _ c)
      · exact .inr (List.mem_append_right _ (List.mem_map.mpr ⟨y, hy, rfl⟩))
    · rcases j.st with c | c
      · exact .inl (List.mem_append_left _ c)
      · rw [List.mem_append] at c
        rcases c with c | c
        · exact .inr (List.mem_append_left _ c)
        · exact .inl (List.mem_append_right _ c)
  refine ⟨jj, ?_⟩
  have hl := jj.len
  have := h8 z
  unfold muW
  rw [List.length_append, List.length_singleton] at hl ⊢
  rw [List.length_append, List.length_append, List.length_singleton, List.length_map]
  omega
theorem wrk_spec (hs : ∀ x, ∀ y ∈ spk ps x, y ∈ ns) (h8 : ∀ x, (spk ps x).length ≤ 8) : ∀ {n : Nat} {fs as : List Str}, WJ ns ps x fs as → muW ns fs as ≤ n → WJ ns ps x (wrk ns ps n fs as) []
  | n, fs, as, j, h => by
    rcases List.eq_nil_or_concat as with rfl | ⟨l, z, rfl⟩
    · rw [wrk_nil]; exact j
    · rw [List.concat_eq_append] at j h ⊢
      cases n with
      | zero => unfold muW at h; rw [List.length_append, List.length_singleton] at h; omega
      | succ n =>
        by_cases c : z ∈ fs
        · rw [wrk_in c]
          obtain ⟨j2, h2⟩ := j.pop c
          exact wrk_spec hs h8 j2 (by omega)
        · rw [wrk_new c]
          obtain ⟨j2, h2⟩ := j.put hs h8 c
          exact wrk_spec hs h8 j2 (by omega)
def needL (ns : List Str) (ps : List Pr) (x : Str) : List Str := wrk ns ps 73 [] [x]
theorem wj_start (hx : x ∈ ns) (h : heldB ns ps x = true) : WJ ns ps x [] [x] where
  nd := List.nodup_nil
  ok := fun z hz => by
    rcases hz with hz | hz
    · cases hz
    · rw [List.mem_singleton.mp hz]; exact ⟨hx, h, .inl rfl, .here⟩
  cl := fun f hf => by cases hf
  st := .inr (List.mem_singleton.mpr rfl)
theorem need_spec (hs : ∀ x, ∀ y ∈ spk ps x, y ∈ ns) (h8 : ∀ x, (spk ps x).length ≤ 8) (l8 : ns.length ≤ 8) (hx : x ∈ ns) (h : heldB ns ps x = true) : WJ ns ps x (needL ns ps x) [] := wrk_spec hs h8 (wj_start hx h) (by unfold muW; simp; omega)
theorem leNS_tr (a b c : Int × Str) (h : (!ltNS b a) = true) (k : (!ltNS c b) = true) : (!ltNS c a) = true := by
  rw [Bool.not_eq_true'] at h k ⊢
  cases e : ltNS c a with
  | false => rfl
  | true =>
    by_cases q : a = b
    · rw [← q, e] at k; cases k
    · rcases ltNS_tot q with t | t
      · rw [ltNS_tr _ _ _ e t] at k; cases k
      · rw [t] at h; cases h
theorem leNS_tot (a b : Int × Str) : ((!ltNS b a) || (!ltNS a b)) = true := by
  cases e : ltNS b a with
  | false => rfl
  | true =>
    cases e2 : ltNS a b with
    | false => rfl
    | true => have := ltNS_tr _ _ _ e e2; rw [ltNS_irr] at this; cases this
def sortQ (l : List (Int × Str)) : List (Int × Str) := l.mergeSort fun a b => !ltNS b a
theorem sortQ_perm (l : List (Int × Str)) : (sortQ l).Perm l := List.mergeSort_perm ..
theorem sortQ_rise {l : List (Int × Str)} (nd : l.Nodup) : (sortQ l).Pairwise fun a b => ltNS a b = true := by
  have pw : (sortQ l).Pairwise fun a b => (!ltNS b a) = true := List.pairwise_mergeSort leNS_tr leNS_tot l
  have nd' : (sortQ l).Nodup := (sortQ_perm l).nodup_iff.mpr nd
  refine (pw.and nd').imp fun {a b} ⟨h, n⟩ => ?_
  rw [Bool.not_eq_true'] at h
  rcases ltNS_tot n with k | k
  · exact k
  · rw [k] at h; cases h
def numQ (ns : List Str) (ps : List Pr) (z : Str) : Int × Str := (((trn ns ps z : Nat) : Int), z)
theorem numQ_nd {l : List Str} (h : l.Nodup) : (l.map (numQ ns ps)).Nodup := List.pairwise_map.mpr (List.Pairwise.imp (fun ne e => ne (congrArg Prod.snd e)) h)
def orderQ (ns : List Str) (ps : List Pr) (x : Str) : List (Int × Str) := sortQ ((needL ns ps x).map (numQ ns ps))
def paperL (ns : List Str) (ps : List Pr) (x : Str) : List Row := (orderQ ns ps x).map fun q => (q.2, ansL ns ps q.2)
theorem order_mem {q : Int × Str} : q ∈ orderQ ns ps x ↔ ∃ z ∈ needL ns ps x, numQ ns ps z = q := by
  unfold orderQ
  rw [(sortQ_perm _).mem_iff, List.mem_map]
theorem order_rise (hs : ∀ x, ∀ y ∈ spk ps x, y ∈ ns) (h8 : ∀ x, (spk ps x).length ≤ 8) (l8 : ns.length ≤ 8) (hx : x ∈ ns) (h : heldB ns ps x = true) : (orderQ ns ps x).Pairwise fun a b => ltNS a b = true := sortQ_rise (numQ_nd (need_spec hs h8 l8 hx h).nd)
theorem lt_num {a b : Str} (h : trn ns ps a < trn ns ps b) : ltNS (numQ ns ps a) (numQ ns ps b) = true := by
  unfold ltNS numQ
  rw [decide_eq_true (Int.ofNat_lt.mpr h)] <;> rfl
/-- each held one has a paper that fair lets by, and its last row is its own -/
theorem paper_fair (hs : ∀ x, ∀ y ∈ spk ps x, y ∈ ns) (h8 : ∀ x, (spk ps x).length ≤ 8) (l8 : ns.length ≤ 8) (hx : x ∈ ns) (h : heldB ns ps x = true) : fairB ns ps [] (paperL ns ps x) = true := by
  have J := need_spec hs h8 l8 hx h
  have R := order_rise hs h8 l8 hx h
  refine fair_split fun l1 r l2 e => ?_
  unfold paperL at e
  obtain ⟨q1, q2', e0, e1, e2⟩ := List.map_eq_append_iff.mp e
  obtain ⟨q, q2, e3, e4, e5⟩ := List.map_eq_cons_iff.mp e2
  subst e1
  subst e3
  have hq : q ∈ orderQ ns ps x := by rw [e0]; simp
  obtain ⟨z, hz, ez⟩ := order_mem.mp hq
  have oz := J.ok z (.inl hz)
  have eq2 : q.2 = z := by rw [← ez] <;> rfl
  rw [← e4]
  unfold fairAt
  rw [Bool.and_eq_true, Bool.and_eq_true, decide_eq_true_eq, decide_eq_true_eq, List.all_eq_true]
  refine ⟨by rw [eq2]; exact oz.1, ?_, fun p hp => ?_⟩
  · show (ansL ns ps q.2).map (·.1) = spk ps q.2
    unfold ansL
    rw [List.map_map]
    exact List.map_id' _
  · have hp : p ∈ ansL ns ps q.2 := hp
    rw [eq2] at hp
    obtain ⟨y, hy, rfl⟩ := List.mem_map.mp hp
    obtain ⟨_, a1, a2, a3, _⟩ := ans_ok oz.2.1 hy
    rw [Bool.and_eq_true, decide_eq_true_eq, decide_eq_true_eq]
    refine ⟨a1, ?_⟩
    have am : ansS ns ps y ∈ needL ns ps x := (J.cl z hz y hy).resolve_right fun c => by cases c
    have aq : numQ ns ps (ansS ns ps y) ∈ orderQ ns ps x := order_mem.mpr ⟨_, am, rfl⟩
    have lt : ltNS (numQ ns ps (ansS ns ps y)) q = true := by rw [← ez]; exact lt_num a3
    rw [e0] at aq R
    rw [List.nil_append, List.map_map]
    rw [List.mem_append, List.mem_cons] at aq
    rw [List.pairwise_append, List.pairwise_cons] at R
    rcases aq with c | c | c
    · exact List.mem_map.mpr ⟨_, c, rfl⟩
    · rw [c, ltNS_irr] at lt; cases lt
    · have := ltNS_tr _ _ _ lt (R.2.1.1 _ c)
      rw [ltNS_irr] at this
      cases this
theorem paper_last (hs : ∀ x, ∀ y ∈ spk ps x, y ∈ ns) (h8 : ∀ x, (spk ps x).length ≤ 8) (l8 : ns.length ≤ 8) (hx : x ∈ ns) (h : heldB ns ps x = true) : ∃ l, paperL ns ps x = l ++ [(x, ansL ns ps x)] := by
  have J := need_spec hs h8 l8 hx h
  have R := order_rise hs h8 l8 hx h
  have xm : numQ ns ps x ∈ orderQ ns ps x := order_mem.mpr ⟨x, J.st.resolve_right (fun c => by cases c), rfl⟩
  have ne : orderQ ns ps x ≠ [] := fun e => by rw [e] at xm; cases xm
  have el := List.dropLast_concat_getLast ne
  have hm := order_mem.mp (List.getLast_mem ne)
  obtain ⟨z, hz, ez⟩ := hm
  have zx : z = x := by
    rcases (J.ok z (.inl hz)).2.2.1 with c | c
    · exact c
    · have lt : ltNS (numQ ns ps z) (numQ ns ps x) = true := lt_num c
      rw [← el] at xm R
      rw [List.mem_append, List.mem_singleton] at xm
      rw [List.pairwise_append] at R
      rcases xm with k | k
      · have := R.2.2 _ k _ (List.mem_singleton.mpr rfl)
        rw [← ez] at this
        have := ltNS_tr _ _ _ lt this
        rw [ltNS_irr] at this
        cases this
      · rw [← ez] at k
        exact (congrArg Prod.snd k).symm
  refine ⟨(orderQ ns ps x).dropLast.map fun q => (q.2, ansL ns ps q.2), ?_⟩
  unfold paperL
  conv => lhs; rw [← el]
  rw [List.map_append, ← ez, zx] <;> rfl
theorem need_len (hs : ∀ x, ∀ y ∈ spk ps x, y ∈ ns) (h8 : ∀ x, (spk ps x).length ≤ 8) (l8 : ns.length ≤ 8) (hx : x ∈ ns) (h : heldB ns ps x = true) : (needL ns ps x).length ≤ 8 := Nat.le_trans (need_spec hs h8 l8 hx h).len l8
theorem order_len : (orderQ ns ps x).length = (needL ns ps x).length := by
  unfold orderQ
  rw [(sortQ_perm _).length_eq, List.length_map]
end
end Bw
namespace Bw
open PySem L2 PySem.Spec
section
variable {K : PySem.W.Frag} {δ : List Sl} {te : TE} {d : Da}
/-- isinstance(e, (N1, N2)), built-in classes -/
theorem evs_isiT {T N1 N2 : String} {b1 b2 : Bool} (h : EvS K te δ d) (e : tyName d = some T) (k1 : kitB T N1 = some b1) (k2 : kitB T N2 = some b2) : EvS K (tCB (rIsiT K) (tCons te (tCons (tTup (tCons (tC (.ty N1)) (tCons (tC (.ty N2)) tNil))) tNil))) δ (.bl (b1 || b2)) := fun σ Hk D H s Q q =>
  h σ Hk D H s _ fun v H1 H1' x1 r1 => ⟨Nat.le_of_lt (small1000 (by decide : 2 ≤ 1000)), fun p hp => by
    refine ⟨v, p, _, .type T, [.type N1, .type N2], b1 || b2, rfl, upd_same, .cons (.ty N1) (.cons (.ty N2) .nil), tyx_of (r1.up ((x1.st).trans (same_upd hp))) e, ?_, q _ _ _ (x1.new (o := .tup [.ty N1, .ty N2]) hp) (.bl _)⟩
    unfold PySem.W.kitAny
    rw [kit_ty k1]
    cases b1 with
    | true => rfl
    | false =>
      show PySem.W.kitAny K (.type T) [.type N2] = _
      unfold PySem.W.kitAny
      rw [kit_ty k2]
      cases b2 <;> rfl⟩
end
end Bw
namespace Bw
open PySem L2 PySem.Spec
/-- the truth of what e makes -/
def truB (K : PySem.W.Frag) (te : TE) : TT := fun σ H Q => te σ H fun v H1 => ∃ b, TruV K v H1 b ∧ Q b H1
section
variable {C : Ct} {δ : List Sl} {ds : List Da} {i : Nat} {σ : L2.St} {Hk H : Hp}
theorem at_tru (a : At C δ σ Hk H) (e : δ[i]? = some (.own ds)) {Q : Bool → Hp → Prop} (q : Q (!ds.isEmpty) H) : truB C.K (tVar i) σ H Q := by
  obtain ⟨l, xs, e1, e2, e3, e4, rs⟩ := a.own i _ e
  have e4 : H l = some (.lst xs) := e4
  have hl := rs.rs.len
  have em : xs.isEmpty = ds.isEmpty := by
    cases xs <;> cases ds <;> first | rfl | simp at hl
  refine ⟨_, e1, !xs.isEmpty, .inl ⟨xs, SqL.of e4, rfl⟩, ?_⟩
  rw [em]
  exact q
end
section
variable {K : PySem.W.Frag} {δ : List Sl} {ds : List Da}
/-- a comprehension with a test that makes a dict -/
theorem evs_dcF {wi : TI} {g : TG} {tt : TT} {tk tv : TE} {vs : List Nat} {α : Type} {xs : List α} {enc : α → Da} (hi : ItD K wi δ (xs.map enc)) (p : α → Bool) (f : α → Str) (f2 : α → Da) (nd : (xs.map f).Nodup) (hl : xs.length ≤ 1000)
    (hb : ∀ x ∈ xs, ∃ δ', TgD K g (enc x) (wipeS δ vs) δ' vs ∧ EvST K tt δ' (p x) ∧ (p x = true → EvS K tk δ' (.str (f x)) ∧ EvS K tv δ' (f2 x))) :
    EvSB K (tDc wi g tt tk tv vs) δ ((xs.filter p).map f) ((xs.filter p).map f2) := fun σ Hk a H s Q q => by
  refine hi σ Hk a H s _ fun J Hs H1 x ok => ?_
  intro A hA
  have hsA : Hs A = none := x.st.free hA
  have h0A : H A = none := x.up.free hA
  refine ⟨fun i m H2 => i ≤ xs.length ∧ m = xs.length - i ∧ ∃ Hk2 acc, Ext Hk H Hk2 H2 ∧ Same Hs Hk2 ∧ Hk2 A = none ∧ H2 A = some (.dK (kvz (((xs.take i).filter p).map f) acc)) ∧ DRs K Hk2 acc (((xs.take i).filter p).map f2), ⟨_, Nat.zero_le _, rfl, Hs, [], ⟨x.up.trans (same_upd hA), x.kn, x.st.trans (same_upd hA), x.nw⟩, Same.refl _, hsA, upd_same, by simp; exact .nil⟩, ?_⟩
  rintro i m H2 ⟨hi, rfl, Hk2, acc, x2, s2, hk2, hacc, r⟩
  by_cases e : i < xs.length
  · have ed : (xs.map enc)[i]? = some (enc xs[i]) := by rw [List.getElem?_map, List.getElem?_eq_getElem e] <;> rfl
    have et : xs.take (i + 1) = xs.take i ++ [xs[i]] := (List.take_append_getElem e).symm
    refine .inr ⟨ok.go i H2 _ (s2.trans x2.st) ed, fun H3 => ∃ Hk3 acc3, Ext Hk H Hk3 H3 ∧ Same Hs Hk3 ∧ Hk3 A = none ∧ H3 A = some (.dK (kvz (((xs.take (i + 1)).filter p).map f) acc3)) ∧ DRs K Hk3 acc3 (((xs.take (i + 1)).filter p).map f2), fun H3 ⟨Hk3, acc3, z⟩ => ⟨_, by omega, e, rfl, Hk3, acc3, z⟩, fun v H3 y => ?_⟩
    obtain ⟨Hk3, x3, r3⟩ := ok.yld i H2 v H3 _ Hk2 s2 x2.st ed y
    obtain ⟨δ', tg, ht, hkv⟩ := hb xs[i] (List.getElem_mem e)
    have hk3 : Hk3 A = none := by
      cases z : Hk3 A with
      | none => rfl
      | some o =>
        have := x3.nw A o z hk2
        rw [hacc] at this
        cases this
    have a3 : Dats K (wipeS δ vs) (wipe σ vs) Hk3 := dats_wipe (a.up ((x2.kn).trans x3.kn))
    refine tg v (wipe σ vs) Hk3 H3 a3 r3 x3.st _ fun σ4 a4 hlen hw => ?_
    refine ⟨wipe_eq (by rw [hlen, wipe_length]) fun k hk => (hw k hk).trans (wipe_at hk), ?_⟩
    refine ht σ4 Hk3 a4 H3 x3.st _ fun H3b u3 => ?_
    have n1 : (((xs.take i).filter p).map f2).length ≤ i := by
      rw [List.length_map]
      exact Nat.le_trans (List.length_filter_le ..) (by rw [List.length_take]; omega)
    have n2 : (((xs.take i).filter p).map f).length ≤ i := by
      rw [List.length_map]
      exact Nat.le_trans (List.length_filter_le ..) (by rw [List.length_take]; omega)
    cases ep : p xs[i] with
    | true =>
      refine iteT ?_
      obtain ⟨hk, hv⟩ := hkv ep
      refine hk σ4 Hk3 a4 H3b (x3.st.trans u3) _ fun y4 Hk4 H4 x4 r4 => hv σ4 Hk4 (a4.up x4.kn) H4 x4.st _ fun y5 Hk5 H5 x5 r5 => ?_
      cases r4
      have xx : Ext Hk2 H2 Hk5 H5 := ((x3.trans (Ext.of_up x3.st u3)).trans x4).trans x5
      have g5 : H5 A = _ := xx.up _ _ hacc
      have hk5 : Hk5 A = none := by
        cases z : Hk5 A with
        | none => rfl
        | some o =>
          have := xx.nw A o z hk2
          rw [hacc] at this
          cases this
      have hle : (((xs.take i).filter p).map f).length = acc.length := by rw [r.len, List.length_map, List.length_map]
      have nw : f xs[i] ∉ ((xs.take i).filter p).map f := fun z => by
        obtain ⟨w, hw1, hw2⟩ := List.mem_map.mp z
        have z : f xs[i] ∈ (xs.take i).map f := List.mem_map.mpr ⟨w, (List.mem_filter.mp hw1).1, hw2⟩
        have h2 : (xs.map f).take (i + 1) = (xs.take i).map f ++ [f xs[i]] := by rw [← List.map_take, et, List.map_append] <;> rfl
        have h3 := (List.take_sublist (i + 1) (xs.map f)).nodup nd
        rw [h2, List.nodup_append] at h3
        exact h3.2.2 _ z _ (List.mem_singleton.mpr rfl) rfl
      have hn := (dget_o (f xs[i]) hle r).none_of (dget_none nw)
      have e1 : [xs[i]].filter p = [xs[i]] := by simp [ep]
      refine ⟨_, .inr (f xs[i]), rfl, g5, ?_, Hk5, acc ++ [y5], ?_, (s2.trans xx.kn), hk5, ?_, ?_⟩
      · rw [kvz_len hle]
        exact small1000 (by omega)
      · have x6 := x2.trans xx
        exact ⟨same_updK x6.up h0A, x6.kn, same_updK x6.st hk5, x6.nw⟩
      · rw [upd_same, putK_new y5 hn, et, List.filter_append, e1, List.map_append, ← kvz_snoc hle] <;> rfl
      · rw [et, List.filter_append, e1, List.map_append]
        exact (r.up xx.kn).snoc r5
    | false =>
      refine iteF ?_
      have e1 : [xs[i]].filter p = [] := by simp [ep]
      refine ⟨Hk3, acc, (x2.trans x3).trans (Ext.of_up x3.st u3), s2.trans x3.kn, hk3, ?_, ?_⟩
      · rw [et, List.filter_append, e1, List.append_nil]
        exact u3 _ _ (x3.up _ _ hacc)
      · rw [et, List.filter_append, e1, List.append_nil]
        exact r.up x3.kn
  · have e' : i = xs.length := by omega
    subst e'
    rw [List.take_length] at r hacc
    have es := ok.stop H2 (s2.trans x2.st)
    rw [List.length_map] at es
    exact .inl ⟨es, q A acc Hk2 H2 x2 h0A hk2 hacc (by rw [r.len, List.length_map, List.length_map]) r⟩
end
def dRow (r : Row) : Da := .tup [.str r.1, .tup (r.2.map dP)]
/-- a paper as the cells put it together -/
def lawS0 (ps : List Pr) (found : List Row) (y : Str) : List Str := (found.map (·.1)).filter fun a => decide ((a, y) ∈ ps)
def lawS1 (ps : List Pr) (found : List Row) (mix : Int) (y : Str) : List Str := if (decide (lawS0 ps found y = []) || decide (mix / 9 % 3 = 0)) = true then spk ps y else lawS0 ps found y
def lawS2 (ns : List Str) (ps : List Pr) (found : List Row) (mix : Int) (y : Str) : List Str := if (decide (lawS1 ps found mix y = []) || decide (mix / 27 % 16 = 0)) = true then ns else lawS1 ps found mix y
def lawAns (ns : List Str) (ps : List Pr) (found : List Row) (mix : Int) (y : Str) : Str := nth (lawS2 ns ps found mix y) (mix / 200 % ((lawS2 ns ps found mix y).length : Nat))
def lawRow (ns : List Str) (ps : List Pr) (found : List Row) (c : Int) : Row := (nth ns (mixed c 5 / 3 % (ns.length : Nat)), (spk ps (nth ns (mixed c 5 / 3 % (ns.length : Nat)))).map fun y => (y, lawAns ns ps found (mixed c 5 / 3) y))
def rowsOf (ns : List Str) (ps : List Pr) (cs : List Int) : List Row := cs.foldl (fun f c => f ++ [lawRow ns ps f c]) []
theorem rowsOf_snoc {ns : List Str} {ps : List Pr} {cs : List Int} {c : Int} : rowsOf ns ps (cs ++ [c]) = rowsOf ns ps cs ++ [lawRow ns ps (rowsOf ns ps cs) c] := by
  unfold rowsOf
  rw [List.foldl_append] <;> rfl
theorem rowsOf_lenF {ns : List Str} {ps : List Pr} : ∀ (cs : List Int) (f : List Row), (cs.foldl (fun f c => f ++ [lawRow ns ps f c]) f).length = f.length + cs.length
  | [], f => rfl
  | c :: cs, f => by
    rw [List.foldl_cons, rowsOf_lenF cs, List.length_append]
    simp only [List.length_cons, List.length_nil]
    omega
theorem rowsOf_len {ns : List Str} {ps : List Pr} (cs : List Int) : (rowsOf ns ps cs).length = cs.length := by
  unfold rowsOf
  rw [rowsOf_lenF]
  simp
end Bw
set_option Elab.async false
set_option linter.all false
set_option maxRecDepth 100000
set_option maxHeartbeats 3200000
/-! sets of texts: set(a list of texts), sorted of it -/
namespace BwSet
open PySem PySem.Spec PyProof.Rows L2
abbrev SK (P : Program) (w : World) := PySem.strKind P w
/-- the text that an entry holds, at its own hash -/
def txt (P : Program) (w : World) (e : Int × Value) : Option Str := match e.2 with
  | .str z _ => if e.1 = (SK P w).hash z then some z else none
  | _ => none
section
variable {P : Program} {w : World} {e : Int × Value} {z : Str}
theorem txt_of (h : txt P w e = some z) : ∃ tk, e = ((SK P w).hash z, .str z tk) := by
  obtain ⟨n, v⟩ := e
  unfold txt at h
  cases v with
  | str y tk =>
    dsimp only at h
    by_cases q : n = (SK P w).hash y
    · rw [if_pos q] at h
      cases h
      exact ⟨tk, by rw [q]⟩
    · rw [if_neg q] at h
      cases h
  | _ => cases h
theorem txt_str {tk : Tok} : txt P w ((SK P w).hash z, .str z tk) = some z := if_pos rfl
theorem sk_is {y : Str} {tk : Tok} : (SK P w).is y (.str z tk) = true ↔ z = y := by
  simp [PySem.strKind, Value.isStrOf]
/-- the entries are just these texts -/
def Hold (P : Program) (w : World) (l : List (Int × Value)) (L : List Str) : Prop := (l.map (txt P w)).Perm (L.map some)
variable {l : List (Int × Value)} {L : List Str}
theorem Hold.one (h : Hold P w l L) (he : e ∈ l) : ∃ y ∈ L, ∃ tk, e = ((SK P w).hash y, .str y tk) := by
  obtain ⟨y, hy, q⟩ := List.mem_map.mp (h.mem_iff.mp (List.mem_map.mpr ⟨e, he, rfl⟩))
  obtain ⟨tk, q⟩ := txt_of q.symm
  exact ⟨y, hy, tk, q⟩
theorem Hold.back (h : Hold P w l L) (hz : z ∈ L) : ∃ e ∈ l, txt P w e = some z := List.mem_map.mp (h.mem_iff.mpr (List.mem_map.mpr ⟨z, hz, rfl⟩))
theorem Hold.elems (h : Hold P w l L) : ElemsOf (SK P w) l := fun e he => by
  obtain ⟨y, _, tk, rfl⟩ := h.one he
  exact ⟨⟨y, sk_is.mpr rfl, rfl⟩, rfl⟩
theorem Hold.len (h : Hold P w l L) : l.length = L.length := by
  have := h.length_eq
  rwa [List.length_map, List.length_map] at this
/-- the set at a: just these texts, each once; its table rises and can be walked -/
def TxS (P : Program) (w : World) (h : Heap) (a : Addr) (L : List Str) : Prop := ∃ o es ep t, (h.get? a = some o ∧ o.ExactSet ∧ o.data = .set es ep t) ∧ (Hold P w es.toList L ∧ L.Nodup) ∧ es.size < scanBound ∧ t.fits es.size = true ∧ Ris t.place.toList ∧ (w.params.followText "set-order" = true ∨ t.led = true)
theorem TxS.keep {h h' : Heap} {a : Addr} (T : TxS P w h a L) (k : ∀ o, h.get? a = some o → h'.get? a = some o) : TxS P w h' a L := by
  obtain ⟨o, es, ep, t, ⟨ho, r1⟩, r⟩ := T
  exact ⟨o, es, ep, t, ⟨k o ho, r1⟩, r⟩
end
section
variable {P : Program} {w : World} {A : Around} {E : Value → Shared → Prop} {s : Shared} {a : Addr} {L : List Str} {z : Str} {tk : Tok}
/-- what is left of an add, the table laid anew or not -/
theorem ts_tail {g : Bool → Sem Unit} (hg : ∀ (b : Bool) (s1 : Shared) (Z : Unit → Shared → Prop), Z () s1 → wpAny (model P w) A (g b) Z E s1) {o : Obj} {es es1 : Array (Int × Value)} {ep : Nat} {t t2 : SetTable} (ho : s.heap.get? a = some o ∧ o.ExactSet ∧ o.data = .set es ep t)
    (hL : Hold P w es1.toList L ∧ L.Nodup) (hb : es1.size < scanBound) (hf : t2.fits es1.size = true) (hr : Ris t2.place.toList) (hl : w.params.followText "set-order" = true ∨ t2.led = true) {d : Bool} {R : Option Bool → Shared → Prop}
    (hR : ∀ h', Heap.SameBut a s.heap h' → TxS P w h' a L → R (some true) { s with heap := h' }) :
    wpAny (model P w) A (do storeSet a es1 t2; if (!d && t2.tooFull) = true then do { g (relayAll t2 es1 (SetTable.grown es1.size)).2.2; storeSet a (relayAll t2 es1 (SetTable.grown es1.size)).1 (relayAll t2 es1 (SetTable.grown es1.size)).2.1; pure (some true) } else pure (some true)) R E s := by
  obtain ⟨ho, hx, hd⟩ := ho
  have sb := Heap.SameBut.update s.heap a (Obj.putSet es1 t2)
  have h1 := store_at (es' := es1) (t' := t2) ho hd
  refine wpAny_bind (wpAny_storeSet_of ho hd ?_ (fits_of_scanBound hb))
  by_cases c : (!d && t2.tooFull) = true
  · rw [if_pos c]
    have q1 := relayAll_perm t2 es1 (SetTable.grown es1.size)
    have q2 := relayAll_fits t2 es1 (SetTable.grown es1.size)
    have q3 := relayAll_ris t2 es1 (SetTable.grown es1.size)
    have q4 := relayAll_led t2 es1 (SetTable.grown es1.size)
    generalize hZ : relayAll t2 es1 (SetTable.grown es1.size) = Z at q1 q2 q3 q4
    obtain ⟨es2, t3, gv⟩ := Z
    dsimp only at q1 q2 q3 q4
    have sz : es2.size = es1.size := by have := q1.length_eq; rwa [Array.length_toList, Array.length_toList] at this
    refine wpAny_bind (hg _ _ _ (wpAny_bind (wpAny_storeSet_of h1 rfl ?_ (fits_of_scanBound (by rw [sz]; exact hb)))))
    exact wpAny_pure (hR _ (sb.trans (Heap.SameBut.update _ a _)) ⟨_, es2, _, t3, ⟨store_at (es' := es2) (t' := t3) h1 rfl, hx, rfl⟩, ⟨(q1.map (txt P w)).trans hL.1, hL.2⟩, by rw [sz]; exact hb, q2, q3, hl.imp id fun y => q4.trans y⟩)
  · rw [if_neg c]
    exact wpAny_pure (hR _ sb ⟨_, es1, _, t2, ⟨h1, hx, rfl⟩, hL, hb, hf, hr, hl⟩)
def putL (L : List Str) (z : Str) : List Str := if z ∈ L then L else z :: L
theorem ts_add {Q : Bool → Shared → Prop} (T : TxS P w s.heap a L) (room : L.length + 1 < scanBound) (hQ : ∀ b h', Heap.SameBut a s.heap h' → TxS P w h' a (putL L z) → Q b { s with heap := h' }) :
    wpAny (model P w) A (setAddHashed a (.str z tk) ((SK P w).hash z)) Q E s := by
  obtain ⟨o, es, ep, t, ho, hL, hb, hf, hr, hl⟩ := T
  have el := hL.1.elems
  have hz : (SK P w).is z (.str z tk) = true := sk_is.mpr rfl
  have hv : (Value.str z tk).scannable = true := rfl
  unfold setAddHashed setAddHashedIn
  refine wpAny_holding (wpAny_bind (wpAny_setState_of ho.1 ho.2.2 hf ?_))
  dsimp only
  rw [byScan_of hv hb el, if_pos rfl]
  unfold setAddByScan
  refine wpAny_bind (wpAny_bind (wpAny_rule (wpAny_bind (wpAny_setScan_of hz ho.1 ho.2.2 hf el ?_))))
  cases hfi : es.toList.findIdx? fun e => (SK P w).is z e.2 with
  | some j =>
    obtain ⟨hj, pj, _⟩ := List.findIdx?_eq_some_iff_getElem.mp hfi
    obtain ⟨y, hy, k, e1⟩ := hL.1.one (List.getElem_mem hj)
    rw [e1] at pj
    have := sk_is.mp pj
    subst this
    have e2 : putL L y = L := if_pos hy
    exact wpAny_pure (wpAny_pure (hQ _ s.heap (Heap.SameBut.refl a s.heap) (by rw [e2]; exact ⟨o, es, ep, t, ho, hL, hb, hf, hr, hl⟩)))
  | none =>
    have no : z ∉ L := fun m => by
      obtain ⟨e, he, q⟩ := hL.1.back m
      obtain ⟨k, rfl⟩ := txt_of q
      have := List.findIdx?_eq_none_iff.mp hfi _ he
      rw [sk_is.mpr rfl] at this
      cases this
    dsimp only
    have p1 := layNew_perm t es ((SK P w).hash z) (.str z tk)
    have p2 := layNew_fits t es ((SK P w).hash z) (.str z tk)
    have p3 := layNew_ris t es ((SK P w).hash z) (.str z tk) hr
    have p4 := layNew_led t es ((SK P w).hash z) (.str z tk)
    generalize layNew t es ((SK P w).hash z) (.str z tk) = Y at p1 p2 p3 p4 ⊢
    obtain ⟨es1, t1, dm, gv⟩ := Y
    dsimp only at p1 p2 p3 p4 ⊢
    rw [Array.toList_push] at p1
    have hH : Hold P w es1.toList (z :: L) := by
      refine (p1.map (txt P w)).trans ?_
      rw [List.map_append, List.map_cons, List.map_cons, txt_str]
      exact (List.perm_append_singleton _ _).trans (hL.1.cons _)
    have nd : (z :: L).Nodup := List.nodup_cons.mpr ⟨no, hL.2⟩
    have sz : es1.size < scanBound := by
      have := hH.len
      rw [Array.length_toList, List.length_cons] at this
      omega
    have led : w.params.followText "set-order" = true ∨ t1.led = true := hl.imp id fun y => p4.trans y
    have e2 : putL L z = z :: L := if_neg no
    have gw : ∀ (b : Bool) {s1 : Shared} {Z : Unit → Shared → Prop}, Z () s1 → wpAny (model P w) A (match b with | true => rule "set.scan.the-table-gave-way" | false => pure ()) Z E s1 := by
      intro b s1 Z q
      cases b
      · exact wpAny_pure q
      · exact wpAny_rule q
    refine wpAny_bind (gw _ ?_)
    have fin : ∀ h', Heap.SameBut a s.heap h' → TxS P w h' a (z :: L) → wpAny (model P w) A (pure true) Q E { s with heap := h' } := fun h' sb r => wpAny_pure (hQ _ h' sb (by rw [e2]; exact r))
    split
    · refine wpAny_bind ?_
      rw [hashByValue_scannable 8 hv]
      refine wpAny_pure (ts_tail (fun b s1 Z q => gw b q) ho ⟨hH, nd⟩ sz ?_ ?_ ?_ fun h' sb r => fin h' sb r)
      · first | exact p2 | (split <;> first | exact p2 | exact SetTable.fits_plain_off p2)
      · first | exact p3 | (split <;> exact p3)
      · first | exact led | (split <;> exact led)
    · refine wpAny_bind (wpAny_pure ?_)
      rw [if_pos rfl]
      exact ts_tail (fun b s1 Z q => gw b q) ho ⟨hH, nd⟩ sz p2 p3 led fun h' sb r => fin h' sb r
end
end BwSet
namespace BwSet
open PySem PySem.Spec PyProof.Rows L2
/-- the texts put one behind the other, each once -/
def allL (xs : List Str) : List Str := xs.foldl putL []
theorem putL_mem {L : List Str} {z y : Str} : y ∈ putL L z ↔ y ∈ L ∨ y = z := by
  unfold putL
  by_cases h : z ∈ L
  · rw [if_pos h]
    exact ⟨.inl, fun k => k.elim id fun e => e ▸ h⟩
  · rw [if_neg h, List.mem_cons]
    exact Or.comm
theorem fold_mem {y : Str} : ∀ (xs L : List Str), y ∈ xs.foldl putL L ↔ y ∈ L ∨ y ∈ xs
  | [], L => by simp
  | x :: xs, L => by
    rw [List.foldl_cons, fold_mem xs, putL_mem, List.mem_cons]
    exact or_assoc
theorem allL_mem {y : Str} {xs : List Str} : y ∈ allL xs ↔ y ∈ xs := by
  unfold allL
  rw [fold_mem]
  simp
theorem putL_len {L : List Str} {z : Str} : (putL L z).length ≤ L.length + 1 := by
  unfold putL
  split
  · omega
  · exact Nat.le_of_eq (List.length_cons ..)
theorem fold_len : ∀ (xs L : List Str), (xs.foldl putL L).length ≤ L.length + xs.length
  | [], L => Nat.le_refl _
  | x :: xs, L => by
    have h1 := fold_len xs (putL L x)
    have h2 := putL_len (L := L) (z := x)
    rw [List.foldl_cons, List.length_cons]
    omega
theorem allL_len {xs : List Str} : (allL xs).length ≤ xs.length := by
  have := fold_len xs []
  rw [List.length_nil, Nat.zero_add] at this
  exact this
theorem allL_snoc {xs : List Str} {x : Str} : allL (xs ++ [x]) = putL (allL xs) x := by
  unfold allL
  rw [List.foldl_append] <;> rfl
section
variable {P : Program} {w : World} {A : Around} {E : Value → Shared → Prop} {s : Shared} {a : Addr}
abbrev newS (w : World) : Obj := { cls := .type "set", dict := none, data := .set #[] 0 (.fresh 0 0 (!w.params.followText "set-order")) }
theorem ts_none {h : Heap} (ho : h.get? a = some (newS w)) : TxS P w h a [] := by
  refine ⟨_, #[], 0, _, ⟨ho, ⟨rfl, rfl, rfl⟩, rfl⟩, ⟨.nil, List.nodup_nil⟩, by decide, rfl, .nil, ?_⟩
  show _ ∨ (!w.params.followText "set-order") = true
  cases w.params.followText "set-order"
  · exact .inr rfl
  · exact .inl rfl
/-- the going through that fills a set -/
theorem ts_fill {I : Addr} {fp wr : List Addr} {G : Array GenState → Array GenState → Prop} {n : Nat} {Pv : Nat → Value → Prop} {St : Nat → Shared → Prop} {R : Result → Shared → Prop} (W : WalksS P w A.in1 I fp wr G n Pv St) (hI : a ∉ fp) (xs : List Str) (hn : n = xs.length) (hb : xs.length + 1 < scanBound)
    (val : ∀ i v, Pv i v → ∃ z t, xs[i]? = some z ∧ v = .str z t) : ∀ (m i : Nat) (s : Shared), n - i = m → i ≤ n → St i s → TxS P w s.heap a (allL (xs.take i)) → (∀ s', Moved (a :: wr) G s s' → TxS P w s'.heap a (allL xs) → R (.ok (.ret .none)) s') →
      codeAny (model P w) A (.builtin "set.update.loop" ⟨[.ref a, .ref I], []⟩) R s := by
  have nw : a ∉ wr := fun h => hI (W.sub _ h)
  have more : ∀ b ∈ wr, b ∈ a :: wr := fun b hb => List.mem_cons_of_mem _ hb
  intro m
  induction m with
  | zero =>
    intro i s e hi st T q
    obtain rfl : i = n := by omega
    rw [List.take_of_length_le (by omega)] at T
    refine codeAny_builtin F.entry_set_update_loop ?_
    rw [Around.under_plainId F.plain_set_update_loop _]
    exact wpAny_bind (W.done s _ _ st fun s' hm => wpAny_pure (q s' (hm.mono more) (T.keep fun o e => hm.heap a o nw e)))
  | succ m ih =>
    intro i s e hi st T q
    have hlt : i < n := by omega
    refine codeAny_builtin F.entry_set_update_loop ?_
    rw [Around.under_plainId F.plain_set_update_loop _]
    refine wpAny_bind (W.item i s _ _ hlt st fun v s' hP st' hm => ?_)
    obtain ⟨z, t, hz, rfl⟩ := val i v hP
    have T' : TxS P w s'.heap a (allL (xs.take i)) := T.keep fun o e => hm.heap a o nw e
    have lt := allL_len (xs := xs.take i)
    rw [List.length_take] at lt
    show wpAny _ A.in1 (holding [Value.str z t] (setAdd a (.str z t)) >>= _) _ _ s'
    refine wpAny_bind (wpAny_holding ?_)
    unfold setAdd
    refine wpAny_holding (wpAny_bind ((SK P w).pyHash (k := z) (sk_is.mpr rfl) ?_))
    refine ts_add (s := { s' with toks := s'.toks + 1 }) T' (by omega) fun b h' sb T2 => ?_
    rw [← allL_snoc, show xs.take i ++ [z] = xs.take (i + 1) by rw [List.take_add_one, hz] <;> rfl] at T2
    have st2 := W.frame _ s' h' _ st' (Nat.le_succ _) fun b hb o e => by
      rw [sb.2 b fun y => hI (y ▸ hb)]
      exact e
    refine wpAny_pure ⟨plainId_quiet F.plain_set_update_loop _, ih (i + 1) _ (by omega) hlt st2 T2 fun s2 hm2 T3 => q s2 (Moved.trans W.gtrans ((hm.mono more).then_heap (Nat.le_succ _) fun b o hb e => ?_) hm2) T3⟩
    rw [sb.2 b fun y => hb (y ▸ List.mem_cons_self)]
    exact e
end
end BwSet
namespace BwSet
open PySem PySem.Spec PyProof.Rows L2
section
variable {P : Program} {w : World} {A : Around} {E : Value → Shared → Prop} {s : Shared} {a : Addr}
/-- set(l), l a list of texts -/
theorem call_set_texts {l : Addr} {items : Array Value} {xs : List Str} {Q : Value → Shared → Prop} (hh : A.handled = none) (hl : s.heap.IsList l items) (hi : StrsAre items.toList xs) (hb : xs.length + 1 < scanBound)
    (q : ∀ h' tk, TxS P w h' s.heap.objs.size (allL xs) → (∀ b o, s.heap.get? b = some o → h'.get? b = some o) → Q (.ref s.heap.objs.size) { s with heap := h', toks := tk }) : wpAny (model P w) A (call (.type "set") [.ref l]) Q E s := by
  have zz : xs.length = items.size := by rw [← StrsAre.len_eq hi, Array.length_toList]
  obtain ⟨c0, c1, c2⟩ := F.called_set.mro
  have c3 := F.called_set.made
  have c4 := F.called_set.sub
  refine wpAny_call (codeAny_of_tree ?_)
  show wpAny _ _ (callAny (.type "set") _) _ _ _
  refine wpAny_pure ⟨Code.quiet_builtin _ (by decide +kernel), codeAny_builtin F.entry_type_call ?_⟩
  rw [Around.under_plain (weight_type_call_type "set" [.ref l] []) rfl]
  have c5 := F.called_set.notType
  have c6 := F.called_set.canCreate
  have c7 := F.typeCall_set_1 (.ref l)
  repeat (any_goals (first | assumption | wp_step))
  refine codeAny_mono (code_set_led1 (.ref l) (E := E) (Q₁ := fun v s1 => v = .ref s.heap.objs.size ∧ s1 = { s with heap := s.heap.push (newS w) }) ⟨rfl, rfl⟩) fun r s1 made => ?_
  cases r with
  | error e => exact made
  | ok fl =>
    cases fl with
    | ret v =>
      obtain ⟨rfl, rfl⟩ := made
      have g0 : (s.heap.push (newS w)).get? s.heap.objs.size = some (newS w) := Heap.get?_push_size _ rfl
      have t0 : Shared.TypeIs { s with heap := s.heap.push (newS w) } (.ref s.heap.objs.size) "set" := ⟨_, g0, rfl⟩
      have c8 := F.called_set.init.lookup
      have c9 := F.called_set.init.bind (.ref s.heap.objs.size)
      repeat (any_goals (first | assumption | wp_step))
      refine codeAny_mono (codeAny_call_builtin (R := wants (fun r s2 => r = .none ∧ ∃ h' tk, s2 = { s with heap := h', toks := tk } ∧ TxS P w h' s.heap.objs.size (allL xs) ∧ ∀ b o, s.heap.get? b = some o → h'.get? b = some o) E) F.called_set.init.plain F.entry_set_init (check_set_init_1 t0 ?_)) fun r2 s2 got => ?_
      · obtain ⟨ol, hol, hcl, nl, hdl⟩ := hl
        obtain ⟨k1, k2, k3, k4⟩ := ol
        simp only at hcl hdl
        subst hcl; subst hdl
        have hp : (s.heap.push (newS w)).get? l = some { cls := .type "list", dict := k2, data := .seq items nl, slots := k4 } := Heap.get?_push_of_some _ hol
        have d1 := F.sub_list_set
        have d2 := F.sub_list_frozenset
        have d3 : (Value.type "list" == Value.type "dict") = false := by decide
        have il : (s.heap.push (newS w)).IsList l items := ⟨_, hp, rfl, nl, rfl⟩
        unfold Builtin.«set.__init__» noKeywords Builtin.Frozenset.updateFrom
        generalize hPI : pyIter = PI
        wp_walk
        subst hPI
        refine wpAny_pyIter_list il (wpAny_bind (wpAny_runValue ?_))
        have lt := Heap.lt_size hol
        have h3 : A.in1.in1.in1.handled = none := by simp [hh]
        have sz : (s.heap.push (newS w)).objs.size = s.heap.objs.size + 1 := Heap.size_push ..
        refine ts_fill ((Walks.list h3 _ l (by rw [sz]; exact Nat.ne_of_lt (Nat.lt_succ_of_lt lt)) items).toS) (a := s.heap.objs.size) ?_ xs zz.symm hb ?_ items.size 0 _ rfl (Nat.zero_le _) ⟨⟨_, Heap.get?_push_size _ rfl, rfl, rfl⟩, il.push _⟩ (ts_none (Heap.get?_push_of_some _ g0)) ?_
        · rw [sz]
          simp only [List.mem_cons, List.not_mem_nil, or_false, not_or]
          exact ⟨Nat.ne_of_lt (Nat.lt_succ_self _), Nat.ne_of_gt lt⟩
        · intro i v hv
          have hi2 : i < xs.length := by rw [zz]; exact (Array.getElem?_eq_some_iff.mp hv).1
          obtain ⟨t, e⟩ := SS.strs_at hi i v (by rw [Array.getElem?_toList]; exact hv)
          refine ⟨xs[i], t, List.getElem?_eq_getElem hi2, ?_⟩
          rw [e, List.getD_eq_getElem?_getD, List.getElem?_eq_getElem hi2] <;> rfl
        · intro s' hm T
          obtain ⟨h', g', d', tk', os'⟩ := s'
          cases (show g' = s.gens from hm.gens)
          cases (show d' = s.drawn from hm.drawn)
          cases (show os' = s.os from hm.os)
          refine wpAny_pure (wpAny_pure ⟨rfl, h', tk', rfl, T, fun b o e => ?_⟩)
          have lb := Heap.lt_size e
          refine hm.heap b o ?_ (Heap.get?_push_of_some _ (Heap.get?_push_of_some _ e))
          rw [sz]
          simp only [List.mem_cons, List.not_mem_nil, or_false, not_or]
          exact ⟨Nat.ne_of_lt lb, Nat.ne_of_lt (Nat.lt_succ_of_lt lb)⟩
      · cases r2 with
        | error e => exact got
        | ok f2 =>
          cases f2 with
          | ret r =>
            obtain ⟨rfl, h', tk, rfl, T, k⟩ := got
            repeat (any_goals (first | assumption | wp_step))
            exact q _ _ T k
          | _ => exact got.elim
    | _ => exact made.elim
/-- sorted of a set of texts -/
theorem sorted_ts {L : List Str} {Q : Value → Shared → Prop} (T : TxS P w s.heap a L) (hh : A.handled = none) (h64 : L.length < 64)
    (q : ∀ s' p (out : Array Value) (c : Nat) (ns : List Str), (∀ b o, s.heap.get? b = some o → s'.heap.get? b = some o) → s'.gens = s.gens → s'.os = s.os → s.heap.objs.size ≤ p → s'.heap.get? p = some (seqObj "list" out c) → StrsAre out.toList ns → ns.Perm L → sortedS ns = true → Q (.ref p) s') :
    wpAny (model P w) A (call (.builtin "sorted") [.ref a]) Q E s := by
  obtain ⟨o, es, ep, t, ho, hL, hb, hf, hr, hl⟩ := T
  refine Calls.call_function_entry kind_sorted plain_sorted entry_sorted (args_sorted1 _) ?_
  unfold Builtin.«sorted»
  refine wpAny_bind (m := checkCount "sorted" 1 1 _) (wpAny_pure (wpAny_bind (collect_set (A := A.in1) hh ⟨o, ho.1, ho.2.1.1, ho.2.2⟩ hf hb hr hl fun s1 vs k1 z1 g1 o1 pm => ?_)))
  have hlen : vs.length = L.length := by
    rw [pm.length_eq, List.length_map]
    exact hL.1.len
  obtain ⟨M, hM, pML⟩ : ∃ M : List Str, StrsAre vs M ∧ M.Perm L := by
    have key : ∀ (us : List Value), (∀ v ∈ us, ∃ y tk, v = Value.str y tk) → StrsAre us (us.map fun v => match v with | .str y _ => y | _ => Str.empty) := by
      intro us
      induction us with
      | nil => exact fun _ => .nil
      | cons u us ih =>
        intro h
        obtain ⟨y, tk, rfl⟩ := h u List.mem_cons_self
        exact .cons y tk (ih fun v hv => h v (List.mem_cons_of_mem _ hv))
    refine ⟨_, key vs fun v hv => ?_, ?_⟩
    · obtain ⟨e, he, rfl⟩ := List.mem_map.mp (pm.mem_iff.mp hv)
      obtain ⟨y, _, tk, rfl⟩ := hL.1.one he
      exact ⟨y, tk, rfl⟩
    · have p1 := pm.map fun v : Value => match v with | .str y _ => y | _ => Str.empty
      refine p1.trans ?_
      have p2 : ((es.toList.map (txt P w)).map fun o => o.getD Str.empty).Perm ((L.map some).map fun o => o.getD Str.empty) := hL.1.map _
      rw [List.map_map, List.map_map] at p2
      rw [List.map_map]
      have e1 : (L.map ((fun o : Option Str => o.getD Str.empty) ∘ some)) = L := List.map_id' _
      rw [e1] at p2
      refine List.Perm.trans (List.Perm.of_eq (List.map_congr_left fun e he => ?_)) p2
      obtain ⟨y, _, tk, rfl⟩ := hL.1.one he
      show y = ((txt P w ((SK P w).hash y, .str y tk)).getD Str.empty)
      rw [txt_str] <;> rfl
  have hz : vs.length ≤ sizeLine := by rw [sizeLine_eq]; omega
  refine wpAny_bind (wpAny_newList ?_ hz)
  have g2 : (s1.heap.push (seqObj "list" vs.toArray 0)).get? s1.heap.objs.size = some (seqObj "list" vs.toArray 0) := Heap.get?_push_size _ rfl
  refine wpAny_bind (wpAny_holding (wpAny_call_entry slot_list_sort ⟨_, g2, rfl⟩ entry_list_sort (list_sort_treeK strKind_oneLt g2 hM.keysOf (fun v1 v2 rest e => keyKind_strs (by rw [← e]; exact hM)) (by omega) fun st' hp hs => ?_) (args_list_sort _)))
  refine ⟨_, rfl, wpAny_pure ⟨_, rfl, ?_⟩⟩
  obtain ⟨ys, y1, y2, y3⟩ := sorted_out_str hM hp hs
  obtain ⟨c, hc⟩ := sortedHeap_at (vs := vs) (out := (arrOf st').map (·.2)) g2
  refine q _ s1.heap.objs.size _ c ys (fun b u e => ?_) g1 o1 z1 hc y1 (y2.trans pML) y3
  have e1 := k1 b u e
  have lt := Heap.lt_size e1
  show (sortedHeap (s1.heap.push (seqObj "list" vs.toArray 0)) s1.heap.objs.size vs ((arrOf st').map (·.2))).get? b = some u
  rw [sortedHeap_old (Nat.ne_of_lt lt) (by rw [size_push']; exact Nat.lt_succ_of_lt lt)]
  exact Heap.get?_push_of_some _ e1
end
end BwSet
namespace L2
open PySem PySem.Spec PyProof.Rows BwSet
/-- a set of texts -/
def SetT (P : Program) (w : World) (a : Addr) (L : List Str) : HO := .ext fun h => TxS P w h a L
section
variable {X : Cx}
theorem setT_new {P : Program} {w : World} {H : Hp} {h : Heap} {a : Addr} {L : List Str} (T : TxS P w h a L) : ObjOk P w H h a (SetT P w a L) := by
  have ⟨o, _, _, _, ⟨ho, _⟩, _⟩ := T
  exact ⟨T, ⟨o, ho⟩, fun h1 h2 p k => TxS.keep p k⟩
/-- set(xs) -/
def rSetT (K : PySem.W.Frag) (P : Program) (w : World) : List V → Hp → VK → Prop := fun vs H Q => ∃ (a : Addr) (xs : List Str), vs = [V.ref a] ∧ SqL K H a (xs.map V.str) ∧ xs.length < 64 ∧ ∀ p, H p = none → Q (.ref p) (upd H p (SetT P w p (allL xs)))
theorem cr_setT (hc : X.calm = true) : CallR X (.type "set") (rSetT X.K X.prog X.w) := by
  intro pins s σ H vs us Q I r h
  obtain ⟨a, xs, rfl, hs, h64, q⟩ := h
  obtain ⟨its, rv, hl, hlen⟩ := I.list hs
  rw [Vals.ref1 r]
  refine call_set_texts (I.ok.hd hc) hl.isList (items := its.toArray) rv.strs (by unfold scanBound; omega) fun h' tk T k => ?_
  exact ⟨.ref _, _, I.laid (t' := tk) k (Nat.le_refl _) (setT_new T), rfl, q _ (I.hok.fresh (Nat.le_refl _))⟩
/-- sorted(s), s a set of texts -/
def rSortSet (P : Program) (w : World) : List V → Hp → VK → Prop := fun vs H Q => ∃ (a : Addr) (L : List Str), vs = [V.ref a] ∧ H a = some (SetT P w a L) ∧ L.length < 64 ∧ ∀ (ys : List Str) (p : Addr), ys.Perm L → sortedS ys = true → H p = none → Q (.ref p) (upd H p (.lst (ys.map V.str)))
theorem cr_sortSet (hc : X.calm = true) : CallR X (.builtin "sorted") (rSortSet X.prog X.w) := by
  intro pins s σ H vs us Q I r h
  obtain ⟨a, L, rfl, ha, h64, q⟩ := h
  rw [Vals.ref1 r]
  have T : TxS X.prog X.w s.heap a L := (I.hok a _ ha).1
  refine sorted_ts T (I.ok.hd hc) h64 fun s' p out c ys k g o hp hg hi pm ho => ?_
  have hn : H p = none := I.hok.fresh hp
  have sz : (ys.map V.str).length ≤ sizeLine := by rw [List.length_map, pm.length_eq]; exact small64 h64
  have J : Inv X pins σ (upd H p (.lst (ys.map V.str))) { s with heap := s'.heap, gens := s'.gens, drawn := s'.drawn, toks := s'.toks } :=
    I.call (ch := []) (Un.laid k hp hn) (I.hok.laid k hp ⟨sz, out.toList, c, vals_of_strs hi, hg⟩) (by rw [g]; exact I.bare) (fun _ z => nomatch z)
  have e : s' = { s with heap := s'.heap, gens := s'.gens, drawn := s'.drawn, toks := s'.toks } := by
    cases s'; cases s; cases o; rfl
  rw [e]
  exact ⟨.ref p, _, J, rfl, q ys p pm ho hn⟩
end
end L2
namespace Bw
open PySem L2 PySem.Spec BwSet
section
variable {K : PySem.W.Frag} {P : Program} {w : World} {δ : List Sl} {te : TE}
/-- sorted(set(e)), e a list of texts -/
theorem evs_sortSet {xs L : List Str} (h : EvS K te δ (.lst (xs.map Da.str))) (h64 : xs.length < 64) (nd : L.Nodup) (mem : ∀ y, y ∈ L ↔ y ∈ xs) : EvSN K (tCB (rSortSet P w) (tCons (tCB (rSetT K P w) (tCons te tNil)) tNil)) δ ((sortS L).map Da.str) := fun σ Hk D H s Q q =>
  h σ Hk D H s _ fun v H1 H1' x1 r1 => by
    cases r1 with
    | lst e r =>
      have ex := DRs.of_strs r
      subst ex
      refine ⟨_, xs, rfl, SqL.of (x1.st _ _ e), h64, fun p hp => ?_⟩
      have len := allL_len (xs := xs)
      have x2 := x1.new (o := SetT P w p (allL xs)) hp
      refine ⟨p, allL xs, rfl, upd_same, by omega, fun ys r pm so hr => ?_⟩
      have ndA : (allL xs).Nodup := by
        have : ∀ (zs A : List Str), A.Nodup → (zs.foldl putL A).Nodup := by
          intro zs
          induction zs with
          | nil => exact fun A h => h
          | cons z zs ih =>
            intro A h
            refine ih _ ?_
            unfold putL
            by_cases c : z ∈ A
            · rw [if_pos c]; exact h
            · rw [if_neg c]; exact List.nodup_cons.mpr ⟨c, h⟩
        exact this xs [] List.nodup_nil
      have pL : ys.Perm L := pm.trans ((List.perm_ext_iff_of_nodup ndA nd).mpr fun y => by rw [allL_mem, mem])
      rw [sortS_only ys pL so]
      refine q r _ _ _ ⟨x2.up.trans (same_upd hr), x2.kn, x2.st.trans (same_upd hr), x2.nw⟩ (x2.up.free hr) (x2.st.free hr) upd_same DRs.strs
end
end Bw
set_option Elab.async false
set_option linter.all false
set_option maxRecDepth 100000
set_option maxHeartbeats 2000000
/-! defs that hand back a new list or raise, a new list or data; the paper found by going on in rounds -/
namespace Bw
open PySem L2 PySem.Spec BwSet
def SpXN (K : PySem.W.Frag) (R : List Da → List Da → Prop) (RX : List Da → Addr → Prop) : Sp := fun vs H Q E => ∃ Hc as, Same Hc H ∧ DRs K Hc vs as ∧
  ((∃ es, R as es ∧ ∀ l xs Hs H', Ext Hc H Hs H' → H l = none → Hs l = none → H' l = some (.lst xs) → DRs K Hs xs es → Q (.ref l) H') ∨ (∃ C, RX as C ∧ ∀ H', Same H H' → E (.ref C) none H'))
/-- a new list, or data -/
def SpU (K : PySem.W.Frag) (RN : List Da → List Da → Prop) (R : List Da → Da → Prop) : Sp := fun vs H Q E => SpN K RN vs H Q E ∨ SpD K R vs H Q E
section
variable {K : PySem.W.Frag} {δ : List Sl} {t ta : TA} {as es ds : List Da} {d : Da} {R RN : List Da → List Da → Prop} {RX : List Da → Addr → Prop} {RD : List Da → Da → Prop} {E : XK}
theorem spxn_len {n : Nat} (h : ∀ as es, R as es → as.length = n) (h2 : ∀ ds C, RX ds C → ds.length = n) : ∀ vs H Q E, SpXN K R RX vs H Q E → vs.length = n := fun vs H Q E ⟨Hc, as, s, r, hr⟩ => by
  rw [r.len]
  rcases hr with ⟨es, hr, _⟩ | ⟨C, hr, _⟩
  · exact h as es hr
  · exact h2 as C hr
theorem evs_callXN (ha : EvSA K t δ as) (hr : R as es) : EvSN K (tCall (SpXN K R RX) [] E t) δ es := fun σ Hk D H s Q q =>
  ha σ Hk D H s _ fun vs H1 H1' x1 r1 => by
    show SpXN K R RX (vs ++ []) H1' Q E
    rw [List.append_nil]
    exact ⟨H1, as, x1.st, r1, .inl ⟨es, hr, fun l xs H2 H2' x2 h0 hs hl r => q l xs H2 H2' (x1.trans x2) (x1.up.free h0) hs hl r⟩⟩
theorem callXN_raises {C : Addr} {σ : L2.St} {Hk H : Hp} {Q : VK} (D : Dats K δ σ Hk) (s : Same Hk H) (ha : EvSA K ta δ ds) (hr : RX ds C) (hE : ∀ H', Same H H' → E (.ref C) none H') : tCall (SpXN K R RX) [] E ta σ H Q :=
  ha σ Hk D H s _ fun vs H1 H1' x1 r1 => by
    show SpXN K R RX (vs ++ []) H1' Q E
    rw [List.append_nil]
    exact ⟨H1, ds, x1.st, r1, .inr ⟨C, hr, fun H' u => hE H' (x1.up.trans u)⟩⟩
theorem spxn_body {N : List Str} {ts : XK → TS} (hn : ∀ as es, R as es → as.length ≤ N.length) (hn2 : ∀ ds d, RX ds d → ds.length ≤ N.length)
    (h : ∀ as es, R as es → ∀ (C : Ct) (Q : VK) (E : XK), C.K = K → PostN C es Q → Go C (ts E) { nx := fun _ H' => Q .non H', rt := Q } (as.map Sl.dat ++ List.replicate (N.length - as.length) .no))
    (h2 : ∀ ds B, RX ds B → ∀ (C : Ct) (Q : VK) (E : XK), C.K = K → (∀ H', Same C.H0 H' → E (.ref B) none H') → Go C (ts E) { nx := fun _ H' => Q .non H', rt := Q } (ds.map Sl.dat ++ List.replicate (N.length - ds.length) .no)) :
    ∀ vs H Q E, SpXN K R RX vs H Q E → ts E { nx := fun _ H' => Q .non H', rt := Q } (L2.start N vs) H := fun vs H Q E ⟨Hc, as, s, r, hr⟩ => by
  rcases hr with ⟨es, hr, q⟩ | ⟨B, hr, q⟩
  · exact h as es hr ⟨K, Hc, H, []⟩ Q E rfl q _ _ _ (start_at r (hn as es hr) H s Hc rfl)
  · exact h2 as B hr ⟨K, Hc, H, []⟩ Q E rfl q _ _ _ (start_at r (hn2 as B hr) H s Hc rfl)
theorem evs_callUN (ha : EvSA K t δ as) (hr : RN as es) : EvSN K (tCall (SpU K RN RD) [] E t) δ es := fun σ Hk D H s Q q =>
  ha σ Hk D H s _ fun vs H1 H1' x1 r1 => by
    show SpU K RN RD (vs ++ []) H1' Q E
    rw [List.append_nil]
    exact .inl ⟨H1, as, es, x1.st, r1, hr, fun l xs H2 H2' x2 h0 hs hl r => q l xs H2 H2' (x1.trans x2) (x1.up.free h0) hs hl r⟩
theorem evs_callUD (ha : EvSA K t δ as) (hr : RD as d) : EvS K (tCall (SpU K RN RD) [] E t) δ d := fun σ Hk D H s Q q =>
  ha σ Hk D H s _ fun vs H1 H1' x1 r1 => by
    show SpU K RN RD (vs ++ []) H1' Q E
    rw [List.append_nil]
    exact .inr ⟨H1, as, d, x1.st, r1, hr, fun v H2 H2' x2 r => q v H2 H2' (x1.trans x2) r⟩
theorem spu_len {n : Nat} (h : ∀ as es, RN as es → as.length = n) (h2 : ∀ ds d, RD ds d → ds.length = n) : ∀ vs H Q E, SpU K RN RD vs H Q E → vs.length = n := fun vs H Q E h0 => by
  rcases h0 with ⟨Hc, as, es, s, r, hr, _⟩ | ⟨Hc, as, d, s, r, hr, _⟩
  · rw [r.len]; exact h as es hr
  · rw [r.len]; exact h2 as d hr
theorem spu_body {N : List Str} {ts : TS} (hn : ∀ as es, RN as es → as.length ≤ N.length) (hn2 : ∀ as d, RD as d → as.length ≤ N.length)
    (h : ∀ as es, RN as es → ∀ (C : Ct) (Q : VK), C.K = K → PostN C es Q → Go C ts { nx := fun _ H' => Q .non H', rt := Q } (as.map Sl.dat ++ List.replicate (N.length - as.length) .no))
    (h2 : ∀ as d, RD as d → ∀ (C : Ct) (Q : VK), C.K = K → Post C d Q → Go C ts { nx := fun _ H' => Q .non H', rt := Q } (as.map Sl.dat ++ List.replicate (N.length - as.length) .no)) :
    ∀ vs H Q E, SpU K RN RD vs H Q E → ts { nx := fun _ H' => Q .non H', rt := Q } (L2.start N vs) H := fun vs H Q E h0 => by
  rcases h0 with ⟨Hc, as, es, s, r, hr, q⟩ | ⟨Hc, as, d, s, r, hr, q⟩
  · exact h as es hr ⟨K, Hc, H, []⟩ Q rfl q _ _ _ (start_at r (hn as es hr) H s Hc rfl)
  · exact h2 as d hr ⟨K, Hc, H, []⟩ Q rfl q _ _ _ (start_at r (hn2 as d hr) H s Hc rfl)
end
/-! ### the answers found in rounds -/
section
variable {ns : List Str} {ps : List Pr} {x : Str}
def laterL (ns : List Str) (ps : List Pr) (ws : List Str) : List Str := ws.flatMap fun z => (spk ps z).map (ansS ns ps)
def nextW (ns : List Str) (ps : List Pr) (fs ws : List Str) : List Str := (sortS (allL (laterL ns ps ws))).filter fun y => !decide (y ∈ fs)
def stg (ns : List Str) (ps : List Pr) (x : Str) : Nat → List Str × List Str
  | 0 => ([], [x])
  | i + 1 => ((stg ns ps x i).1 ++ (stg ns ps x i).2, nextW ns ps ((stg ns ps x i).1 ++ (stg ns ps x i).2) (stg ns ps x i).2)
theorem allL_nd (xs : List Str) : (allL xs).Nodup := by
  have : ∀ (zs A : List Str), A.Nodup → (zs.foldl putL A).Nodup := by
    intro zs
    induction zs with
    | nil => exact fun A h => h
    | cons z zs ih =>
      intro A h
      refine ih _ ?_
      unfold putL
      by_cases c : z ∈ A
      · rw [if_pos c]; exact h
      · rw [if_neg c]; exact List.nodup_cons.mpr ⟨c, h⟩
  exact this xs [] List.nodup_nil
theorem next_mem {fs ws : List Str} {y : Str} : y ∈ nextW ns ps fs ws ↔ y ∈ laterL ns ps ws ∧ y ∉ fs := by
  unfold nextW
  rw [List.mem_filter, (sortS_perm _).mem_iff, allL_mem]
  simp
theorem next_nd {fs ws : List Str} : (nextW ns ps fs ws).Nodup := ((sortS_perm _).nodup_iff.mpr (allL_nd _)).filter _
theorem later_mem {ws : List Str} {y : Str} : y ∈ laterL ns ps ws ↔ ∃ z ∈ ws, ∃ u ∈ spk ps z, ansS ns ps u = y := by
  unfold laterL
  simp only [List.mem_flatMap, List.mem_map]
structure SJ (ns : List Str) (ps : List Pr) (x : Str) (i : Nat) (fs ws : List Str) : Prop where
  nd : (fs ++ ws).Nodup
  ok : ∀ z ∈ fs ++ ws, z ∈ ns ∧ heldB ns ps z = true ∧ Rch ns ps x z
  cl : ∀ f ∈ fs, ∀ y ∈ spk ps f, ansS ns ps y ∈ fs ++ ws
  st : x ∈ fs ++ ws
  sz : i ≤ fs.length ∨ ws = []
theorem SJ.all (hs : ∀ x, ∀ y ∈ spk ps x, y ∈ ns) (hx : x ∈ ns) (h : heldB ns ps x = true) : ∀ i, SJ ns ps x i (stg ns ps x i).1 (stg ns ps x i).2
  | 0 => ⟨by simp [stg], fun z hz => by
      have hz : z ∈ [] ++ [x] := hz
      rw [List.nil_append, List.mem_singleton] at hz
      rw [hz]; exact ⟨hx, h, .here⟩, fun f hf => (by cases hf), by simp [stg], .inl (Nat.zero_le _)⟩
  | i + 1 => by
    have j := SJ.all hs hx h i
    show SJ ns ps x (i + 1) ((stg ns ps x i).1 ++ (stg ns ps x i).2) (nextW ns ps ((stg ns ps x i).1 ++ (stg ns ps x i).2) (stg ns ps x i).2)
    generalize (stg ns ps x i).1 = fs at *
    generalize (stg ns ps x i).2 = ws at *
    refine ⟨List.nodup_append.mpr ⟨j.nd, next_nd, fun a ha b hb e => ?_⟩, fun z hz => ?_, fun f hf y hy => ?_, List.mem_append_left _ j.st, ?_⟩
    · subst e
      exact (next_mem.mp hb).2 ha
    · rw [List.mem_append] at hz
      rcases hz with hz | hz
      · exact j.ok z hz
      · obtain ⟨f, hf, u, hu, rfl⟩ := later_mem.mp (next_mem.mp hz).1
        obtain ⟨_, h2, h3⟩ := j.ok f (List.mem_append_right _ hf)
        obtain ⟨_, a1, a2, _, _⟩ := ans_ok h2 hu
        exact ⟨hs u _ a1, a2, .on h3 hu⟩
    · rw [List.mem_append] at hf
      rcases hf with hf | hf
      · exact List.mem_append_left _ (j.cl f hf y hy)
      · by_cases c : ansS ns ps y ∈ fs ++ ws
        · exact List.mem_append_left _ c
        · exact List.mem_append_right _ (next_mem.mpr ⟨later_mem.mpr ⟨f, hf, y, hy, rfl⟩, c⟩)
    · by_cases c : ws = []
      · subst c
        right
        refine List.eq_nil_iff_forall_not_mem.mpr fun y hy => ?_
        obtain ⟨f, hf, _⟩ := later_mem.mp (next_mem.mp hy).1
        cases hf
      · left
        have := List.length_pos_iff.mpr c
        rw [List.length_append]
        rcases j.sz with k | k
        · omega
        · exact absurd k c
theorem SJ.len {i : Nat} {fs ws : List Str} (j : SJ ns ps x i fs ws) : fs.length + ws.length ≤ ns.length := by
  have := nodup_sub_len j.nd fun z hz => (j.ok z hz).1
  rwa [List.length_append] at this
/-- behind nine turns none waits, and those found are the needed ones -/
theorem stg_need (hs : ∀ x, ∀ y ∈ spk ps x, y ∈ ns) (h8 : ∀ x, (spk ps x).length ≤ 8) (l8 : ns.length ≤ 8) (hx : x ∈ ns) (h : heldB ns ps x = true) (z : Str) : z ∈ (stg ns ps x 9).1 ↔ z ∈ needL ns ps x := by
  have j := SJ.all hs hx h 9
  have e : (stg ns ps x 9).2 = [] := by
    rcases j.sz with k | k
    · have := j.len
      omega
    · exact k
  have J := need_spec hs h8 l8 hx h
  generalize (stg ns ps x 9).1 = fs at j ⊢
  rw [e] at j
  have cl1 : ∀ z, Rch ns ps x z → z ∈ fs := fun z r => by
    induction r with
    | here => have := j.st; rwa [List.append_nil] at this
    | on r hy ih => have := j.cl _ ih _ hy; rwa [List.append_nil] at this
  have cl2 : ∀ z, Rch ns ps x z → z ∈ needL ns ps x := fun z r => by
    induction r with
    | here => exact J.st.resolve_right (fun c => by cases c)
    | on r hy ih => exact (J.cl _ ih _ hy).resolve_right (fun c => by cases c)
  exact ⟨fun m => cl2 z (j.ok z (List.mem_append_left _ m)).2.2, fun m => cl1 z (J.ok z (.inl m)).2.2.2⟩
/-- the first of the candidates in order is the least -/
theorem sortQ_head {l : List (Int × Str)} {q : Int × Str} (nd : l.Nodup) (hm : q ∈ l) (hle : ∀ v ∈ l, ltNS v q = false) : ∃ r, sortQ l = q :: r := by
  have R := sortQ_rise nd
  have p := sortQ_perm l
  cases e : sortQ l with
  | nil => rw [e] at p; rw [← p.mem_iff] at hm; cases hm
  | cons a r =>
    rw [e] at R p
    rw [← p.mem_iff] at hm
    rcases List.mem_cons.mp hm with rfl | hm
    · exact ⟨r, rfl⟩
    · have h1 := (List.pairwise_cons.mp R).1 _ hm
      rw [hle a (p.mem_iff.mp (List.mem_cons_self ..))] at h1
      cases h1
theorem cand_nd (y : Str) (h : (spk ps y).Nodup) : (candQ ns ps y).Nodup := List.pairwise_map.mpr (List.Pairwise.imp (fun ne e => ne (congrArg Prod.snd e)) (h.filter _))
end
end Bw
namespace Bw
open PySem L2 PySem.Spec BwSet
section
variable {C : Ct} {δ : List Sl} {D : Ends} {t2 : TS} {te : TE} {ds : List Da} {d : Da} {i : Nat}
/-- xs.append(e), e flat, but by the slots' own things -/
theorem go_appendF (e : δ[i]? = some (.own ds)) (h : EvS C.K te (δ.map Sl.frz) d) (f : d.flat = true) (hl : ds.length < 1000) (q : Nx C D.nx (δ.set i (.own (ds ++ [d])))) : Go C (tDrop (tBM C.K "list" rAppend (tVar i) (tCons te tNil))) D δ := fun σ Hk H a => by
  obtain ⟨l, xs, e1, e2, e3, e4, rs⟩ := a.own i _ e
  have e4 : H l = some (.lst xs) := e4
  refine ⟨_, e1, .inl ⟨rfl, _, SqL.of e4⟩, ?_⟩
  refine h σ H a.frz H (Same.refl _) _ fun v Hs H' x r => ?_
  have a' := a.go (Ext.of_up a.same x.up)
  exact ⟨l, xs, v, rfl, rfl, x.up _ _ e4, small1000 (by rw [rs.rs.len]; exact Nat.le_of_lt hl), q _ _ _ (a'.push e e1 (x.up _ _ e4) (r.flat f))⟩
end
theorem pur_dRow {n : Nat} {r : Row} : pur (n + 3) (dRow r) := by
  intro d hd
  rcases List.mem_cons.mp hd with rfl | hd
  · exact pur_str
  · rcases List.mem_cons.mp hd with rfl | hd
    · exact pur_dPT
    · cases hd
theorem pur_dRows {n : Nat} {rs : List Row} : pur (n + 4) (.lst (rs.map dRow)) := by
  intro d hd
  obtain ⟨r, _, rfl⟩ := List.mem_map.mp hd
  exact pur_dRow
theorem eqD_rows {rs : List Row} : eqD (.lst (rs.map dRow)) (.lst (rs.map dRow)) = true := (eqD_iff 4 _ _ pur_dRows pur_dRows).mpr rfl
theorem ok_dRow {n : Nat} {r : Row} (h : okS r.1) (h2 : ∀ p ∈ r.2, okS p.1 ∧ okS p.2) : okD (n + 3) (dRow r) := by
  intro d hd
  rcases List.mem_cons.mp hd with rfl | hd
  · exact ok_str h
  · rcases List.mem_cons.mp hd with rfl | hd
    · exact ok_dPT h2
    · cases hd
theorem ok_dRows {n : Nat} {rs : List Row} (h : ∀ r ∈ rs, okS r.1 ∧ ∀ p ∈ r.2, okS p.1 ∧ okS p.2) : okD (n + 4) (.lst (rs.map dRow)) := by
  intro d hd
  obtain ⟨r, hr, rfl⟩ := List.mem_map.mp hd
  exact ok_dRow (h r hr).1 (h r hr).2
section
variable {ns : List Str} {ps : List Pr}
theorem later_len : ∀ {us : List Str}, (∀ z ∈ us, (spk ps z).length ≤ 7) → (laterL ns ps us).length ≤ 7 * us.length
  | [], _ => Nat.le_refl _
  | u :: us, h => by
    have ih := later_len (us := us) fun z hz => h z (List.mem_cons_of_mem _ hz)
    have h1 := h u (List.mem_cons_self ..)
    unfold laterL at ih ⊢
    rw [List.flatMap_cons, List.length_append, List.length_map, List.length_cons]
    omega
theorem held_no_self {z : Str} (h : heldB ns ps z = true) : z ∉ spk ps z := fun m => by
  obtain ⟨r, _, er⟩ := held_turn (held_fget h) z m
  have e := held_fget h
  have er : fget (told ns ps) z = some (false, r) := er
  rw [e] at er
  cases er
theorem spk_7 {z : Str} (hs : ∀ x, ∀ y ∈ spk ps x, y ∈ ns) (nd : (spk ps z).Nodup) (l8 : ns.length ≤ 8) (hz : z ∈ ns) (h : heldB ns ps z = true) : (spk ps z).length ≤ 7 := by
  have := nodup_sub_len (l := z :: spk ps z) (ns := ns) (List.nodup_cons.mpr ⟨held_no_self h, nd⟩) fun y hy => by
    rcases List.mem_cons.mp hy with rfl | hy
    · exact hz
    · exact hs z y hy
  rw [List.length_cons] at this
  omega
end
end Bw
set_option Elab.async false
set_option linter.all false
set_option maxRecDepth 100000
set_option maxHeartbeats 4000000
/-! try .. except E as e .. else -/
namespace L2
open PySem PySem.Spec PyProof.Rows
section
variable {X : Cx} {x n : Str} {c : Value} {i : Nat} {body suite orelse : List Stmt} {b0 : Stmt} {np pos pos' : Pos} {tb : WX → TS} {ts : Addr → Value → Option Addr → TS} {Wo : WX} {u : TS}
/-- as ps_try_as, and an else behind a body that ends well -/
theorem ps_try_asE (ho : PSs X orelse u) (hs : X.stack = X.env :: X.outer) (hf : X.env.frame = some X.env.locals) (hN : X.N.Nodup) (hi : X.N[i]? = some n) (hl : X.env.kindOf n = some .local) (hc : Names X x c) (tk : Takes X Wo)
    (hb : ∀ (W : WX) (pn : List (Addr × Obj)) (xe : Value → Shared → Prop), Takes (X.tr pn xe) W → PassesOwn (model X.prog X.w) X.A X.env xe → PSs (X.tr pn xe) body (tb W))
    (hsu : ∀ (a : Addr) (oe : Obj) (cls : Value) (d : Option Addr) (pn : List (Addr × Obj)), Zc cls d oe → (∃ vs, oe.data = .fields vs) → PSs (X.suite a ((a, oe) :: pn)) (b0 :: suite) (ts a cls d)) :
    PS X (.Try body [.ExceptHandler (some (.Name x np)) (some n) (b0 :: suite) pos'] orelse [] pos) (fun D σ H => tb (wAs X.K c i ts Wo D) { D with nx := u D } σ H) := by
  constructor
  intro pins s σ H D I h
  have ok := I.ok
  have fr : X.A.frames = some (X.env :: X.outer) := by rw [ok.frames, hs]
  have lc : Loc X.env.scope n := .inl hl
  let hd : ExceptHandler := .ExceptHandler (some (.Name x np)) (some n) (b0 :: suite) pos'
  refine wpAny_Try_except (wpAny_mono ((hb (wAs X.K c i ts Wo D) (X.pn ++ pins) (fun e s1 => wpAny (model X.prog X.w) X.A (noteFrame e X.env) (fun _ s2 => wpAny (model X.prog X.w) X.A (setFlight e none) (fun _ s3 => wpAny (model X.prog X.w) X.A (handleBy e X.env [hd]) (SP X pins D) X.xe s3) X.xe s2) X.xe s1) (fun e s' raised => ?_) PassesOwn.looking).run [] s σ H { D with nx := u D } (I.toTry _) h) (fun f s1 end1 => ?_) fun e s1 z => z)
  · obtain ⟨a, B, sI, pins', σ', H', cls, d, rfl, J0, nb, up, sky, na, os, ag, b, e1, yes, no⟩ := raised
    have J : Inv X pins σ' H' sI := J0.ofTry ok
    rw [hs] at sky
    refine Sky.land Zc.steady fr hf sky fun h3 fl up3 => ?_
    have J3 : Inv X pins σ' H' { s' with heap := h3 } := J.landed nb fl.1 (up.trans up3) os ag
    obtain ⟨o3, v3, g3, z3, d3⟩ := fl.there
    have out : a ∉ frs (X.env :: X.outer) := fun m => by
      obtain ⟨_, o', g', q⟩ := fl.2.2.1.mem m
      rw [g3] at g'
      cases g'
      exact q _ d3
    have nL : a ≠ X.env.locals := fun z => out (List.mem_filterMap.mpr ⟨X.env, List.mem_cons_self, by rw [hf, z]⟩)
    have nF : a ∉ X.fs := fun m => by
      obtain ⟨e, he, q⟩ := List.mem_filterMap.mp m
      exact out (List.mem_filterMap.mpr ⟨e, List.mem_cons_of_mem _ he, q⟩)
    have S3 := J3.suite g3 d3 na nL nF
    refine wpAny_handleBy_cons (codeAny_handlers_test ?_) (by intro q; cases q)
    have look : PySem.W.Looks (model X.prog X.w) h3 (typeOf (.ref a)) cls := fun A Q E s k q => wpAny_typeOf_ref (k _ _ g3) (by rw [z3.1]; exact q)
    have one := PySem.W.exm_one (M := model X.prog X.w) (J3.kIn) look e1
    have asked : ∀ {Q E : Value → Shared → Prop}, Q c { s' with heap := h3 } → wpAny (model X.prog X.w) (X.A.mark (some (.ref a))) (eval (.Name x np) X.env) Q E { s' with heap := h3 } := fun {Q E} q => by
      obtain ⟨k1, k2, k3 | ⟨k3, k4, k5⟩⟩ := hc
      · exact ld_glob (X := X.suite a ((a, o3) :: (X.pn ++ pins))) S3 k1 k3 q k2
      · exact ld_blt (X := X.suite a ((a, o3) :: (X.pn ++ pins))) S3 k1 k3 k4 q k5 k2
    refine asked (one.here ?_)
    cases b with
    | false =>
      show wpAny _ X.A (handleBy (.ref a) X.env []) _ _ _
      refine wpAny_handleBy_nil ?_
      obtain ⟨k1, k2, k3, oe, vs, T, oT, t', he, hz, hdd, h1, hr⟩ := id fl
      unfold PySem.passOn
      refine wpAny_bind (wpAny_field he hdd h1 ?_)
      rw [if_neg (show ¬ ((Value.ref T == Value.none) = true) by simp)]
      have on : wpAny (model X.prog X.w) X.A (setFlight (.ref a) X.env.frame) (fun _ s4 => wpAny (model X.prog X.w) X.A (throw (.ref a) : Sem Flow) (SP X pins D) X.xe s4) X.xe { s' with heap := h3 } := by
        rw [hf]
        exact HandSPX.setFlight_upZ fl fun h4 q4 up4 => wpAny_throw (tk _ _ ⟨a, B, sI, pins, σ', H', cls, d, rfl, J, nb, (up.trans up3).trans up4, .inr (.inr (by rw [hs]; exact q4)), na, os, ag, no rfl⟩)
      first
        | exact wpAny_bind (wpAny_pure (wpAny_bind on))
        | exact wpAny_bind on
    | true =>
      refine codeAny_handlers_suite_as (HandSPX.lands_againZ fl fun h4 fl4 up4 => ?_)
      have J4 : Inv X pins σ' H' { s' with heap := h4 } := J.landed nb fl4.1 ((up.trans up3).trans up4) os ag
      obtain ⟨o4, v4, g4, z4, d4⟩ := fl4.there
      refine store_ok (X := X.suite a ((a, o4) :: (X.pn ++ pins))) (v := .ref a) (J4.suite g4 d4 na nL nF) hN hi lc rfl (fun s5 S5 => ?_) (.inr hl)
      refine wpAny_mono ((hsu a o4 cls d (X.pn ++ pins) z4 ⟨_, d4⟩).run [] s5 _ H' _ S5 (yes rfl a na)) (fun f s6 q6 => ?_) fun _ _ z => False.elim z
      have gone : ∀ {σ6 : St} {H6 : Hp} {Q : Shared → Prop}, Inv (X.suite a ((a, o4) :: (X.pn ++ pins))) [] σ6 H6 s6 → (∀ s7, Inv X pins (σ6.set i none) H6 s7 → Q s7) → wpAny (model X.prog X.w) X.A (do bindName X.env n .none; unbindBehindTheSuite X.env n pos') (fun _ s7 => Q s7) X.xe s6 := fun S6 hq => gone_ok (S6.unsuite ok) hN hi hl hq
      cases f with
      | ret w =>
        obtain ⟨v6, σ6, H6, S6, r6, q6⟩ := q6
        exact gone S6 fun s7 J7 => ⟨_, _, _, J7, r6, q6⟩
      | _ =>
        obtain ⟨σ6, H6, S6, q6⟩ := q6
        exact gone S6 fun s7 J7 => ⟨_, _, J7, q6⟩
  · cases f with
    | next =>
      obtain ⟨σ', H', J', q⟩ := end1
      exact ho.run pins s1 σ' H' D (J'.ofTry ok) q
    | ret w =>
      obtain ⟨v, σ', H', J', r, q⟩ := end1
      exact ⟨v, σ', H', J'.ofTry ok, r, q⟩
    | _ =>
      obtain ⟨σ', H', J', q⟩ := end1
      exact ⟨σ', H', J'.ofTry ok, q⟩
end
end L2
set_option Elab.async false
set_option linter.all false
set_option maxRecDepth 100000
set_option maxHeartbeats 2000000
/-! benches with things wrong, in plain words -/
namespace Bw
open PySem L2 PySem.Spec
/-- a pair, as a tuple or a list, of any things -/
abbrev Gp := Bool × Da × Da
def dG (g : Gp) : Da := if g.1 then .tup [g.2.1, g.2.2] else .lst [g.2.1, g.2.2]
def tx : Da → Str
  | .str x => x
  | _ => S []
def toQ (g : Gp) : Bool × Pr := (g.1, (tx g.2.1, tx g.2.2))
def gP (p : Pr) : Gp := (true, .str p.1, .str p.2)
/-- the word for what is due -/
def prW : PR → Str
  | .ok _ => ""
  | .strange => "speech"
  | .twice => "twice"
def madeW (ts : List Da) (gs : List Gp) : Str := if 8 < ts.length then "many" else match chk [] ts with
  | none => "name"
  | some ns => prW (chkP ns [] (gs.map toQ))
theorem chk_is : ∀ (ts : List Da) (seen ns : List Str), chk seen ts = some ns → ns.map Da.str = seen.map Da.str ++ ts
  | [], seen, ns, h => by
    rw [chk] at h
    cases h
    simp
  | t :: ts, seen, ns, h => by
    cases t with
    | str x =>
      rw [chk_str] at h
      by_cases c : (isNameB (.str x) && !decide (x ∈ seen)) = true
      · rw [if_pos c] at h
        have := chk_is ts _ _ h
        rw [this, List.map_append, List.append_assoc] <;> rfl
      · rw [if_neg c] at h
        cases h
    | _ => simp [chk] at h
theorem chk_is0 {ts : List Da} {ns : List Str} (h : chk [] ts = some ns) : ts = ns.map Da.str := by
  have := chk_is ts [] ns h
  rw [List.map_nil, List.nil_append] at this
  exact this.symm
/-- a part of a pair: a text, or a thing among the names -/
def PartOk (ts : List Da) (d : Da) : Prop := (∃ x, d = .str x ∧ okS x ∧ x.length ≤ 1000) ∨ d ∈ ts
structure StOk (N : Nat) (ts : List Da) (gs : List Gp) : Prop where
  kd : ∀ t ∈ ts, (∃ T, tyName t = some T) ∧ ∀ x, t = .str x → x.length ≤ 1000
  ok : ∀ t ∈ ts, okD 2 t
  lt : ts.length ≤ 8 + 8 * N
  lg : gs.length ≤ 80 + N
  pt : ∀ g ∈ gs, PartOk ts g.2.1 ∧ PartOk ts g.2.2
theorem PartOk.mono {ts us : List Da} {d : Da} (h : PartOk ts d) (s : ∀ t ∈ ts, t ∈ us) : PartOk us d := h.imp id (s d)
theorem PartOk.ok {N : Nat} {ts : List Da} {gs : List Gp} {d : Da} (s : StOk N ts gs) (h : PartOk ts d) : okD 2 d := by
  rcases h with ⟨x, rfl, hx, _⟩ | h
  · exact ok_str hx
  · exact s.ok d h
theorem StOk.okG {N : Nat} {ts : List Da} {gs : List Gp} (s : StOk N ts gs) : okD 4 (.lst (gs.map dG)) := by
  intro d hd
  obtain ⟨g, hg, rfl⟩ := List.mem_map.mp hd
  obtain ⟨h1, h2⟩ := s.pt g hg
  have a1 := h1.ok s
  have a2 := h2.ok s
  have two : ∀ d ∈ [g.2.1, g.2.2], okD 2 d := fun d hd => by
    rcases List.mem_cons.mp hd with rfl | hd
    · exact a1
    · rw [List.mem_singleton] at hd; subst hd; exact a2
  unfold dG
  cases g.1
  · exact two
  · exact two
/-- with good names the pairs are pairs of texts -/
theorem StOk.texts {N : Nat} {ts : List Da} {gs : List Gp} {ns : List Str} (s : StOk N ts gs) (h : chk [] ts = some ns) : gs.map dG = (gs.map toQ).map dQ ∧ (∀ q ∈ gs.map toQ, okS q.2.1 ∧ okS q.2.2) := by
  have et := chk_is0 h
  have nm := chk_nm ts [] ns h (fun x hx => by cases hx)
  have part : ∀ d, PartOk ts d → d = .str (tx d) ∧ okS (tx d) := fun d hd => by
    rcases hd with ⟨x, rfl, hx, _⟩ | hd
    · exact ⟨rfl, hx⟩
    · rw [et] at hd
      obtain ⟨x, hx, rfl⟩ := List.mem_map.mp hd
      exact ⟨rfl, nm_ok (nm x hx)⟩
  refine ⟨?_, fun q hq => ?_⟩
  · rw [List.map_map]
    refine List.map_congr_left fun g hg => ?_
    obtain ⟨h1, h2⟩ := s.pt g hg
    obtain ⟨b, d1, d2⟩ := g
    have e1 := (part _ h1).1
    have e2 := (part _ h2).1
    show dG (b, d1, d2) = dQ (b, (tx d1, tx d2))
    unfold dG dQ dP
    dsimp only at e1 e2 ⊢
    rw [← e1, ← e2]
  · obtain ⟨g, hg, rfl⟩ := List.mem_map.mp hq
    obtain ⟨h1, h2⟩ := s.pt g hg
    exact ⟨(part _ h1).2, (part _ h2).2⟩
/-! ### what is put wrong -/
def put {α : Type} (l : List α) (i : Nat) (x : α) : List α := l.take i ++ x :: l.drop i
theorem put_len {α : Type} {l : List α} {i : Nat} {x : α} : (put l i x).length = l.length + 1 := by
  unfold put
  rw [List.length_append, List.length_cons, List.length_take, List.length_drop]
  omega
theorem put_mem {α : Type} {l : List α} {i : Nat} {x y : α} : y ∈ put l i x ↔ y = x ∨ y ∈ l := by
  unfold put
  rw [List.mem_append, List.mem_cons]
  constructor
  · rintro (h | h | h)
    · exact .inr (List.mem_of_mem_take h)
    · exact .inl h
    · exact .inr (List.mem_of_mem_drop h)
  · rintro (h | h)
    · exact .inr (.inl h)
    · have : y ∈ l.take i ++ l.drop i := by rw [List.take_append_drop]; exact h
      rw [List.mem_append] at this
      exact this.imp id .inr
theorem put_map {α β : Type} {f : α → β} {l : List α} {i : Nat} {x : α} : (put l i x).map f = put (l.map f) i (f x) := by
  unfold put
  rw [List.map_append, List.map_cons, List.map_take, List.map_drop]
def oddsL : List Da := [.str "A", .str "", .str "abcdefghi", .str "a b", .str "a1", .str "b_", .str "ab\n", .int 5, .non, .bl true, .lst [.str "a"], .tup [.str "a"]]
def moreL : List Str := ["nintha", "ninthb", "ninthc", "ninthd", "ninthe", "ninthf", "ninthg", "ninthh"]
def ixL {α : Type} [Inhabited α] (l : List α) (i : Int) : α := l.getD i.toNat default
instance : Inhabited Da := ⟨.non⟩
theorem ixL_at {α : Type} [Inhabited α] {l : List α} {i : Int} (h0 : 0 ≤ i) (h : i < l.length) : l[i.toNat]? = some (ixL l i) := by
  unfold ixL
  rw [List.getD_eq_getElem?_getD, List.getElem?_eq_getElem (by omega)] <;> rfl
theorem ixL_mem {α : Type} [Inhabited α] {l : List α} {i : Int} (h0 : 0 ≤ i) (h : i < l.length) : ixL l i ∈ l := List.mem_of_getElem? (ixL_at h0 h)
def strangeG (ts : List Da) (k : Int) : Gp := if k = 0 then (true, .str "nospeech", ixL ts 0) else if k = 1 then (true, ts.getLastD .non, .str "nospeech") else (true, .str "nospeech", .str "nospeech")
def atW (ts : List Da) (m : Int) : Nat := (m / 5 % (ts.length + 1 : Int)).toNat
def placeW (gs : List Gp) (m : Int) : Nat := (m / 45 % (gs.length + 1 : Int)).toNat
def wrongF (ts : List Da) (gs : List Gp) (m : Int) : List Da × List Gp :=
  if m % 5 = 0 then (ts ++ (cutD moreL none (some (9 - ts.length + m / 5 % 4))).map Da.str, gs)
  else if m % 5 = 1 then (put ts (atW ts m) (ixL oddsL (m / 2925 % 12)), gs)
  else if m % 5 = 2 ∧ ts ≠ [] then (put ts (atW ts m) (ixL ts (m / 45 % (ts.length : Int))), gs)
  else if m % 5 = 3 ∧ ts ≠ [] then (ts, put gs (placeW gs m) (strangeG ts (m / 2925 % 3)))
  else if gs ≠ [] then (ts, put gs (placeW gs m) (decide (m / 7 % 2 = 1), (ixL gs (m / 2925 % (gs.length : Int))).2))
  else (ts, gs)
theorem odds_ok : ∀ t ∈ oddsL, ((∃ T, tyName t = some T) ∧ ∀ x, t = .str x → x.length ≤ 1000) ∧ okD 2 t := by
  have lenS : ∀ (x : Str), (x = "A" ∨ x = "" ∨ x = "abcdefghi" ∨ x = "a b" ∨ x = "a1" ∨ x = "b_" ∨ x = "ab\n") → x.length ≤ 1000 ∧ PyData.strOk x = true := by
    rintro x (rfl | rfl | rfl | rfl | rfl | rfl | rfl) <;> exact ⟨by decide +kernel, by decide +kernel⟩
  intro t ht
  have one : ∀ (x : Str), (x = "A" ∨ x = "" ∨ x = "abcdefghi" ∨ x = "a b" ∨ x = "a1" ∨ x = "b_" ∨ x = "ab\n") → ((∃ T, tyName (.str x) = some T) ∧ ∀ y, Da.str x = .str y → y.length ≤ 1000) ∧ okD 2 (.str x) := fun x hx =>
    ⟨⟨⟨_, rfl⟩, fun y e => by cases e; exact (lenS x hx).1⟩, (lenS x hx).2⟩
  have a1 : ∀ d ∈ [Da.str "a"], okD 1 d := fun d hd => by
    rw [List.mem_singleton] at hd
    subst hd
    show PyData.strOk _ = true
    decide +kernel
  unfold oddsL at ht
  simp only [List.mem_cons, List.not_mem_nil, or_false] at ht
  rcases ht with rfl | rfl | rfl | rfl | rfl | rfl | rfl | rfl | rfl | rfl | rfl | rfl
  · exact one _ (by simp)
  · exact one _ (by simp)
  · exact one _ (by simp)
  · exact one _ (by simp)
  · exact one _ (by simp)
  · exact one _ (by simp)
  · exact one _ (by simp)
  · exact ⟨⟨⟨_, rfl⟩, fun y e => by cases e⟩, trivial⟩
  · exact ⟨⟨⟨_, rfl⟩, fun y e => by cases e⟩, trivial⟩
  · exact ⟨⟨⟨_, rfl⟩, fun y e => by cases e⟩, trivial⟩
  · exact ⟨⟨⟨_, rfl⟩, fun y e => by cases e⟩, a1⟩
  · exact ⟨⟨⟨_, rfl⟩, fun y e => by cases e⟩, a1⟩
theorem more_ok : ∀ x ∈ moreL, x.length ≤ 1000 ∧ okS x := by
  have : ∀ x ∈ moreL, (decide (x.length ≤ 1000) && PyData.strOk x) = true := by decide +kernel
  intro x hx
  have := this x hx
  rw [Bool.and_eq_true, decide_eq_true_eq] at this
  exact this
theorem cut_sub {α : Type} {l : List α} {a b : Option Int} {x : α} (h : x ∈ cutD l a b) : x ∈ l := by
  unfold cutD at h
  exact List.mem_of_mem_drop (List.mem_of_mem_take h)
theorem cut_len {α : Type} {l : List α} {a b : Option Int} : (cutD l a b).length ≤ l.length := by
  unfold cutD
  rw [List.length_take, List.length_drop]
  omega
theorem nospeech_ok : (∃ x, Da.str "nospeech" = .str x ∧ okS x ∧ x.length ≤ 1000) := ⟨_, rfl, by unfold okS; decide +kernel, by decide +kernel⟩
theorem StOk.wrong {N : Nat} {ts : List Da} {gs : List Gp} (s : StOk N ts gs) (m : Int) : StOk (N + 1) (wrongF ts gs m).1 (wrongF ts gs m).2 := by
  have h1 : ∀ {us : List Da}, (∀ t ∈ us, t ∈ ts ∨ (((∃ T, tyName t = some T) ∧ ∀ x, t = .str x → x.length ≤ 1000) ∧ okD 2 t)) → (∀ t ∈ ts, t ∈ us) → us.length ≤ 8 + 8 * (N + 1) → StOk (N + 1) us gs := fun {us} hu su hl =>
    ⟨fun t ht => (hu t ht).elim (s.kd t) (·.1), fun t ht => (hu t ht).elim (s.ok t) (·.2), hl, by have := s.lg; omega, fun g hg => ⟨(s.pt g hg).1.mono su, (s.pt g hg).2.mono su⟩⟩
  have h2 : ∀ {hs : List Gp}, (∀ g ∈ hs, PartOk ts g.2.1 ∧ PartOk ts g.2.2) → hs.length ≤ gs.length + 1 → StOk (N + 1) ts hs := fun {hs} hp hl => ⟨s.kd, s.ok, by have := s.lt; omega, by have := s.lg; omega, hp⟩
  have sl := s.lt
  unfold wrongF
  split
  · refine h1 (fun t ht => ?_) (fun t ht => List.mem_append_left _ ht) ?_
    · rw [List.mem_append] at ht
      refine ht.imp id fun ht => ?_
      obtain ⟨x, hx, rfl⟩ := List.mem_map.mp ht
      have := more_ok x (cut_sub hx)
      exact ⟨⟨⟨_, rfl⟩, fun y e => by cases e; exact this.1⟩, this.2⟩
    · have := cut_len (l := moreL) (a := none) (b := some (9 - ts.length + m / 5 % 4))
      have e : moreL.length = 8 := rfl
      rw [List.length_append, List.length_map]
      omega
  split
  · refine h1 (fun t ht => ?_) (fun t ht => put_mem.mpr (.inr ht)) (by rw [put_len]; omega)
    rcases put_mem.mp ht with rfl | ht
    · exact .inr (odds_ok _ (ixL_mem (by omega) (by show m / 2925 % 12 < 12; omega)))
    · exact .inl ht
  split
  · rename_i c
    refine h1 (fun t ht => ?_) (fun t ht => put_mem.mpr (.inr ht)) (by rw [put_len]; omega)
    have l0 := List.length_pos_iff.mpr c.2
    rcases put_mem.mp ht with rfl | ht
    · exact .inl (ixL_mem (Int.emod_nonneg _ (by omega)) (Int.emod_lt_of_pos _ (by omega)))
    · exact .inl ht
  split
  · rename_i c
    have l0 := List.length_pos_iff.mpr c.2
    refine h2 (fun g hg => ?_) (by rw [put_len]; omega)
    rcases put_mem.mp hg with rfl | hg
    · unfold strangeG
      split
      · exact ⟨.inl nospeech_ok, .inr (ixL_mem (by omega) (by omega))⟩
      split
      · refine ⟨.inr ?_, .inl nospeech_ok⟩
        rw [List.getLastD_eq_getLast?, List.getLast?_eq_some_getLast c.2]
        exact List.getLast_mem c.2
      · exact ⟨.inl nospeech_ok, .inl nospeech_ok⟩
    · exact s.pt g hg
  split
  · rename_i c
    have l0 := List.length_pos_iff.mpr c
    refine h2 (fun g hg => ?_) (by rw [put_len]; omega)
    rcases put_mem.mp hg with rfl | hg
    · exact s.pt (ixL gs (m / 2925 % (gs.length : Int))) (ixL_mem (Int.emod_nonneg _ (by omega)) (Int.emod_lt_of_pos _ (by omega)))
    · exact s.pt g hg
  · exact h2 s.pt (by show gs.length ≤ _; omega)
theorem eqD_nil {ds : List Da} : eqD (.lst ds) (.lst []) = decide (ds = []) := by
  cases ds with
  | nil => rfl
  | cons d ds =>
    unfold eqD
    simp [toPy, toPys, PyData.eqv, PyData.eqvAll]
end Bw
set_option Elab.async false
set_option linter.all false
set_option maxRecDepth 100000
set_option maxHeartbeats 2000000
/-! long texts: len, slices, +, index, split, join, f-strings -/
namespace Bw
open PySem L2 PySem.Spec
theorem big {n : Nat} (h : n ≤ 100000) : n < sizeLine := by rw [sizeLine_eq]; omega
/-- x.split(b) -/
def rSplit : V → List V → Hp → VK → Prop := fun x xs H Q => ∃ a b, x = .str a ∧ xs = [.str b] ∧ (b.length == 0) = false ∧ a.length + 2 ≤ sizeLine ∧ rNewStrs (Txt.split a b) H Q
/-- a.join(ys) -/
def rJoinS (K : PySem.W.Frag) : V → List V → Hp → VK → Prop := fun x xs H Q => ∃ a p, ∃ ys : List Str, x = .str a ∧ xs = [.ref p] ∧ (SqL K H p (ys.map V.str) ∨ SqT K H p (ys.map V.str)) ∧ (ys.map (·.length)).sum + ys.length * a.length ≤ 16777216 ∧ Q (.str (Txt.join a ys)) H
/-- the texts of an f-string, told -/
inductive EvJs (K : PySem.W.Frag) (δ : List Sl) : List TE → List Str → Prop where
  | nil : EvJs K δ [] []
  | cons {t : TE} {ts : List TE} {y : Str} {ys : List Str} (h : EvS K t δ (.str y)) (hl : y.length ≤ 1000) (r : EvJs K δ ts ys) : EvJs K δ (t :: ts) (y :: ys)
def catL (acc : Str) (ys : List Str) : Str := ys.foldl (fun a y => a ++ y) acc
section
variable {K : PySem.W.Frag} {δ : List Sl} {te tb tl th : TE} {ta tc : TO} {lo hi : Option Int} {i : Int}
theorem rc_lenB {z : Str} (h : z.length ≤ 100000) : RC K (rLen K) [.str z] (.int z.length) := rc_now fun Hk H vs s a Q q => by
  obtain ⟨v, rfl, a1⟩ := a.one_of
  cases a1
  exact ⟨_, z.length, rfl, ⟨Nat.le_of_lt (big h), rfl⟩, q _ (.int _)⟩
theorem evs_slB {z : Str} (h : EvS K te δ (.str z)) (hl : EvSO K ta δ lo) (hh : EvSO K tc δ hi) (hz : z.length ≤ 100000) : EvS K (tSl (rSlU K) te ta tc) δ (.str (cutS z lo hi)) := fun σ Hk D H s Q q =>
  h σ Hk D H s _ fun v Hs H1 x r => hl σ Hs (D.up x.kn) H1 x.st _ fun H2 u2 => hh σ Hs (D.up x.kn) H2 (x.st.trans u2) _ fun H3 u3 => by
    cases r
    exact .inr (.inl ⟨z, rfl, Nat.le_of_lt (big hz), q _ Hs H3 (x.trans (Ext.of_up x.st (u2.trans u3))) (.str _)⟩)
theorem rv_addB {x y : Str} (h : x.length + y.length ≤ 100000) : RV K (rAddU K) (.str x) (.str y) (.str (x ++ y)) := RV.ri (RV.l (rv_now fun Hk H v1 v2 s a1 a2 Q q => by
  cases a1; cases a2
  exact ⟨x, y, rfl, rfl, Nat.le_of_lt (big h), q _ (.str _)⟩))
theorem rv_ixB {z : Str} {c : Nat} (hl : z.length ≤ 100000) (h : atI z.cps.toList i = some c) : RV K (rIx K) (.str z) (.int i) (.str ⟨#[c]⟩) := rv_now fun Hk H v1 v2 s a1 a2 Q q => by
  cases a2
  cases a1
  exact .inr (.inr ⟨z, i, c, rfl, rfl, Nat.le_of_lt (big hl), h, q _ (.str _)⟩)
theorem evs_split {a b : Str} (h1 : EvS K te δ (.str a)) (h2 : EvS K tb δ (.str b)) (hb : (b.length == 0) = false) (ha : a.length ≤ 90000) : EvSN K (tM1 rSplit te tb) δ ((Txt.split a b).map Da.str) := fun σ Hk D H s Q q =>
  h1 σ Hk D H s _ fun v1 H1 H1' x1 r1 => by
    cases r1
    refine ⟨⟨a, rfl⟩, h2 σ H1 (D.up x1.kn) H1' x1.st _ fun v2 H2 H2' x2 r2 => ?_⟩
    cases r2
    have x := x1.trans x2
    refine ⟨a, b, rfl, rfl, hb, Nat.le_of_lt (big (by omega)), fun p hp => ?_⟩
    exact q p _ H2 _ ⟨x.up.trans (same_upd hp), x.kn, x.st.trans (same_upd hp), x.nw⟩ (x.up.free hp) (x.st.free hp) upd_same DRs.strs
theorem evs_joinL {a : Str} {ys : List Str} (h1 : EvS K te δ (.str a)) (h2 : EvS K tb δ (.lst (ys.map Da.str))) (hz : (ys.map (·.length)).sum + ys.length * a.length ≤ 100000) : EvS K (tM1 (rJoinS K) te tb) δ (.str (Txt.join a ys)) := fun σ Hk D H s Q q =>
  h1 σ Hk D H s _ fun v1 H1 H1' x1 r1 => by
    cases r1
    refine ⟨⟨a, rfl⟩, h2 σ H1 (D.up x1.kn) H1' x1.st _ fun v2 H2 H2' x2 r2 => ?_⟩
    cases r2 with
    | lst e r =>
      have ex := DRs.of_strs r
      subst ex
      exact ⟨a, _, ys, rfl, rfl, .inl (SqL.of (x2.st _ _ e)), by omega, q _ _ _ (x1.trans x2) (.str _)⟩
theorem evs_joinF {ts : List TE} {ys : List Str} (h : EvJs K δ ts ys) (hl : ys.length ≤ 50) : EvS K (tJoin ts) δ (.str (catL Str.empty ys)) := by
  have all : ∀ (ts : List TE) (ys : List Str), EvJs K δ ts ys → ∀ (acc : Str) (m : Nat), acc.length + 1000 * ys.length ≤ m → m ≤ 100000 → ∀ σ Hk, Dats K δ σ Hk → ∀ H, Same Hk H → ∀ Q : Str → Hp → Prop, (∀ Hs H', Ext Hk H Hs H' → Q (catL acc ys) H') → tJs ts acc σ H Q := by
    intro ts ys h
    induction h with
    | nil => intro acc m _ _ σ Hk D H s Q q; exact q Hk H (Ext.refl s)
    | cons h hl r ih =>
      intro acc m hm hm2 σ Hk D H s Q q
      refine h σ Hk D H s _ fun v Hs H' x rr => ?_
      cases rr
      rw [List.length_cons] at hm
      refine ⟨_, rfl, Nat.le_of_lt (big (by rw [str_app_len]; omega)), ?_⟩
      exact ih _ m (by rw [str_app_len]; omega) hm2 σ Hs (D.up x.kn) H' x.st Q fun H2 H2' u => q H2 H2' (x.trans u)
  intro σ Hk D H s Q q
  exact all ts ys h Str.empty 60000 (by show 0 + _ ≤ _; omega) (by omega) σ Hk D H s _ fun Hs H' x => q _ Hs H' x (.str _)
end
/-! ### splitting, by lists of signs -/
def splitC (c : Nat) : List Nat → List (List Nat)
  | [] => [[]]
  | d :: r => if d = c then [] :: splitC c r else match splitC c r with
    | h :: t => (d :: h) :: t
    | [] => [[d]]
theorem splitC_ne (c : Nat) (l : List Nat) : splitC c l ≠ [] := by
  cases l with
  | nil => exact fun z => by cases z
  | cons d r =>
    unfold splitC
    split
    · exact fun z => by cases z
    · split <;> exact fun z => by cases z
theorem spl_splitC (c : Nat) : ∀ (l acc : List Nat), TL.spl [c] 0 acc l = match splitC c l with
    | h :: t => (acc ++ h) :: t
    | [] => [acc]
  | [], acc => by
    rw [TL.spl_nil]
    show [acc] = [acc ++ []]
    rw [List.append_nil]
  | d :: r, acc => by
    by_cases e : d = c
    · have hp : TL.pre [c] (d :: r) = true := by subst e; simp [TL.pre]
      rw [TL.spl_hit hp]
      have ih := spl_splitC c r []
      have e1 : splitC c (d :: r) = [] :: splitC c r := by rw [splitC, if_pos e]
      rw [e1]
      show acc :: TL.spl [c] 0 [] r = (acc ++ []) :: splitC c r
      rw [List.append_nil, ih]
      cases h : splitC c r with
      | nil => exact absurd h (splitC_ne c r)
      | cons a t => rfl
    · have hp : TL.pre [c] (d :: r) = false := by simp [TL.pre, e]
      rw [TL.spl_miss hp, spl_splitC c r]
      have e1 : splitC c (d :: r) = match splitC c r with
        | h :: t => (d :: h) :: t
        | [] => [[d]] := by rw [splitC, if_neg e]
      rw [e1]
      cases h : splitC c r with
      | nil => exact absurd h (splitC_ne c r)
      | cons a t =>
        show (acc ++ [d] ++ a) :: t = (acc ++ d :: a) :: t
        rw [List.append_assoc] <;> rfl
theorem tl_S (l : List Nat) : TL.tl (S l) = l := TL.tl_mk l
theorem S_tl (x : Str) : S (TL.tl x) = x := TL.ext_tl (by rw [tl_S])
theorem split_sign {c : Nat} (hc : c < 256) (l : List Nat) : Txt.split (S l) (S [c]) = (splitC c l).map S := by
  have hk : ¬ Builtin.Str.strKind (S l) < Builtin.Str.strKind (S [c]) := TL.kind_ok (by simp [S, hc])
  have h1 := TL.split_spl (S l) (S [c]) (by rw [tl_S]; simp) hk
  rw [tl_S, tl_S, spl_splitC] at h1
  refine TL.map_tl_inj ?_
  rw [h1, List.map_map]
  have e : ∀ ls : List (List Nat), ls.map (TL.tl ∘ S) = ls := fun ls => by
    induction ls with
    | nil => rfl
    | cons a t ih => rw [List.map_cons, ih]; show TL.tl (S a) :: t = _; rw [tl_S]
  rw [e]
  cases h : splitC c l with
  | nil => exact absurd h (splitC_ne c l)
  | cons a t => rfl
theorem joinL_nil : ∀ ps : List (List Nat), TL.joinL [] ps = ps.flatten
  | [] => rfl
  | [p] => by simp [TL.joinL]
  | p :: q :: r => by
    show p ++ ([] ++ TL.joinL [] (q :: r)) = _
    rw [List.nil_append, joinL_nil (q :: r)] <;> rfl
theorem join_flat (ys : List (List Nat)) : Txt.join (S []) (ys.map S) = S ys.flatten := by
  refine TL.ext_tl ?_
  rw [TL.join_eq, TL.tl_join, tl_S, tl_S, List.map_map]
  have e : ys.map (TL.tl ∘ S) = ys := by
    induction ys with
    | nil => rfl
    | cons a t ih => rw [List.map_cons, ih]; show TL.tl (S a) :: t = _; rw [tl_S]
  rw [e, joinL_nil]
theorem catL_S : ∀ (ys : List (List Nat)) (a : List Nat), catL (S a) (ys.map S) = S (a ++ ys.flatten)
  | [], a => by simp [catL]
  | y :: ys, a => by
    have ih := catL_S ys (a ++ y)
    unfold catL at ih ⊢
    rw [List.map_cons, List.foldl_cons, show S a ++ S y = S (a ++ y) from S_app a y, ih, List.flatten_cons, List.append_assoc]
end Bw
set_option Elab.async false
set_option linter.all false
set_option maxRecDepth 100000
set_option maxHeartbeats 2000000
/-! texts of benches: what is written, and what a text is read as -/
namespace Bw
open PySem L2 PySem.Spec
abbrev Wd := List Nat
def spW : Wd := [115, 112, 101, 101, 99, 104]
def agW : Wd := [97, 103, 97, 105, 110, 115, 116]
theorem spW_S : ("speech" : Str) = S spW := by decide +kernel
theorem agW_S : ("against" : Str) = S agW := by decide +kernel
theorem sp_ag : spW ≠ agW := by decide
/-! splitting and joining back -/
theorem splitC_no {c : Nat} : ∀ {l : List Nat}, c ∉ l → splitC c l = [l]
  | [], _ => rfl
  | d :: r, h => by
    have h1 : d ≠ c := fun e => h (e ▸ List.mem_cons_self ..)
    rw [splitC, if_neg h1, splitC_no fun m => h (List.mem_cons_of_mem _ m)]
theorem splitC_app {c : Nat} : ∀ {l : List Nat} {r : List Nat}, c ∉ l → splitC c (l ++ c :: r) = l :: splitC c r
  | [], r, _ => by rw [List.nil_append, splitC, if_pos rfl]
  | d :: l, r, h => by
    have h1 : d ≠ c := fun e => h (e ▸ List.mem_cons_self ..)
    rw [List.cons_append, splitC, if_neg h1, splitC_app fun m => h (List.mem_cons_of_mem _ m)]
theorem splitC_free {c : Nat} : ∀ {l p : List Nat}, p ∈ splitC c l → c ∉ p
  | [], p, h => by
    rw [splitC, List.mem_singleton] at h
    subst h
    exact fun z => by cases z
  | d :: r, p, h => by
    rw [splitC] at h
    by_cases e : d = c
    · rw [if_pos e] at h
      rcases List.mem_cons.mp h with rfl | h
      · exact fun z => by cases z
      · exact splitC_free h
    · rw [if_neg e] at h
      cases q : splitC c r with
      | nil => exact absurd q (splitC_ne c r)
      | cons a t =>
        rw [q] at h
        rcases List.mem_cons.mp h with rfl | h
        · intro m
          rcases List.mem_cons.mp m with m | m
          · exact e m.symm
          · exact splitC_free (l := r) (by rw [q]; exact List.mem_cons_self ..) m
        · exact splitC_free (l := r) (by rw [q]; exact List.mem_cons_of_mem _ h)
theorem splitC_sub {c : Nat} : ∀ {l p : List Nat} {x : Nat}, p ∈ splitC c l → x ∈ p → x ∈ l
  | [], p, x, h, m => by
    rw [splitC, List.mem_singleton] at h
    subst h
    exact m
  | d :: r, p, x, h, m => by
    rw [splitC] at h
    by_cases e : d = c
    · rw [if_pos e] at h
      rcases List.mem_cons.mp h with rfl | h
      · cases m
      · exact List.mem_cons_of_mem _ (splitC_sub h m)
    · rw [if_neg e] at h
      cases q : splitC c r with
      | nil => exact absurd q (splitC_ne c r)
      | cons a t =>
        rw [q] at h
        rcases List.mem_cons.mp h with rfl | h
        · rcases List.mem_cons.mp m with m | m
          · rw [m]; exact List.mem_cons_self ..
          · exact List.mem_cons_of_mem _ (splitC_sub (l := r) (by rw [q]; exact List.mem_cons_self ..) m)
        · exact List.mem_cons_of_mem _ (splitC_sub (l := r) (by rw [q]; exact List.mem_cons_of_mem _ h) m)
def joinC (c : Nat) : List Wd → Wd
  | [] => []
  | [p] => p
  | p :: q :: r => p ++ c :: joinC c (q :: r)
theorem join_split (c : Nat) : ∀ l : List Nat, joinC c (splitC c l) = l
  | [] => rfl
  | d :: r => by
    have ih := join_split c r
    rw [splitC]
    by_cases e : d = c
    · rw [if_pos e]
      cases q : splitC c r with
      | nil => exact absurd q (splitC_ne c r)
      | cons a t =>
        rw [q] at ih
        show [] ++ c :: joinC c (a :: t) = _
        rw [ih, e] <;> rfl
    · rw [if_neg e]
      cases q : splitC c r with
      | nil => exact absurd q (splitC_ne c r)
      | cons a t =>
        rw [q] at ih
        cases t with
        | nil => show d :: a = _; rw [show a = r from ih]
        | cons b t => show (d :: a) ++ c :: joinC c (b :: t) = _; rw [List.cons_append]; exact congrArg (d :: ·) ih
/-- the rows of a text whose last row ends -/
theorem rows_join {c : Nat} : ∀ {ps : List Wd}, joinC c (ps ++ [[]]) = (ps.map (· ++ [c])).flatten
  | [] => rfl
  | [p] => by simp [joinC]
  | p :: q :: r => by
    have ih := rows_join (c := c) (ps := q :: r)
    show p ++ c :: joinC c (q :: (r ++ [[]])) = _
    rw [show q :: (r ++ [[]]) = (q :: r) ++ [[]] from rfl, ih, List.map_cons (l := q :: r), List.flatten_cons, List.append_assoc] <;> rfl
/-! what a row says -/
inductive RowW where
  | name (a : Wd)
  | pair (a b : Wd)
  | none
def rowW (parts : List Wd) : RowW := match parts with
  | [f, a] => if f = spW ∧ [] ∉ parts then .name a else .none
  | [f, a, b] => if f = agW ∧ [] ∉ parts then .pair a b else .none
  | _ => .none
def readR : List Wd → List (Wd × Wd) → List Wd → Option (List Wd × List (Wd × Wd))
  | ns, ps, [] => some (ns, ps)
  | ns, ps, r :: rs => match rowW (splitC 32 r) with
    | .name a => if ps = [] then readR (ns ++ [a]) ps rs else none
    | .pair a b => readR ns (ps ++ [(a, b)]) rs
    | .none => none
def readT (l : Wd) : Option (List Wd × List (Wd × Wd)) := if (splitC 10 l).getLast? = some [] then readR [] [] (splitC 10 l).dropLast else none
def nameR (a : Wd) : Wd := spW ++ 32 :: a
def pairR (q : Wd × Wd) : Wd := agW ++ 32 :: (q.1 ++ 32 :: q.2)
def writeR (ns : List Wd) (ps : List (Wd × Wd)) : List Wd := ns.map nameR ++ ps.map pairR
def writeT (ns : List Wd) (ps : List (Wd × Wd)) : Wd := ((writeR ns ps).map (· ++ [10])).flatten
theorem row_name {r a : Wd} (h : rowW (splitC 32 r) = .name a) : r = nameR a := by
  have j := join_split 32 r
  unfold rowW at h
  split at h
  · rename_i f b e
    split at h
    · rename_i c
      cases h
      rw [e] at j
      rw [← j, c.1] <;> rfl
    · cases h
  · split at h <;> cases h
  · cases h
theorem row_pair {r a b : Wd} (h : rowW (splitC 32 r) = .pair a b) : r = pairR (a, b) := by
  have j := join_split 32 r
  unfold rowW at h
  split at h
  · split at h <;> cases h
  · rename_i f a' b' e
    split at h
    · rename_i c
      cases h
      rw [e] at j
      rw [← j, c.1] <;> rfl
    · cases h
  · cases h
theorem readR_rows : ∀ {rs : List Wd} {ns ms : List Wd} {ps qs : List (Wd × Wd)}, readR ns ps rs = some (ms, qs) → writeR ns ps ++ rs = writeR ms qs
  | [], ns, ms, ps, qs, h => by
    rw [readR] at h
    cases h
    rw [List.append_nil]
  | r :: rs, ns, ms, ps, qs, h => by
    rw [readR] at h
    cases e : rowW (splitC 32 r) with
    | name a =>
      rw [e] at h
      dsimp only at h
      by_cases c : ps = []
      · rw [if_pos c] at h
        have ih := readR_rows h
        rw [← ih, row_name e]
        subst c
        unfold writeR
        rw [List.map_append, List.map_nil, List.append_nil, List.append_nil, List.append_assoc] <;> rfl
      · rw [if_neg c] at h
        cases h
    | pair a b =>
      rw [e] at h
      dsimp only at h
      have ih := readR_rows h
      rw [← ih, row_pair e]
      unfold writeR
      rw [List.map_append, List.append_assoc, List.append_assoc, List.append_assoc] <;> rfl
    | none =>
      rw [e] at h
      cases h
/-- a text that is read is written back as it was -/
theorem write_read {l : Wd} {ns : List Wd} {ps : List (Wd × Wd)} (h : readT l = some (ns, ps)) : writeT ns ps = l := by
  unfold readT at h
  split at h
  · rename_i c
    have e := readR_rows h
    have e : (splitC 10 l).dropLast = writeR ns ps := by
      have z : writeR [] [] = [] := rfl
      rw [z, List.nil_append] at e
      exact e
    have ne := splitC_ne 10 l
    have e2 := List.dropLast_concat_getLast ne
    rw [List.getLast?_eq_some_getLast ne] at c
    injection c with c
    rw [c] at e2
    have j := join_split 10 l
    rw [← e2, e, rows_join] at j
    exact j
  · cases h
def GoodW (a : Wd) : Prop := a ≠ [] ∧ 32 ∉ a ∧ 10 ∉ a
theorem spW_free : 32 ∉ spW ∧ 10 ∉ spW := by decide
theorem agW_free : 32 ∉ agW ∧ 10 ∉ agW := by decide
theorem row_nameR {a : Wd} (h : GoodW a) : rowW (splitC 32 (nameR a)) = .name a := by
  unfold nameR
  rw [splitC_app spW_free.1, splitC_no h.2.1]
  show (if spW = spW ∧ ([] : Wd) ∉ [spW, a] then RowW.name a else .none) = _
  rw [if_pos]
  refine ⟨rfl, fun m => ?_⟩
  simp only [List.mem_cons, List.not_mem_nil, or_false] at m
  rcases m with m | m
  · cases m
  · exact h.1 m.symm
theorem row_pairR {a b : Wd} (h : GoodW a) (k : GoodW b) : rowW (splitC 32 (pairR (a, b))) = .pair a b := by
  unfold pairR
  rw [splitC_app agW_free.1, splitC_app h.2.1, splitC_no k.2.1]
  show (if agW = agW ∧ ([] : Wd) ∉ [agW, a, b] then RowW.pair a b else .none) = _
  rw [if_pos]
  refine ⟨rfl, fun m => ?_⟩
  simp only [List.mem_cons, List.not_mem_nil, or_false] at m
  rcases m with m | m | m
  · cases m
  · exact h.1 m.symm
  · exact k.1 m.symm
theorem readR_pairs : ∀ {ps qs : List (Wd × Wd)} {ns : List Wd}, (∀ q ∈ ps, GoodW q.1 ∧ GoodW q.2) → readR ns qs (ps.map pairR) = some (ns, qs ++ ps)
  | [], qs, ns, _ => by rw [List.map_nil, readR, List.append_nil]
  | q :: ps, qs, ns, h => by
    obtain ⟨h1, h2⟩ := h q (List.mem_cons_self ..)
    rw [List.map_cons, readR, row_pairR h1 h2]
    show readR ns (qs ++ [q]) (ps.map pairR) = _
    rw [readR_pairs fun p hp => h p (List.mem_cons_of_mem _ hp), List.append_assoc] <;> rfl
theorem readR_write : ∀ {ms ns : List Wd} {ps : List (Wd × Wd)}, (∀ a ∈ ms, GoodW a) → (∀ q ∈ ps, GoodW q.1 ∧ GoodW q.2) → readR ns [] (writeR ms ps) = some (ns ++ ms, ps)
  | [], ns, ps, _, h => by
    show readR ns [] (ps.map pairR) = _
    rw [readR_pairs h, List.append_nil, List.nil_append]
  | a :: ms, ns, ps, h, k => by
    show readR ns [] (nameR a :: writeR ms ps) = _
    rw [readR, row_nameR (h a (List.mem_cons_self ..))]
    show (if ([] : List (Wd × Wd)) = [] then readR (ns ++ [a]) [] (writeR ms ps) else none) = _
    rw [if_pos rfl, readR_write (fun b hb => h b (List.mem_cons_of_mem _ hb)) k, List.append_assoc] <;> rfl
theorem split_rows : ∀ {rs : List Wd}, (∀ r ∈ rs, 10 ∉ r) → splitC 10 ((rs.map (· ++ [10])).flatten) = rs ++ [[]]
  | [], _ => rfl
  | r :: rs, h => by
    rw [List.map_cons, List.flatten_cons, List.append_assoc]
    show splitC 10 (r ++ 10 :: (rs.map (· ++ [10])).flatten) = _
    rw [splitC_app (h r (List.mem_cons_self ..)), split_rows fun q hq => h q (List.mem_cons_of_mem _ hq)] <;> rfl
/-- what is written is read as it was -/
theorem read_write {ns : List Wd} {ps : List (Wd × Wd)} (h : ∀ a ∈ ns, GoodW a) (k : ∀ q ∈ ps, GoodW q.1 ∧ GoodW q.2) : readT (writeT ns ps) = some (ns, ps) := by
  have free : ∀ r ∈ writeR ns ps, 10 ∉ r := fun r hr => by
    unfold writeR at hr
    rw [List.mem_append] at hr
    rcases hr with hr | hr
    · obtain ⟨a, ha, rfl⟩ := List.mem_map.mp hr
      unfold nameR
      rw [List.mem_append, List.mem_cons]
      rintro (m | m | m)
      · exact spW_free.2 m
      · cases m
      · exact (h a ha).2.2 m
    · obtain ⟨q, hq, rfl⟩ := List.mem_map.mp hr
      unfold pairR
      rw [List.mem_append, List.mem_cons, List.mem_append, List.mem_cons]
      rintro (m | m | m | m | m)
      · exact agW_free.2 m
      · cases m
      · exact (k q hq).1.2.2 m
      · cases m
      · exact (k q hq).2.2.2 m
  unfold readT writeT
  rw [split_rows free, if_pos (by rw [List.getLast?_concat]), List.dropLast_concat, readR_write h k, List.nil_append]
end Bw
set_option Elab.async false
set_option linter.all false
set_option maxRecDepth 100000
set_option maxHeartbeats 2000000
/-! enumerate(a list, start=1) -/
namespace L2
open PySem PySem.Spec PyProof.Rows
/-- as Ite, the numbers from one on -/
def Ite1 (K : PySem.W.Frag) (a : Addr) : It :=
  ⟨fun i H => ∃ (xs : List V) (x : V), SqL K H a xs ∧ xs[i]? = some x, fun i H v H' => ∃ T x, v = .ref T ∧ H T = none ∧ H' = upd H T (.tup [.int (i + 1 : Nat), x]) ∧ ∀ xs, SqL K H a xs → xs[i]? = some x, fun i H => ∃ xs : List V, SqL K H a xs ∧ xs.length = i⟩
theorem turn_enum1 {P : Program} {w : World} {K : PySem.W.Frag} {elts : List Expr} {kk : Nat} {tpos : Pos} {a e it : Addr} (far : a ≠ it ∧ e ≠ a) :
    Turn P w K (.Tuple elts kk tpos) (Ite1 K a) [e, it] e (fun i h => (∃ old, IsEnum h e it ((i + 1 : Nat) : Int) old) ∧ h.IsListIter it a i ∧ e ≠ it) where
  mem := by simp
  obj := fun i h st b hb => by
    obtain ⟨⟨old, he⟩, ⟨o, ho, hc, hd⟩, _⟩ := st
    rcases (show b = e ∨ b = it by simpa using hb) with rfl | rfl
    · exact ⟨_, he, fun v q => nomatch q⟩
    · exact ⟨o, ho, fun v q => by rw [hd] at q; cases q⟩
  keep := fun i h h' st k => let ⟨⟨old, he⟩, hi, hne⟩ := st; ⟨⟨old, k e (by simp) _ he⟩, hi.at fun o q => k it (by simp) o q, hne⟩
  item := by
    intro X hP hw hK hc i pins s σ H E I hf st hg
    subst hP hw hK
    obtain ⟨⟨old, he⟩, hit, hne⟩ := st
    obtain ⟨xs, x, hq, hx⟩ := hg
    obtain ⟨its, rv, p, hz⟩ := I.list hq
    obtain ⟨u, hu, ru⟩ := rv.get hx
    have hel : e < s.heap.objs.size := Heap.lt_size he
    have hil : it < s.heap.objs.size := by obtain ⟨_, q, _⟩ := hit; exact Heap.lt_size q
    have hlt : i < its.toArray.size := by rw [List.size_toArray]; exact (List.getElem?_eq_some_iff.mp hu).1
    refine wpAny_pyNext_enum_itemC (Draws.list (A := X.A.in1) (by have := I.ok.hd hc; simp [this]) it a far.1 its.toArray) he ⟨hit, p.isList⟩ hlt hne (by simp only [List.mem_cons, List.not_mem_nil, or_false, not_or]; exact ⟨hne, far.2⟩) fun y h' tk hy ho hst' hT hsz hk => ?_
    have ey : y = u := by
      have : its.toArray[i]? = some u := by rw [List.getElem?_toArray]; exact hu
      rw [this] at hy
      exact (Option.some.inj hy).symm
    subst ey
    refine ⟨_, rfl, wpAny_letOwnedTupleGo_enum (s := { s with heap := h', toks := tk + 1 }) ho fun h'' he' sb => ?_⟩
    have hT2 : h''.get? s.heap.objs.size = some { cls := .type "tuple", data := .seq #[.int ((i + 1 : Nat) : Int) tk, y] } := (sb.2 _ (Nat.ne_of_gt hel)).trans hT
    have new : ObjOk X.prog X.w (upd H s.heap.objs.size (.tup [.int (i + 1 : Nat), x])) h'' s.heap.objs.size (.tup [.int (i + 1 : Nat), x]) :=
      ⟨by show 2 ≤ sizeLine; decide, [.int ((i + 1 : Nat) : Int) tk, y], .cons ⟨_, rfl⟩ (.cons ru .nil), ⟨_, hT2, rfl, _, rfl⟩⟩
    have I1 : Inv X pins σ (upd H s.heap.objs.size (.tup [.int (i + 1 : Nat), x])) { s with heap := h'', toks := tk + 1 } :=
      I.turnedNew (ch := [e, it]) (fun b ob hb q => (sb.2 b (fun z => hb (by simp [z]))).trans (hk b ob (fun z => hb (by simp [z])) (fun z => hb (by simp [z])) q)) hf (Nat.le_refl _) new
    refine ⟨.ref s.heap.objs.size, _, I1, rfl, ⟨_, x, rfl, I.hok.fresh (Nat.le_refl _), rfl, fun ys hy => by rw [I.list_inj hy hq]; exact hx⟩, ⟨⟨y, he'⟩, hst'.1.at fun o q => (sb.2 it (Ne.symm hne)).trans q, hne⟩, fun b hb => ?_⟩
    have hb' : b < s.heap.objs.size := by
      rcases (show b = e ∨ b = it by simpa using hb) with z | z
      · rw [z]; exact hel
      · rw [z]; exact hil
    rw [upd_ne (Nat.ne_of_lt hb')]
    exact (hf b hb).1
  done := by
    intro X hP hw hK hc i pins s σ H E I hf st hg
    subst hP hw hK
    obtain ⟨⟨old, he⟩, hit, hne⟩ := st
    obtain ⟨xs, hq, hx⟩ := hg
    obtain ⟨its, rv, p, hz⟩ := I.list hq
    obtain ⟨f0, f1, f2, f3, f4, f5⟩ := hf it (by simp)
    have hl := rv.length
    have hn : its.toArray.size = i := by rw [List.size_toArray]; omega
    have st0 : s.heap.IsListIter it a its.toArray.size := by rw [hn]; exact hit
    exact wpAny_pyNext_enum_endD (Draws.list (A := X.A.in1) (by have := I.ok.hd hc; simp [this]) it a far.1 its.toArray) he ⟨st0, p.isList⟩ fun h' eb => ⟨rfl, I.turned (t' := s.toks) (fun b o hb q => eb b o hb q) f0 f1 f3 f4 f5⟩
  self := fun A i s Q E st h => let ⟨⟨_, he⟩, _⟩ := st; wpAny_pyIter_enum he h
section
variable {M : Model} {A : Around} {E : Value → Shared → Prop} {s : Shared} {env : Env}
/-- a built-in class called with one argument and keywords -/
theorem with_kwT {pos : Pos} {T : String} {e : Expr} {rest : List Expr} {kws : List Keyword} {Q : Value → Shared → Prop}
    (h : wpAny M A (spliced (backTo pos (starEach (e :: rest) env))) (fun vs s1 => wpAny M A (evalAll ((backToKw pos (keywordEach kws env)).map (·.2))) (fun zs s2 => wpAny M A (call (.type T) vs (((backToKw pos (keywordEach kws env)).filterMap (·.1)).zip zs)) Q E s2) E s1) E s)
    (h1 : backTo pos (starEach (e :: rest) env) = (false, eval e env) :: backTo pos (starEach rest env)) (h2 : (backTo pos (starEach (e :: rest) env)).any (·.1) = false) (h3 : (backToKw pos (keywordEach kws env)).all (·.1.isSome) = true) (h4 : (backToKw pos (keywordEach kws env)).any (·.1.isNone) = false) :
    wpAny M A (callWith pos (.type T) [] (backTo pos (starEach (e :: rest) env)) (backToKw pos (keywordEach kws env))) Q E s := by
  unfold callWith
  rw [h1] at h h2 ⊢
  have h' : wpAny M A (evalArgs (.type T) true ((false, eval e env) :: backTo pos (starEach rest env)) (backToKw pos (keywordEach kws env))) (fun a s1 => wpAny M A (call (.type T) ([] ++ a.pos) a.kw) Q E s1) E s := evalArgs_kwB h3 h
  refine wpAny_bind (wpAny_holding (wpAny_mono h' (fun a s1 q => wpAny_bind (wpAny_standAt ?_)) fun _ _ z => z))
  simp only [h2, h4, Bool.or_false]
  exact wpAny_bind (wpAny_pure (wpAny_bind (wpAny_mono q (fun r s2 z => wpAny_bind (wpAny_holding (wpAny_point (wpAny_pure z)))) fun _ _ z => z)))
end
/-- enumerate(xs, start=1) -/
def iEnum1 (K : PySem.W.Frag) (ta : TA) : TI := fun σ H R => ta σ H fun vs H1 => ∃ a xs, vs = [.ref a] ∧ SqL K H1 a xs ∧ R (Ite1 K a) H1
theorem pi_enum1 {X : Cx} {e : Expr} {ta : TA} {p pos tpos : Pos} {elts : List Expr} {kk : Nat} {kws : List Keyword} (hg : Gl X "enumerate") (hm : X.mg "enumerate" = none) (he : PA X [e] ta) (hk : PK X kws (tCons (tC (.int 1)) tNil))
    (h1 : backTo pos (starEach [e] X.env) = (false, eval e X.env) :: backTo pos (starEach [] X.env) := by rfl) (h2 : (backTo pos (starEach [e] X.env)).any (·.1) = false := by rfl)
    (h3 : (backToKw pos (keywordEach kws X.env)).all (·.1.isSome) = true := by rfl) (h4 : (backToKw pos (keywordEach kws X.env)).any (·.1.isNone) = false := by rfl) (h5 : (backToKw pos (keywordEach kws X.env)).filterMap (·.1) = [Str.ofString "start"] := by rfl) :
    PI X (.Tuple elts kk tpos) (.Call (.Name "enumerate" p) [e] kws pos) (iEnum1 X.K ta) := by
  refine ⟨fun pins s σ H R I h => ?_⟩
  refine wpAny_Call_Name_kw (ld_blt I hg hm boot_enumerate (with_kwT ?_ h1 h2 h3 h4))
  refine thn (he.run pos pins s σ H _ I h) fun us s1 ⟨vs, H1, I1, r1, q1⟩ => ?_
  obtain ⟨a, xs, ex, hq, q⟩ := q1
  subst ex
  have hkq : (tCons (tC (.int 1)) tNil) σ H1 fun zs H2 => zs = [.int 1] ∧ H2 = H1 := ⟨rfl, rfl⟩
  refine thn (hk.run pos pins s1 σ H1 _ I1 hkq) fun ws s2 ⟨zs, H2, I2, r2, ez, eH⟩ => ?_
  subst ez eH
  rw [h5]
  cases r1 with
  | cons r rr =>
    cases rr
    cases r
    cases r2 with
    | cons k kk =>
      cases kk
      obtain ⟨tk, rfl⟩ := k
      obtain ⟨its, rv, p', hz⟩ := I2.list hq
      refine enum_begins_start (begins_list a its.toArray) p'.isList (by decide) (by decide) fun h' hen hit hsz hk => wpAny_pyIter_enum hen ?_
      have I3 : Inv X pins σ H2 { s2 with heap := h' } := I2.kept (t' := s2.toks) hk
      have la : a < s2.heap.objs.size := by obtain ⟨o, ho, _⟩ := p'.isList; exact Heap.lt_size ho
      refine ⟨s2.heap.objs.size + 1, [s2.heap.objs.size + 1, s2.heap.objs.size], _, _, H2, rfl, I3, turn_enum1 ⟨Nat.ne_of_lt la, fun z => Nat.lt_irrefl _ (Nat.lt_trans la (z ▸ Nat.lt_succ_self _))⟩, ⟨⟨.none, hen⟩, ⟨_, hit, rfl, rfl⟩, Nat.succ_ne_self _⟩, fun b hb => ?_, q⟩
      have hle : s2.heap.objs.size ≤ b := by
        rcases (show b = s2.heap.objs.size + 1 ∨ b = s2.heap.objs.size by simpa using hb) with z | z
        · rw [z]; exact Nat.le_add_right _ _
        · rw [z]; exact Nat.le_refl _
      exact I2.fpOk hle (I2.hok.fresh hle)
end L2
namespace Bw
open PySem L2 PySem.Spec
section
variable {K : PySem.W.Frag} {δ : List Sl} {ta : TA} {ds : List Da} {te tb tc : TE}
/-- the numbers from one on, each with its item -/
def enums1 (ds : List Da) : List Da := ds.zipIdx.map fun p => Da.tup [.int (p.2 + 1 : Nat), p.1]
theorem enums1_at {i : Nat} {e : Da} (h : (enums1 ds)[i]? = some e) : ∃ d, ds[i]? = some d ∧ e = .tup [.int (i + 1 : Nat), d] := by
  unfold enums1 at h
  rw [List.getElem?_map] at h
  cases q : ds.zipIdx[i]? with
  | none => rw [q] at h; cases h
  | some p =>
    rw [q] at h
    cases h
    rw [List.getElem?_zipIdx] at q
    cases e : ds[i]? with
    | none => rw [e] at q; cases q
    | some d =>
      rw [e] at q
      cases q
      exact ⟨d, rfl, by simp⟩
theorem enums1_len : (enums1 ds).length = ds.length := by simp [enums1]
theorem itok_enum1 {a : Addr} {xs : List V} {Hs : Hp} (h : SqL K Hs a xs) (r : DRs K Hs xs ds) : ItOk K (Ite1 K a) (enums1 ds) Hs where
  go := fun i H e s q => by
    obtain ⟨d, e1, _⟩ := enums1_at q
    obtain ⟨v, e2, _⟩ := r.at e1
    exact ⟨xs, v, s.seq h, e2⟩
  yld := fun i H x H' e Hk s1 s2 q y => by
    obtain ⟨T, w, rfl, hT, rfl, y⟩ := y
    obtain ⟨d, e1, rfl⟩ := enums1_at q
    obtain ⟨v, e2, r2⟩ := r.at e1
    have e3 := y xs ((s1.trans s2).seq h)
    rw [e2] at e3
    cases e3
    have k := s2.free hT
    exact ⟨_, (Ext.refl s2).new hT, .tup (SqT.of upd_same) (.cons (.int _) (.one ((r2.up s1).up (same_upd k))))⟩
  stop := fun H s => ⟨xs, s.seq h, by rw [enums1_len, r.len]⟩
theorem itd_enum1 (h : EvSA K ta δ [.lst ds]) : ItD K (iEnum1 K ta) δ (enums1 ds) := fun σ Hk D H s R q =>
  h σ Hk D H s _ fun vs Hs H' x r => by
    obtain ⟨v, rfl, r1⟩ := r.one_of
    cases r1 with
    | lst e r3 => exact ⟨_, _, rfl, x.st.seq (SqL.of e), q _ Hs H' x (itok_enum1 (SqL.of e) r3)⟩
/-! texts one behind the other by their signs -/
def rLeS : R2 := fun x y H Q => ∃ i j, x = .str i ∧ y = .str j ∧ Q (.bl (!decide (j.cps.toList < i.cps.toList))) H
theorem rv_leS {x y : Str} : RV K rLeS (.str x) (.str y) (.bl (!decide (y.cps.toList < x.cps.toList))) := rv_now fun Hk H v1 v2 s a1 a2 Q q => by
  cases a1
  cases a2
  exact ⟨x, y, rfl, rfl, q _ (.bl _)⟩
theorem lt_one {a b : Nat} : (([a] : List Nat) < [b]) ↔ a < b := by
  rw [List.cons_lt_cons_iff]
  simp
end
end Bw
namespace L2
theorem op_leS {X : Cx} : OpR X (PySem.compareOp .LtE) Bw.rLeS := op_le_str
end L2
set_option Elab.async false
set_option linter.all false
set_option maxRecDepth 100000
set_option maxHeartbeats 2000000
/-! long walks; a list's truth; pop in a test -/
namespace Bw
open PySem L2 PySem.Spec
section
variable {K : PySem.W.Frag} {δ : List Sl}
/-- of a long walk: what a comprehension makes: of each item that its tests keep, the element -/
theorem evs_lcB {wi : TI} {g : TG} {tt : TT} {te : TE} {vs : List Nat} {α : Type} {xs : List α} {enc : α → Da} (hi : ItD K wi δ (xs.map enc)) (p : α → Bool) (f : α → Da) (hl : xs.length ≤ 90000)
    (hb : ∀ x ∈ xs, ∃ δ', TgD K g (enc x) (wipeS δ vs) δ' vs ∧ EvST K tt δ' (p x) ∧ (p x = true → EvS K te δ' (f x))) :
    EvSN K (tLc wi g tt te vs) δ ((xs.filter p).map f) := fun σ Hk a H s Q q => by
  refine hi σ Hk a H s _ fun J Hs H1 x ok => ?_
  intro A hA
  have hsA : Hs A = none := x.st.free hA
  have h0A : H A = none := x.up.free hA
  refine ⟨fun i m H2 => i ≤ xs.length ∧ m = xs.length - i ∧ ∃ Hk2 acc, Ext Hk H Hk2 H2 ∧ Same Hs Hk2 ∧ Hk2 A = none ∧ H2 A = some (.lst acc) ∧ DRs K Hk2 acc (((xs.take i).filter p).map f), ⟨_, Nat.zero_le _, rfl, Hs, [], ⟨x.up.trans (same_upd hA), x.kn, x.st.trans (same_upd hA), x.nw⟩, Same.refl _, hsA, upd_same, by simp; exact .nil⟩, ?_⟩
  rintro i m H2 ⟨hi, rfl, Hk2, acc, x2, s2, hk2, hacc, r⟩
  by_cases e : i < xs.length
  · have ed : (xs.map enc)[i]? = some (enc xs[i]) := by rw [List.getElem?_map, List.getElem?_eq_getElem e] <;> rfl
    have et : xs.take (i + 1) = xs.take i ++ [xs[i]] := (List.take_append_getElem e).symm
    refine .inr ⟨ok.go i H2 _ (s2.trans x2.st) ed, fun H3 => ∃ Hk3 acc3, Ext Hk H Hk3 H3 ∧ Same Hs Hk3 ∧ Hk3 A = none ∧ H3 A = some (.lst acc3) ∧ DRs K Hk3 acc3 (((xs.take (i + 1)).filter p).map f), fun H3 ⟨Hk3, acc3, z⟩ => ⟨_, by omega, e, rfl, Hk3, acc3, z⟩, fun v H3 y => ?_⟩
    obtain ⟨Hk3, x3, r3⟩ := ok.yld i H2 v H3 _ Hk2 s2 x2.st ed y
    obtain ⟨δ', tg, ht, he⟩ := hb xs[i] (List.getElem_mem e)
    have hk3 : Hk3 A = none := by
      cases z : Hk3 A with
      | none => rfl
      | some o =>
        have := x3.nw A o z hk2
        rw [hacc] at this
        cases this
    have a3 : Dats K (wipeS δ vs) (wipe σ vs) Hk3 := dats_wipe (a.up ((x2.kn).trans x3.kn))
    refine tg v (wipe σ vs) Hk3 H3 a3 r3 x3.st _ fun σ4 a4 hlen hw => ?_
    refine ⟨wipe_eq (by rw [hlen, wipe_length]) fun k hk => (hw k hk).trans (wipe_at hk), ?_⟩
    refine ht σ4 Hk3 a4 H3 x3.st _ fun H4 u4 => ?_
    have x4 : Ext Hk H Hk3 H4 := (x2.trans x3).trans (Ext.of_up x3.st u4)
    have n1 : (((xs.take i).filter p).map f).length ≤ i := by
      rw [List.length_map]
      exact Nat.le_trans (List.length_filter_le ..) (by rw [List.length_take]; omega)
    cases ep : p xs[i] with
    | true =>
      refine iteT ?_
      refine he ep σ4 Hk3 a4 H4 x4.st _ fun y Hk5 H5 x5 r5 => ?_
      have g5 : H5 A = some (.lst acc) := x5.up _ _ (u4 _ _ (x3.up _ _ hacc))
      have hk5 : Hk5 A = none := by
        cases z : Hk5 A with
        | none => rfl
        | some o =>
          have := x5.nw A o z hk3
          rw [u4 _ _ (x3.up _ _ hacc)] at this
          cases this
      refine ⟨acc, g5, big (by rw [r.len]; omega), Hk5, acc ++ [y], ?_, (s2.trans x3.kn).trans x5.kn, hk5, upd_same, ?_⟩
      · have x6 := x4.trans x5
        exact ⟨same_updK x6.up h0A, x6.kn, same_updK x6.st hk5, x6.nw⟩
      · rw [et, List.filter_append, List.map_append]
        have e1 : [xs[i]].filter p = [xs[i]] := by simp [ep]
        rw [e1]
        exact ((r.up x3.kn).up x5.kn).snoc r5
    | false =>
      refine iteF ?_
      refine ⟨Hk3, acc, x4, s2.trans x3.kn, hk3, u4 _ _ (x3.up _ _ hacc), ?_⟩
      rw [et, List.filter_append, List.map_append]
      have e1 : [xs[i]].filter p = [] := by simp [ep]
      rw [e1]
      simpa using r.up x3.kn
  · have e' : i = xs.length := by omega
    subst e'
    rw [List.take_length] at r
    have es := ok.stop H2 (s2.trans x2.st)
    rw [List.length_map] at es
    exact .inl ⟨es, q A acc Hk2 H2 x2 h0A hk2 hacc r⟩
theorem evs_lcYB {wi : TI} {g : TG} {te : TE} {vs : List Nat} {α : Type} {xs : List α} {enc : α → Da} (hi : ItD K wi δ (xs.map enc)) (f : α → Da) (hl : xs.length ≤ 90000)
    (hb : ∀ x ∈ xs, ∃ δ', TgD K g (enc x) (wipeS δ vs) δ' vs ∧ EvS K te δ' (f x)) : EvSN K (tLc wi g tYes te vs) δ (xs.map f) := by
  have h := evs_lcB (tt := tYes) hi (fun _ => true) f hl fun x hx => by
    obtain ⟨δ', h1, h2⟩ := hb x hx
    exact ⟨δ', h1, fun σ Hk D H s Q q => q H (Same.refl _), fun _ => h2⟩
  have e : xs.filter (fun _ => true) = xs := by simp
  rw [e] at h
  exact h
/-- a list's truth -/
theorem evt_tru {te : TE} {ds : List Da} (h : EvS K te δ (.lst ds)) : EvST K (truB K te) δ (!ds.isEmpty) := fun σ Hk D H s Q q =>
  h σ Hk D H s _ fun v Hs H' x r => by
    cases r with
    | lst e r1 =>
      rename_i a xs
      have hl := r1.len
      have em : xs.isEmpty = ds.isEmpty := by cases xs <;> cases ds <;> first | rfl | simp at hl
      exact ⟨!xs.isEmpty, .inl ⟨xs, SqL.of (x.st _ _ e), rfl⟩, by rw [em]; exact q H' x.up⟩
end
section
variable {C : Ct} {δ : List Sl} {D : Ends} {t1 t2 t3 : TS} {ds : List Da} {i : Nat} {x y : Str}
/-- xs.pop(), xs a list of the frame's own -/
theorem at_pop {d : Da} {σ : L2.St} {Hk H : Hp} {Q : VK} (a : At C δ σ Hk H) (e : δ[i]? = some (.own (ds ++ [d]))) (q : ∀ v H', At C (δ.set i (.own ds)) σ Hk H' → DR C.K Hk v d → Q v H') : tBM0 C.K "list" rPop (tVar i) σ H Q := by
  obtain ⟨l, xs, e1, e2, e3, e4, rs⟩ := a.own i _ e
  have e4 : H l = some (.lst xs) := e4
  have r := rs.rs
  have hl := r.len
  rw [List.length_append] at hl
  have hl : xs.length = ds.length + 1 := hl
  obtain ⟨v, hv, rv⟩ := r.at (i := ds.length) (d := d) (by rw [List.getElem?_append_right (Nat.le_refl _), Nat.sub_self] <;> rfl)
  have rd : DRs C.K Hk (xs.take ds.length) ds := by
    have := r.take ds.length
    rw [List.take_left] at this
    exact this
  have ed : xs.dropLast = xs.take ds.length := by rw [List.dropLast_eq_take, hl, Nat.add_sub_cancel]
  refine ⟨_, e1, .inl ⟨rfl, _, SqL.of e4⟩, l, xs, v, rfl, rfl, e4, by rw [hl, Nat.add_sub_cancel]; exact hv, ?_⟩
  rw [ed]
  exact q v _ (a.mutW (xs' := xs.take ds.length) (o' := ⟨none, none, ds⟩) e e1 (.lst rd)) rv
/-- if xs.pop() != y: .. -/
theorem go_popNe (e : δ[i]? = some (.own (ds ++ [.str x]))) (okx : okS x) (oky : okS y) (h1 : x ≠ y → Go C t1 D (δ.set i (.own ds))) (h2 : x = y → Go C t2 D (δ.set i (.own ds))) : Go C (tIfS (tTest (tOp (rNeD C.K) (tBM0 C.K "list" rPop (tVar i)) (tC (.str y)))) t1 t2) D δ := fun σ Hk H a => by
  refine at_pop a e fun v H' a' r => ?_
  cases r
  show rNeD C.K (V.str x) (V.str y) H' (fun z H2 => ∃ k, z = V.bl k ∧ (fun b H1 => if b = true then t1 D σ H1 else t2 D σ H1) k H2)
  refine rv_ne (K := C.K) (n := 3) (ok_str okx) (ok_str oky) (by decide) Hk H' _ _ a'.same (.str x) (.str y) _ fun w Hs H'' x2 r2 => ?_
  cases r2
  have a2 := a'.go x2
  refine ⟨_, rfl, ?_⟩
  rw [eqD_str]
  by_cases c : x = y
  · rw [decide_eq_true c]
    exact iteF (h2 c σ _ _ a2)
  · rw [decide_eq_false c]
    exact iteT (h1 c σ _ _ a2)
end
end Bw
namespace Bw
open PySem L2 PySem.Spec
theorem readR_snoc {r : Wd} : ∀ {rs ns : List Wd} {ps : List (Wd × Wd)}, readR ns ps (rs ++ [r]) = (readR ns ps rs).bind fun q => readR q.1 q.2 [r]
  | [], ns, ps => rfl
  | q :: rs, ns, ps => by
    rw [List.cons_append, readR, readR]
    cases rowW (splitC 32 q) with
    | name a =>
      dsimp only
      by_cases c : ps = []
      · rw [if_pos c, if_pos c]; exact readR_snoc
      · rw [if_neg c, if_neg c] <;> rfl
    | pair a b => exact readR_snoc
    | none => rfl
theorem readR_none {rs ss ns : List Wd} {ps : List (Wd × Wd)} (h : readR ns ps rs = none) : readR ns ps (rs ++ ss) = none := by
  induction ss generalizing rs with
  | nil => rw [List.append_nil]; exact h
  | cons s ss ih =>
    have := ih (rs := rs ++ [s]) (by rw [readR_snoc, h] <;> rfl)
    rwa [List.append_assoc] at this
/-- what a row's parts are, by the program's own forms -/
theorem rowW_form {ps : List Wd} {f : Wd} {n : Nat} : True := True.intro
theorem rowW_name {ps : List Wd} (h : ps.head? = some spW) (h2 : ps.length = 2) (h3 : ∀ p ∈ ps, p ≠ []) : ∃ a, ps = [spW, a] ∧ rowW ps = .name a := by
  match ps, h, h2 with
  | [f, a], h, _ =>
    have e : f = spW := by injection h
    subst e
    exact ⟨a, rfl, if_pos ⟨rfl, fun m => h3 _ m rfl⟩⟩
theorem rowW_pair {ps : List Wd} (h : ps.head? = some agW) (h2 : ps.length = 3) (h3 : ∀ p ∈ ps, p ≠ []) : ∃ a b, ps = [agW, a, b] ∧ rowW ps = .pair a b := by
  match ps, h, h2 with
  | [f, a, b], h, _ =>
    have e : f = agW := by injection h
    subst e
    exact ⟨a, b, rfl, if_pos ⟨rfl, fun m => h3 _ m rfl⟩⟩
theorem rowW_form1 {ps : List Wd} {a : Wd} (h : rowW ps = .name a) : ps.head? = some spW ∧ ps.length = 2 ∧ ∀ p ∈ ps, p ≠ [] := by
  unfold rowW at h
  split at h
  · split at h
    · rename_i f b c
      obtain ⟨rfl, c2⟩ := c
      exact ⟨rfl, rfl, fun p hp e => c2 (e ▸ hp)⟩
    · cases h
  · split at h <;> cases h
  · cases h
theorem rowW_form2 {ps : List Wd} {a b : Wd} (h : rowW ps = .pair a b) : ps.head? = some agW ∧ ps.length = 3 ∧ ∀ p ∈ ps, p ≠ [] := by
  unfold rowW at h
  split at h
  · split at h <;> cases h
  · split at h
    · rename_i f b1 b2 c
      obtain ⟨rfl, c2⟩ := c
      exact ⟨rfl, rfl, fun p hp e => c2 (e ▸ hp)⟩
    · cases h
  · cases h
end Bw
namespace Bw
open PySem L2 PySem.Spec
theorem splitC_len {c : Nat} : ∀ {l p : List Nat}, p ∈ splitC c l → p.length ≤ l.length
  | [], p, h => by
    rw [splitC, List.mem_singleton] at h
    subst h
    exact Nat.le_refl _
  | d :: r, p, h => by
    rw [splitC] at h
    by_cases e : d = c
    · rw [if_pos e] at h
      rcases List.mem_cons.mp h with rfl | h
      · exact Nat.zero_le _
      · exact Nat.le_succ_of_le (splitC_len h)
    · rw [if_neg e] at h
      cases q : splitC c r with
      | nil => exact absurd q (splitC_ne c r)
      | cons a t =>
        rw [q] at h
        rcases List.mem_cons.mp h with rfl | h
        · exact Nat.succ_le_succ (splitC_len (l := r) (by rw [q]; exact List.mem_cons_self ..))
        · exact Nat.le_succ_of_le (splitC_len (l := r) (by rw [q]; exact List.mem_cons_of_mem _ h))
theorem splitC_many {c : Nat} : ∀ l : List Nat, (splitC c l).length ≤ l.length + 1
  | [] => Nat.le_refl _
  | d :: r => by
    have ih := splitC_many (c := c) r
    rw [splitC]
    by_cases e : d = c
    · rw [if_pos e, List.length_cons, List.length_cons]; omega
    · rw [if_neg e]
      cases q : splitC c r with
      | nil => exact absurd q (splitC_ne c r)
      | cons a t =>
        rw [q] at ih
        show (((d :: a) :: t).length) ≤ _
        rw [List.length_cons] at ih ⊢
        rw [List.length_cons]
        omega
theorem small_intB : ∀ i : Nat, i < 200 → (Str.ofString (toString ((i : Nat) : Int))).length ≤ 1000 ∧ (((i : Nat) : Int).natAbs.log2 < 1920) := by decide +kernel
end Bw
set_option Elab.async false
set_option linter.all false
set_option maxRecDepth 100000
set_option maxHeartbeats 4000000
/-! # x.replace(y, z, 1), raw -/
namespace Bw
open PySem PySem.Spec PyProof.Rows Builtin Builtin.Str
def cuts1 (x y : Str) : List Nat := occurrences x y 0 x.length 1
def rep1 (x y z : Str) : Str := if ((cuts1 x y).isEmpty || (y.length == 0 && z.length == 0)) = true then x else glued z (partsBetween x (cuts1 x y) y.length)
theorem gives_rep1 (x y z : Str) (t u v n : Tok) (h0 : (u == 0 || v == 0) = false) (huv : (u == v) = false) (hyz : (y == z) = false)
    (hl : tooLong (x.length + (cuts1 x y).length * z.length) = false) :
    Gives («str.replace» ⟨[.str x t, .str y u, .str z v, .int 1 n], []⟩) (if ((cuts1 x y).isEmpty || (y.length == 0 && z.length == 0)) = true then .val (.str x t) else .str (glued z (partsBetween x (cuts1 x y) y.length))) := by
  show Gives (do let most ← countLimit "str.replace" (some (.int 1 n)) (x.length + 1); _) _
  rw [countLimit_int "str.replace" 1 n (x.length + 1) (by decide)]
  show Gives (if ((cuts1 x y).isEmpty || (y.length == 0 && z.length == 0)) = true then _ else _) _
  cases hc : ((cuts1 x y).isEmpty || (y.length == 0 && z.length == 0))
  · simp only [Bool.false_eq_true, if_false]
    rw [isSame_str_other y z u v h0 huv hyz]
    show Gives (if tooLong (x.length + (cuts1 x y).length * z.length) = true then _ else _) _
    rw [hl]
    exact .of_eq rfl
  · exact .rule (.of_eq rfl)
theorem fits_rep1 {x z : Str} (y : Str) (hb : x.length + (x.length + 1) * z.length ≤ 16777216) : (glued z (partsBetween x (cuts1 x y) y.length)).length ≤ sizeLine := by
  have h1 : (cuts1 x y).length ≤ x.length + 1 := StrLaws.occ_length_le_len x y 0 x.length 1
  have hy : (glued y (partsBetween x (cuts1 x y) y.length)).length = x.length := by unfold cuts1; rw [StrLaws.glued_between_self]
  rw [size_glued, length_partsBetween, Nat.add_sub_cancel] at hy
  rw [size_glued, length_partsBetween, Nat.add_sub_cancel, sizeLine_eq]
  have h2 : (cuts1 x y).length * z.length ≤ (x.length + 1) * z.length := Nat.mul_le_mul_right _ h1
  omega
theorem call_rep1 {prog : Program} {w : World} {A : Around} {E : Value → Shared → Prop} {s : Shared} {x y z : Str} {t u v n : Tok} {Q : Value → Shared → Prop} (hu : u ≠ 0) (hv : v ≠ 0) (huv : u ≠ v) (hyz : (y == z) = false) (hb : x.length + (x.length + 1) * z.length ≤ 16777216)
    (hq : ∀ t' k, Q (.str (rep1 x y z) t') { s with toks := k }) : wpAny (model prog w) A (call (.builtin "str.replace") [.str x t, .str y u, .str z v, .int 1 n]) Q E s := by
  have h1 : (cuts1 x y).length ≤ x.length + 1 := StrLaws.occ_length_le_len x y 0 x.length 1
  have hl : tooLong (x.length + (cuts1 x y).length * z.length) = false := by
    have h2 : (cuts1 x y).length * z.length ≤ (x.length + 1) * z.length := Nat.mul_le_mul_right _ h1
    unfold tooLong
    rw [sizeLine_eq]
    exact decide_eq_false (by omega)
  refine call_gives F.slot_str_replace (typeIs_str _ _ _) F.entry_str_replace (F.args_str_replace_4 _ _ _ _) (gives_rep1 x y z t u v n (by simp [hu, hv]) (by simp [huv]) hyz hl) ?_
  have hq' := hq
  unfold rep1 at hq'
  cases hc : ((cuts1 x y).isEmpty || (y.length == 0 && z.length == 0))
  · rw [hc] at hq'
    simp only [Bool.false_eq_true, if_false] at hq' ⊢
    exact ⟨fits_rep1 y hb, hq' _ _⟩
  · rw [hc] at hq'
    simp only [if_true] at hq' ⊢
    exact hq' t s.toks
open L2 in
/-- the call, raw: the tokens of the two literals are not 0, for what stood ahead has taken one -/
theorem raw_rep1 {X : Cx} {pins : List (Addr × Obj)} {s : Shared} {σ : L2.St} {H : L2.Hp} {Q : L2.VK} {ik : Nat} {kx x a b : Str} {j0 j1 j2 : Nat} {p1 c0 c1 c2 apos pos : Pos} (hNk : X.N[ik]? = some kx) (hvk : Vis X.env.scope kx)
    (hdk : (kx == ("__debug__" : Str)) = false := by decide) (hck : (kx == ("__classdict__" : Str)) = false := by decide)
    (hst : starEach [.Constant (.str a) j0 c0, .Constant (.str b) j1 c1, .Constant (.int 1) j2 c2] X.env = [(false, eval (.Constant (.str a) j0 c0) X.env), (false, eval (.Constant (.str b) j1 c1) X.env), (false, eval (.Constant (.int 1) j2 c2) X.env)] := by rfl)
    (hbase : attributeBase (.Name kx p1) "replace" X.env (eval (.Name kx p1) X.env) = eval (.Name kx p1) X.env := by rfl) (hline : (apos.endLine == pos.line) = true)
    (I : Inv X pins σ H s) (ht : s.toks ≠ 0) (hx : σ[ik]? = some (some (.str x))) (ab : (a == b) = false) (hb : x.length + (x.length + 1) * b.length ≤ 16777216) (q : Q (.str (rep1 x a b)) H) :
    wpAny (model X.prog X.w) X.A (eval (.Call (.Attribute (.Name kx p1) "replace" apos) [.Constant (.str a) j0 c0, .Constant (.str b) j1 c1, .Constant (.int 1) j2 c2] [] pos) X.env) (EP X pins σ Q) X.xe s := by
  refine wpAny_Call_method_lateS hbase (by rw [hst]; rfl) hline ?_
  rw [hst]
  refine raw_name hNk hvk I hx (fun v r => ?_) hdk hck
  obtain ⟨tx, e⟩ := r
  subst e
  refine ⟨"str", _, F.plainAttrs_str, F.slot_str_replace, F.type_str_replace, typeIs_str _ _ _, (fun _ e => nomatch e), Calls.callWith_builtin rfl (Calls.evalArgs_plain (Calls.spliced_cons (Calls.Constant_str (k := j0) (pos := c0) (Calls.spliced_cons (Calls.Constant_str (k := j1) (pos := c1) (Calls.spliced_cons (wpAny_Constant_int (k := j2) (pos := c2) (Calls.spliced_nil ?_))))))))⟩
  exact call_rep1 ht (by show s.toks + 1 ≠ 0; exact Nat.succ_ne_zero _) (by show s.toks ≠ s.toks + 1; exact (Nat.succ_ne_self _).symm) ab hb fun t' k => ⟨.str (rep1 x a b), H, I.tok k, ⟨t', rfl⟩, q⟩
end Bw
set_option Elab.async false
set_option linter.all false
set_option maxRecDepth 100000
set_option maxHeartbeats 4000000
/-! # [.., x + c, x.replace(a, b, 1)] -/
namespace Bw
open PySem PySem.Spec PyProof.Rows L2
theorem empty_app {x c : Str} (h : (x.length == 0) = true) : x ++ c = c := by
  have e : x.cps.size = 0 := eq_of_beq h
  have e2 : x.cps = #[] := Array.eq_empty_of_size_eq_zero e
  show (⟨x.cps ++ c.cps⟩ : Str) = c
  rw [e2, Array.empty_append]
def tAddRep (ik : Nat) (c a b : Str) : TA := fun σ H Q => ∃ x : Str, σ[ik]? = some (some (.str x)) ∧ x.length + c.length ≤ 100000 ∧ x.length + (x.length + 1) * b.length ≤ 16777216 ∧ Q [.str (x ++ c), .str (rep1 x a b)] H
theorem pa_rep1 {X : Cx} {ik : Nat} {kx c a b : Str} {jc j0 j1 j2 : Nat} {pa pc pb p1 c0 c1 c2 apos pos : Pos} (hNk : X.N[ik]? = some kx) (hvk : Vis X.env.scope kx) (ab : (a == b) = false) (hc : (c.length == 0) = false)
    (hdk : (kx == ("__debug__" : Str)) = false := by decide) (hck : (kx == ("__classdict__" : Str)) = false := by decide)
    (hs : starEach [.BinOp (.Name kx pa) .Add (.Constant (.str c) jc pc) pb, .Call (.Attribute (.Name kx p1) "replace" apos) [.Constant (.str a) j0 c0, .Constant (.str b) j1 c1, .Constant (.int 1) j2 c2] [] pos] X.env = [(false, eval (.BinOp (.Name kx pa) .Add (.Constant (.str c) jc pc) pb) X.env), (false, eval (.Call (.Attribute (.Name kx p1) "replace" apos) [.Constant (.str a) j0 c0, .Constant (.str b) j1 c1, .Constant (.int 1) j2 c2] [] pos) X.env)] := by rfl)
    (hst : starEach [.Constant (.str a) j0 c0, .Constant (.str b) j1 c1, .Constant (.int 1) j2 c2] X.env = [(false, eval (.Constant (.str a) j0 c0) X.env), (false, eval (.Constant (.str b) j1 c1) X.env), (false, eval (.Constant (.int 1) j2 c2) X.env)] := by rfl)
    (hbase : attributeBase (.Name kx p1) "replace" X.env (eval (.Name kx p1) X.env) = eval (.Name kx p1) X.env := by rfl) (hline : (apos.endLine == pos.line) = true := by rfl) :
    PA X [.BinOp (.Name kx pa) .Add (.Constant (.str c) jc pc) pb, .Call (.Attribute (.Name kx p1) "replace" apos) [.Constant (.str a) j0 c0, .Constant (.str b) j1 c1, .Constant (.int 1) j2 c2] [] pos] (tAddRep ik c a b) := by
  refine ⟨fun pos' pins s σ H Q I h => ?_⟩
  obtain ⟨x, hx, hl, hb, q⟩ := h
  rw [hs]
  have last : ∀ (s2 : Shared) (v : Value), Inv X pins σ H s2 → s2.toks ≠ 0 → RelV (.str (x ++ c)) v → wpAny (model X.prog X.w) X.A (spliced [(false, eval (.Call (.Attribute (.Name kx p1) "replace" apos) [.Constant (.str a) j0 c0, .Constant (.str b) j1 c1, .Constant (.int 1) j2 c2] [] pos) X.env)]) (fun vs s₂ => AP X pins σ Q (v :: vs) s₂) X.xe s2 := fun s2 v I2 ht rv =>
    Calls.spliced_cons (thn (raw_rep1 (Q := fun z H' => z = .str (rep1 x a b) ∧ H' = H) hNk hvk hdk hck hst hbase hline I2 ht hx ab hb ⟨rfl, rfl⟩) fun u s3 ⟨z, H3, I3, r3, e1, e2⟩ => Calls.spliced_nil (by subst e1; subst e2; exact ⟨[.str (x ++ c), .str (rep1 x a b)], H3, I3, .cons rv (.cons r3 .nil), q⟩))
  refine Calls.spliced_cons (wpAny_BinOp (raw_name hNk hvk I hx (fun v r => ?_) hdk hck))
  obtain ⟨tx, e⟩ := r
  subst e
  refine Calls.Constant_str (k := jc) (pos := pc) ?_
  have I1 : Inv X pins σ H { s with toks := s.toks + 1 } := I.tok _
  refine PySem.P.add_str ?_
  cases hx0 : (x.length == 0)
  · simp only [hc, Bool.false_eq_true, if_false]
    exact ⟨by
      have e : (x ++ c).length = x.length + c.length := by
        show (x.cps ++ c.cps).size = _
        rw [Array.size_append] <;> rfl
      rw [e, sizeLine_eq]
      omega, last _ _ (I.tok _) (by show s.toks + 1 + 1 ≠ 0; exact Nat.succ_ne_zero _) ⟨_, rfl⟩⟩
  · simp only [if_true]
    refine last _ _ I1 (by show s.toks + 1 ≠ 0; exact Nat.succ_ne_zero _) ?_
    rw [empty_app hx0]
    exact ⟨_, rfl⟩
section
variable {K : PySem.W.Frag} {δ : List Sl}
theorem evs_addRep {i : Nat} {x c a b : Str} (h : δ[i]? = some (.dat (.str x))) (h1 : x.length + c.length ≤ 100000) (h2 : x.length + (x.length + 1) * b.length ≤ 16777216) : EvSA K (tAddRep i c a b) δ [.str (x ++ c), .str (rep1 x a b)] := fun σ Hk D H s Q q => by
  obtain ⟨v, e, r⟩ := D.get i _ h
  cases r
  exact ⟨x, e, h1, h2, q _ Hk H (Ext.refl s) (.cons (.str _) (.cons (.str _) .nil))⟩
end
end Bw
set_option Elab.async false
set_option linter.all false
set_option maxRecDepth 100000
set_option maxHeartbeats 2000000
/-! # a spoilt text, by lists of signs -/
namespace Bw
open PySem L2 PySem.Spec PyProof.Rows Builtin Builtin.Str
theorem joinL_mem {z : List Nat} {c : Nat} : ∀ {ps : List (List Nat)}, c ∈ TL.joinL z ps → c ∈ z ∨ ∃ p ∈ ps, c ∈ p
  | [], h => by cases h
  | [p], h => .inr ⟨p, List.mem_cons_self .., h⟩
  | p :: q :: r, h => by
    have h : c ∈ p ++ (z ++ TL.joinL z (q :: r)) := h
    rcases List.mem_append.mp h with h | h
    · exact .inr ⟨p, List.mem_cons_self .., h⟩
    · rcases List.mem_append.mp h with h | h
      · exact .inl h
      · rcases joinL_mem h with h | ⟨p2, m, h⟩
        · exact .inl h
        · exact .inr ⟨p2, List.mem_cons_of_mem _ m, h⟩
theorem joinL_sub {z p : List Nat} {c : Nat} : ∀ {ps : List (List Nat)}, p ∈ ps → c ∈ p → c ∈ TL.joinL z ps
  | [], h, _ => by cases h
  | [q], h, m => by
    rw [List.mem_singleton] at h
    subst h
    exact m
  | q :: q2 :: r, h, m => by
    show c ∈ q ++ (z ++ TL.joinL z (q2 :: r))
    rcases List.mem_cons.mp h with h | h
    · subst h
      exact List.mem_append_left _ m
    · exact List.mem_append_right _ (List.mem_append_right _ (joinL_sub h m))
theorem joinL_cnt {z : List Nat} {c : Nat} (hz : z.count c = 0) : ∀ {ps : List (List Nat)}, (TL.joinL z ps).count c = (ps.map (·.count c)).sum
  | [] => rfl
  | [p] => by
    show p.count c = p.count c + 0
    rfl
  | p :: q :: r => by
    show (p ++ (z ++ TL.joinL z (q :: r))).count c = _
    rw [List.count_append, List.count_append, hz, joinL_cnt hz (ps := q :: r), Nat.zero_add] <;> rfl
theorem rep1_cases (x y z : Str) : rep1 x y z = x ∨ ∃ ps : List (List Nat), TL.joinL (TL.tl y) ps = TL.tl x ∧ TL.tl (rep1 x y z) = TL.joinL (TL.tl z) ps := by
  unfold rep1
  split
  · exact .inl rfl
  · refine .inr ⟨(partsBetween x (cuts1 x y) y.length).map TL.tl, ?_, ?_⟩
    · rw [← TL.tl_join, ← StrLaws.glued_eq_join]
      unfold cuts1
      rw [StrLaws.glued_between_self]
    · rw [StrLaws.glued_eq_join, TL.tl_join]
theorem rep1_len (x y z : Str) : (rep1 x y z).length ≤ x.length + (x.length + 1) * z.length := by
  unfold rep1
  split
  · exact Nat.le_add_right ..
  · have h1 : (cuts1 x y).length ≤ x.length + 1 := StrLaws.occ_length_le_len x y 0 x.length 1
    have hy : (glued y (partsBetween x (cuts1 x y) y.length)).length = x.length := by unfold cuts1; rw [StrLaws.glued_between_self]
    rw [size_glued, length_partsBetween, Nat.add_sub_cancel] at hy
    rw [size_glued, length_partsBetween, Nat.add_sub_cancel]
    have h2 : (cuts1 x y).length * z.length ≤ (x.length + 1) * z.length := Nat.mul_le_mul_right _ h1
    omega
def sgW : Wd := [97, 98, 115, 116, 32, 10, 32, 49, 65, 45, 46, 97, 103, 97, 105, 110, 115, 116]
theorem sgW_S : ("abst \n 1A-.against" : Str) = S sgW := by decide +kernel
/-- the rows chosen -/
def someW (rows : List Wd) (way k : Nat) : List Wd :=
  if way = 0 then rows.take k ++ rows.drop (k + 1) else if way = 1 then (rows.take k ++ (rows.drop k).take 1) ++ rows.drop k else rows.drop k ++ rows.take k
def repW (l : Wd) : Wd := TL.tl (rep1 (S l) (S [32]) (S [32, 32]))
def oddW (l : Wd) (k : Nat) : Wd := if k = 0 then l.dropLast else if k = 1 then l ++ [10] else if k = 2 then 10 :: l else if k = 3 then l ++ [120] else repW l
def signsW (l : Wd) (way place c : Nat) : Wd := if way < 6 then l.take place ++ c :: l.drop place else if way = 6 then l.take place ++ l.drop (place + 1) else l.take place ++ c :: l.drop (place + 1)
def rowsC (l : Wd) : List Wd := (splitC 10 l).dropLast
def spoilW (l : Wd) (m : Nat) : Wd :=
  if m % 9 < 3 ∧ m / 9 % ((rowsC l).length + 1) < (rowsC l).length then ((someW (rowsC l) (m % 9) (m / 9 % ((rowsC l).length + 1))).map (· ++ [10])).flatten
  else if m % 9 = 3 then oddW l (m / 9 % 5)
  else signsW l (m % 9) (m / 9 % (l.length + 1)) (sgW.getD (m / 9000 % 18) 0)
theorem repW_mem {l : Wd} {c : Nat} (h : c ∈ repW l) : c ∈ l ∨ c = 32 := by
  unfold repW at h
  rcases rep1_cases (S l) (S [32]) (S [32, 32]) with e | ⟨ps, e1, e2⟩
  · rw [e, tl_S] at h
    exact .inl h
  · rw [e2, tl_S] at h
    rcases joinL_mem h with h | ⟨p, m, h⟩
    · exact .inr (by simpa using h)
    · left
      have := joinL_sub (z := TL.tl (S [32])) m h
      rw [e1, tl_S] at this
      exact this
theorem repW_len (l : Wd) : (repW l).length ≤ 3 * l.length + 2 := by
  have := rep1_len (S l) (S [32]) (S [32, 32])
  have e : (repW l).length = (rep1 (S l) (S [32]) (S [32, 32])).length := by
    show (TL.tl _).length = _
    conv => rhs; rw [← S_tl (rep1 (S l) (S [32]) (S [32, 32]))]
    rw [S_len]
  rw [e]
  rw [S_len, S_len] at this
  have e2 : ([32, 32] : List Nat).length = 2 := rfl
  rw [e2] at this
  omega
theorem repW_cnt (l : Wd) : (repW l).count 10 ≤ l.count 10 := by
  unfold repW
  rcases rep1_cases (S l) (S [32]) (S [32, 32]) with e | ⟨ps, e1, e2⟩
  · rw [e, tl_S]
    exact Nat.le_refl _
  · have h1 := joinL_cnt (z := TL.tl (S [32])) (c := 10) (by rw [tl_S]; decide) (ps := ps)
    have h2 := joinL_cnt (z := TL.tl (S [32, 32])) (c := 10) (by rw [tl_S]; decide) (ps := ps)
    rw [e1, tl_S] at h1
    rw [e2, h2, h1]
    exact Nat.le_refl _
theorem split_cnt (c : Nat) : ∀ l : List Nat, (splitC c l).length = l.count c + 1
  | [] => rfl
  | d :: r => by
    have ih := split_cnt c r
    rw [splitC]
    by_cases e : d = c
    · rw [if_pos e, List.length_cons, ih, e, List.count_cons_self]
    · rw [if_neg e, List.count_cons_of_ne e]
      cases q : splitC c r with
      | nil => exact absurd q (splitC_ne c r)
      | cons a t =>
        rw [q] at ih
        exact ih
theorem rowsC_len (l : Wd) : (rowsC l).length = l.count 10 := by
  unfold rowsC
  rw [List.length_dropLast, split_cnt]
  rfl
def sumL (rs : List Wd) : Nat := (rs.map fun r => r.length + 1).sum
theorem sumL_app (a b : List Wd) : sumL (a ++ b) = sumL a + sumL b := by
  unfold sumL
  rw [List.map_append, List.sum_append]
theorem sumL_cons (a : Wd) (b : List Wd) : sumL (a :: b) = a.length + 1 + sumL b := rfl
theorem sumL_take (rs : List Wd) (k : Nat) : sumL (rs.take k) ≤ sumL rs := by
  conv => rhs; rw [← List.take_append_drop k rs]
  rw [sumL_app]
  exact Nat.le_add_right ..
theorem sumL_drop (rs : List Wd) (k : Nat) : sumL (rs.drop k) ≤ sumL rs := by
  conv => rhs; rw [← List.take_append_drop k rs]
  rw [sumL_app]
  exact Nat.le_add_left ..
theorem sumL_split (c : Nat) : ∀ l : List Nat, sumL (splitC c l) = l.length + 1
  | [] => rfl
  | d :: r => by
    have ih := sumL_split c r
    rw [splitC]
    by_cases e : d = c
    · rw [if_pos e, sumL_cons, ih, List.length_cons, List.length_nil]
      omega
    · rw [if_neg e]
      cases q : splitC c r with
      | nil => exact absurd q (splitC_ne c r)
      | cons a t =>
        rw [q, sumL_cons] at ih
        show sumL ((d :: a) :: t) = _
        rw [sumL_cons, List.length_cons, List.length_cons]
        omega
theorem sumL_rows (l : Wd) : sumL (rowsC l) ≤ l.length + 1 := by
  rw [← sumL_split 10 l]
  unfold rowsC
  rw [List.dropLast_eq_take]
  exact sumL_take ..
theorem someW_sum (rows : List Wd) (way k : Nat) : sumL (someW rows way k) ≤ 3 * sumL rows := by
  have h1 := sumL_take rows k
  have h2 := sumL_drop rows k
  have h3 := sumL_drop rows (k + 1)
  have h4 := sumL_take (rows.drop k) 1
  unfold someW
  split
  · rw [sumL_app]; omega
  split
  · rw [sumL_app, sumL_app]; omega
  · rw [sumL_app]; omega
theorem someW_len (rows : List Wd) (way k : Nat) : (someW rows way k).length ≤ rows.length + 1 := by
  unfold someW
  split
  · simp only [List.length_append, List.length_take, List.length_drop]; omega
  split
  · simp only [List.length_append, List.length_take, List.length_drop]; omega
  · simp only [List.length_append, List.length_take, List.length_drop]; omega
theorem someW_mem {rows : List Wd} {way k : Nat} {r : Wd} (h : r ∈ someW rows way k) : r ∈ rows := by
  unfold someW at h
  split at h
  · rcases List.mem_append.mp h with h | h
    · exact List.mem_of_mem_take h
    · exact List.mem_of_mem_drop h
  split at h
  · rcases List.mem_append.mp h with h | h
    · rcases List.mem_append.mp h with h | h
      · exact List.mem_of_mem_take h
      · exact List.mem_of_mem_drop (List.mem_of_mem_take h)
    · exact List.mem_of_mem_drop h
  · rcases List.mem_append.mp h with h | h
    · exact List.mem_of_mem_drop h
    · exact List.mem_of_mem_take h
theorem rowsC_sub {l r : Wd} (h : r ∈ rowsC l) : 10 ∉ r ∧ (∀ c ∈ r, c ∈ l) ∧ r.length ≤ l.length := by
  have h := List.dropLast_subset _ h
  exact ⟨splitC_free h, fun c hc => splitC_sub h hc, splitC_len h⟩
theorem flat_len (rs : List Wd) : ((rs.map (· ++ [10])).flatten).length = sumL rs := by
  induction rs with
  | nil => rfl
  | cons r rs ih =>
    rw [List.map_cons, List.flatten_cons, List.length_append, ih, sumL_cons, List.length_append]
    rfl
theorem flat_cnt : ∀ {rs : List Wd}, (∀ r ∈ rs, 10 ∉ r) → ((rs.map (· ++ [10])).flatten).count 10 = rs.length
  | [], _ => rfl
  | r :: rs, h => by
    rw [List.map_cons, List.flatten_cons, List.count_append, flat_cnt fun r h2 => h r (List.mem_cons_of_mem _ h2), List.count_append, List.count_eq_zero_of_not_mem (h r (List.mem_cons_self ..)), List.length_cons]
    have : ([10] : List Nat).count 10 = 1 := rfl
    omega
theorem flat_mem {rs : List Wd} {c : Nat} (h : c ∈ (rs.map (· ++ [10])).flatten) : c = 10 ∨ ∃ r ∈ rs, c ∈ r := by
  obtain ⟨x, hx, hc⟩ := List.mem_flatten.mp h
  obtain ⟨r, hr, rfl⟩ := List.mem_map.mp hx
  rcases List.mem_append.mp hc with h | h
  · exact .inr ⟨r, hr, h⟩
  · exact .inl (by simpa using h)
theorem take_cnt (l : Wd) (k c : Nat) : (l.take k).count c + (l.drop k).count c = l.count c := by
  rw [← List.count_append, List.take_append_drop]
theorem drop_cnt (l : Wd) (k c : Nat) : (l.drop (k + 1)).count c ≤ (l.drop k).count c := by
  rw [← List.drop_drop]
  have := take_cnt (l.drop k) 1 c
  omega
theorem one_cnt (d c : Nat) (l : Wd) : (d :: l).count c ≤ l.count c + 1 := by
  rw [List.count_cons]
  split <;> omega
theorem spoil_len (l : Wd) (m : Nat) : (spoilW l m).length ≤ 3 * l.length + 3 := by
  unfold spoilW
  split
  · rw [flat_len]
    have h1 := someW_sum (rowsC l) (m % 9) (m / 9 % ((rowsC l).length + 1))
    have h2 := sumL_rows l
    omega
  split
  · unfold oddW
    have := repW_len l
    split
    · rw [List.length_dropLast]; omega
    split
    · rw [List.length_append, List.length_cons, List.length_nil]; omega
    split
    · rw [List.length_cons]; omega
    split
    · rw [List.length_append, List.length_cons, List.length_nil]; omega
    · omega
  · unfold signsW
    split
    · simp only [List.length_append, List.length_take, List.length_drop, List.length_cons]; omega
    split
    · simp only [List.length_append, List.length_take, List.length_drop, List.length_cons]; omega
    · simp only [List.length_append, List.length_take, List.length_drop, List.length_cons]; omega
theorem spoil_cnt (l : Wd) (m : Nat) : (spoilW l m).count 10 ≤ l.count 10 + 1 := by
  unfold spoilW
  split
  · rw [flat_cnt fun r h => (rowsC_sub (someW_mem h)).1]
    have h1 := someW_len (rowsC l) (m % 9) (m / 9 % ((rowsC l).length + 1))
    rw [rowsC_len] at h1
    rw [rowsC_len]
    omega
  split
  · unfold oddW
    have := repW_cnt l
    split
    · rw [List.dropLast_eq_take]
      have := take_cnt l (l.length - 1) 10
      omega
    split
    · rw [List.count_append]
      have : ([10] : List Nat).count 10 = 1 := rfl
      omega
    split
    · exact one_cnt 10 10 l
    split
    · rw [List.count_append]
      have : ([120] : List Nat).count 10 = 0 := rfl
      omega
    · omega
  · unfold signsW
    generalize m / 9 % (l.length + 1) = k
    have h1 := take_cnt l k 10
    have h2 := drop_cnt l k 10
    generalize sgW.getD (m / 9000 % 18) 0 = d
    have h3 := one_cnt d 10 (l.drop k)
    have h4 := one_cnt d 10 (l.drop (k + 1))
    split
    · rw [List.count_append]; omega
    split
    · rw [List.count_append]; omega
    · rw [List.count_append]; omega
theorem spoil_mem {l : Wd} {m c : Nat} (h : c ∈ spoilW l m) : c ∈ l ∨ c ∈ sgW ∨ c = 32 ∨ c = 10 ∨ c = 120 := by
  unfold spoilW at h
  split at h
  · rcases flat_mem h with h | ⟨r, hr, h⟩
    · exact .inr (.inr (.inr (.inl h)))
    · exact .inl ((rowsC_sub (someW_mem hr)).2.1 c h)
  split at h
  · unfold oddW at h
    split at h
    · exact .inl (List.dropLast_subset _ h)
    split at h
    · rcases List.mem_append.mp h with h | h
      · exact .inl h
      · exact .inr (.inr (.inr (.inl (by simpa using h))))
    split at h
    · rcases List.mem_cons.mp h with h | h
      · exact .inr (.inr (.inr (.inl h)))
      · exact .inl h
    split at h
    · rcases List.mem_append.mp h with h | h
      · exact .inl h
      · exact .inr (.inr (.inr (.inr (by simpa using h))))
    · rcases repW_mem h with h | h
      · exact .inl h
      · exact .inr (.inr (.inl h))
  · have hs : sgW.getD (m / 9000 % 18) 0 ∈ sgW := by
      have : m / 9000 % 18 < sgW.length := Nat.mod_lt _ (by decide)
      rw [List.getD_eq_getElem?_getD, List.getElem?_eq_getElem this]
      exact List.getElem_mem this
    unfold signsW at h
    generalize sgW.getD (m / 9000 % 18) 0 = d at h hs
    split at h
    · rcases List.mem_append.mp h with h | h
      · exact .inl (List.mem_of_mem_take h)
      · rcases List.mem_cons.mp h with h | h
        · exact .inr (.inl (h ▸ hs))
        · exact .inl (List.mem_of_mem_drop h)
    split at h
    · rcases List.mem_append.mp h with h | h
      · exact .inl (List.mem_of_mem_take h)
      · exact .inl (List.mem_of_mem_drop h)
    · rcases List.mem_append.mp h with h | h
      · exact .inl (List.mem_of_mem_take h)
      · rcases List.mem_cons.mp h with h | h
        · exact .inr (.inl (h ▸ hs))
        · exact .inl (List.mem_of_mem_drop h)
end Bw
set_option Elab.async false
set_option linter.all false
set_option maxRecDepth 100000
set_option maxHeartbeats 4000000
namespace Bw
open PySem L2
local macro_rules | `(tactic| walk_at "side") => `(tactic| first
  | omega
  | exact True.intro
  | assumption
  | exact .inl ⟨by omega, by omega⟩
  | exact .inr ⟨by omega, by omega⟩
  | exact ⟨by omega, by omega⟩
  | exact .inl rfl
  | exact .inr rfl
  | (simp only [List.length_cons, List.length_nil]; omega)
  | exact abc_at (by omega) (by omega)
  | exact hop_at (by omega) (by omega)
  | exact most_at (by omega) (by omega)
  | (simp only [S_one, cutS_S, cut_to, cut_from, S_app, S_len, bas_len, List.length_cons, List.length_nil, List.length_append, List.length_take, List.length_drop]; omega)
  | decide
  | rfl
  | assumption)
/-! ### the text by places -/
def topS (i : Nat) : Stmt := PySem.Challenge.pw_benchword_k15_written_and_read.main.body.getD i (.Pass ⟨0, 0, 0, 0⟩)
/-- _wall -/
abbrev s__wall : Stmt := topS 0
abbrev N__wall : List Str := ["k"]
theorem sc__wall : FnScope N__wall ["k"] (defScope s__wall) := ⟨rfl, rfl, rfl, by decide +kernel, rfl, by decide +kernel, by decide +kernel⟩
/-- is_name -/
abbrev s_is_name : Stmt := topS 13
abbrev N_is_name : List Str := ["thing", "sign"]
theorem sc_is_name : FnScope N_is_name ["thing"] (defScope s_is_name) := ⟨rfl, rfl, rfl, by decide +kernel, rfl, by decide +kernel, by decide +kernel⟩
/-- Bench.__init__ -/
abbrev s_Bench_init : Stmt := inClass (topS 14) 0
abbrev N_Bench_init : List Str := ["self", "names", "pairs"]
theorem sc_Bench_init : FnScope N_Bench_init ["self", "names", "pairs"] (defScope s_Bench_init) := ⟨rfl, rfl, rfl, by decide +kernel, rfl, by decide +kernel, by decide +kernel⟩
/-- Bench.speakers -/
abbrev s_Bench_speakers : Stmt := inClass (topS 14) 1
abbrev N_Bench_speakers : List Str := ["self", "name"]
theorem sc_Bench_speakers : FnScope N_Bench_speakers ["self", "name"] (defScope s_Bench_speakers) := ⟨rfl, rfl, rfl, by decide +kernel, rfl, by decide +kernel, by decide +kernel⟩
/-- checked_names -/
abbrev s_checked_names : Stmt := topS 15
abbrev N_checked_names : List Str := ["names", "told", "at", "thing"]
theorem sc_checked_names : FnScope N_checked_names ["names"] (defScope s_checked_names) := ⟨rfl, rfl, rfl, by decide +kernel, rfl, by decide +kernel, by decide +kernel⟩
/-- checked_pairs -/
abbrev s_checked_pairs : Stmt := topS 16
abbrev N_checked_pairs : List Str := ["pairs", "names", "told", "one", "other"]
theorem sc_checked_pairs : FnScope N_checked_pairs ["pairs", "names"] (defScope s_checked_pairs) := ⟨rfl, rfl, rfl, by decide +kernel, rfl, by decide +kernel, by decide +kernel⟩
/-- check_speech -/
abbrev s_check_speech : Stmt := topS 17
abbrev N_check_speech : List Str := ["names", "name"]
theorem sc_check_speech : FnScope N_check_speech ["names", "name"] (defScope s_check_speech) := ⟨rfl, rfl, rfl, by decide +kernel, rfl, by decide +kernel, by decide +kernel⟩
/-- written -/
abbrev s_written : Stmt := topS 21
abbrev N_written : List Str := ["bench", "speeches", "pairs", "name", "one", "other"]
theorem sc_written : FnScope N_written ["bench"] (defScope s_written) := ⟨rfl, rfl, rfl, by decide +kernel, rfl, by decide +kernel, by decide +kernel⟩
/-- read -/
abbrev s_read : Stmt := topS 22
abbrev N_read : List Str := ["text", "names", "pairs", "at", "row", "parts"]
theorem sc_read : FnScope N_read ["text"] (defScope s_read) := ⟨rfl, rfl, rfl, by decide +kernel, rfl, by decide +kernel, by decide +kernel⟩
/-- rows_of -/
abbrev s_rows_of : Stmt := topS 23
abbrev N_rows_of : List Str := ["text", "rows"]
theorem sc_rows_of : FnScope N_rows_of ["text"] (defScope s_rows_of) := ⟨rfl, rfl, rfl, by decide +kernel, rfl, by decide +kernel, by decide +kernel⟩
/-- is_form -/
abbrev s_is_form : Stmt := topS 24
abbrev N_is_form : List Str := ["parts", "first", "many", "part"]
theorem sc_is_form : FnScope N_is_form ["parts", "first", "many"] (defScope s_is_form) := ⟨rfl, rfl, rfl, by decide +kernel, rfl, by decide +kernel, by decide +kernel⟩
/-- is_word -/
abbrev s_is_word : Stmt := topS 25
abbrev N_is_word : List Str := ["part", "sign"]
theorem sc_is_word : FnScope N_is_word ["part"] (defScope s_is_word) := ⟨rfl, rfl, rfl, by decide +kernel, rfl, by decide +kernel, by decide +kernel⟩
/-- _law_cell_at -/
abbrev s_l_cell_at : Stmt := topS 27
abbrev N_l_cell_at : List Str := ["_law_script", "_law_k"]
theorem sc_l_cell_at : FnScope N_l_cell_at ["_law_script", "_law_k"] (defScope s_l_cell_at) := ⟨rfl, rfl, rfl, by decide +kernel, rfl, by decide +kernel, by decide +kernel⟩
/-- _law_mixed -/
abbrev s_l_mixed : Stmt := topS 28
abbrev N_l_mixed : List Str := ["_law_cell", "_law_k", "_law_mix"]
theorem sc_l_mixed : FnScope N_l_mixed ["_law_cell", "_law_k"] (defScope s_l_mixed) := ⟨rfl, rfl, rfl, by decide +kernel, rfl, by decide +kernel, by decide +kernel⟩
/-- _law_names -/
abbrev s_l_names : Stmt := topS 29
abbrev N_l_names : List Str := ["_law_cell", "_law_many", "_law_letters", "_law_base", "_law_k", "_law_at", "_law_hop"]
theorem sc_l_names : FnScope N_l_names ["_law_cell", "_law_many"] (defScope s_l_names) := ⟨rfl, rfl, rfl, by decide +kernel, rfl, by decide +kernel, by decide +kernel⟩
/-- _law_pairs -/
abbrev s_l_pairs : Stmt := topS 30
abbrev N_l_pairs : List Str := ["_law_script", "_law_names_here", "_law_found", "_law_way", "_law_k", "_law_mix", "_law_pair"]
theorem sc_l_pairs : FnScope N_l_pairs ["_law_script", "_law_names_here"] (defScope s_l_pairs) := ⟨rfl, rfl, rfl, by decide +kernel, rfl, by decide +kernel, by decide +kernel⟩
/-- _law_drawn -/
abbrev s_l_drawn : Stmt := topS 31
abbrev N_l_drawn : List Str := ["_law_script", "_law_names_here"]
theorem sc_l_drawn : FnScope N_l_drawn ["_law_script"] (defScope s_l_drawn) := ⟨rfl, rfl, rfl, by decide +kernel, rfl, by decide +kernel, by decide +kernel⟩
/-- _law_kind -/
abbrev s_l_kind : Stmt := topS 32
abbrev N_l_kind : List Str := ["_law_e", "_law_marks"]
theorem sc_l_kind : FnScope N_l_kind ["_law_e"] (defScope s_l_kind) := ⟨rfl, rfl, rfl, by decide +kernel, rfl, by decide +kernel, by decide +kernel⟩
/-- _law_read -/
abbrev s_l_read : Stmt := topS 33
abbrev N_l_read : List Str := ["_law_text_here", "_law_found", "_law_e"]
theorem sc_l_read : FnScope N_l_read ["_law_text_here"] (defScope s_l_read) := ⟨rfl, rfl, rfl, by decide +kernel, rfl, by decide +kernel, by decide +kernel⟩
/-- _law_text -/
abbrev s_l_text : Stmt := topS 34
abbrev N_l_text : List Str := ["_law_names_here", "_law_pairs_here", "_law_name_here", "_law_a", "_law_b"]
theorem sc_l_text : FnScope N_l_text ["_law_names_here", "_law_pairs_here"] (defScope s_l_text) := ⟨rfl, rfl, rfl, by decide +kernel, rfl, by decide +kernel, by decide +kernel⟩
/-- _law_name -/
abbrev s_l_name : Stmt := topS 35
abbrev N_l_name : List Str := ["_law_word", "_law_sign"]
theorem sc_l_name : FnScope N_l_name ["_law_word"] (defScope s_l_name) := ⟨rfl, rfl, rfl, by decide +kernel, rfl, by decide +kernel, by decide +kernel⟩
/-- _law_parted -/
abbrev s_l_parted : Stmt := topS 36
abbrev N_l_parted : List Str := ["_law_text_here", "_law_names_here", "_law_pairs_here", "_law_row", "_law_parts"]
theorem sc_l_parted : FnScope N_l_parted ["_law_text_here"] (defScope s_l_parted) := ⟨rfl, rfl, rfl, by decide +kernel, rfl, by decide +kernel, by decide +kernel⟩
/-- _law_due -/
abbrev s_l_due : Stmt := topS 37
abbrev N_l_due : List Str := ["_law_names_here", "_law_pairs_here", "_law_k"]
theorem sc_l_due : FnScope N_l_due ["_law_names_here", "_law_pairs_here"] (defScope s_l_due) := ⟨rfl, rfl, rfl, by decide +kernel, rfl, by decide +kernel, by decide +kernel⟩
/-- _law_spoilt -/
abbrev s_l_spoilt : Stmt := topS 38
abbrev N_l_spoilt : List Str := ["_law_text_here", "_law_mix", "_law_rows_told", "_law_way", "_law_at", "_law_place", "_law_sign", "_law_some", "_law_row"]
theorem sc_l_spoilt : FnScope N_l_spoilt ["_law_text_here", "_law_mix"] (defScope s_l_spoilt) := ⟨rfl, rfl, rfl, by decide +kernel, rfl, by decide +kernel, by decide +kernel⟩
/-- law -/
abbrev s_law : Stmt := topS 39
abbrev N_law : List Str := ["_law_script", "_law_names_here", "_law_pairs_here", "_law_text_here", "_law_bench", "_law_k", "_law_more", "_law_parted_here", "_law_found", "_law_due_here"]
theorem sc_law : FnScope N_law ["_law_script"] (defScope s_law) := ⟨rfl, rfl, rfl, by decide +kernel, rfl, by decide +kernel, by decide +kernel⟩
structure Ad where
  f__wall : Addr
  fd__wall : FuncData
  f_is_name : Addr
  fd_is_name : FuncData
  f_Bench_init : Addr
  fd_Bench_init : FuncData
  f_Bench_speakers : Addr
  fd_Bench_speakers : FuncData
  f_checked_names : Addr
  fd_checked_names : FuncData
  f_checked_pairs : Addr
  fd_checked_pairs : FuncData
  f_check_speech : Addr
  fd_check_speech : FuncData
  f_written : Addr
  fd_written : FuncData
  f_read : Addr
  fd_read : FuncData
  f_rows_of : Addr
  fd_rows_of : FuncData
  f_is_form : Addr
  fd_is_form : FuncData
  f_is_word : Addr
  fd_is_word : FuncData
  f_l_cell_at : Addr
  fd_l_cell_at : FuncData
  f_l_mixed : Addr
  fd_l_mixed : FuncData
  f_l_names : Addr
  fd_l_names : FuncData
  f_l_pairs : Addr
  fd_l_pairs : FuncData
  f_l_drawn : Addr
  fd_l_drawn : FuncData
  f_l_kind : Addr
  fd_l_kind : FuncData
  f_l_read : Addr
  fd_l_read : FuncData
  f_l_text : Addr
  fd_l_text : FuncData
  f_l_name : Addr
  fd_l_name : FuncData
  f_l_parted : Addr
  fd_l_parted : FuncData
  f_l_due : Addr
  fd_l_due : FuncData
  f_l_spoilt : Addr
  fd_l_spoilt : FuncData
  f_law : Addr
  fd_law : FuncData
  C_BenchError : Addr
  C_TooMany : Addr
  C_BadName : Addr
  C_NoSpeech : Addr
  C_Twice : Addr
  C_NotHeld : Addr
  C_NoText : Addr
  C_Bench : Addr
  t_LETTERS : Tok
  t_LONGEST_NAME : Tok
  t_MOST_SPEECHES : Tok
  t_SPEECH : Tok
  t_AGAINST : Tok
structure Tx (K : PySem.W.Frag) (mg : Str → Option Value) (A : Ad) : Prop where
  F__wall : Fun K "_wall" "_wall" s__wall A.f__wall A.fd__wall
  B__wall : Binds K A.fd__wall ["k"] []
  g__wall : mg "_wall" = some (.ref A.f__wall)
  F_is_name : Fun K "is_name" "is_name" s_is_name A.f_is_name A.fd_is_name
  B_is_name : Binds K A.fd_is_name ["thing"] []
  g_is_name : mg "is_name" = some (.ref A.f_is_name)
  F_Bench_init : Fun K "__init__" "Bench.__init__" s_Bench_init A.f_Bench_init A.fd_Bench_init
  B_Bench_init : Binds K A.fd_Bench_init ["self", "names", "pairs"] []
  M_Bench : Mk K A.C_Bench A.f_Bench_init
  F_Bench_speakers : Fun K "speakers" "Bench.speakers" s_Bench_speakers A.f_Bench_speakers A.fd_Bench_speakers
  B_Bench_speakers : Binds K A.fd_Bench_speakers ["self", "name"] []
  m_Bench_speakers : Meth K A.C_Bench "speakers" A.f_Bench_speakers
  F_checked_names : Fun K "checked_names" "checked_names" s_checked_names A.f_checked_names A.fd_checked_names
  B_checked_names : Binds K A.fd_checked_names ["names"] []
  g_checked_names : mg "checked_names" = some (.ref A.f_checked_names)
  F_checked_pairs : Fun K "checked_pairs" "checked_pairs" s_checked_pairs A.f_checked_pairs A.fd_checked_pairs
  B_checked_pairs : Binds K A.fd_checked_pairs ["pairs", "names"] []
  g_checked_pairs : mg "checked_pairs" = some (.ref A.f_checked_pairs)
  F_check_speech : Fun K "check_speech" "check_speech" s_check_speech A.f_check_speech A.fd_check_speech
  B_check_speech : Binds K A.fd_check_speech ["names", "name"] []
  g_check_speech : mg "check_speech" = some (.ref A.f_check_speech)
  F_written : Fun K "written" "written" s_written A.f_written A.fd_written
  B_written : Binds K A.fd_written ["bench"] []
  g_written : mg "written" = some (.ref A.f_written)
  F_read : Fun K "read" "read" s_read A.f_read A.fd_read
  B_read : Binds K A.fd_read ["text"] []
  g_read : mg "read" = some (.ref A.f_read)
  F_rows_of : Fun K "rows_of" "rows_of" s_rows_of A.f_rows_of A.fd_rows_of
  B_rows_of : Binds K A.fd_rows_of ["text"] []
  g_rows_of : mg "rows_of" = some (.ref A.f_rows_of)
  F_is_form : Fun K "is_form" "is_form" s_is_form A.f_is_form A.fd_is_form
  B_is_form : Binds K A.fd_is_form ["parts", "first", "many"] []
  g_is_form : mg "is_form" = some (.ref A.f_is_form)
  F_is_word : Fun K "is_word" "is_word" s_is_word A.f_is_word A.fd_is_word
  B_is_word : Binds K A.fd_is_word ["part"] []
  g_is_word : mg "is_word" = some (.ref A.f_is_word)
  F_l_cell_at : Fun K "_law_cell_at" "_law_cell_at" s_l_cell_at A.f_l_cell_at A.fd_l_cell_at
  B_l_cell_at : Binds K A.fd_l_cell_at ["_law_script", "_law_k"] []
  g_l_cell_at : mg "_law_cell_at" = some (.ref A.f_l_cell_at)
  F_l_mixed : Fun K "_law_mixed" "_law_mixed" s_l_mixed A.f_l_mixed A.fd_l_mixed
  B_l_mixed : Binds K A.fd_l_mixed ["_law_cell", "_law_k"] []
  g_l_mixed : mg "_law_mixed" = some (.ref A.f_l_mixed)
  F_l_names : Fun K "_law_names" "_law_names" s_l_names A.f_l_names A.fd_l_names
  B_l_names : Binds K A.fd_l_names ["_law_cell", "_law_many"] []
  g_l_names : mg "_law_names" = some (.ref A.f_l_names)
  F_l_pairs : Fun K "_law_pairs" "_law_pairs" s_l_pairs A.f_l_pairs A.fd_l_pairs
  B_l_pairs : Binds K A.fd_l_pairs ["_law_script", "_law_names_here"] []
  g_l_pairs : mg "_law_pairs" = some (.ref A.f_l_pairs)
  F_l_drawn : Fun K "_law_drawn" "_law_drawn" s_l_drawn A.f_l_drawn A.fd_l_drawn
  B_l_drawn : Binds K A.fd_l_drawn ["_law_script"] []
  g_l_drawn : mg "_law_drawn" = some (.ref A.f_l_drawn)
  F_l_kind : Fun K "_law_kind" "_law_kind" s_l_kind A.f_l_kind A.fd_l_kind
  B_l_kind : Binds K A.fd_l_kind ["_law_e"] []
  g_l_kind : mg "_law_kind" = some (.ref A.f_l_kind)
  F_l_read : Fun K "_law_read" "_law_read" s_l_read A.f_l_read A.fd_l_read
  B_l_read : Binds K A.fd_l_read ["_law_text_here"] []
  g_l_read : mg "_law_read" = some (.ref A.f_l_read)
  F_l_text : Fun K "_law_text" "_law_text" s_l_text A.f_l_text A.fd_l_text
  B_l_text : Binds K A.fd_l_text ["_law_names_here", "_law_pairs_here"] []
  g_l_text : mg "_law_text" = some (.ref A.f_l_text)
  F_l_name : Fun K "_law_name" "_law_name" s_l_name A.f_l_name A.fd_l_name
  B_l_name : Binds K A.fd_l_name ["_law_word"] []
  g_l_name : mg "_law_name" = some (.ref A.f_l_name)
  F_l_parted : Fun K "_law_parted" "_law_parted" s_l_parted A.f_l_parted A.fd_l_parted
  B_l_parted : Binds K A.fd_l_parted ["_law_text_here"] []
  g_l_parted : mg "_law_parted" = some (.ref A.f_l_parted)
  F_l_due : Fun K "_law_due" "_law_due" s_l_due A.f_l_due A.fd_l_due
  B_l_due : Binds K A.fd_l_due ["_law_names_here", "_law_pairs_here"] []
  g_l_due : mg "_law_due" = some (.ref A.f_l_due)
  F_l_spoilt : Fun K "_law_spoilt" "_law_spoilt" s_l_spoilt A.f_l_spoilt A.fd_l_spoilt
  B_l_spoilt : Binds K A.fd_l_spoilt ["_law_text_here", "_law_mix"] []
  g_l_spoilt : mg "_law_spoilt" = some (.ref A.f_l_spoilt)
  F_law : Fun K "law" "law" s_law A.f_law A.fd_law
  B_law : Binds K A.fd_law ["_law_script"] []
  g_law : mg "law" = some (.ref A.f_law)
  cl_Bench : Cls K A.C_Bench
  g_Bench : mg "Bench" = some (.ref A.C_Bench)
  a_Bench_names : NoAttr K A.C_Bench "names"
  a_Bench_pairs : NoAttr K A.C_Bench "pairs"
  g_BenchError : mg "BenchError" = some (.ref A.C_BenchError)
  x_BenchError : PySem.W.excIn K A.C_BenchError [.type "ValueError", .type "Exception", .type "BaseException", .type "object"] "ValueError.__new__" = true
  kc_BenchError : PySem.W.keepIn K (.ref A.C_BenchError) = true
  b_BenchError : PySem.W.subIn K (.ref A.C_BenchError) (.type "BaseException") = some true
  t_BenchError : PySem.W.typeIn K (.ref A.C_BenchError) = some (.type "type")
  i_BenchError : PySem.W.isClsIn K A.C_BenchError = true
  g_TooMany : mg "TooMany" = some (.ref A.C_TooMany)
  x_TooMany : PySem.W.excIn K A.C_TooMany [.type "ValueError", .type "Exception", .type "BaseException", .type "object"] "ValueError.__new__" = true
  kc_TooMany : PySem.W.keepIn K (.ref A.C_TooMany) = true
  b_TooMany : PySem.W.subIn K (.ref A.C_TooMany) (.type "BaseException") = some true
  t_TooMany : PySem.W.typeIn K (.ref A.C_TooMany) = some (.type "type")
  i_TooMany : PySem.W.isClsIn K A.C_TooMany = true
  g_BadName : mg "BadName" = some (.ref A.C_BadName)
  x_BadName : PySem.W.excIn K A.C_BadName [.type "ValueError", .type "Exception", .type "BaseException", .type "object"] "ValueError.__new__" = true
  kc_BadName : PySem.W.keepIn K (.ref A.C_BadName) = true
  b_BadName : PySem.W.subIn K (.ref A.C_BadName) (.type "BaseException") = some true
  t_BadName : PySem.W.typeIn K (.ref A.C_BadName) = some (.type "type")
  i_BadName : PySem.W.isClsIn K A.C_BadName = true
  g_NoSpeech : mg "NoSpeech" = some (.ref A.C_NoSpeech)
  x_NoSpeech : PySem.W.excIn K A.C_NoSpeech [.type "ValueError", .type "Exception", .type "BaseException", .type "object"] "ValueError.__new__" = true
  kc_NoSpeech : PySem.W.keepIn K (.ref A.C_NoSpeech) = true
  b_NoSpeech : PySem.W.subIn K (.ref A.C_NoSpeech) (.type "BaseException") = some true
  t_NoSpeech : PySem.W.typeIn K (.ref A.C_NoSpeech) = some (.type "type")
  i_NoSpeech : PySem.W.isClsIn K A.C_NoSpeech = true
  g_Twice : mg "Twice" = some (.ref A.C_Twice)
  x_Twice : PySem.W.excIn K A.C_Twice [.type "ValueError", .type "Exception", .type "BaseException", .type "object"] "ValueError.__new__" = true
  kc_Twice : PySem.W.keepIn K (.ref A.C_Twice) = true
  b_Twice : PySem.W.subIn K (.ref A.C_Twice) (.type "BaseException") = some true
  t_Twice : PySem.W.typeIn K (.ref A.C_Twice) = some (.type "type")
  i_Twice : PySem.W.isClsIn K A.C_Twice = true
  g_NotHeld : mg "NotHeld" = some (.ref A.C_NotHeld)
  x_NotHeld : PySem.W.excIn K A.C_NotHeld [.type "ValueError", .type "Exception", .type "BaseException", .type "object"] "ValueError.__new__" = true
  kc_NotHeld : PySem.W.keepIn K (.ref A.C_NotHeld) = true
  b_NotHeld : PySem.W.subIn K (.ref A.C_NotHeld) (.type "BaseException") = some true
  t_NotHeld : PySem.W.typeIn K (.ref A.C_NotHeld) = some (.type "type")
  i_NotHeld : PySem.W.isClsIn K A.C_NotHeld = true
  g_NoText : mg "NoText" = some (.ref A.C_NoText)
  x_NoText : PySem.W.excIn K A.C_NoText [.type "ValueError", .type "Exception", .type "BaseException", .type "object"] "ValueError.__new__" = true
  kc_NoText : PySem.W.keepIn K (.ref A.C_NoText) = true
  b_NoText : PySem.W.subIn K (.ref A.C_NoText) (.type "BaseException") = some true
  t_NoText : PySem.W.typeIn K (.ref A.C_NoText) = some (.type "type")
  i_NoText : PySem.W.isClsIn K A.C_NoText = true
  io_Bench : IsO K A.C_Bench
  ec_TooMany : ExcC K A.C_TooMany
  kv_TooMany : PySem.W.kitOne K (.ref A.C_TooMany) (.type "ValueError") = some true
  kt_TooMany_TooMany : PySem.W.kitOne K (.ref A.C_TooMany) (.ref A.C_TooMany) = some true
  kt_TooMany_BadName : PySem.W.kitOne K (.ref A.C_TooMany) (.ref A.C_BadName) = some false
  kt_TooMany_NoSpeech : PySem.W.kitOne K (.ref A.C_TooMany) (.ref A.C_NoSpeech) = some false
  kt_TooMany_Twice : PySem.W.kitOne K (.ref A.C_TooMany) (.ref A.C_Twice) = some false
  kt_TooMany_NotHeld : PySem.W.kitOne K (.ref A.C_TooMany) (.ref A.C_NotHeld) = some false
  kt_TooMany_NoText : PySem.W.kitOne K (.ref A.C_TooMany) (.ref A.C_NoText) = some false
  ec_BadName : ExcC K A.C_BadName
  kv_BadName : PySem.W.kitOne K (.ref A.C_BadName) (.type "ValueError") = some true
  kt_BadName_TooMany : PySem.W.kitOne K (.ref A.C_BadName) (.ref A.C_TooMany) = some false
  kt_BadName_BadName : PySem.W.kitOne K (.ref A.C_BadName) (.ref A.C_BadName) = some true
  kt_BadName_NoSpeech : PySem.W.kitOne K (.ref A.C_BadName) (.ref A.C_NoSpeech) = some false
  kt_BadName_Twice : PySem.W.kitOne K (.ref A.C_BadName) (.ref A.C_Twice) = some false
  kt_BadName_NotHeld : PySem.W.kitOne K (.ref A.C_BadName) (.ref A.C_NotHeld) = some false
  kt_BadName_NoText : PySem.W.kitOne K (.ref A.C_BadName) (.ref A.C_NoText) = some false
  ec_NoSpeech : ExcC K A.C_NoSpeech
  kv_NoSpeech : PySem.W.kitOne K (.ref A.C_NoSpeech) (.type "ValueError") = some true
  kt_NoSpeech_TooMany : PySem.W.kitOne K (.ref A.C_NoSpeech) (.ref A.C_TooMany) = some false
  kt_NoSpeech_BadName : PySem.W.kitOne K (.ref A.C_NoSpeech) (.ref A.C_BadName) = some false
  kt_NoSpeech_NoSpeech : PySem.W.kitOne K (.ref A.C_NoSpeech) (.ref A.C_NoSpeech) = some true
  kt_NoSpeech_Twice : PySem.W.kitOne K (.ref A.C_NoSpeech) (.ref A.C_Twice) = some false
  kt_NoSpeech_NotHeld : PySem.W.kitOne K (.ref A.C_NoSpeech) (.ref A.C_NotHeld) = some false
  kt_NoSpeech_NoText : PySem.W.kitOne K (.ref A.C_NoSpeech) (.ref A.C_NoText) = some false
  ec_Twice : ExcC K A.C_Twice
  kv_Twice : PySem.W.kitOne K (.ref A.C_Twice) (.type "ValueError") = some true
  kt_Twice_TooMany : PySem.W.kitOne K (.ref A.C_Twice) (.ref A.C_TooMany) = some false
  kt_Twice_BadName : PySem.W.kitOne K (.ref A.C_Twice) (.ref A.C_BadName) = some false
  kt_Twice_NoSpeech : PySem.W.kitOne K (.ref A.C_Twice) (.ref A.C_NoSpeech) = some false
  kt_Twice_Twice : PySem.W.kitOne K (.ref A.C_Twice) (.ref A.C_Twice) = some true
  kt_Twice_NotHeld : PySem.W.kitOne K (.ref A.C_Twice) (.ref A.C_NotHeld) = some false
  kt_Twice_NoText : PySem.W.kitOne K (.ref A.C_Twice) (.ref A.C_NoText) = some false
  ec_NoText : ExcC K A.C_NoText
  kv_NoText : PySem.W.kitOne K (.ref A.C_NoText) (.type "ValueError") = some true
  kt_NoText_TooMany : PySem.W.kitOne K (.ref A.C_NoText) (.ref A.C_TooMany) = some false
  kt_NoText_BadName : PySem.W.kitOne K (.ref A.C_NoText) (.ref A.C_BadName) = some false
  kt_NoText_NoSpeech : PySem.W.kitOne K (.ref A.C_NoText) (.ref A.C_NoSpeech) = some false
  kt_NoText_Twice : PySem.W.kitOne K (.ref A.C_NoText) (.ref A.C_Twice) = some false
  kt_NoText_NotHeld : PySem.W.kitOne K (.ref A.C_NoText) (.ref A.C_NotHeld) = some false
  kt_NoText_NoText : PySem.W.kitOne K (.ref A.C_NoText) (.ref A.C_NoText) = some true
  e_NoSpeech_BenchError : PySem.W.exmOne K (.ref A.C_NoSpeech) (.ref A.C_BenchError) = some true
  e_TooMany_BenchError : PySem.W.exmOne K (.ref A.C_TooMany) (.ref A.C_BenchError) = some true
  e_BadName_BenchError : PySem.W.exmOne K (.ref A.C_BadName) (.ref A.C_BenchError) = some true
  e_Twice_BenchError : PySem.W.exmOne K (.ref A.C_Twice) (.ref A.C_BenchError) = some true
  e_NoText_BenchError : PySem.W.exmOne K (.ref A.C_NoText) (.ref A.C_BenchError) = some true
  g_LETTERS : mg "LETTERS" = some (.str "abcdefghijklmnopqrstuvwxyz" A.t_LETTERS)
  g_LONGEST_NAME : mg "LONGEST_NAME" = some (.int 8 A.t_LONGEST_NAME)
  g_MOST_SPEECHES : mg "MOST_SPEECHES" = some (.int 8 A.t_MOST_SPEECHES)
  g_SPEECH : mg "SPEECH" = some (.str "speech" A.t_SPEECH)
  g_AGAINST : mg "AGAINST" = some (.str "against" A.t_AGAINST)
  n_ValueError : mg "ValueError" = none
  n_all : mg "all" = none
  n_enumerate : mg "enumerate" = none
  n_isinstance : mg "isinstance" = none
  n_len : mg "len" = none
  n_range : mg "range" = none
  n_str : mg "str" = none
  n_tuple : mg "tuple" = none
section
variable {P : Program} {w : World} {K : PySem.W.Frag} {mg : Str → Option Value} {base : Heap} {A : Ad}
/-! mixed -/
def R_l_mixed (ds : List Da) (d : Da) : Prop := ∃ c k, ds = [.int c, .int k] ∧ d = .int (mixed c k)
abbrev sp_l_mixed (K : PySem.W.Frag) (A : Ad) : Sp := SpD K R_l_mixed
theorem r_l_mixed {c k : Int} : R_l_mixed [.int c, .int k] (.int (mixed c k)) := ⟨c, k, rfl, rfl⟩
theorem ok_l_mixed (T : Tx K mg A) : FnOk P w K mg base CX0 1 A.f_l_mixed A.fd_l_mixed ["_law_cell", "_law_k"] (sp_l_mixed K A) := by
  refine T.F_l_mixed.ok sc_l_mixed (spd_len (n := 2) (by rintro _ _ ⟨c, k, rfl, rfl⟩; rfl)) (fun cdv A' outer s H vs Q E hr h => ⟨_, (pss_cons (ps_set (i := 2) sc_l_mixed.nd rfl (Or.inl rfl) (pe_op op_mod (pe_op op_mul (pe_op op_addU (pe_op op_addU (pv 0) (pe_op op_mul pe_int (pv 1))) pe_int) pe_int) pe_int))
  (pss_one (ps_ret (pe_op op_mod (pe_op op_addU (pe_op op_mul (pv 2) (pv 2)) (pe_op op_mul pe_int (pv 2))) pe_int)))), spd_body (N := N_l_mixed) (by rintro _ _ ⟨c, k, rfl, rfl⟩; exact (by decide : 2 ≤ N_l_mixed.length)) ?_ _ _ _ _ h⟩)
  rintro _ _ ⟨c, k, rfl, rfl⟩ C Q rfl post
  have h1 := Int.emod_lt_of_pos ((c + 7919 * k + 11) * 48271) (show (0 : Int) < 2147483647 by decide)
  have h2 := Int.emod_nonneg ((c + 7919 * k + 11) * 48271) (show (2147483647 : Int) ≠ 0 by decide)
  refine sq_set (evs_op (evs_op (evs_op (evs_op (evs_var rfl) (evs_op evs_int (evs_var rfl) (rv_i (g := fun i j => i * j) (by walk_at "side"))) rv_addI) evs_int rv_addI) evs_int (rv_i (g := fun i j => i * j) (by walk_at "side"))) evs_int (rv_i (g := fun i j => i % j) (by walk_at "side"))) (go_ret (evs_op (evs_op (evs_op (evs_var rfl) (evs_var rfl) (rv_i (g := fun i j => i * j) (by walk_at "side"))) (evs_op evs_int (evs_var rfl) (rv_i (g := fun i j => i * j) (by walk_at "side"))) rv_addI) evs_int (rv_i (g := fun i j => i % j) (by walk_at "side"))) post)
/-! cell_at -/
def R_l_cell_at (ds : List Da) (d : Da) : Prop := ∃ (ns : List Int) (k : Nat), ds = [.scr ns, .int k] ∧ d = .int (cellAt ns k)
abbrev sp_l_cell_at (K : PySem.W.Frag) (A : Ad) : Sp := SpD K R_l_cell_at
theorem r_l_cell_at {ns : List Int} {k : Nat} : R_l_cell_at [.scr ns, .int k] (.int (cellAt ns k)) := ⟨ns, k, rfl, rfl⟩
theorem r_l_cell_atI {ns : List Int} {k : Int} (h : 0 ≤ k) : R_l_cell_at [.scr ns, .int k] (.int (cellAt ns k.toNat)) := ⟨ns, k.toNat, by rw [Int.toNat_of_nonneg h], rfl⟩
local macro_rules | `(tactic| walk_at "call") => `(tactic| first
  | exact r_l_mixed
  | exact r_l_cell_at
  | exact r_l_cell_atI (by omega))
theorem ok_l_cell_at (T : Tx K mg A) : FnOk P w K mg base CX0 2 A.f_l_cell_at A.fd_l_cell_at ["_law_script", "_law_k"] (sp_l_cell_at K A) := by
  refine T.F_l_cell_at.ok sc_l_cell_at (spd_len (n := 2) (by rintro _ _ ⟨c, k, rfl, rfl⟩; rfl)) (fun cdv A' outer s H vs Q E hr h => ⟨_, (pss_cons (ps_if (pt_cmpR op_lt (pv 1) (pe_callB call_lenU rfl T.n_len PySem.boot_len (pa_cons (pv 0) pa_nil)) (nomark _)) (pss_one (ps_ret (pe_call (ok_l_mixed T) hr rfl T.g_l_mixed T.F_l_mixed.kp T.B_l_mixed .nil pass0 (pa_cons (pe_ix ix_seq (pv 0) (pv 1) (fun _ _ => rfl)) (pa_cons (pe_op op_addU pe_int (pv 1)) pa_nil))))) pss_nil)
  (pss_one (ps_ret (pe_call (ok_l_mixed T) hr rfl T.g_l_mixed T.F_l_mixed.kp T.B_l_mixed .nil pass0 (pa_cons pe_int (pa_cons (pe_op op_addU pe_int (pv 1)) pa_nil)))))), spd_body (N := N_l_cell_at) (by rintro _ _ ⟨c, k, rfl, rfl⟩; exact (by decide : 2 ≤ N_l_cell_at.length)) ?_ _ _ _ _ h⟩)
  rintro _ _ ⟨ns, k, rfl, rfl⟩ C Q rfl post
  by_cases hk : k < ns.length
  · have ha : atI ns (k : Int) = some (ns.getD k 0) := atI_nat (by rw [List.getD_eq_getElem?_getD, List.getElem?_eq_getElem hk] <;> rfl)
    refine sq_yesd (EvST.to (evt_test (evs_op (evs_var rfl) (evs_cb (evs_cons (evs_var rfl) evs_nil) rc_lenC) (rv_b0 (g := fun i j => decide (i < j))))) (by simp; omega)) (go_ret (evs_call (evs_cons (evs_op (evs_var rfl) (evs_var rfl) (rv_ixC (by walk_at "side"))) (evs_cons (evs_op evs_int (evs_var rfl) rv_addI) evs_nil)) (by walk_at "call")) post)
  · have hz : cellAt ns k = mixed 0 (300 + k) := by
      unfold cellAt
      rw [List.getD_eq_getElem?_getD, List.getElem?_eq_none (by omega)] <;> rfl
    refine sq_nod (EvST.to (evt_test (evs_op (evs_var rfl) (evs_cb (evs_cons (evs_var rfl) evs_nil) rc_lenC) (rv_b0 (g := fun i j => decide (i < j))))) (by simp; omega)) (go_ret (evs_call (evs_cons evs_int (evs_cons (evs_op evs_int (evs_var rfl) rv_addI) evs_nil)) (by walk_at "call")) ?_)
    rw [← hz]
    exact post
/-! names -/
def R_l_names (ds : List Da) (d : Da) : Prop := ∃ (c : Int) (m : Nat), ds = [.int c, .int m] ∧ (0 ≤ c ∧ c < 2147483648 ∧ m ≤ 12) ∧ d = .lst ((names c m).map Da.str)
abbrev sp_l_names (K : PySem.W.Frag) (A : Ad) : Sp := SpD K R_l_names
theorem ok_l_names (T : Tx K mg A) : FnOk P w K mg base CX0 2 A.f_l_names A.fd_l_names ["_law_cell", "_law_many"] (sp_l_names K A) := by
  refine T.F_l_names.ok sc_l_names (spd_len (n := 2) (by rintro _ _ ⟨c, k, rfl, _, rfl⟩; rfl)) (fun cdv A' outer s H vs Q E hr h => ⟨_, (pss_cons (ps_set (i := 2) sc_l_names.nd rfl (Or.inr rfl) pe_str)
  (pss_cons (ps_set (i := 3) sc_l_names.nd rfl (Or.inr rfl) pe_str)
  (pss_cons (ps_for PassesOwn.never rfl (pi_range1 rfl T.n_range (pa_cons (pe_op op_mod (pe_op op_fdiv (pe_call (ok_l_mixed T) hr rfl T.g_l_mixed T.F_l_mixed.kp T.B_l_mixed .nil pass0 (pa_cons (pv 0) (pa_cons pe_int pa_nil))) pe_int) pe_int) pa_nil)) (pg_name (i := 4) sc_l_names.nd rfl (Or.inl rfl))
  (pss_one (ps_set (i := 3) sc_l_names.nd rfl (Or.inr rfl) (pe_op op_addU (pv 3) (pe_ix ix_seq (pv 2) (pe_op op_mod (pe_op op_fdiv (pe_call (ok_l_mixed T) hr rfl T.g_l_mixed T.F_l_mixed.kp T.B_l_mixed .nil pass0 (pa_cons (pv 0) (pa_cons (pe_op op_addU pe_int (pv 4)) pa_nil))) pe_int) pe_int) (fun _ _ => rfl))))))
  (pss_cons (ps_set (i := 5) sc_l_names.nd rfl (Or.inr rfl) (pe_op op_mod (pe_op op_fdiv (pe_call (ok_l_mixed T) hr rfl T.g_l_mixed T.F_l_mixed.kp T.B_l_mixed .nil pass0 (pa_cons (pv 0) (pa_cons pe_int pa_nil))) pe_int) (pe_op op_addU (pe_callB call_lenU rfl T.n_len PySem.boot_len (pa_cons (pv 3) pa_nil)) pe_int)))
  (pss_cons (ps_set (i := 6) sc_l_names.nd rfl (Or.inr rfl) (pe_ix ix_seq (pe_lst (pa_cons pe_int (pa_cons pe_int (pa_cons pe_int pa_nil)))) (pe_op op_mod (pe_op op_fdiv (pe_call (ok_l_mixed T) hr rfl T.g_l_mixed T.F_l_mixed.kp T.B_l_mixed .nil pass0 (pa_cons (pv 0) (pa_cons pe_int pa_nil))) pe_int) pe_int) (fun _ _ => rfl)))
  (pss_one (ps_ret (pe_lc (own := [("_law_k", 4)]) (g := (gName 4)) (tt := tYes) (te := (tOp (rAddU K) (tOp (rAddU K) (tSl (rSlU K) (tVar 3) tNoPart (tPart (tVar 5))) (tOp (rIx K) (tVar 2) (tOp (rI (fun _ j => 0 < j) fun i j => .int (i % j)) (tOp (rAddU K) (tOp (rI CDiv fun i j => .int (i / j)) (tVar 0) (tC (.int 17))) (tOp (rI CMul fun i j => .int (i * j)) (tVar 6) (tVar 4))) (tC (.int 26))))) (tSl (rSlU K) (tVar 3) (tPart (tVar 5)) tNoPart))) rfl sc_l_names.nd (pi_range1 rfl T.n_range (pa_cons (pv 1) pa_nil)) (blkOk_by (own := [("_law_k", 4)]) (N := N_l_names) (sc := (defScope s_l_names)) (by decide +kernel)) (fun _ _ _ _ _ => (pg_name (i := 4) sc_l_names.nd rfl (Or.inl rfl))) (fun _ _ _ _ _ => pts_nil) (fun _ _ _ _ _ => (pe_op op_addU (pe_op op_addU (pe_slice sl_U (pv 3) po_none (po_some (pv 5))) (pe_ix ix_seq (pv 2) (pe_op op_mod (pe_op op_addU (pe_op op_fdiv (pv 0) pe_int) (pe_op op_mul (pv 6) (pv 4))) pe_int) (fun _ _ => rfl))) (pe_slice sl_U (pv 3) (po_some (pv 5)) po_none))))))))))), spd_body (N := N_l_names) (by rintro _ _ ⟨c, k, rfl, _, rfl⟩; exact (by decide : 2 ≤ N_l_names.length)) ?_ _ _ _ _ h⟩)
  rintro _ _ ⟨c, m, rfl, ⟨c0, c1, m1⟩, rfl⟩ C Q rfl post
  have hb := baseLen_lt c
  have e8 := Int.emod_nonneg (mixed c 1 / 7) (show (8 : Int) ≠ 0 by decide)
  have e9 := Int.emod_lt_of_pos (mixed c 1 / 7) (show (0 : Int) < 8 by decide)
  refine sq_set evs_str (sq_set evs_str ?_)
  refine sq_for (itd_rng1 (evs_cons (evs_op (evs_op (evs_call (evs_cons (evs_var rfl) (evs_cons evs_int evs_nil)) (by walk_at "call")) evs_int (rv_i (g := fun i j => i / j) (by walk_at "side"))) evs_int (rv_i (g := fun i j => i % j) (by walk_at "side"))) evs_nil) (by walk_at "side") (by walk_at "side")) (fun i δ => ∃ x, δ = [.dat (.int c), .dat (.int m), .dat (.str "abcdefghijklmnopqrstuvwxyz"), .dat (.str (S (bas c i))), x, .no, .no]) ⟨_, rfl⟩ ?_ ?_
  · rintro P i d _ hd ⟨x, rfl⟩
    obtain ⟨hi, rfl⟩ := rng0_at hd
    refine ⟨_, tga_name, go_set (EvS.to (evs_op (evs_var rfl) (evs_op (evs_var rfl) (evs_op (evs_op (evs_call (evs_cons (evs_var rfl) (evs_cons (evs_op evs_int (evs_var rfl) rv_addI) evs_nil)) (by walk_at "call")) evs_int (rv_i (g := fun i j => i / j) (by walk_at "side"))) evs_int (rv_i (g := fun i j => i % j) (by walk_at "side"))) (rv_ixS (by walk_at "side") (by walk_at "side"))) (rv_addS (by walk_at "side"))) ?_) (nx_end ⟨_, rfl⟩)⟩
    rw [S_one, S_app, bas_succ] <;> rfl
  · rintro _ ⟨x, rfl⟩
    rw [rng_len]
    show Go C _ _ [.dat (.int c), .dat (.int m), .dat (.str "abcdefghijklmnopqrstuvwxyz"), .dat (.str (S (bas c (baseLen c)))), x, .no, .no]
    refine sq_set (evs_op (evs_op (evs_call (evs_cons (evs_var rfl) (evs_cons evs_int evs_nil)) (by walk_at "call")) evs_int (rv_i (g := fun i j => i / j) (by walk_at "side"))) (evs_op (evs_cb (evs_cons (evs_var rfl) evs_nil) (rc_lenS (by walk_at "side"))) evs_int rv_addI) (rv_i (g := fun i j => i % j) (by walk_at "side"))) ?_
    refine sq_set (evs_op ((evs_lst (evs_cons evs_int (evs_cons evs_int (evs_cons evs_int evs_nil))) (by walk_at "side"))).ev (evs_op (evs_op (evs_call (evs_cons (evs_var rfl) (evs_cons evs_int evs_nil)) (by walk_at "call")) evs_int (rv_i (g := fun i j => i / j) (by walk_at "side"))) evs_int (rv_i (g := fun i j => i % j) (by walk_at "side"))) (rv_ixL (by walk_at "side"))) ?_
    have e1 := Int.emod_lt_of_pos (mixed c 2 / 7) (show (0 : Int) < ((S (bas c (baseLen c))).length : Int) + 1 by omega)
    have e2 := Int.emod_nonneg (mixed c 2 / 7) (show ((S (bas c (baseLen c))).length : Int) + 1 ≠ 0 by omega)
    have e3 : (mixed c 2 / 7 % (((S (bas c (baseLen c))).length : Int) + 1)) = (putAt c : Int) := by
      unfold putAt
      rw [S_len, bas_len] at e1 e2 ⊢
      omega
    rw [e3]
    have hp := hop_of c
    have hm : ∀ k : Nat, -(2 ^ 64) < hop c ∧ hop c < 2 ^ 64 := fun _ => by omega
    rw [show Da.int ([1, 3, 5].getD (mixed c 3 / 7 % 3).toNat 0) = Da.int (hop c) from rfl]
    refine go_ret (EvSN.ev (evs_lcY (xs := List.range m) (enc := fun (k : Nat) => Da.int (k : Nat)) (itd_r1 (n := (m : Int)) (evs_cons (evs_var rfl) evs_nil) (by omega) (by omega)) (fun k => .str (S (nameOf c k))) (by rw [List.length_range]; omega) ?_)) ?_
    · intro k hk
      refine ⟨_, tgd_name, EvS.to (evs_op (evs_op (evs_slS (evs_var rfl) evo_none (evo_some (evs_var rfl)) (by walk_at "side")) (evs_op (evs_var rfl) (evs_op (evs_op (evs_op (evs_var rfl) evs_int (rv_i (g := fun i j => i / j) (by walk_at "side"))) (evs_op (evs_var rfl) (evs_var rfl) (rv_i (g := fun i j => i * j) (by walk_at "side"))) rv_addI) evs_int (rv_i (g := fun i j => i % j) (by walk_at "side"))) (rv_ixS (by walk_at "side") (by walk_at "side"))) (rv_addS (by walk_at "side"))) (evs_slS (evs_var rfl) (evo_some (evs_var rfl)) evo_none (by walk_at "side")) (rv_addS (by walk_at "side"))) ?_⟩
      rw [S_one, cutS_S, cutS_S, cut_to, cut_from, S_app, S_app] <;> rfl
    · have e : (List.range m).map (fun k => Da.str (S (nameOf c k))) = (names c m).map Da.str := by
        unfold names
        rw [List.map_map] <;> rfl
      rw [e]
      exact post
/-! pairs -/
def R_l_pairs (ds : List Da) (d : Da) : Prop := ∃ (ns : List Int) (nms : List Str), ds = [.scr ns, .lst (nms.map Da.str)] ∧ (ns.length ≤ 63 ∧ nms.length ≤ 12 ∧ nms.Nodup ∧ ∀ x ∈ nms, okS x) ∧ d = .lst ((pairsOf ns nms).map dP)
abbrev sp_l_pairs (K : PySem.W.Frag) (A : Ad) : Sp := SpD K R_l_pairs
theorem ok_l_pairs (T : Tx K mg A) : FnOk P w K mg base CX0 3 A.f_l_pairs A.fd_l_pairs ["_law_script", "_law_names_here"] (sp_l_pairs K A) := by
  refine T.F_l_pairs.ok sc_l_pairs (spd_len (n := 2) (by rintro _ _ ⟨c, k, rfl, _, rfl⟩; rfl)) (fun cdv A' outer s H vs Q E hr h => ⟨_, (pss_cons (ps_set (i := 2) sc_l_pairs.nd rfl (Or.inl rfl) (pe_lst pa_nil))
  (pss_cons (ps_if (pt_cmpR (op_eqD hr.units) (pv 1) (pe_lst pa_nil) (nomark _)) (pss_one (ps_ret (pv 2))) pss_nil)
  (pss_cons (ps_set (i := 3) sc_l_pairs.nd rfl (Or.inl rfl) (pe_op op_mod (pe_op op_fdiv (pe_call (ok_l_cell_at T) hr rfl T.g_l_cell_at T.F_l_cell_at.kp T.B_l_cell_at .nil pass0 (pa_cons (pv 0) (pa_cons pe_int pa_nil))) pe_int) pe_int))
  (pss_cons (ps_if (pt_cmpR (op_eqD hr.units) (pv 3) pe_int (nomark _)) (pss_one (ps_setLc (i := 2) (own := [("_law_k", 4)]) (g := (gName 4)) (tt := tYes) (te := (tTup (tCons (tOp (rIx K) (tVar 1) (tVar 4)) (tCons (tOp (rIx K) (tVar 1) (tOp (rAddU K) (tVar 4) (tC (.int 1)))) tNil)))) rfl sc_l_pairs.nd rfl rfl (sw_true rfl rfl rfl (by decide +kernel)) (pi_range1 rfl T.n_range (pa_cons (pe_op op_sub (pe_callB call_lenU rfl T.n_len PySem.boot_len (pa_cons (pv 1) pa_nil)) pe_int) pa_nil)) (blkOk_by (own := [("_law_k", 4)]) (N := N_l_pairs) (sc := (defScope s_l_pairs)) (by decide +kernel)) (fun _ _ _ _ _ => (pg_name (i := 4) sc_l_pairs.nd rfl (Or.inl rfl))) (fun _ _ _ _ _ => pts_nil) (fun _ _ _ _ _ => (pe_tup (pa_cons (pe_ix ix_seq (pv 1) (pv 4) (fun _ _ => rfl)) (pa_cons (pe_ix ix_seq (pv 1) (pe_op op_addU (pv 4) pe_int) (fun _ _ => rfl)) pa_nil)))))) pss_nil)
  (pss_cons (ps_if (pt_cmpR (op_eqD hr.units) (pv 3) pe_int (nomark _)) (pss_one (ps_setLc (i := 2) (own := [("_law_k", 4)]) (g := (gName 4)) (tt := (tTest (tOp (rI0 fun i j => .bl (decide (i < j))) (tOp (rI (fun _ j => 0 < j) fun i j => .int (i % j)) (tVar 4) (tC (.int 3))) (tC (.int 2))))) (te := (tTup (tCons (tOp (rIx K) (tVar 1) (tOp (rAddU K) (tVar 4) (tC (.int 1)))) (tCons (tOp (rIx K) (tVar 1) (tVar 4)) tNil)))) rfl sc_l_pairs.nd rfl rfl (sw_true rfl rfl rfl (by decide +kernel)) (pi_range1 rfl T.n_range (pa_cons (pe_op op_sub (pe_callB call_lenU rfl T.n_len PySem.boot_len (pa_cons (pv 1) pa_nil)) pe_int) pa_nil)) (blkOk_by (own := [("_law_k", 4)]) (N := N_l_pairs) (sc := (defScope s_l_pairs)) (by decide +kernel)) (fun _ _ _ _ _ => (pg_name (i := 4) sc_l_pairs.nd rfl (Or.inl rfl))) (fun _ _ _ _ _ => (pts_one (pt_cmpR op_lt (pe_op op_mod (pv 4) pe_int) pe_int (nomark _)))) (fun _ _ _ _ _ => (pe_tup (pa_cons (pe_ix ix_seq (pv 1) (pe_op op_addU (pv 4) pe_int) (fun _ _ => rfl)) (pa_cons (pe_ix ix_seq (pv 1) (pv 4) (fun _ _ => rfl)) pa_nil)))))) pss_nil)
  (pss_cons (ps_for PassesOwn.never rfl (pi_range2 rfl T.n_range (pa_cons pe_int (pa_cons (pe_callB call_lenU rfl T.n_len PySem.boot_len (pa_cons (pv 0) pa_nil)) pa_nil))) (pg_name (i := 4) sc_l_pairs.nd rfl (Or.inl rfl))
  (pss_cons (ps_set (i := 5) sc_l_pairs.nd rfl (Or.inl rfl) (pe_op op_fdiv (pe_call (ok_l_cell_at T) hr rfl T.g_l_cell_at T.F_l_cell_at.kp T.B_l_cell_at .nil pass0 (pa_cons (pv 0) (pa_cons (pv 4) pa_nil))) pe_int))
  (pss_cons (ps_set (i := 6) sc_l_pairs.nd rfl (Or.inl rfl) (pe_tup (pa_cons (pe_ix ix_seq (pv 1) (pe_op op_mod (pv 5) (pe_callB call_lenU rfl T.n_len PySem.boot_len (pa_cons (pv 1) pa_nil))) (fun _ _ => rfl)) (pa_cons (pe_ix ix_seq (pv 1) (pe_op op_mod (pe_op op_fdiv (pv 5) pe_int) (pe_callB call_lenU rfl T.n_len PySem.boot_len (pa_cons (pv 1) pa_nil))) (fun _ _ => rfl)) pa_nil))))
  (pss_cons (ps_if (PW.pt (pw_and (pt_cmpR op_in_seq (pv 3) (pe_tup (pa_cons pe_int (pa_cons pe_int (pa_cons pe_int pa_nil)))) rfl) (pw_and1 (pt_cmpR op_gt (pe_bm PySem.F.plainAttrs_list PySem.F.slot_list_index PySem.F.type_list_index mt_index (pv 1) (pa_cons (pe_ix ix_seq (pv 6) pe_int (fun _ _ => rfl)) pa_nil)) (pe_bm PySem.F.plainAttrs_list PySem.F.slot_list_index PySem.F.type_list_index mt_index (pv 1) (pa_cons (pe_ix ix_seq (pv 6) pe_int (fun _ _ => rfl)) pa_nil)) (nomark _))))) (pss_one (ps_set (i := 6) sc_l_pairs.nd rfl (Or.inl rfl) (pe_tup (pa_cons (pe_ix ix_seq (pv 6) pe_int (fun _ _ => rfl)) (pa_cons (pe_ix ix_seq (pv 6) pe_int (fun _ _ => rfl)) pa_nil))))) pss_nil)
  (pss_one (ps_if (PW.pt (pw_and (pt_cmpR (op_notInD (units65 hr)) (pv 6) (pv 2) rfl) (pw_and1 (PW.pt (pw_or (pt_cmpR (op_neD hr.units) (pe_ix ix_seq (pv 6) pe_int (fun _ _ => rfl)) (pe_ix ix_seq (pv 6) pe_int (fun _ _ => rfl)) (nomark _)) (pw_or1 (pt_cmpR (op_eqD hr.units) (pe_op op_mod (pe_op op_fdiv (pv 5) pe_int) pe_int) pe_int (nomark _)))))))) (pss_one (ps_expr (pe_bm PySem.F.plainAttrs_list PySem.F.slot_list_append PySem.F.type_list_append mt_append (pv 2) (pa_cons (pv 6) pa_nil)))) pss_nil))))))
  (pss_one (ps_ret (pe_slice sl_U (pv 2) po_none (po_some (pe_ix ix_seq (pe_lst (pa_cons pe_int (pa_cons pe_int (pa_cons pe_int (pa_cons pe_int (pa_cons pe_int (pa_cons pe_int (pa_cons pe_int (pa_cons pe_int pa_nil))))))))) (pe_op op_mod (pe_op op_fdiv (pe_call (ok_l_cell_at T) hr rfl T.g_l_cell_at T.F_l_cell_at.kp T.B_l_cell_at .nil pass0 (pa_cons (pv 0) (pa_cons pe_int pa_nil))) pe_int) pe_int) (fun _ _ => rfl)))))))))))), spd_body (N := N_l_pairs) (by rintro _ _ ⟨c, k, rfl, _, rfl⟩; exact (by decide : 2 ≤ N_l_pairs.length)) ?_ _ _ _ _ h⟩)
  rintro _ _ ⟨ns, nms, rfl, ⟨l1, l2, nd, ok⟩, rfl⟩ C Q rfl post
  have okn : okD 3 (.lst (nms.map Da.str)) := ok_strs ok
  have oke : okD 3 (.lst []) := fun d hd => by cases hd
  refine sq_setN (evs_lst evs_nil (by walk_at "side")) ?_
  by_cases h0 : nms = []
  · subst h0
    refine go_seq (go_if (EvST.to (c := true) (evt_test (evs_op (evs_var rfl) ((evs_lst evs_nil (by walk_at "side"))).ev (rv_eq (n := 3) (by walk_at "side") (by walk_at "side") (by decide)))) rfl) (fun _ => ?_) (fun z => by cases z))
    exact go_freeze 2 rfl (go_ret (evs_var rfl) post)
  have hl : 0 < nms.length := List.length_pos_iff.mpr h0
  have okg : ∀ {f : List Pr}, GoodP nms f → ∀ p ∈ f, okS p.1 ∧ okS p.2 := fun g p hp => ⟨ok _ (g.mem p hp).1, ok _ (g.mem p hp).2⟩
  refine sq_no (EvST.to (evt_test (evs_op (evs_var rfl) ((evs_lst evs_nil (by walk_at "side"))).ev (rv_eq (n := 3) (by walk_at "side") (by walk_at "side") (by decide)))) ?_) ?_
  · rw [show Da.lst [] = Da.lst (([] : List Str).map Da.str) from rfl, eqD_strs, decide_eq_false h0]
  refine sq_set (d := .int (way ns)) (evs_op (evs_op (evs_call (evs_cons (evs_var rfl) (evs_cons evs_int evs_nil)) (by walk_at "call")) evs_int (rv_i (g := fun i j => i / j) (by walk_at "side"))) evs_int (rv_i (g := fun i j => i % j) (by walk_at "side"))) ?_
  have hix : ∀ {i : Int}, 0 ≤ i → i < nms.length → atI (nms.map Da.str) i = some (.str (nth nms i)) := fun a b => at_dP a b rfl
  -- a row ahead
  refine sq_ifJ (fun δ' => ∃ x, δ' = [.dat (.scr ns), .dat (.lst (nms.map Da.str)), .own ((if way ns = 0 then ahead nms else []).map dP), .dat (.int (way ns)), x, .no, .no]) (EvST.to (evt_test (evs_op (evs_var rfl) evs_int (rv_eq (n := 3) (by walk_at "side") (by walk_at "side") (by decide)))) eqD_int) (fun z k => ?_) (fun z => ⟨.no, ?_⟩) ?_
  · have z := of_decide_eq_true z
    refine go_setN (evs_lcY (xs := List.range (nms.length - 1)) (enc := fun (k : Nat) => Da.int (k : Nat)) (itd_rN (evs_cons (evs_op (evs_cb (evs_cons (evs_var rfl) evs_nil) rc_lenL) evs_int (rv_i0 (g := fun i j => i - j))) evs_nil) ?_ ?_ ?_) (fun k => dP (nth nms k, nth nms (k + 1))) (by rw [List.length_range]; omega) ?_) (k _ ⟨.no, ?_⟩)
    iterate 3 (rw [List.length_map]; omega)
    · intro k hk
      have hk := List.mem_range.mp hk
      exact ⟨_, tgd_name, evs_tup (evs_cons (evs_op (evs_var rfl) (evs_var rfl) (rv_ixL (hix (by omega) (by omega)))) (evs_cons (evs_op (evs_var rfl) (evs_op (evs_var rfl) evs_int rv_addI) (rv_ixL (hix (by omega) (by omega)))) evs_nil)) (by show 2 ≤ 1000; decide)⟩
    · rw [if_pos z]
      unfold ahead
      rw [List.map_map] <;> rfl
  · have z := of_decide_eq_false z
    rw [if_neg z] <;> rfl
  rintro _ ⟨x, rfl⟩
  refine sq_ifJ (fun δ' => ∃ x, δ' = [.dat (.scr ns), .dat (.lst (nms.map Da.str)), .own ((begun nms (way ns)).map dP), .dat (.int (way ns)), x, .no, .no]) (EvST.to (evt_test (evs_op (evs_var rfl) evs_int (rv_eq (n := 3) (by walk_at "side") (by walk_at "side") (by decide)))) eqD_int) (fun z k => ?_) (fun z => ⟨x, ?_⟩) ?_
  · have z := of_decide_eq_true z
    refine go_setN (evs_lc (xs := List.range (nms.length - 1)) (enc := fun (k : Nat) => Da.int (k : Nat)) (itd_rN (evs_cons (evs_op (evs_cb (evs_cons (evs_var rfl) evs_nil) rc_lenL) evs_int (rv_i0 (g := fun i j => i - j))) evs_nil) ?_ ?_ ?_) (fun k => decide (((k : Nat) : Int) % 3 < 2)) (fun k => dP (nth nms (k + 1), nth nms k)) (by rw [List.length_range]; omega) ?_) (k _ ⟨x, ?_⟩)
    iterate 3 (rw [List.length_map]; omega)
    · intro k hk
      have hk := List.mem_range.mp hk
      refine ⟨_, tgd_name, (evt_test (evs_op (evs_op (evs_var rfl) evs_int (rv_i (g := fun i j => i % j) (by walk_at "side"))) evs_int (rv_b0 (g := fun i j => decide (i < j))))), fun _ => ?_⟩
      exact evs_tup (evs_cons (evs_op (evs_var rfl) (evs_op (evs_var rfl) evs_int rv_addI) (rv_ixL (hix (by omega) (by omega)))) (evs_cons (evs_op (evs_var rfl) (evs_var rfl) (rv_ixL (hix (by omega) (by omega)))) evs_nil)) (by show 2 ≤ 1000; decide)
    · unfold begun
      rw [if_pos z]
      unfold aback
      rw [List.map_map] <;> rfl
  · have z := of_decide_eq_false z
    unfold begun
    rw [if_neg z] <;> rfl
  rintro _ ⟨x, rfl⟩
  refine sq_for (itd_rng2 (evs_cons evs_int (evs_cons (evs_cb (evs_cons (evs_var rfl) evs_nil) rc_lenC) evs_nil)) (by walk_at "side") (by walk_at "side") (by walk_at "side")) (fun i δ => ∃ x y z, δ = [.dat (.scr ns), .dat (.lst (nms.map Da.str)), .own ((grown ns nms i).map dP), .dat (.int (way ns)), x, y, z]) ⟨x, .no, .no, rfl⟩ ?_ ?_
  · rintro P i d _ hd ⟨x, y, z, rfl⟩
    obtain ⟨hi, rfl⟩ := rng_at hd
    have hk : (2 : Int) + (i : Nat) = ((2 + i : Nat) : Int) := by omega
    have hm0 := cellAt_lo ns (2 + i)
    generalize hM : cellAt ns (2 + i) / 11 = M
    have hM0 : 0 ≤ M := by omega
    have a1 := Int.emod_nonneg M (show (nms.length : Int) ≠ 0 by omega)
    have a2 := Int.emod_lt_of_pos M (show (0 : Int) < nms.length by omega)
    have a3 := Int.emod_nonneg (M / 8) (show (nms.length : Int) ≠ 0 by omega)
    have a4 := Int.emod_lt_of_pos (M / 8) (show (0 : Int) < nms.length by omega)
    have g := good_grown (ns := ns) nd h0 i
    have gl := grown_len (ns := ns) (nms := nms) i
    have m0 := pair0_mem (nms := nms) (m := M) h0
    refine ⟨_, tga_name, ?_⟩
    rw [hk]
    refine sq_set (d := .int M) (EvS.to (evs_op (evs_call (evs_cons (evs_var rfl) (evs_cons (evs_var rfl) evs_nil)) (by walk_at "call")) evs_int (rv_i (g := fun i j => i / j) (by walk_at "side"))) (by rw [hM])) ?_
    refine sq_set (d := dP (pair0 nms M)) (EvS.to (evs_tup (evs_cons (evs_op (evs_var rfl) (evs_op (evs_var rfl) (evs_cb (evs_cons (evs_var rfl) evs_nil) rc_lenL) (rv_i (g := fun i j => i % j) (by rw [List.length_map]; omega))) (rv_ixL (d := .str (pair0 nms M).1) (by rw [List.length_map]; exact hix a1 a2))) (evs_cons (evs_op (evs_var rfl) (evs_op (evs_op (evs_var rfl) evs_int (rv_i (g := fun i j => i / j) (by exact ⟨by decide, by decide⟩))) (evs_cb (evs_cons (evs_var rfl) evs_nil) rc_lenL) (rv_i (g := fun i j => i % j) (by rw [List.length_map]; omega))) (rv_ixL (d := .str (pair0 nms M).2) (by rw [List.length_map]; exact hix a3 a4))) evs_nil)) (by show 2 ≤ 1000; decide)) rfl) ?_
    refine sq_ifJ (fun δ' => δ' = [.dat (.scr ns), .dat (.lst (nms.map Da.str)), .own ((grown ns nms i).map dP), .dat (.int (way ns)), .dat (.int ((2 + i : Nat) : Int)), .dat (.int M), .dat (dP (pairOf nms (way ns) M))])
      (b := swaps nms (way ns) (pair0 nms M)) ?_ (fun z k => ?_) (fun z => ?_) ?_
    · refine EvST.to (evt_and (evt_test (evs_op (evs_var rfl) (evs_tup (evs_cons evs_int (evs_cons evs_int (evs_cons evs_int evs_nil))) (by show 3 ≤ 1000; decide)) (rv_inI (neg := false) (xs := [2, 3, 4]) (.inr rfl))))
        (fun _ => evt_test (evs_op (evs_index (xs := nms) (x := (pair0 nms M).1) (evs_var rfl) (evs_op (evs_var rfl) evs_int (rv_ixT rfl)) m0.1) (evs_index (xs := nms) (x := (pair0 nms M).2) (evs_var rfl) (evs_op (evs_var rfl) evs_int (rv_ixT rfl)) m0.2) (rv_b0 (g := fun i j => decide (j < i)))))) ?_
      rfl
    · refine go_set (d := dP ((pair0 nms M).2, (pair0 nms M).1)) (evs_tup (evs_cons (evs_op (evs_var rfl) evs_int (rv_ixT (by walk_at "side"))) (evs_cons (evs_op (evs_var rfl) evs_int (rv_ixT (by walk_at "side"))) evs_nil)) (by walk_at "side")) (k _ ?_)
      show [_, _, _, _, _, _, _] = _
      unfold pairOf
      rw [if_pos z]
    · show [_, _, _, _, _, _, _] = _
      unfold pairOf
      rw [if_neg (by rw [z]; decide)] <;> rfl
    rintro _ rfl
    have pm := pairOf_mem (nms := nms) (w := way ns) (m := M) h0
    generalize hp : pairOf nms (way ns) M = p at pm
    have okp : okS p.1 ∧ okS p.2 := ⟨ok _ pm.1, ok _ pm.2⟩
    refine go_if (b := adds nms (way ns) (grown ns nms i) M) ?_ (fun z => ?_) (fun z => ?_)
    · refine EvST.to (evt_and (evt_test (evs_op (evs_var rfl) (evs_var rfl) (rv_niD (n := 3) (ok_dP okp) (ok_dPs (okg g)) (by decide))))
        (fun _ => evt_or (evt_test (evs_op (evs_op (evs_var rfl) evs_int (rv_ixT (d := .str p.1) rfl)) (evs_op (evs_var rfl) evs_int (rv_ixT (d := .str p.2) rfl)) (rv_ne (n := 3) (ok_str okp.1) (ok_str okp.2) (by decide))))
          (fun _ => evt_test (evs_op (evs_op (evs_op (evs_var rfl) evs_int (rv_i (g := fun i j => i / j) (by exact ⟨by decide, by decide⟩))) evs_int (rv_i (g := fun i j => i % j) (by decide))) evs_int (rv_eq (n := 3) True.intro True.intro (by decide)))))) ?_
      unfold adds
      rw [hp, any_dP, eqD_str, eqD_int]
    · refine go_append rfl (evs_var rfl) (by rw [List.length_map]; omega) (nx_end ⟨.dat (.int ((2 + i : Nat) : Int)), .dat (.int M), .dat (dP p), ?_⟩)
      have eg : (grown ns nms (i + 1)).map dP = (grown ns nms i).map dP ++ [dP p] := by
        rw [grown_succ, hM]
        unfold addPair
        rw [if_pos z, List.map_append, hp] <;> rfl
      rw [eg] <;> rfl
    · refine go_one (nx_end ⟨.dat (.int ((2 + i : Nat) : Int)), .dat (.int M), .dat (dP p), ?_⟩)
      have eg : grown ns nms (i + 1) = grown ns nms i := by
        rw [grown_succ, hM]
        unfold addPair
        rw [if_neg (by rw [z]; decide)] <;> rfl
      rw [eg] <;> rfl
  · rintro _ ⟨x, y, z, rfl⟩
    rw [rng_len]
    have b0 := cellAt_lo ns 1
    have e1 : ((ns.length : Int) - 2).toNat = ns.length - 2 := by omega
    rw [e1]
    refine go_freeze 2 rfl ?_
    refine go_ret (d := .lst ((pairsOf ns nms).map dP)) (EvS.to ((evs_slN (evs_var rfl) evo_none (evo_some (evs_op ((evs_lst (evs_cons evs_int (evs_cons evs_int (evs_cons evs_int (evs_cons evs_int (evs_cons evs_int (evs_cons evs_int (evs_cons evs_int (evs_cons evs_int evs_nil)))))))) (by walk_at "side"))).ev (evs_op (evs_op (evs_call (evs_cons (evs_var rfl) (evs_cons evs_int evs_nil)) (by walk_at "call")) evs_int (rv_i (g := fun i j => i / j) (by walk_at "side"))) evs_int (rv_i (g := fun i j => i % j) (by walk_at "side"))) (rv_ixL (by walk_at "side")))))).ev ?_) post
    unfold pairsOf
    rw [if_neg h0, List.map_take, cut_to] <;> rfl
/-! drawn -/
theorem r_l_names {c m : Int} (h : 0 ≤ c ∧ c < 2147483648 ∧ 0 ≤ m ∧ m ≤ 12) : R_l_names [.int c, .int m] (.lst ((names c m.toNat).map Da.str)) := ⟨c, m.toNat, by rw [Int.toNat_of_nonneg h.2.2.1], ⟨h.1, h.2.1, by omega⟩, rfl⟩
def R_l_drawn (ds : List Da) (d : Da) : Prop := ∃ (ns : List Int), ds = [.scr ns] ∧ ns.length ≤ 63 ∧ d = .tup [.lst ((nmsOf ns).map Da.str), .lst ((psOf ns).map dP)]
abbrev sp_l_drawn (K : PySem.W.Frag) (A : Ad) : Sp := SpD K R_l_drawn
theorem ok_l_drawn (T : Tx K mg A) : FnOk P w K mg base CX0 4 A.f_l_drawn A.fd_l_drawn ["_law_script"] (sp_l_drawn K A) := by
  refine T.F_l_drawn.ok sc_l_drawn (spd_len (n := 1) (by rintro _ _ ⟨c, rfl, _, rfl⟩; rfl)) (fun cdv A' outer s H vs Q E hr h => ⟨_, (pss_cons (ps_set (i := 1) sc_l_drawn.nd rfl (Or.inl rfl) (pe_call (ok_l_names T) (hr.mono (by decide) : Room 2 _) rfl T.g_l_names T.F_l_names.kp T.B_l_names .nil pass0 (pa_cons (pe_call (ok_l_cell_at T) (hr.mono (by decide) : Room 2 _) rfl T.g_l_cell_at T.F_l_cell_at.kp T.B_l_cell_at .nil pass0 (pa_cons (pv 0) (pa_cons pe_int pa_nil))) (pa_cons (pe_op op_mod (pe_op op_fdiv (pe_call (ok_l_cell_at T) (hr.mono (by decide) : Room 2 _) rfl T.g_l_cell_at T.F_l_cell_at.kp T.B_l_cell_at .nil pass0 (pa_cons (pv 0) (pa_cons pe_int pa_nil))) pe_int) pe_int) pa_nil))))
  (pss_one (ps_ret (pe_tup (pa_cons (pv 1) (pa_cons (pe_call (ok_l_pairs T) hr rfl T.g_l_pairs T.F_l_pairs.kp T.B_l_pairs .nil pass0 (pa_cons (pv 0) (pa_cons (pv 1) pa_nil))) pa_nil)))))), spd_body (N := N_l_drawn) (by rintro _ _ ⟨c, rfl, _, rfl⟩; exact (by decide : 1 ≤ N_l_drawn.length)) ?_ _ _ _ _ h⟩)
  rintro _ _ ⟨ns, rfl, l1, rfl⟩ C Q rfl post
  have c0 := cellAt_lo ns 0
  have c1 := cellAt_hi ns 0
  refine sq_set (d := .lst ((nmsOf ns).map Da.str)) (evs_call (evs_cons (evs_call (evs_cons (evs_var rfl) (evs_cons evs_int evs_nil)) (by walk_at "call")) (evs_cons (evs_op (evs_op (evs_call (evs_cons (evs_var rfl) (evs_cons evs_int evs_nil)) (by walk_at "call")) evs_int (rv_i (g := fun i j => i / j) (by exact ⟨by decide, by decide⟩))) evs_int (rv_i (g := fun i j => i % j) (by decide))) evs_nil)) (r_l_names ⟨c0, by show cellAt ns 0 < _; omega, by show 0 ≤ cellAt ns 0 / 3 % 9; omega, by show cellAt ns 0 / 3 % 9 ≤ 12; omega⟩)) ?_
  refine go_ret (evs_tup (evs_cons (evs_var rfl) (evs_cons (evs_call (evs_cons (evs_var rfl) (evs_cons (evs_var rfl) evs_nil)) ⟨ns, nmsOf ns, rfl, ⟨l1, ?_, nmsOf_nd ns, fun x hx => nm_ok (nmsOf_nm ns x hx)⟩, rfl⟩) evs_nil)) (by show 2 ≤ 1000; decide)) post
  have := nmsOf_len ns
  omega
end
/-! # Benches -/
section
variable {P : Program} {w : World} {K : PySem.W.Frag} {mg : Str → Option Value} {base : Heap} {A : Ad}
theorem evs_fmtIB {δ : List Sl} {te : TE} {i : Nat} (h : EvS K te δ (.int (i : Nat))) (hi : i < 200) : EvS K (tFmt te) δ (.str (Str.ofString (toString ((i : Nat) : Int)))) := fun σ Hk D H s Q q =>
  h σ Hk D H s _ fun v Hs H' x r => by
    cases r
    exact .inr ⟨_, rfl, (small_intB i hi).2, q _ Hs H' x (.str _)⟩
/-! is_name -/
def R_is_name (ds : List Da) (d : Da) : Prop := ∃ t T, ds = [t] ∧ (tyName t = some T ∧ ∀ x, t = .str x → x.length ≤ 80000) ∧ d = .bl (isNameB t)
abbrev sp_is_name (K : PySem.W.Frag) (A : Ad) : Sp := SpD K R_is_name
theorem kit_str {d : Da} {T : String} (h : tyName d = some T) : kitB T "str" = some (decide (T = "str")) := by
  cases d <;> first | (cases h; done) | (cases h; decide +kernel)
theorem ok_is_name (T : Tx K mg A) : FnOk P w K mg base CX0 1 A.f_is_name A.fd_is_name ["thing"] (sp_is_name K A) := by
  refine T.F_is_name.ok sc_is_name (spd_len (n := 1) (by rintro _ _ ⟨c, k, rfl, _, rfl⟩; rfl)) (fun cdv A' outer s H vs Q E hr h => ⟨_, (pss_cons (ps_if (pt_not (pt_val (pe_callB call_isi rfl T.n_isinstance PyProof.Rows.boot_isinstance (pa_cons (pv 0) (pa_cons (pe_bltn (v := .ty "str") (u := .type "str") rfl T.n_str (by decide +kernel) rfl) pa_nil))))) (pss_one (ps_ret pe_bl)) pss_nil)
  (pss_cons (ps_if (pt_not (pt_chain op_le op_le pe_int (pe_callB call_lenU rfl T.n_len PySem.boot_len (pa_cons (pv 0) pa_nil)) (pe_glob (v := (.int 8)) rfl T.g_LONGEST_NAME ⟨_, rfl⟩))) (pss_one (ps_ret pe_bl)) pss_nil)
  (pss_one (ps_ret (pe_callB (cr_all rfl) rfl T.n_all PyProof.Rows.boot_all (pa_cons (pe_lc (own := [("sign", 1)]) (g := (gName 1)) (tt := tYes) (te := (tOp rInC (tVar 1) (tC (.str "abcdefghijklmnopqrstuvwxyz")))) rfl sc_is_name.nd (pi_str (pv 0)) (blkOk_by (own := [("sign", 1)]) (N := N_is_name) (sc := (defScope s_is_name)) (by decide +kernel)) (fun _ _ _ _ _ => (pg_name (i := 1) sc_is_name.nd rfl (Or.inl rfl))) (fun _ _ _ _ _ => pts_nil) (fun _ _ _ _ _ => (pe_cmpR op_in_signU (pv 1) (pe_glob (v := (.str "abcdefghijklmnopqrstuvwxyz")) rfl T.g_LETTERS ⟨_, rfl⟩) rfl))) pa_nil)))))), spd_body (N := N_is_name) (by rintro _ _ ⟨c, k, rfl, _, rfl⟩; exact (by decide : 1 ≤ N_is_name.length)) ?_ _ _ _ _ h⟩)
  rintro _ _ ⟨t, T', rfl, ⟨h1, h2⟩, rfl⟩ C Q rfl post
  by_cases hs : T' = "str"
  · obtain ⟨x, rfl⟩ : ∃ x, t = .str x := by
      subst hs
      cases t <;> first | exact ⟨_, rfl⟩ | exact absurd h1 (by simp [tyName])
    have hx := h2 x rfl
    refine sq_nod (EvST.to (evt_not (evt_B (evs_cb (evs_cons (evs_var rfl) (evs_cons evs_ty evs_nil)) (rc_isi h1 (kit_str h1))))) (by rw [hs]; rfl)) ?_
    by_cases hl : ((decide ((1 : Int) ≤ (x.length : Nat)) && decide (((x.length : Nat) : Int) ≤ 8))) = true
    · refine sq_nod (EvST.to (evt_not (evt_test (evs_chain evs_int (evs_cb (evs_cons (evs_var rfl) evs_nil) (rc_lenB (by omega))) evs_int (rv_b0 (g := fun i j => decide (i ≤ j))) (rv_b0 (g := fun i j => decide (i ≤ j)))))) (by rw [hl]; rfl)) ?_
      refine go_ret (EvS.to (evs_cb (evs_cons (EvSN.ev (EvSN.to (evs_lcY (xs := x.cps.toList) (enc := fun c => Da.str ⟨#[c]⟩) (itd_str (evs_var rfl)) (fun c => .bl (decide (c ∈ az))) (by rw [Bool.and_eq_true, decide_eq_true_eq, decide_eq_true_eq] at hl; rw [Array.length_toList]; show x.length ≤ 1000; omega) ?_) (?_ : _ = (x.cps.toList.map fun c => decide (c ∈ az)).map Da.bl))) evs_nil) rc_all) ?_) post
      · intro c hc
        refine ⟨_, tgd_name, EvS.to (evs_op (evs_var rfl) evs_str rv_inC) ?_⟩
        rw [az_eq, S_list]
      · rw [List.map_map] <;> rfl
      · rw [isNameB_str, hl, List.all_map] <;> rfl
    · have hl := Bool.eq_false_iff.mpr hl
      refine sq_yesd (EvST.to (evt_not (evt_test (evs_chain evs_int (evs_cb (evs_cons (evs_var rfl) evs_nil) (rc_lenB (by omega))) evs_int (rv_b0 (g := fun i j => decide (i ≤ j))) (rv_b0 (g := fun i j => decide (i ≤ j)))))) (by rw [hl]; rfl)) (go_ret evs_bl ?_)
      have e : isNameB (.str x) = false := by
        rw [isNameB_str, hl] <;> rfl
      rw [e] at post
      exact post
  · have e : isNameB t = false := by
      cases t <;> first | rfl | exact absurd (by cases h1; rfl) hs
    refine sq_yesd (EvST.to (evt_not (evt_B (evs_cb (evs_cons (evs_var rfl) (evs_cons evs_ty evs_nil)) (rc_isi h1 (kit_str h1))))) (by rw [decide_eq_false hs]; rfl)) (go_ret evs_bl ?_)
    rw [e] at post
    exact post
/-! check_speech -/
def R_check_speech (ds : List Da) (d : Da) : Prop := ∃ (ns : List Str) (x : Str), ds = [.tup (ns.map Da.str), .str x] ∧ x ∈ ns ∧ d = .non
def X_check_speech (A : Ad) (ds : List Da) (B : Addr) : Prop := ∃ (ns : List Str) (x : Str), ds = [.tup (ns.map Da.str), .str x] ∧ x ∉ ns ∧ B = A.C_NoSpeech
abbrev sp_check_speech (K : PySem.W.Frag) (A : Ad) : Sp := SpX K R_check_speech (X_check_speech A)
theorem ok_check_speech (T : Tx K mg A) : FnOk P w K mg base (L2.CX P w) 1 A.f_check_speech A.fd_check_speech ["names", "name"] (sp_check_speech K A) := by
  refine T.F_check_speech.okX sc_check_speech (spx_len (n := 2) (by rintro _ _ ⟨c, k, rfl, _, rfl⟩; rfl) (by rintro _ _ ⟨c, k, rfl, _, rfl⟩; rfl)) (fun cdv A' outer s H vs Q E hr h => ⟨_, (pss_one (ps_if (pt_cmpR op_notIn_seq (pv 1) (pv 0) rfl) (pss_one (ps_raise rfl (takes_of rfl rfl rfl rfl) (pmk_own PySem.F.excBase_ValueError T.x_NoSpeech T.g_NoSpeech T.kc_NoSpeech (raises_own T.b_NoSpeech T.t_NoSpeech) (by exact rfl)))) pss_nil)), spx_body (N := N_check_speech) (ts := fun E => (tIfS (tTest (tOp (rIn K true) (tVar 1) (tVar 0))) (tRaise E A.C_NoSpeech) tNext)) (by rintro _ _ ⟨c, k, rfl, _, rfl⟩; exact (by decide : 2 ≤ N_check_speech.length)) (by rintro _ _ ⟨c, k, rfl, _, rfl⟩; exact (by decide : 2 ≤ N_check_speech.length)) ?_ ?_ _ _ _ _ h⟩)
  · rintro _ _ ⟨ns, x, rfl, hx, rfl⟩ C Q E rfl post
    refine go_ifd (b := false) (EvST.to (evt_test (evs_op (evs_var rfl) (evs_var rfl) (rv_inS (neg := true) (xs := ns) (.inr rfl)))) ?_) (fun z => by cases z) fun _ => go_one fun σ Hk H a => post _ Hk H a.ext .non
    rw [decide_eq_true hx] <;> rfl
  · rintro _ _ ⟨ns, x, rfl, hx, rfl⟩ C Q E rfl post
    refine go_ifd (b := true) (EvST.to (evt_test (evs_op (evs_var rfl) (evs_var rfl) (rv_inS (neg := true) (xs := ns) (.inr rfl)))) ?_) (fun _ => go_raise post) (fun z => by cases z)
    rw [decide_eq_false hx] <;> rfl
/-! checked_names -/
def Kinded (ts : List Da) : Prop := ∀ t ∈ ts, (∃ T, tyName t = some T) ∧ ∀ x, t = .str x → x.length ≤ 80000
def R_checked_names (ds : List Da) (d : Da) : Prop := ∃ (ts : List Da) (ns : List Str) (q : Da), ds = [q] ∧ (q = .lst ts ∨ q = .tup ts) ∧ (Kinded ts ∧ ts.length ≤ 8 ∧ chk [] ts = some ns) ∧ d = .tup (ns.map Da.str)
def X_checked_names (A : Ad) (ds : List Da) (B : Addr) : Prop := ∃ (ts : List Da) (q : Da), ds = [q] ∧ (q = .lst ts ∨ q = .tup ts) ∧ (Kinded ts ∧ ts.length ≤ 150) ∧ ((8 < ts.length ∧ B = A.C_TooMany) ∨ (ts.length ≤ 8 ∧ chk [] ts = none ∧ B = A.C_BadName))
abbrev sp_checked_names (K : PySem.W.Frag) (A : Ad) : Sp := SpX K R_checked_names (X_checked_names A)
theorem body_checked_names : ∀ (C : Ct) (Q : VK) (E : XK) (ts : List Da) (q : Da), C.K = K → (q = .lst ts ∨ q = .tup ts) → Kinded ts → ts.length ≤ 8 → (∀ ns, chk [] ts = some ns → Post C (.tup (ns.map Da.str)) Q) → (chk [] ts = none → ∀ H', Same C.H0 H' → E (.ref A.C_BadName) none H') →
    Go C ((tSeq (tIfS (tTest (tOp (rI0 fun i j => .bl (decide (j < i))) (tCB (rLen K) (tCons (tVar 0) tNil)) (tC (.int 8)))) (tRaise1 E A.C_TooMany (tJoin [(tFmt (tCB (rLen K) (tCons (tVar 0) tNil))), (tC (.str " speeches, but a bench has at most ")), (tFmt (tC (.int 8)))])) tNext) (tSeq (tAsg (tLst tNil) (gName 1)) (tSeq (tFor (iEnumU K (tCons (tVar 0) tNil)) (gTup K 2 (gCons (gName 2) (gCons (gName 3) gNil))) (tSeq (tIfS (tNot (tB (tCall (sp_is_name K A) [] E0 (tCons (tVar 3) tNil)))) (tRaise1 E A.C_BadName (tJoin [(tC (.str "names[")), (tFmt (tVar 2)), (tC (.str "] is not a text of 1 to ")), (tFmt (tC (.int 8))), (tC (.str " small letters"))])) tNext) (tSeq (tIfS (tTest (tOp (rIn K false) (tVar 3) (tVar 1))) (tRaise1 E A.C_BadName (tJoin [(tC (.str "names[")), (tFmt (tVar 2)), (tC (.str "] is there ahead: ")), (tFmt (tVar 3))])) tNext) (tDrop (tBM K "list" rAppend (tVar 1) (tCons (tVar 3) tNil)))))) (tRet (tCB (rTuple K) (tCons (tVar 1) tNil))))))) { nx := fun _ H' => Q .non H', rt := Q } [.dat q, .no, .no, .no] := by
  rintro C Q E ts q rfl hq hk hl hok hno
  refine sq_nod (EvST.to (evt_test (evs_op (evs_cb (evs_cons (evs_var rfl) evs_nil) (rc_lenU hq)) evs_int (rv_b0 (g := fun i j => decide (j < i))))) (by simp; omega)) ?_
  refine sq_setN (evs_lst evs_nil (by decide)) ?_
  refine sq_for (itd_enumU hq (evs_cons (evs_var rfl) evs_nil)) (fun i δ => ∃ seen a b, chk [] (ts.take i) = some seen ∧ δ = [.dat q, .own (seen.map Da.str), a, b]) ⟨[], .no, .no, by simp [chk], rfl⟩ ?_ ?_
  · rintro P' i d _ hd ⟨seen, a, b, hs, rfl⟩
    obtain ⟨t, ht, rfl⟩ := enums_at hd
    have hi := (List.getElem?_eq_some_iff.mp ht).1
    obtain ⟨⟨T', hT⟩, hx⟩ := hk t (List.mem_of_getElem? ht)
    have hst := chk_step ht hs
    refine ⟨_, tga_tup2, ?_⟩
    refine sq_if1 (EvST.to (evt_not (evt_B (evs_call (evs_cons (evs_var rfl) evs_nil) (show R_is_name [t] _ from ⟨t, T', rfl, ⟨hT, hx⟩, rfl⟩)))) rfl) (fun z => ?_) (fun z => ?_)
    · have hf : chk [] ts = none := chk_fail (i := i + 1) (by
        rw [hst, chk_one]
        cases t <;> first | rfl | (simp at z; simp [z]))
      exact go_raiseX (evx_join (.cons (EvS.to evs_str rfl) (by decide) (.cons (evs_fmtI (evs_var rfl) (by omega)) (small_int i (by omega)).1 (.cons (EvS.to evs_str rfl) (by decide) (.cons (evs_fmtI (i := 8) evs_int (by decide)) (by decide +kernel) (.cons (EvS.to evs_str rfl) (by decide) .nil))))) (by decide)) (hno hf)
    · have z : isNameB t = true := by simpa using z
      obtain ⟨x, rfl⟩ := isNameB_of z
      have hx8 : x.length ≤ 1000 := by
        rw [isNameB_str, Bool.and_eq_true, Bool.and_eq_true, decide_eq_true_eq, decide_eq_true_eq] at z
        omega
      have hc : chk seen [.str x] = if decide (x ∈ seen) = true then none else some (seen ++ [x]) := by
        rw [chk_one]
        simp only [z, Bool.true_and]
        by_cases hm : x ∈ seen
        · rw [decide_eq_true hm] <;> rfl
        · rw [decide_eq_false hm] <;> rfl
      refine sq_if1 (EvST.to (evt_test (evs_op (evs_var rfl) (evs_var rfl) (rv_inS (neg := false) (xs := seen) (.inl rfl)))) rfl) (fun y => ?_) (fun y => ?_)
      · have y : decide (x ∈ seen) = true := y
        have hf : chk [] ts = none := chk_fail (i := i + 1) (by rw [hst, hc, if_pos y])
        exact go_raiseX (evx_join (.cons (EvS.to evs_str rfl) (by decide) (.cons (evs_fmtI (evs_var rfl) (by omega)) (small_int i (by omega)).1 (.cons (EvS.to evs_str rfl) (by decide) (.cons (evs_fmtS (evs_var rfl) hx8) hx8 .nil)))) (by decide)) (hno hf)
      · have y : decide (x ∈ seen) = false := y
        have hsl := chk_len _ _ _ hs
        rw [List.length_take, List.length_nil] at hsl
        refine go_append rfl (evs_var rfl) (by rw [List.length_map]; omega) (nx_end ⟨seen ++ [x], .dat (.int (i : Nat)), .dat (.str x), ?_, ?_⟩)
        · rw [hst, hc, y] <;> rfl
        · rw [List.map_append] <;> rfl
  · rintro _ ⟨seen, a, b, hs, rfl⟩
    rw [enums_len, List.take_length] at hs
    exact go_freeze 1 rfl (go_ret (evs_cb (evs_cons (evs_var rfl) evs_nil) rc_tupleL) (hok _ hs))
theorem ok_checked_names (T : Tx K mg A) : FnOk P w K mg base (L2.CX P w) 2 A.f_checked_names A.fd_checked_names ["names"] (sp_checked_names K A) := by
  refine T.F_checked_names.okX sc_checked_names (spx_len (n := 1) (by rintro _ _ ⟨_, _, _, rfl, _⟩; rfl) (by rintro _ _ ⟨_, _, rfl, _⟩; rfl)) (fun cdv A' outer s H vs Q E hr h => ⟨_, (pss_cons (ps_if (pt_cmpR op_gt (pe_callB call_lenU rfl T.n_len PySem.boot_len (pa_cons (pv 0) pa_nil)) (pe_glob (v := (.int 8)) rfl T.g_MOST_SPEECHES ⟨_, rfl⟩) (nomark _)) (pss_one (ps_raise rfl (takes_of rfl rfl rfl rfl) (SkE.pmk_own1 PySem.F.excBase_ValueError T.x_TooMany T.g_TooMany T.kc_TooMany (raises_own T.b_TooMany T.t_TooMany) (by exact rfl) (pe_joined (PJ.cons (pe_fmt (pe_callB call_lenU rfl T.n_len PySem.boot_len (pa_cons (pv 0) pa_nil))) (PJ.cons pe_str (PJ.cons (pe_fmt (pe_glob (v := (.int 8)) rfl T.g_MOST_SPEECHES ⟨_, rfl⟩)) PJ.nil))))))) pss_nil)
  (pss_cons (ps_set (i := 1) sc_checked_names.nd rfl (Or.inl rfl) (pe_lst pa_nil))
  (pss_cons (ps_for (passes_of rfl) rfl (pi_enumU rfl T.n_enumerate (pa_cons (pv 0) pa_nil)) (pg_tup rfl (pgs_cons (pg_name (i := 2) sc_checked_names.nd rfl (Or.inl rfl)) (pgs_cons (pg_name (i := 3) sc_checked_names.nd rfl (Or.inl rfl)) pgs_nil)))
  (pss_cons (ps_if (pt_not (pt_val (pe_call (ok_is_name T) hr rfl T.g_is_name T.F_is_name.kp T.B_is_name .nil pass0 (pa_cons (pv 3) pa_nil)))) (pss_one (ps_raise rfl (takes_of rfl rfl rfl rfl) (SkE.pmk_own1 PySem.F.excBase_ValueError T.x_BadName T.g_BadName T.kc_BadName (raises_own T.b_BadName T.t_BadName) (by exact rfl) (pe_joined (PJ.cons pe_str (PJ.cons (pe_fmt (pv 2)) (PJ.cons pe_str (PJ.cons (pe_fmt (pe_glob (v := (.int 8)) rfl T.g_LONGEST_NAME ⟨_, rfl⟩)) (PJ.cons pe_str PJ.nil))))))))) pss_nil)
  (pss_cons (ps_if (pt_cmpR op_in_seq (pv 3) (pv 1) rfl) (pss_one (ps_raise rfl (takes_of rfl rfl rfl rfl) (SkE.pmk_own1 PySem.F.excBase_ValueError T.x_BadName T.g_BadName T.kc_BadName (raises_own T.b_BadName T.t_BadName) (by exact rfl) (pe_joined (PJ.cons pe_str (PJ.cons (pe_fmt (pv 2)) (PJ.cons pe_str (PJ.cons (pe_fmt (pv 3)) PJ.nil)))))))) pss_nil)
  (pss_one (ps_expr (pe_bm PySem.F.plainAttrs_list PySem.F.slot_list_append PySem.F.type_list_append mt_append (pv 1) (pa_cons (pv 3) pa_nil)))))))
  (pss_one (ps_ret (pe_callTy call_tupleU rfl T.n_tuple PyProof.Rows.boot_tuple (pa_cons (pv 1) pa_nil))))))), spx_body (N := N_checked_names) (ts := fun E => (tSeq (tIfS (tTest (tOp (rI0 fun i j => .bl (decide (j < i))) (tCB (rLen K) (tCons (tVar 0) tNil)) (tC (.int 8)))) (tRaise1 E A.C_TooMany (tJoin [(tFmt (tCB (rLen K) (tCons (tVar 0) tNil))), (tC (.str " speeches, but a bench has at most ")), (tFmt (tC (.int 8)))])) tNext) (tSeq (tAsg (tLst tNil) (gName 1)) (tSeq (tFor (iEnumU K (tCons (tVar 0) tNil)) (gTup K 2 (gCons (gName 2) (gCons (gName 3) gNil))) (tSeq (tIfS (tNot (tB (tCall (sp_is_name K A) [] E0 (tCons (tVar 3) tNil)))) (tRaise1 E A.C_BadName (tJoin [(tC (.str "names[")), (tFmt (tVar 2)), (tC (.str "] is not a text of 1 to ")), (tFmt (tC (.int 8))), (tC (.str " small letters"))])) tNext) (tSeq (tIfS (tTest (tOp (rIn K false) (tVar 3) (tVar 1))) (tRaise1 E A.C_BadName (tJoin [(tC (.str "names[")), (tFmt (tVar 2)), (tC (.str "] is there ahead: ")), (tFmt (tVar 3))])) tNext) (tDrop (tBM K "list" rAppend (tVar 1) (tCons (tVar 3) tNil)))))) (tRet (tCB (rTuple K) (tCons (tVar 1) tNil))))))) (by rintro _ _ ⟨_, _, _, rfl, _⟩; exact (by decide : 1 ≤ N_checked_names.length)) (by rintro _ _ ⟨_, _, rfl, _⟩; exact (by decide : 1 ≤ N_checked_names.length)) ?_ ?_ _ _ _ _ h⟩)
  · rintro _ _ ⟨ts, ns, q, rfl, hq, ⟨hk, hl, hc⟩, rfl⟩ C Q E e post
    exact body_checked_names C Q E ts q e hq hk hl (fun ns' h' => by rw [hc] at h'; cases h'; exact post) (fun h' => by rw [hc] at h'; cases h')
  · rintro _ _ ⟨ts, q, rfl, hq, ⟨hk, hl⟩, hB⟩ C Q E e post
    rcases hB with ⟨h8, rfl⟩ | ⟨h8, hn, rfl⟩
    · subst e
      refine sq_yesd (EvST.to (evt_test (evs_op (evs_cb (evs_cons (evs_var rfl) evs_nil) (rc_lenU hq)) evs_int (rv_b0 (g := fun i j => decide (j < i))))) (by simp; omega)) ?_
      refine go_raiseX (evx_join (.cons (evs_fmtIB (i := ts.length) (evs_cb (evs_cons (evs_var ?_) evs_nil) (rc_lenU hq)) (by omega)) (small_intB _ (by omega)).1 (.cons (EvS.to evs_str rfl) (by decide) (.cons (evs_fmtI (i := 8) evs_int (by decide)) (by decide +kernel) .nil))) (by show 3 ≤ 100; decide)) post
      rfl
    · exact body_checked_names C Q E ts q e hq hk h8 (fun ns' h' => by rw [hn] at h'; cases h') (fun _ => post)
/-! checked_pairs -/
def QOk (ns : List Str) (qs : List (Bool × Pr)) : Prop := (∀ x ∈ ns, isNm x) ∧ (∀ q ∈ qs, okS q.2.1 ∧ okS q.2.2) ∧ qs.length ≤ 200
def R_checked_pairs (ds : List Da) (d : Da) : Prop := ∃ (qs : List (Bool × Pr)) (ns : List Str) (ps : List Pr) (q : Da), ds = [q, .tup (ns.map Da.str)] ∧ (q = .lst (qs.map dQ) ∨ q = .tup (qs.map dQ)) ∧ (QOk ns qs ∧ chkP ns [] qs = .ok ps) ∧ d = .tup (ps.map dP)
def X_checked_pairs (A : Ad) (ds : List Da) (B : Addr) : Prop := ∃ (qs : List (Bool × Pr)) (ns : List Str) (q : Da), ds = [q, .tup (ns.map Da.str)] ∧ (q = .lst (qs.map dQ) ∨ q = .tup (qs.map dQ)) ∧ QOk ns qs ∧ ((chkP ns [] qs = .strange ∧ B = A.C_NoSpeech) ∨ (chkP ns [] qs = .twice ∧ B = A.C_Twice))
abbrev sp_checked_pairs (K : PySem.W.Frag) (A : Ad) : Sp := SpX K R_checked_pairs (X_checked_pairs A)
theorem tga_dQ {K : PySem.W.Frag} {δ : List Sl} {q : Bool × Pr} {i j : Nat} : TgA K (gSeq K 2 (gCons (gName i) (gCons (gName j) gNil))) (dQ q) δ ((δ.set i (.dat (.str q.2.1))).set j (.dat (.str q.2.2))) := by
  obtain ⟨b, p⟩ := q
  cases b with
  | true => exact tga_seqT tga_tup2
  | false => exact tga_seqL tga_lst2
theorem itd_seqU {K : PySem.W.Frag} {δ : List Sl} {te : TE} {q : Da} {ds : List Da} (hq : q = .lst ds ∨ q = .tup ds) (h : EvS K te δ q) : ItD K (iSeq K te) δ ds := by
  rcases hq with rfl | rfl
  · exact itd_seqL (itd_list h)
  · exact itd_seqT (itd_tup h)
theorem body_checked_pairs : ∀ (C : Ct) (Q : VK) (E : XK) (qs : List (Bool × Pr)) (ns : List Str) (q : Da), C.K = K → (q = .lst (qs.map dQ) ∨ q = .tup (qs.map dQ)) → QOk ns qs → (∀ ps, chkP ns [] qs = .ok ps → Post C (.tup (ps.map dP)) Q) →
    (chkP ns [] qs = .strange → ∀ H', Same C.H0 H' → E (.ref A.C_NoSpeech) none H') → (chkP ns [] qs = .twice → ∀ H', Same C.H0 H' → E (.ref A.C_Twice) none H') →
    Go C ((tSeq (tAsg (tLst tNil) (gName 2)) (tSeq (tFor (iSeq K (tVar 0)) (gSeq K 2 (gCons (gName 3) (gCons (gName 4) gNil))) (tSeq (tDrop (tCall (sp_check_speech K A) [] E (tCons (tVar 1) (tCons (tVar 3) tNil)))) (tSeq (tDrop (tCall (sp_check_speech K A) [] E (tCons (tVar 1) (tCons (tVar 4) tNil)))) (tSeq (tIfS (tTest (tOp (rInD K) (tTup (tCons (tVar 3) (tCons (tVar 4) tNil))) (tVar 2))) (tRaise1 E A.C_Twice (tJoin [(tFmt (tVar 3)), (tC (.str " against ")), (tFmt (tVar 4)), (tC (.str " is there ahead"))])) tNext) (tDrop (tBM K "list" rAppend (tVar 2) (tCons (tTup (tCons (tVar 3) (tCons (tVar 4) tNil))) tNil))))))) (tRet (tCB (rTuple K) (tCons (tVar 2) tNil)))))) { nx := fun _ H' => Q .non H', rt := Q } [.dat q, .dat (.tup (ns.map Da.str)), .no, .no, .no] := by
  rintro C Q E qs ns q rfl hq ⟨hnm, hok, hl⟩ hps hst htw
  refine sq_setN (evs_lst evs_nil (by decide)) ?_
  refine sq_for (itd_seqU hq (evs_var rfl)) (fun i δ => ∃ seen a b, chkP ns [] (qs.take i) = .ok seen ∧ δ = [.dat q, .dat (.tup (ns.map Da.str)), .own (seen.map dP), a, b]) ⟨[], .no, .no, by simp [chkP], rfl⟩ ?_ ?_
  · rintro P' i d _ hd ⟨seen, a, b, hs, rfl⟩
    rw [List.getElem?_map] at hd
    cases hq' : qs[i]? with
    | none => rw [hq'] at hd; cases hd
    | some p =>
      rw [hq'] at hd
      cases hd
      have hi := (List.getElem?_eq_some_iff.mp hq').1
      have hstep := chkP_step hq' hs
      have hp := hok p (List.mem_of_getElem? hq')
      obtain ⟨hsl, hsm⟩ := chkP_ok _ _ _ hs (fun p hp => by cases hp)
      rw [List.length_take, List.length_nil] at hsl
      refine ⟨_, tga_dQ, ?_⟩
      by_cases h1 : p.2.1 ∈ ns
      · refine sq_drop (evs_callX (evs_cons (evs_var rfl) (evs_cons (evs_var rfl) evs_nil)) ⟨ns, p.2.1, rfl, h1, rfl⟩) ?_
        by_cases h2 : p.2.2 ∈ ns
        · refine sq_drop (evs_callX (evs_cons (evs_var rfl) (evs_cons (evs_var rfl) evs_nil)) ⟨ns, p.2.2, rfl, h2, rfl⟩) ?_
          have hc : chkP ns seen [p] = if p.2 ∈ seen then .twice else .ok (seen ++ [p.2]) := by
            rw [chkP_cons, decide_eq_true h1, decide_eq_true h2] <;> rfl
          have okn : ∀ x ∈ ns, okS x := fun x hx => nm_ok (hnm x hx)
          have oks : ∀ p ∈ seen, okS p.1 ∧ okS p.2 := fun p hp => ⟨okn _ (hsm p hp).1, okn _ (hsm p hp).2⟩
          have l1 : p.2.1.length ≤ 1000 := by have := (hnm _ h1).2.1; omega
          have l2 : p.2.2.length ≤ 1000 := by have := (hnm _ h2).2.1; omega
          have etup : EvS C.K (tTup (tCons (tVar 3) (tCons (tVar 4) tNil))) [.dat q, .dat (.tup (ns.map Da.str)), .dat (.lst (seen.map dP)), .dat (.str p.2.1), .dat (.str p.2.2)] (dP p.2) := evs_tup (evs_cons (evs_var rfl) (evs_cons (evs_var rfl) evs_nil)) (by show 2 ≤ 1000; decide)
          have etup2 : EvS C.K (tTup (tCons (tVar 3) (tCons (tVar 4) tNil))) [.dat q, .dat (.tup (ns.map Da.str)), .own (seen.map dP), .dat (.str p.2.1), .dat (.str p.2.2)] (dP p.2) := evs_tup (evs_cons (evs_var rfl) (evs_cons (evs_var rfl) evs_nil)) (by show 2 ≤ 1000; decide)
          refine sq_if1 (b := decide (p.2 ∈ seen)) (EvST.to (evt_test (evs_op etup (evs_var rfl) (rv_inD (n := 3) (ok_dP hp) (ok_dPs oks) (by decide)))) any_dP) (fun y => ?_) (fun y => ?_)
          · have y := of_decide_eq_true y
            have hf := chkP_fail (i := i + 1) (by rw [hstep, hc, if_pos y]) (.inr rfl)
            exact go_raiseX (evx_join (.cons (evs_fmtS (evs_var rfl) l1) l1 (.cons (EvS.to evs_str rfl) (by decide) (.cons (evs_fmtS (evs_var rfl) l2) l2 (.cons (EvS.to evs_str rfl) (by decide) .nil)))) (by decide)) (htw hf)
          · have y := of_decide_eq_false y
            refine go_append rfl etup2 (by rw [List.length_map]; omega) (nx_end ⟨seen ++ [p.2], .dat (.str p.2.1), .dat (.str p.2.2), ?_, ?_⟩)
            · rw [hstep, hc, if_neg y]
            · rw [List.map_append] <;> rfl
        · have hf := chkP_fail (i := i + 1) (by rw [hstep, chkP_cons, decide_eq_false h2, Bool.and_false]; rfl) (.inl rfl)
          exact go_seq (go_dropX (evs_cons (evs_var rfl) (evs_cons (evs_var rfl) evs_nil)) ⟨ns, p.2.2, rfl, h2, rfl⟩ (hst hf))
      · have hf := chkP_fail (i := i + 1) (by rw [hstep, chkP_cons, decide_eq_false h1, Bool.false_and]; rfl) (.inl rfl)
        exact go_seq (go_dropX (evs_cons (evs_var rfl) (evs_cons (evs_var rfl) evs_nil)) ⟨ns, p.2.1, rfl, h1, rfl⟩ (hst hf))
  · rintro _ ⟨seen, a, b, hs, rfl⟩
    rw [List.length_map, List.take_length] at hs
    exact go_freeze 2 rfl (go_ret (evs_cb (evs_cons (evs_var rfl) evs_nil) rc_tupleL) (hps _ hs))
theorem ok_checked_pairs (T : Tx K mg A) : FnOk P w K mg base (L2.CX P w) 2 A.f_checked_pairs A.fd_checked_pairs ["pairs", "names"] (sp_checked_pairs K A) := by
  refine T.F_checked_pairs.okX sc_checked_pairs (spx_len (n := 2) (by rintro _ _ ⟨_, _, _, _, rfl, _⟩; rfl) (by rintro _ _ ⟨_, _, _, rfl, _⟩; rfl)) (fun cdv A' outer s H vs Q E hr h => ⟨_, (pss_cons (ps_set (i := 2) sc_checked_pairs.nd rfl (Or.inl rfl) (pe_lst pa_nil))
  (pss_cons (ps_for (passes_of rfl) rfl (pi_seq (pi_list (pv 0)) (pi_tup (pv 0))) (pg_seq (pg_tup rfl (pgs_cons (pg_name (i := 3) sc_checked_pairs.nd rfl (Or.inl rfl)) (pgs_cons (pg_name (i := 4) sc_checked_pairs.nd rfl (Or.inl rfl)) pgs_nil))) (pg_lst rfl (pgs_cons (pg_name (i := 3) sc_checked_pairs.nd rfl (Or.inl rfl)) (pgs_cons (pg_name (i := 4) sc_checked_pairs.nd rfl (Or.inl rfl)) pgs_nil))))
  (pss_cons (ps_expr (pe_call (ok_check_speech T) hr rfl T.g_check_speech T.F_check_speech.kp T.B_check_speech .nil (passes_call (takes_of rfl rfl rfl rfl) (fun _ _ _ _ h => h)) (pa_cons (pv 1) (pa_cons (pv 3) pa_nil))))
  (pss_cons (ps_expr (pe_call (ok_check_speech T) hr rfl T.g_check_speech T.F_check_speech.kp T.B_check_speech .nil (passes_call (takes_of rfl rfl rfl rfl) (fun _ _ _ _ h => h)) (pa_cons (pv 1) (pa_cons (pv 4) pa_nil))))
  (pss_cons (ps_if (pt_cmpR (op_inD (units65 hr)) (pe_tup (pa_cons (pv 3) (pa_cons (pv 4) pa_nil))) (pv 2) rfl) (pss_one (ps_raise rfl (takes_of rfl rfl rfl rfl) (SkE.pmk_own1 PySem.F.excBase_ValueError T.x_Twice T.g_Twice T.kc_Twice (raises_own T.b_Twice T.t_Twice) (by exact rfl) (pe_joined (PJ.cons (pe_fmt (pv 3)) (PJ.cons pe_str (PJ.cons (pe_fmt (pv 4)) (PJ.cons pe_str PJ.nil)))))))) pss_nil)
  (pss_one (ps_expr (pe_bm PySem.F.plainAttrs_list PySem.F.slot_list_append PySem.F.type_list_append mt_append (pv 2) (pa_cons (pe_tup (pa_cons (pv 3) (pa_cons (pv 4) pa_nil))) pa_nil))))))))
  (pss_one (ps_ret (pe_callTy call_tupleU rfl T.n_tuple PyProof.Rows.boot_tuple (pa_cons (pv 2) pa_nil)))))), spx_body (N := N_checked_pairs) (ts := fun E => (tSeq (tAsg (tLst tNil) (gName 2)) (tSeq (tFor (iSeq K (tVar 0)) (gSeq K 2 (gCons (gName 3) (gCons (gName 4) gNil))) (tSeq (tDrop (tCall (sp_check_speech K A) [] E (tCons (tVar 1) (tCons (tVar 3) tNil)))) (tSeq (tDrop (tCall (sp_check_speech K A) [] E (tCons (tVar 1) (tCons (tVar 4) tNil)))) (tSeq (tIfS (tTest (tOp (rInD K) (tTup (tCons (tVar 3) (tCons (tVar 4) tNil))) (tVar 2))) (tRaise1 E A.C_Twice (tJoin [(tFmt (tVar 3)), (tC (.str " against ")), (tFmt (tVar 4)), (tC (.str " is there ahead"))])) tNext) (tDrop (tBM K "list" rAppend (tVar 2) (tCons (tTup (tCons (tVar 3) (tCons (tVar 4) tNil))) tNil))))))) (tRet (tCB (rTuple K) (tCons (tVar 2) tNil)))))) (by rintro _ _ ⟨_, _, _, _, rfl, _⟩; exact (by decide : 2 ≤ N_checked_pairs.length)) (by rintro _ _ ⟨_, _, _, rfl, _⟩; exact (by decide : 2 ≤ N_checked_pairs.length)) ?_ ?_ _ _ _ _ h⟩)
  · rintro _ _ ⟨qs, ns, ps, q, rfl, hq, ⟨hk, hc⟩, rfl⟩ C Q E e post
    exact body_checked_pairs C Q E qs ns q e hq hk (fun ns' h' => by rw [hc] at h'; cases h'; exact post) (fun h' => by rw [hc] at h'; cases h') (fun h' => by rw [hc] at h'; cases h')
  · rintro _ _ ⟨qs, ns, q, rfl, hq, hk, hB⟩ C Q E e post
    rcases hB with ⟨hc, rfl⟩ | ⟨hc, rfl⟩
    · exact body_checked_pairs C Q E qs ns q e hq hk (fun ns' h' => by rw [hc] at h'; cases h') (fun _ => post) (fun h' => by rw [hc] at h'; cases h')
    · exact body_checked_pairs C Q E qs ns q e hq hk (fun ns' h' => by rw [hc] at h'; cases h') (fun h' => by rw [hc] at h'; cases h') (fun _ => post)
/-! Bench(names, pairs) -/
theorem np_ne : ¬ (("names" : Str) = "pairs") := by decide +kernel
def benchD (A : Ad) (ns : List Str) (ps : List Pr) : Da := .ins A.C_Bench ["names", "pairs"] [.tup (ns.map Da.str), .tup (ps.map dP)]
def OkB (ts : List Da) (qs : List (Bool × Pr)) (ns : List Str) (ps : List Pr) : Prop := (Kinded ts ∧ ts.length ≤ 8 ∧ chk [] ts = some ns) ∧ QOk ns qs ∧ chkP ns [] qs = .ok ps
def BadB (A : Ad) (ts : List Da) (q2 : Da) (B : Addr) : Prop :=
  ((Kinded ts ∧ ts.length ≤ 150) ∧ ((8 < ts.length ∧ B = A.C_TooMany) ∨ (ts.length ≤ 8 ∧ chk [] ts = none ∧ B = A.C_BadName))) ∨
  ∃ (ns : List Str) (qs : List (Bool × Pr)), (q2 = .lst (qs.map dQ) ∨ q2 = .tup (qs.map dQ)) ∧ (Kinded ts ∧ ts.length ≤ 8 ∧ chk [] ts = some ns) ∧ QOk ns qs ∧ ((chkP ns [] qs = .strange ∧ B = A.C_NoSpeech) ∨ (chkP ns [] qs = .twice ∧ B = A.C_Twice))
def sp_Bench_init (K : PySem.W.Frag) (A : Ad) : Sp := fun vs H Q E => ∃ (p dx : Addr) (v1 v2 : V) (Hc : Hp) (q1 q2 : Da) (ts : List Da), vs = [.ref p, v1, v2] ∧ H p = some (.ins A.C_Bench dx []) ∧ Hc p = none ∧ Same Hc H ∧ DR K Hc v1 q1 ∧ DR K Hc v2 q2 ∧
  (q1 = .lst ts ∨ q1 = .tup ts) ∧
  ((∃ qs ns ps, (q2 = .lst (qs.map dQ) ∨ q2 = .tup (qs.map dQ)) ∧ OkB ts qs ns ps ∧ ∀ t1 t2 Hs H', H' p = some (.ins A.C_Bench dx [("names", .ref t1), ("pairs", .ref t2)]) → (∀ b o, H b = some o → b ≠ p → H' b = some o) → Same Hc Hs → Same Hs H' → Hs p = none → (∀ b o, Hs b = some o → Hc b = none → H b = none) →
      DR K Hs (.ref t1) (.tup (ns.map Da.str)) → DR K Hs (.ref t2) (.tup (ps.map dP)) → Q .non H') ∨
    (∃ B, BadB A ts q2 B ∧ ∀ H', (∀ b o, H b = some o → b ≠ p → H' b = some o) → E (.ref B) none H'))
theorem ok_Bench_init (T : Tx K mg A) : FnOk P w K mg base (L2.CX P w) 3 A.f_Bench_init A.fd_Bench_init ["self", "names", "pairs"] (sp_Bench_init K A) := by
  refine T.F_Bench_init.okX sc_Bench_init (fun vs H Q E h => ?_) (fun cdv A' outer s H vs Q E hr h => ⟨_, (pss_cons (ps_fld (pv 0) (pe_call (ok_checked_names T) hr rfl T.g_checked_names T.F_checked_names.kp T.B_checked_names .nil (passes_call (takes_of rfl rfl rfl rfl) (fun _ _ _ _ h => h)) (pa_cons (pv 1) pa_nil)) rfl)
  (pss_one (ps_fld (pv 0) (pe_call (ok_checked_pairs T) hr rfl T.g_checked_pairs T.F_checked_pairs.kp T.B_checked_pairs .nil (passes_call (takes_of rfl rfl rfl rfl) (fun _ _ _ _ h => h)) (pa_cons (pv 2) (pa_cons (pe_fld (pv 0) rfl) pa_nil))) rfl))), ?_⟩)
  · obtain ⟨p, dx, v1, v2, Hc, q1, q2, ts, rfl, _⟩ := h
    rfl
  obtain ⟨p, dx, v1, v2, Hc, q1, q2, ts, rfl, hp, hcp, sc, r1, r2, e1, hh⟩ := h
  have D : Dats K [.no, .dat q1, .dat q2] [some (.ref p), some v1, some v2] Hc := ⟨rfl, fun i d e => by
    match i, e with
    | 1, e => cases e; exact ⟨v1, rfl, r1⟩
    | 2, e => cases e; exact ⟨v2, rfl, r2⟩⟩
  have argN : EvSA K (tCons (tVar 1) tNil) [.no, .dat q1, .dat q2] [q1] := evs_cons (evs_var rfl) evs_nil
  have nok : ∀ {Hs H1 : Hp}, Ext Hc H Hs H1 → Hs p = none := fun {Hs H1} x => by
    cases z : Hs p with
    | none => rfl
    | some o =>
      have := x.nw p o z hcp
      rw [hp] at this
      cases this
  -- behind the names
  have rest : ∀ ns, (Kinded ts ∧ ts.length ≤ 8 ∧ chk [] ts = some ns) → (∀ (t1 : Addr) Hs H1, Ext Hc H Hs H1 → DR K Hs (.ref t1) (.tup (ns.map Da.str)) →
      tCall (sp_checked_pairs K A) [] E (tCons (tVar 2) (tCons (tFld K (tVar 0) "names") tNil)) [some (.ref p), some v1, some v2] (upd H1 p (.ins A.C_Bench dx [("names", .ref t1)])) (fun y H3 => tVar 0 [some (.ref p), some v1, some v2] H3 fun x H4 => ∃ a C dx' fs, x = .ref a ∧ H4 a = some (.ins C dx' fs) ∧ Cls K C ∧ NoAttr K C "pairs" ∧ fs.length < 1000 ∧ Q .non (upd H4 a (.ins C dx' (putF "pairs" y fs))))) →
      tSeq (sFld K (tVar 0) (tCall (sp_checked_names K A) [] E (tCons (tVar 1) tNil)) "names") (sFld K (tVar 0) (tCall (sp_checked_pairs K A) [] E (tCons (tVar 2) (tCons (tFld K (tVar 0) "names") tNil))) "pairs") { nx := fun _ H' => Q .non H', rt := Q } [some (.ref p), some v1, some v2] H := by
    intro ns hns k
    refine evs_callX argN (show R_checked_names _ _ from ⟨ts, ns, q1, rfl, e1, hns, rfl⟩) _ Hc D H sc _ fun v Hs H1 x r => ?_
    cases r with
    | tup et rt =>
      refine ⟨_, rfl, p, A.C_Bench, dx, [], rfl, x.up _ _ hp, T.cl_Bench, T.a_Bench_names, (by decide), ?_⟩
      exact k _ Hs H1 x (.tup et rt)
  have args : ∀ {t1 : Addr} {Hs H1 : Hp} {ns : List Str} {Q' : VK}, Ext Hc H Hs H1 → DR K Hs (.ref t1) (.tup (ns.map Da.str)) → (sp_checked_pairs K A [v2, .ref t1] (upd H1 p (.ins A.C_Bench dx [("names", .ref t1)])) Q' E) →
      tCall (sp_checked_pairs K A) [] E (tCons (tVar 2) (tCons (tFld K (tVar 0) "names") tNil)) [some (.ref p), some v1, some v2] (upd H1 p (.ins A.C_Bench dx [("names", .ref t1)])) Q' := fun x r k =>
    ⟨v2, rfl, .ref p, rfl, p, A.C_Bench, dx, _, _, rfl, upd_same, T.cl_Bench, T.a_Bench_names, rfl, k⟩
  rcases hh with ⟨qs, ns, ps, e2, ⟨h1, h2, h3⟩, k⟩ | ⟨B, hB, kE⟩
  · refine rest ns h1 fun t1 Hs H1 x r => args x r ?_
    have sH : Same Hs (upd H1 p (.ins A.C_Bench dx [("names", .ref t1)])) := same_updK x.st (nok x)
    refine ⟨Hs, [q2, .tup (ns.map Da.str)], sH, .cons (r2.up x.kn) (.one r), .inl ⟨.tup (ps.map dP), ⟨qs, ns, ps, q2, rfl, e2, ⟨h2, h3⟩, rfl⟩, fun v Ht H2 x2 rv => ?_⟩⟩
    cases rv with
    | tup et rt =>
      have hp2 : H2 p = some (.ins A.C_Bench dx [("names", .ref t1)]) := x2.up _ _ upd_same
      have htp : Ht p = none := by
        cases z : Ht p with
        | none => rfl
        | some o =>
          have := x2.nw p o z (nok x)
          rw [upd_same] at this
          cases this
      refine ⟨_, rfl, p, A.C_Bench, dx, _, rfl, hp2, T.cl_Bench, T.a_Bench_pairs, (by show 1 < 1000; decide), ?_⟩
      refine k t1 _ Ht _ ?_ (fun b o e hb => ?_) (x.kn.trans x2.kn) (same_updK x2.st htp) htp (fun b o e n => ?_) (r.up x2.kn) (.tup et rt)
      · rw [upd_same]
        show some (HO.ins A.C_Bench dx (if ("names" : Str) = "pairs" then _ else (("names" : Str), V.ref t1) :: putF "pairs" (V.ref _) [])) = _
        rw [if_neg np_ne] <;> rfl
      · rw [upd_ne hb]
        exact x2.up _ _ (by rw [upd_ne hb]; exact x.up _ _ e)
      · cases z : Hs b with
        | some u => exact x.nw b u z n
        | none =>
          have q := x2.nw b o e z
          by_cases hb : b = p
          · subst hb
            rw [upd_same] at q
            cases q
          · rw [upd_ne hb] at q
            exact x.up.free q
  · rcases hB with hB | ⟨ns, qs, e2, h1, h2, h3⟩
    · refine callX_raises D sc argN (show X_checked_names A _ B from ⟨ts, q1, rfl, e1, hB⟩) fun H' u => kE H' fun b o e _ => u b o e
    · refine rest ns h1 fun t1 Hs H1 x r => args x r ?_
      have sH : Same Hs (upd H1 p (.ins A.C_Bench dx [("names", .ref t1)])) := same_updK x.st (nok x)
      refine ⟨Hs, [q2, .tup (ns.map Da.str)], sH, .cons (r2.up x.kn) (.one r), .inr ⟨B, ⟨qs, ns, q2, rfl, e2, h2, h3⟩, fun H' u => kE H' fun b o e hb => u b o (by rw [upd_ne hb]; exact x.up b o e)⟩⟩
/-- a new bench -/
theorem evs_bench (T : Tx K mg A) {δ : List Sl} {t : TA} {q1 q2 : Da} {ts : List Da} {qs : List (Bool × Pr)} {ns : List Str} {ps : List Pr} {E : XK} (ha : EvSA K t δ [q1, q2]) (e1 : q1 = .lst ts ∨ q1 = .tup ts) (e2 : q2 = .lst (qs.map dQ) ∨ q2 = .tup (qs.map dQ)) (ok : OkB ts qs ns ps) :
    EvS K (tMake A.C_Bench (sp_Bench_init K A) [] E t) δ (benchD A ns ps) := fun σ Hk D H s Q q =>
  ha σ Hk D H s _ fun vs H1 H1' x1 r1 => by
    intro x dx nx ndx nex
    obtain ⟨v1, v2, rfl, r1, r2⟩ := r1.two_of
    have h1x : H1 x = none := x1.st.free nx
    have h1d : H1 dx = none := x1.st.free ndx
    refine ⟨x, dx, v1, v2, H1, q1, q2, ts, rfl, upd_same, h1x, same_updK (same_updK x1.st h1d) h1x, r1, r2, e1, .inl ⟨qs, ns, ps, e2, ok, fun t1 t2 Hs H' hx kp k1 k2 k3 k4 d1 d2 => ⟨rfl, ?_⟩⟩⟩
    have up1 : Same H1' H' := fun b o e => kp b o (by rw [upd_ne (ne_of_none e nx), upd_ne (ne_of_none e ndx)]; exact e) (ne_of_none e nx)
    have x2 : Ext H1 H1' Hs H' := ⟨up1, k1, k2, fun b o e n => by
      have z := k4 b o e n
      by_cases hb : b = x
      · subst hb
        exact nx
      · rw [upd_ne hb] at z
        by_cases hd : b = dx
        · subst hd
          exact ndx
        · rw [upd_ne hd] at z
          exact z⟩
    have x3 := x2.know nx hx k3
    exact q _ _ _ (x1.trans x3) (.ins (xs := [.ref t1, .ref t2]) upd_same rfl (.cons (d1.up (same_upd k3)) (.one (d2.up (same_upd k3)))))
/-! speakers -/
def BenchOk (ns : List Str) (ps : List Pr) : Prop := (∀ x ∈ ns, isNm x) ∧ ns.Nodup ∧ ns.length ≤ 8 ∧ GoodP ns ps
theorem BenchOk.okP {ns : List Str} {ps : List Pr} (h : BenchOk ns ps) : ∀ p ∈ ps, okS p.1 ∧ okS p.2 := fun p hp => ⟨nm_ok (h.1 _ (h.2.2.2.mem p hp).1), nm_ok (h.1 _ (h.2.2.2.mem p hp).2)⟩
theorem evs_names (T : Tx K mg A) {δ : List Sl} {ta : TE} {ns : List Str} {ps : List Pr} (h : EvS K ta δ (benchD A ns ps)) : EvS K (tFld K ta "names") δ (.tup (ns.map Da.str)) := evs_fld (k := 0) h T.cl_Bench T.a_Bench_names fields_nd rfl rfl
theorem evs_pairs (T : Tx K mg A) {δ : List Sl} {ta : TE} {ns : List Str} {ps : List Pr} (h : EvS K ta δ (benchD A ns ps)) : EvS K (tFld K ta "pairs") δ (.tup (ps.map dP)) := evs_fld (k := 1) h T.cl_Bench T.a_Bench_pairs fields_nd rfl rfl
end

/-! # The class of a caught error -/
section
variable {P : Program} {w : World} {K : PySem.W.Frag} {mg : Str → Option Value} {base : Heap} {A : Ad}
theorem _root_.L2H.RoomH.units {k : Nat} {A : Around} (r : L2H.RoomH k A) : A.units + 64 < cLine := by have := r.un; omega
def R_l_kind (A : Ad) (D : Addr) (z : Str) : Prop := (D = A.C_TooMany ∧ z = "many") ∨ (D = A.C_BadName ∧ z = "name") ∨ (D = A.C_NoSpeech ∧ z = "speech") ∨ (D = A.C_Twice ∧ z = "twice") ∨ (D = A.C_NoText ∧ z = "text")
abbrev sp_l_kind (K : PySem.W.Frag) (A : Ad) : Sp := SpD K fun _ _ => False
/-- of one class: the slots go so -/
theorem kind_TooMany (T : Tx K mg A) {a : Addr} {C : Ct} {Q : VK} (hC : C.K = K) (post : Post C (.str "many") Q) : Go C ((fun (K : PySem.W.Frag) (D : Addr) => (tSeq (tAsg (tLst (tCons (tCB (rIsE K D a) (tCons (tVar 0) (tCons (tC (.ref A.C_TooMany)) tNil))) (tCons (tCB (rIsE K D a) (tCons (tVar 0) (tCons (tC (.ref A.C_BadName)) tNil))) (tCons (tCB (rIsE K D a) (tCons (tVar 0) (tCons (tC (.ref A.C_NoSpeech)) tNil))) (tCons (tCB (rIsE K D a) (tCons (tVar 0) (tCons (tC (.ref A.C_Twice)) tNil))) tNil))))) (gName 1)) (tSeq (tAsg (tOp (rAddU K) (tVar 1) (tLst (tCons (tCB (rIsE K D a) (tCons (tVar 0) (tCons (tC (.ref A.C_NotHeld)) tNil))) (tCons (tCB (rIsE K D a) (tCons (tVar 0) (tCons (tC (.ref A.C_NoText)) tNil))) tNil)))) (gName 1)) (tSeq (tIfS (tOr (tTest (tOp (rNeD K) (tBM K "list" (rCntB K) (tVar 1) (tCons (tC (.bl true)) tNil)) (tC (.int 1)))) (tNot (tB (tCB (rIsE K D a) (tCons (tVar 0) (tCons (tC (.ty "ValueError")) tNil)))))) (tRet (tC (.str "other"))) tNext) (tRet (tOp (rIx K) (tLst (tCons (tC (.str "many")) (tCons (tC (.str "name")) (tCons (tC (.str "speech")) (tCons (tC (.str "twice")) (tCons (tC (.str "held")) (tCons (tC (.str "text")) tNil))))))) (tBM K "list" (rIndex K) (tVar 1) (tCons (tC (.bl true)) tNil)))))))) C.K A.C_TooMany) { nx := fun _ H' => Q .non H', rt := Q } [.dat (.cls a), .no] := by
  subst hC
  refine sq_setN (ds := ([true, false, false, false] : List Bool).map Da.bl) (evs_lst (evs_cons (evs_isE (evs_var rfl) evs_cls (.inl ⟨_, rfl, rfl⟩) T.kt_TooMany_TooMany) (evs_cons (evs_isE (evs_var rfl) evs_cls (.inl ⟨_, rfl, rfl⟩) T.kt_TooMany_BadName) (evs_cons (evs_isE (evs_var rfl) evs_cls (.inl ⟨_, rfl, rfl⟩) T.kt_TooMany_NoSpeech) (evs_cons (evs_isE (evs_var rfl) evs_cls (.inl ⟨_, rfl, rfl⟩) T.kt_TooMany_Twice) evs_nil)))) (by decide)) ?_
  refine go_freeze 1 rfl ?_
  refine sq_setN (ds := ([true, false, false, false, false, false] : List Bool).map Da.bl) (evs_opN (evs_var (d := .lst (([true, false, false, false] : List Bool).map Da.bl)) rfl) (EvSN.ev (evs_lst (ds := ([false, false] : List Bool).map Da.bl) (evs_cons (evs_isE (evs_var rfl) evs_cls (.inl ⟨_, rfl, rfl⟩) T.kt_TooMany_NotHeld) (evs_cons (evs_isE (evs_var rfl) evs_cls (.inl ⟨_, rfl, rfl⟩) T.kt_TooMany_NoText) evs_nil)) (by decide))) (rv_addL (by decide))) ?_
  refine go_freeze 1 rfl ?_
  refine sq_nod (EvST.to (evt_or (evt_test (evs_op (evs_countB (bs := [true, false, false, false, false, false]) (evs_var rfl)) evs_int (rv_ne (n := 3) True.intro True.intro (by decide)))) (fun _ => evt_not (evt_B (evs_isE (evs_var rfl) evs_ty (.inr ⟨_, rfl, rfl⟩) T.kv_TooMany)))) ?_) ?_
  · rw [eqD_int] <;> rfl
  refine go_ret (evs_op (EvSN.ev (evs_lst (ds := [.str "many", .str "name", .str "speech", .str "twice", .str "held", .str "text"]) (evs_cons evs_str (evs_cons evs_str (evs_cons evs_str (evs_cons evs_str (evs_cons evs_str (evs_cons evs_str evs_nil)))))) (show 6 ≤ 1000 by decide))) (evs_indexB (bs := [true, false, false, false, false, false]) (j := 0) (evs_var rfl) rfl (fun m h => by omega)) (rv_ixL (atI_nat (show _ = some (Da.str "many") from rfl)))) post
/-- of one class: the slots go so -/
theorem kind_BadName (T : Tx K mg A) {a : Addr} {C : Ct} {Q : VK} (hC : C.K = K) (post : Post C (.str "name") Q) : Go C ((fun (K : PySem.W.Frag) (D : Addr) => (tSeq (tAsg (tLst (tCons (tCB (rIsE K D a) (tCons (tVar 0) (tCons (tC (.ref A.C_TooMany)) tNil))) (tCons (tCB (rIsE K D a) (tCons (tVar 0) (tCons (tC (.ref A.C_BadName)) tNil))) (tCons (tCB (rIsE K D a) (tCons (tVar 0) (tCons (tC (.ref A.C_NoSpeech)) tNil))) (tCons (tCB (rIsE K D a) (tCons (tVar 0) (tCons (tC (.ref A.C_Twice)) tNil))) tNil))))) (gName 1)) (tSeq (tAsg (tOp (rAddU K) (tVar 1) (tLst (tCons (tCB (rIsE K D a) (tCons (tVar 0) (tCons (tC (.ref A.C_NotHeld)) tNil))) (tCons (tCB (rIsE K D a) (tCons (tVar 0) (tCons (tC (.ref A.C_NoText)) tNil))) tNil)))) (gName 1)) (tSeq (tIfS (tOr (tTest (tOp (rNeD K) (tBM K "list" (rCntB K) (tVar 1) (tCons (tC (.bl true)) tNil)) (tC (.int 1)))) (tNot (tB (tCB (rIsE K D a) (tCons (tVar 0) (tCons (tC (.ty "ValueError")) tNil)))))) (tRet (tC (.str "other"))) tNext) (tRet (tOp (rIx K) (tLst (tCons (tC (.str "many")) (tCons (tC (.str "name")) (tCons (tC (.str "speech")) (tCons (tC (.str "twice")) (tCons (tC (.str "held")) (tCons (tC (.str "text")) tNil))))))) (tBM K "list" (rIndex K) (tVar 1) (tCons (tC (.bl true)) tNil)))))))) C.K A.C_BadName) { nx := fun _ H' => Q .non H', rt := Q } [.dat (.cls a), .no] := by
  subst hC
  refine sq_setN (ds := ([false, true, false, false] : List Bool).map Da.bl) (evs_lst (evs_cons (evs_isE (evs_var rfl) evs_cls (.inl ⟨_, rfl, rfl⟩) T.kt_BadName_TooMany) (evs_cons (evs_isE (evs_var rfl) evs_cls (.inl ⟨_, rfl, rfl⟩) T.kt_BadName_BadName) (evs_cons (evs_isE (evs_var rfl) evs_cls (.inl ⟨_, rfl, rfl⟩) T.kt_BadName_NoSpeech) (evs_cons (evs_isE (evs_var rfl) evs_cls (.inl ⟨_, rfl, rfl⟩) T.kt_BadName_Twice) evs_nil)))) (by decide)) ?_
  refine go_freeze 1 rfl ?_
  refine sq_setN (ds := ([false, true, false, false, false, false] : List Bool).map Da.bl) (evs_opN (evs_var (d := .lst (([false, true, false, false] : List Bool).map Da.bl)) rfl) (EvSN.ev (evs_lst (ds := ([false, false] : List Bool).map Da.bl) (evs_cons (evs_isE (evs_var rfl) evs_cls (.inl ⟨_, rfl, rfl⟩) T.kt_BadName_NotHeld) (evs_cons (evs_isE (evs_var rfl) evs_cls (.inl ⟨_, rfl, rfl⟩) T.kt_BadName_NoText) evs_nil)) (by decide))) (rv_addL (by decide))) ?_
  refine go_freeze 1 rfl ?_
  refine sq_nod (EvST.to (evt_or (evt_test (evs_op (evs_countB (bs := [false, true, false, false, false, false]) (evs_var rfl)) evs_int (rv_ne (n := 3) True.intro True.intro (by decide)))) (fun _ => evt_not (evt_B (evs_isE (evs_var rfl) evs_ty (.inr ⟨_, rfl, rfl⟩) T.kv_BadName)))) ?_) ?_
  · rw [eqD_int] <;> rfl
  refine go_ret (evs_op (EvSN.ev (evs_lst (ds := [.str "many", .str "name", .str "speech", .str "twice", .str "held", .str "text"]) (evs_cons evs_str (evs_cons evs_str (evs_cons evs_str (evs_cons evs_str (evs_cons evs_str (evs_cons evs_str evs_nil)))))) (show 6 ≤ 1000 by decide))) (evs_indexB (bs := [false, true, false, false, false, false]) (j := 1) (evs_var rfl) rfl (fun m h => by match m, h with | 0, _ => exact fun z => by cases z)) (rv_ixL (atI_nat (show _ = some (Da.str "name") from rfl)))) post
/-- of one class: the slots go so -/
theorem kind_NoSpeech (T : Tx K mg A) {a : Addr} {C : Ct} {Q : VK} (hC : C.K = K) (post : Post C (.str "speech") Q) : Go C ((fun (K : PySem.W.Frag) (D : Addr) => (tSeq (tAsg (tLst (tCons (tCB (rIsE K D a) (tCons (tVar 0) (tCons (tC (.ref A.C_TooMany)) tNil))) (tCons (tCB (rIsE K D a) (tCons (tVar 0) (tCons (tC (.ref A.C_BadName)) tNil))) (tCons (tCB (rIsE K D a) (tCons (tVar 0) (tCons (tC (.ref A.C_NoSpeech)) tNil))) (tCons (tCB (rIsE K D a) (tCons (tVar 0) (tCons (tC (.ref A.C_Twice)) tNil))) tNil))))) (gName 1)) (tSeq (tAsg (tOp (rAddU K) (tVar 1) (tLst (tCons (tCB (rIsE K D a) (tCons (tVar 0) (tCons (tC (.ref A.C_NotHeld)) tNil))) (tCons (tCB (rIsE K D a) (tCons (tVar 0) (tCons (tC (.ref A.C_NoText)) tNil))) tNil)))) (gName 1)) (tSeq (tIfS (tOr (tTest (tOp (rNeD K) (tBM K "list" (rCntB K) (tVar 1) (tCons (tC (.bl true)) tNil)) (tC (.int 1)))) (tNot (tB (tCB (rIsE K D a) (tCons (tVar 0) (tCons (tC (.ty "ValueError")) tNil)))))) (tRet (tC (.str "other"))) tNext) (tRet (tOp (rIx K) (tLst (tCons (tC (.str "many")) (tCons (tC (.str "name")) (tCons (tC (.str "speech")) (tCons (tC (.str "twice")) (tCons (tC (.str "held")) (tCons (tC (.str "text")) tNil))))))) (tBM K "list" (rIndex K) (tVar 1) (tCons (tC (.bl true)) tNil)))))))) C.K A.C_NoSpeech) { nx := fun _ H' => Q .non H', rt := Q } [.dat (.cls a), .no] := by
  subst hC
  refine sq_setN (ds := ([false, false, true, false] : List Bool).map Da.bl) (evs_lst (evs_cons (evs_isE (evs_var rfl) evs_cls (.inl ⟨_, rfl, rfl⟩) T.kt_NoSpeech_TooMany) (evs_cons (evs_isE (evs_var rfl) evs_cls (.inl ⟨_, rfl, rfl⟩) T.kt_NoSpeech_BadName) (evs_cons (evs_isE (evs_var rfl) evs_cls (.inl ⟨_, rfl, rfl⟩) T.kt_NoSpeech_NoSpeech) (evs_cons (evs_isE (evs_var rfl) evs_cls (.inl ⟨_, rfl, rfl⟩) T.kt_NoSpeech_Twice) evs_nil)))) (by decide)) ?_
  refine go_freeze 1 rfl ?_
  refine sq_setN (ds := ([false, false, true, false, false, false] : List Bool).map Da.bl) (evs_opN (evs_var (d := .lst (([false, false, true, false] : List Bool).map Da.bl)) rfl) (EvSN.ev (evs_lst (ds := ([false, false] : List Bool).map Da.bl) (evs_cons (evs_isE (evs_var rfl) evs_cls (.inl ⟨_, rfl, rfl⟩) T.kt_NoSpeech_NotHeld) (evs_cons (evs_isE (evs_var rfl) evs_cls (.inl ⟨_, rfl, rfl⟩) T.kt_NoSpeech_NoText) evs_nil)) (by decide))) (rv_addL (by decide))) ?_
  refine go_freeze 1 rfl ?_
  refine sq_nod (EvST.to (evt_or (evt_test (evs_op (evs_countB (bs := [false, false, true, false, false, false]) (evs_var rfl)) evs_int (rv_ne (n := 3) True.intro True.intro (by decide)))) (fun _ => evt_not (evt_B (evs_isE (evs_var rfl) evs_ty (.inr ⟨_, rfl, rfl⟩) T.kv_NoSpeech)))) ?_) ?_
  · rw [eqD_int] <;> rfl
  refine go_ret (evs_op (EvSN.ev (evs_lst (ds := [.str "many", .str "name", .str "speech", .str "twice", .str "held", .str "text"]) (evs_cons evs_str (evs_cons evs_str (evs_cons evs_str (evs_cons evs_str (evs_cons evs_str (evs_cons evs_str evs_nil)))))) (show 6 ≤ 1000 by decide))) (evs_indexB (bs := [false, false, true, false, false, false]) (j := 2) (evs_var rfl) rfl (fun m h => by match m, h with | 0, _ => exact fun z => by cases z | 1, _ => exact fun z => by cases z)) (rv_ixL (atI_nat (show _ = some (Da.str "speech") from rfl)))) post
/-- of one class: the slots go so -/
theorem kind_Twice (T : Tx K mg A) {a : Addr} {C : Ct} {Q : VK} (hC : C.K = K) (post : Post C (.str "twice") Q) : Go C ((fun (K : PySem.W.Frag) (D : Addr) => (tSeq (tAsg (tLst (tCons (tCB (rIsE K D a) (tCons (tVar 0) (tCons (tC (.ref A.C_TooMany)) tNil))) (tCons (tCB (rIsE K D a) (tCons (tVar 0) (tCons (tC (.ref A.C_BadName)) tNil))) (tCons (tCB (rIsE K D a) (tCons (tVar 0) (tCons (tC (.ref A.C_NoSpeech)) tNil))) (tCons (tCB (rIsE K D a) (tCons (tVar 0) (tCons (tC (.ref A.C_Twice)) tNil))) tNil))))) (gName 1)) (tSeq (tAsg (tOp (rAddU K) (tVar 1) (tLst (tCons (tCB (rIsE K D a) (tCons (tVar 0) (tCons (tC (.ref A.C_NotHeld)) tNil))) (tCons (tCB (rIsE K D a) (tCons (tVar 0) (tCons (tC (.ref A.C_NoText)) tNil))) tNil)))) (gName 1)) (tSeq (tIfS (tOr (tTest (tOp (rNeD K) (tBM K "list" (rCntB K) (tVar 1) (tCons (tC (.bl true)) tNil)) (tC (.int 1)))) (tNot (tB (tCB (rIsE K D a) (tCons (tVar 0) (tCons (tC (.ty "ValueError")) tNil)))))) (tRet (tC (.str "other"))) tNext) (tRet (tOp (rIx K) (tLst (tCons (tC (.str "many")) (tCons (tC (.str "name")) (tCons (tC (.str "speech")) (tCons (tC (.str "twice")) (tCons (tC (.str "held")) (tCons (tC (.str "text")) tNil))))))) (tBM K "list" (rIndex K) (tVar 1) (tCons (tC (.bl true)) tNil)))))))) C.K A.C_Twice) { nx := fun _ H' => Q .non H', rt := Q } [.dat (.cls a), .no] := by
  subst hC
  refine sq_setN (ds := ([false, false, false, true] : List Bool).map Da.bl) (evs_lst (evs_cons (evs_isE (evs_var rfl) evs_cls (.inl ⟨_, rfl, rfl⟩) T.kt_Twice_TooMany) (evs_cons (evs_isE (evs_var rfl) evs_cls (.inl ⟨_, rfl, rfl⟩) T.kt_Twice_BadName) (evs_cons (evs_isE (evs_var rfl) evs_cls (.inl ⟨_, rfl, rfl⟩) T.kt_Twice_NoSpeech) (evs_cons (evs_isE (evs_var rfl) evs_cls (.inl ⟨_, rfl, rfl⟩) T.kt_Twice_Twice) evs_nil)))) (by decide)) ?_
  refine go_freeze 1 rfl ?_
  refine sq_setN (ds := ([false, false, false, true, false, false] : List Bool).map Da.bl) (evs_opN (evs_var (d := .lst (([false, false, false, true] : List Bool).map Da.bl)) rfl) (EvSN.ev (evs_lst (ds := ([false, false] : List Bool).map Da.bl) (evs_cons (evs_isE (evs_var rfl) evs_cls (.inl ⟨_, rfl, rfl⟩) T.kt_Twice_NotHeld) (evs_cons (evs_isE (evs_var rfl) evs_cls (.inl ⟨_, rfl, rfl⟩) T.kt_Twice_NoText) evs_nil)) (by decide))) (rv_addL (by decide))) ?_
  refine go_freeze 1 rfl ?_
  refine sq_nod (EvST.to (evt_or (evt_test (evs_op (evs_countB (bs := [false, false, false, true, false, false]) (evs_var rfl)) evs_int (rv_ne (n := 3) True.intro True.intro (by decide)))) (fun _ => evt_not (evt_B (evs_isE (evs_var rfl) evs_ty (.inr ⟨_, rfl, rfl⟩) T.kv_Twice)))) ?_) ?_
  · rw [eqD_int] <;> rfl
  refine go_ret (evs_op (EvSN.ev (evs_lst (ds := [.str "many", .str "name", .str "speech", .str "twice", .str "held", .str "text"]) (evs_cons evs_str (evs_cons evs_str (evs_cons evs_str (evs_cons evs_str (evs_cons evs_str (evs_cons evs_str evs_nil)))))) (show 6 ≤ 1000 by decide))) (evs_indexB (bs := [false, false, false, true, false, false]) (j := 3) (evs_var rfl) rfl (fun m h => by match m, h with | 0, _ => exact fun z => by cases z | 1, _ => exact fun z => by cases z | 2, _ => exact fun z => by cases z)) (rv_ixL (atI_nat (show _ = some (Da.str "twice") from rfl)))) post
/-- of one class: the slots go so -/
theorem kind_NoText (T : Tx K mg A) {a : Addr} {C : Ct} {Q : VK} (hC : C.K = K) (post : Post C (.str "text") Q) : Go C ((fun (K : PySem.W.Frag) (D : Addr) => (tSeq (tAsg (tLst (tCons (tCB (rIsE K D a) (tCons (tVar 0) (tCons (tC (.ref A.C_TooMany)) tNil))) (tCons (tCB (rIsE K D a) (tCons (tVar 0) (tCons (tC (.ref A.C_BadName)) tNil))) (tCons (tCB (rIsE K D a) (tCons (tVar 0) (tCons (tC (.ref A.C_NoSpeech)) tNil))) (tCons (tCB (rIsE K D a) (tCons (tVar 0) (tCons (tC (.ref A.C_Twice)) tNil))) tNil))))) (gName 1)) (tSeq (tAsg (tOp (rAddU K) (tVar 1) (tLst (tCons (tCB (rIsE K D a) (tCons (tVar 0) (tCons (tC (.ref A.C_NotHeld)) tNil))) (tCons (tCB (rIsE K D a) (tCons (tVar 0) (tCons (tC (.ref A.C_NoText)) tNil))) tNil)))) (gName 1)) (tSeq (tIfS (tOr (tTest (tOp (rNeD K) (tBM K "list" (rCntB K) (tVar 1) (tCons (tC (.bl true)) tNil)) (tC (.int 1)))) (tNot (tB (tCB (rIsE K D a) (tCons (tVar 0) (tCons (tC (.ty "ValueError")) tNil)))))) (tRet (tC (.str "other"))) tNext) (tRet (tOp (rIx K) (tLst (tCons (tC (.str "many")) (tCons (tC (.str "name")) (tCons (tC (.str "speech")) (tCons (tC (.str "twice")) (tCons (tC (.str "held")) (tCons (tC (.str "text")) tNil))))))) (tBM K "list" (rIndex K) (tVar 1) (tCons (tC (.bl true)) tNil)))))))) C.K A.C_NoText) { nx := fun _ H' => Q .non H', rt := Q } [.dat (.cls a), .no] := by
  subst hC
  refine sq_setN (ds := ([false, false, false, false] : List Bool).map Da.bl) (evs_lst (evs_cons (evs_isE (evs_var rfl) evs_cls (.inl ⟨_, rfl, rfl⟩) T.kt_NoText_TooMany) (evs_cons (evs_isE (evs_var rfl) evs_cls (.inl ⟨_, rfl, rfl⟩) T.kt_NoText_BadName) (evs_cons (evs_isE (evs_var rfl) evs_cls (.inl ⟨_, rfl, rfl⟩) T.kt_NoText_NoSpeech) (evs_cons (evs_isE (evs_var rfl) evs_cls (.inl ⟨_, rfl, rfl⟩) T.kt_NoText_Twice) evs_nil)))) (by decide)) ?_
  refine go_freeze 1 rfl ?_
  refine sq_setN (ds := ([false, false, false, false, false, true] : List Bool).map Da.bl) (evs_opN (evs_var (d := .lst (([false, false, false, false] : List Bool).map Da.bl)) rfl) (EvSN.ev (evs_lst (ds := ([false, true] : List Bool).map Da.bl) (evs_cons (evs_isE (evs_var rfl) evs_cls (.inl ⟨_, rfl, rfl⟩) T.kt_NoText_NotHeld) (evs_cons (evs_isE (evs_var rfl) evs_cls (.inl ⟨_, rfl, rfl⟩) T.kt_NoText_NoText) evs_nil)) (by decide))) (rv_addL (by decide))) ?_
  refine go_freeze 1 rfl ?_
  refine sq_nod (EvST.to (evt_or (evt_test (evs_op (evs_countB (bs := [false, false, false, false, false, true]) (evs_var rfl)) evs_int (rv_ne (n := 3) True.intro True.intro (by decide)))) (fun _ => evt_not (evt_B (evs_isE (evs_var rfl) evs_ty (.inr ⟨_, rfl, rfl⟩) T.kv_NoText)))) ?_) ?_
  · rw [eqD_int] <;> rfl
  refine go_ret (evs_op (EvSN.ev (evs_lst (ds := [.str "many", .str "name", .str "speech", .str "twice", .str "held", .str "text"]) (evs_cons evs_str (evs_cons evs_str (evs_cons evs_str (evs_cons evs_str (evs_cons evs_str (evs_cons evs_str evs_nil)))))) (show 6 ≤ 1000 by decide))) (evs_indexB (bs := [false, false, false, false, false, true]) (j := 5) (evs_var rfl) rfl (fun m h => by match m, h with | 0, _ => exact fun z => by cases z | 1, _ => exact fun z => by cases z | 2, _ => exact fun z => by cases z | 3, _ => exact fun z => by cases z | 4, _ => exact fun z => by cases z)) (rv_ixL (atI_nat (show _ = some (Da.str "text") from rfl)))) post
theorem ok_l_kind (T : Tx K mg A) : FnE P w K mg base 1 A.f_l_kind A.fd_l_kind "_law_e" (R_l_kind A) := by
  refine fnE_of T.F_l_kind sc_l_kind fun cdv A1 outer s H Q E p D z hr hz hf good wish => ?_
  have at0 := start_at (K := K) (N := N_l_kind) (vs := [.ref p.1]) (ds := [.cls p.1]) (.cons (.cls _) .nil) (show 1 ≤ N_l_kind.length by decide) H (Same.refl _) H rfl
  have post : Post ⟨K, H, H, []⟩ (.str z) Q := fun v Hs H' x r => by cases r; exact wish H' x.up
  rcases good with ⟨rfl, rfl⟩ | ⟨rfl, rfl⟩ | ⟨rfl, rfl⟩ | ⟨rfl, rfl⟩ | ⟨rfl, rfl⟩
  · have ec := T.ec_TooMany
    exact ⟨_, (pss_cons (ps_set (i := 1) sc_l_kind.nd rfl (Or.inl rfl) (pe_lst (pa_cons (pe_callB (call_isH (List.mem_singleton.mpr rfl) ec hz hf) rfl T.n_isinstance PyProof.Rows.boot_isinstance (pa_cons (pv 0) (pa_cons (pe_glob (v := .ref A.C_TooMany) rfl T.g_TooMany rfl) pa_nil))) (pa_cons (pe_callB (call_isH (List.mem_singleton.mpr rfl) ec hz hf) rfl T.n_isinstance PyProof.Rows.boot_isinstance (pa_cons (pv 0) (pa_cons (pe_glob (v := .ref A.C_BadName) rfl T.g_BadName rfl) pa_nil))) (pa_cons (pe_callB (call_isH (List.mem_singleton.mpr rfl) ec hz hf) rfl T.n_isinstance PyProof.Rows.boot_isinstance (pa_cons (pv 0) (pa_cons (pe_glob (v := .ref A.C_NoSpeech) rfl T.g_NoSpeech rfl) pa_nil))) (pa_cons (pe_callB (call_isH (List.mem_singleton.mpr rfl) ec hz hf) rfl T.n_isinstance PyProof.Rows.boot_isinstance (pa_cons (pv 0) (pa_cons (pe_glob (v := .ref A.C_Twice) rfl T.g_Twice rfl) pa_nil))) pa_nil))))))
  (pss_cons (ps_set (i := 1) sc_l_kind.nd rfl (Or.inl rfl) (pe_op op_addU (pv 1) (pe_lst (pa_cons (pe_callB (call_isH (List.mem_singleton.mpr rfl) ec hz hf) rfl T.n_isinstance PyProof.Rows.boot_isinstance (pa_cons (pv 0) (pa_cons (pe_glob (v := .ref A.C_NotHeld) rfl T.g_NotHeld rfl) pa_nil))) (pa_cons (pe_callB (call_isH (List.mem_singleton.mpr rfl) ec hz hf) rfl T.n_isinstance PyProof.Rows.boot_isinstance (pa_cons (pv 0) (pa_cons (pe_glob (v := .ref A.C_NoText) rfl T.g_NoText rfl) pa_nil))) pa_nil)))))
  (pss_cons (ps_if (PW.pt (pw_or (pt_cmpR (op_neD hr.units) (pe_bm PySem.F.plainAttrs_list PySem.F.slot_list_count PySem.F.type_list_count mt_countB (pv 1) (pa_cons pe_bl pa_nil)) pe_int (nomark _)) (pw_or1 (pt_not (pt_val (pe_callB (call_isH (List.mem_singleton.mpr rfl) ec hz hf) rfl T.n_isinstance PyProof.Rows.boot_isinstance (pa_cons (pv 0) (pa_cons (pe_bltn (v := .ty "ValueError") (u := .type "ValueError") rfl T.n_ValueError (by decide +kernel) rfl) pa_nil)))))))) (pss_one (ps_ret pe_str)) pss_nil)
  (pss_one (ps_ret (pe_ix ix_seq (pe_lst (pa_cons pe_str (pa_cons pe_str (pa_cons pe_str (pa_cons pe_str (pa_cons pe_str (pa_cons pe_str pa_nil))))))) (pe_bm PySem.F.plainAttrs_list PySem.F.slot_list_index PySem.F.type_list_index mt_index (pv 1) (pa_cons pe_bl pa_nil)) (fun _ _ => rfl))))))), kind_TooMany T rfl post _ _ _ at0⟩
  · have ec := T.ec_BadName
    exact ⟨_, (pss_cons (ps_set (i := 1) sc_l_kind.nd rfl (Or.inl rfl) (pe_lst (pa_cons (pe_callB (call_isH (List.mem_singleton.mpr rfl) ec hz hf) rfl T.n_isinstance PyProof.Rows.boot_isinstance (pa_cons (pv 0) (pa_cons (pe_glob (v := .ref A.C_TooMany) rfl T.g_TooMany rfl) pa_nil))) (pa_cons (pe_callB (call_isH (List.mem_singleton.mpr rfl) ec hz hf) rfl T.n_isinstance PyProof.Rows.boot_isinstance (pa_cons (pv 0) (pa_cons (pe_glob (v := .ref A.C_BadName) rfl T.g_BadName rfl) pa_nil))) (pa_cons (pe_callB (call_isH (List.mem_singleton.mpr rfl) ec hz hf) rfl T.n_isinstance PyProof.Rows.boot_isinstance (pa_cons (pv 0) (pa_cons (pe_glob (v := .ref A.C_NoSpeech) rfl T.g_NoSpeech rfl) pa_nil))) (pa_cons (pe_callB (call_isH (List.mem_singleton.mpr rfl) ec hz hf) rfl T.n_isinstance PyProof.Rows.boot_isinstance (pa_cons (pv 0) (pa_cons (pe_glob (v := .ref A.C_Twice) rfl T.g_Twice rfl) pa_nil))) pa_nil))))))
  (pss_cons (ps_set (i := 1) sc_l_kind.nd rfl (Or.inl rfl) (pe_op op_addU (pv 1) (pe_lst (pa_cons (pe_callB (call_isH (List.mem_singleton.mpr rfl) ec hz hf) rfl T.n_isinstance PyProof.Rows.boot_isinstance (pa_cons (pv 0) (pa_cons (pe_glob (v := .ref A.C_NotHeld) rfl T.g_NotHeld rfl) pa_nil))) (pa_cons (pe_callB (call_isH (List.mem_singleton.mpr rfl) ec hz hf) rfl T.n_isinstance PyProof.Rows.boot_isinstance (pa_cons (pv 0) (pa_cons (pe_glob (v := .ref A.C_NoText) rfl T.g_NoText rfl) pa_nil))) pa_nil)))))
  (pss_cons (ps_if (PW.pt (pw_or (pt_cmpR (op_neD hr.units) (pe_bm PySem.F.plainAttrs_list PySem.F.slot_list_count PySem.F.type_list_count mt_countB (pv 1) (pa_cons pe_bl pa_nil)) pe_int (nomark _)) (pw_or1 (pt_not (pt_val (pe_callB (call_isH (List.mem_singleton.mpr rfl) ec hz hf) rfl T.n_isinstance PyProof.Rows.boot_isinstance (pa_cons (pv 0) (pa_cons (pe_bltn (v := .ty "ValueError") (u := .type "ValueError") rfl T.n_ValueError (by decide +kernel) rfl) pa_nil)))))))) (pss_one (ps_ret pe_str)) pss_nil)
  (pss_one (ps_ret (pe_ix ix_seq (pe_lst (pa_cons pe_str (pa_cons pe_str (pa_cons pe_str (pa_cons pe_str (pa_cons pe_str (pa_cons pe_str pa_nil))))))) (pe_bm PySem.F.plainAttrs_list PySem.F.slot_list_index PySem.F.type_list_index mt_index (pv 1) (pa_cons pe_bl pa_nil)) (fun _ _ => rfl))))))), kind_BadName T rfl post _ _ _ at0⟩
  · have ec := T.ec_NoSpeech
    exact ⟨_, (pss_cons (ps_set (i := 1) sc_l_kind.nd rfl (Or.inl rfl) (pe_lst (pa_cons (pe_callB (call_isH (List.mem_singleton.mpr rfl) ec hz hf) rfl T.n_isinstance PyProof.Rows.boot_isinstance (pa_cons (pv 0) (pa_cons (pe_glob (v := .ref A.C_TooMany) rfl T.g_TooMany rfl) pa_nil))) (pa_cons (pe_callB (call_isH (List.mem_singleton.mpr rfl) ec hz hf) rfl T.n_isinstance PyProof.Rows.boot_isinstance (pa_cons (pv 0) (pa_cons (pe_glob (v := .ref A.C_BadName) rfl T.g_BadName rfl) pa_nil))) (pa_cons (pe_callB (call_isH (List.mem_singleton.mpr rfl) ec hz hf) rfl T.n_isinstance PyProof.Rows.boot_isinstance (pa_cons (pv 0) (pa_cons (pe_glob (v := .ref A.C_NoSpeech) rfl T.g_NoSpeech rfl) pa_nil))) (pa_cons (pe_callB (call_isH (List.mem_singleton.mpr rfl) ec hz hf) rfl T.n_isinstance PyProof.Rows.boot_isinstance (pa_cons (pv 0) (pa_cons (pe_glob (v := .ref A.C_Twice) rfl T.g_Twice rfl) pa_nil))) pa_nil))))))
  (pss_cons (ps_set (i := 1) sc_l_kind.nd rfl (Or.inl rfl) (pe_op op_addU (pv 1) (pe_lst (pa_cons (pe_callB (call_isH (List.mem_singleton.mpr rfl) ec hz hf) rfl T.n_isinstance PyProof.Rows.boot_isinstance (pa_cons (pv 0) (pa_cons (pe_glob (v := .ref A.C_NotHeld) rfl T.g_NotHeld rfl) pa_nil))) (pa_cons (pe_callB (call_isH (List.mem_singleton.mpr rfl) ec hz hf) rfl T.n_isinstance PyProof.Rows.boot_isinstance (pa_cons (pv 0) (pa_cons (pe_glob (v := .ref A.C_NoText) rfl T.g_NoText rfl) pa_nil))) pa_nil)))))
  (pss_cons (ps_if (PW.pt (pw_or (pt_cmpR (op_neD hr.units) (pe_bm PySem.F.plainAttrs_list PySem.F.slot_list_count PySem.F.type_list_count mt_countB (pv 1) (pa_cons pe_bl pa_nil)) pe_int (nomark _)) (pw_or1 (pt_not (pt_val (pe_callB (call_isH (List.mem_singleton.mpr rfl) ec hz hf) rfl T.n_isinstance PyProof.Rows.boot_isinstance (pa_cons (pv 0) (pa_cons (pe_bltn (v := .ty "ValueError") (u := .type "ValueError") rfl T.n_ValueError (by decide +kernel) rfl) pa_nil)))))))) (pss_one (ps_ret pe_str)) pss_nil)
  (pss_one (ps_ret (pe_ix ix_seq (pe_lst (pa_cons pe_str (pa_cons pe_str (pa_cons pe_str (pa_cons pe_str (pa_cons pe_str (pa_cons pe_str pa_nil))))))) (pe_bm PySem.F.plainAttrs_list PySem.F.slot_list_index PySem.F.type_list_index mt_index (pv 1) (pa_cons pe_bl pa_nil)) (fun _ _ => rfl))))))), kind_NoSpeech T rfl post _ _ _ at0⟩
  · have ec := T.ec_Twice
    exact ⟨_, (pss_cons (ps_set (i := 1) sc_l_kind.nd rfl (Or.inl rfl) (pe_lst (pa_cons (pe_callB (call_isH (List.mem_singleton.mpr rfl) ec hz hf) rfl T.n_isinstance PyProof.Rows.boot_isinstance (pa_cons (pv 0) (pa_cons (pe_glob (v := .ref A.C_TooMany) rfl T.g_TooMany rfl) pa_nil))) (pa_cons (pe_callB (call_isH (List.mem_singleton.mpr rfl) ec hz hf) rfl T.n_isinstance PyProof.Rows.boot_isinstance (pa_cons (pv 0) (pa_cons (pe_glob (v := .ref A.C_BadName) rfl T.g_BadName rfl) pa_nil))) (pa_cons (pe_callB (call_isH (List.mem_singleton.mpr rfl) ec hz hf) rfl T.n_isinstance PyProof.Rows.boot_isinstance (pa_cons (pv 0) (pa_cons (pe_glob (v := .ref A.C_NoSpeech) rfl T.g_NoSpeech rfl) pa_nil))) (pa_cons (pe_callB (call_isH (List.mem_singleton.mpr rfl) ec hz hf) rfl T.n_isinstance PyProof.Rows.boot_isinstance (pa_cons (pv 0) (pa_cons (pe_glob (v := .ref A.C_Twice) rfl T.g_Twice rfl) pa_nil))) pa_nil))))))
  (pss_cons (ps_set (i := 1) sc_l_kind.nd rfl (Or.inl rfl) (pe_op op_addU (pv 1) (pe_lst (pa_cons (pe_callB (call_isH (List.mem_singleton.mpr rfl) ec hz hf) rfl T.n_isinstance PyProof.Rows.boot_isinstance (pa_cons (pv 0) (pa_cons (pe_glob (v := .ref A.C_NotHeld) rfl T.g_NotHeld rfl) pa_nil))) (pa_cons (pe_callB (call_isH (List.mem_singleton.mpr rfl) ec hz hf) rfl T.n_isinstance PyProof.Rows.boot_isinstance (pa_cons (pv 0) (pa_cons (pe_glob (v := .ref A.C_NoText) rfl T.g_NoText rfl) pa_nil))) pa_nil)))))
  (pss_cons (ps_if (PW.pt (pw_or (pt_cmpR (op_neD hr.units) (pe_bm PySem.F.plainAttrs_list PySem.F.slot_list_count PySem.F.type_list_count mt_countB (pv 1) (pa_cons pe_bl pa_nil)) pe_int (nomark _)) (pw_or1 (pt_not (pt_val (pe_callB (call_isH (List.mem_singleton.mpr rfl) ec hz hf) rfl T.n_isinstance PyProof.Rows.boot_isinstance (pa_cons (pv 0) (pa_cons (pe_bltn (v := .ty "ValueError") (u := .type "ValueError") rfl T.n_ValueError (by decide +kernel) rfl) pa_nil)))))))) (pss_one (ps_ret pe_str)) pss_nil)
  (pss_one (ps_ret (pe_ix ix_seq (pe_lst (pa_cons pe_str (pa_cons pe_str (pa_cons pe_str (pa_cons pe_str (pa_cons pe_str (pa_cons pe_str pa_nil))))))) (pe_bm PySem.F.plainAttrs_list PySem.F.slot_list_index PySem.F.type_list_index mt_index (pv 1) (pa_cons pe_bl pa_nil)) (fun _ _ => rfl))))))), kind_Twice T rfl post _ _ _ at0⟩
  · have ec := T.ec_NoText
    exact ⟨_, (pss_cons (ps_set (i := 1) sc_l_kind.nd rfl (Or.inl rfl) (pe_lst (pa_cons (pe_callB (call_isH (List.mem_singleton.mpr rfl) ec hz hf) rfl T.n_isinstance PyProof.Rows.boot_isinstance (pa_cons (pv 0) (pa_cons (pe_glob (v := .ref A.C_TooMany) rfl T.g_TooMany rfl) pa_nil))) (pa_cons (pe_callB (call_isH (List.mem_singleton.mpr rfl) ec hz hf) rfl T.n_isinstance PyProof.Rows.boot_isinstance (pa_cons (pv 0) (pa_cons (pe_glob (v := .ref A.C_BadName) rfl T.g_BadName rfl) pa_nil))) (pa_cons (pe_callB (call_isH (List.mem_singleton.mpr rfl) ec hz hf) rfl T.n_isinstance PyProof.Rows.boot_isinstance (pa_cons (pv 0) (pa_cons (pe_glob (v := .ref A.C_NoSpeech) rfl T.g_NoSpeech rfl) pa_nil))) (pa_cons (pe_callB (call_isH (List.mem_singleton.mpr rfl) ec hz hf) rfl T.n_isinstance PyProof.Rows.boot_isinstance (pa_cons (pv 0) (pa_cons (pe_glob (v := .ref A.C_Twice) rfl T.g_Twice rfl) pa_nil))) pa_nil))))))
  (pss_cons (ps_set (i := 1) sc_l_kind.nd rfl (Or.inl rfl) (pe_op op_addU (pv 1) (pe_lst (pa_cons (pe_callB (call_isH (List.mem_singleton.mpr rfl) ec hz hf) rfl T.n_isinstance PyProof.Rows.boot_isinstance (pa_cons (pv 0) (pa_cons (pe_glob (v := .ref A.C_NotHeld) rfl T.g_NotHeld rfl) pa_nil))) (pa_cons (pe_callB (call_isH (List.mem_singleton.mpr rfl) ec hz hf) rfl T.n_isinstance PyProof.Rows.boot_isinstance (pa_cons (pv 0) (pa_cons (pe_glob (v := .ref A.C_NoText) rfl T.g_NoText rfl) pa_nil))) pa_nil)))))
  (pss_cons (ps_if (PW.pt (pw_or (pt_cmpR (op_neD hr.units) (pe_bm PySem.F.plainAttrs_list PySem.F.slot_list_count PySem.F.type_list_count mt_countB (pv 1) (pa_cons pe_bl pa_nil)) pe_int (nomark _)) (pw_or1 (pt_not (pt_val (pe_callB (call_isH (List.mem_singleton.mpr rfl) ec hz hf) rfl T.n_isinstance PyProof.Rows.boot_isinstance (pa_cons (pv 0) (pa_cons (pe_bltn (v := .ty "ValueError") (u := .type "ValueError") rfl T.n_ValueError (by decide +kernel) rfl) pa_nil)))))))) (pss_one (ps_ret pe_str)) pss_nil)
  (pss_one (ps_ret (pe_ix ix_seq (pe_lst (pa_cons pe_str (pa_cons pe_str (pa_cons pe_str (pa_cons pe_str (pa_cons pe_str (pa_cons pe_str pa_nil))))))) (pe_bm PySem.F.plainAttrs_list PySem.F.slot_list_index PySem.F.type_list_index mt_index (pv 1) (pa_cons pe_bl pa_nil)) (fun _ _ => rfl))))))), kind_NoText T rfl post _ _ _ at0⟩
end

section
variable {P : Program} {w : World} {K : PySem.W.Frag} {mg : Str → Option Value} {base : Heap} {A : Ad}
/-- the slots are lost -/
theorem At.lost {C : Ct} {δ : List Sl} {σ σ' : L2.St} {Hk H H' : Hp} (a : At C δ σ Hk H) (u : Same H H') (n : Nat) (h : σ'.length = n) : At C (List.replicate n .no) σ' Hk H' := by
  have no : ∀ (i : Nat) (s : Sl), (List.replicate n Sl.no)[i]? = some s → s = .no := fun i s e => by
    rw [List.getElem?_replicate] at e
    split at e
    · exact (Option.some.inj e).symm
    · cases e
  refine ⟨a.ext.trans (Ext.of_up a.same u), ⟨by rw [List.length_replicate]; exact h, fun i d e => (by cases no i _ e)⟩, fun i o e => (by cases no i _ e), fun i j o o' l _ e => (by cases no i _ e), a.pin⟩
/-- a call within a try raises: the handler asks the class and keeps the word -/
theorem at_caught (T : Tx K mg A) {C : Ct} {δ : List Sl} {σ : L2.St} {Hk H : Hp} {D : Ends} {te : WX → TE} {B : Addr} {z : Str} {n i j : Nat} (hC : C.K = K) (a : At C δ σ Hk H) (hi : i < n) (hij : j ≠ i) (good : R_l_kind A B z) (sub : PySem.W.exmOne K (.ref B) (.ref A.C_BenchError) = some true)
    (raises : ∀ (W : WX) (Q : VK), (∀ H', Same H H' → EW n W (.ref B) none H') → te W σ H Q) (q : Nx C D.nx (((List.replicate n Sl.no).set j (.dat (.str z))).set i .no)) :
    (fun (D : Ends) σ H => (fun W => tAsg (te W) (gName j)) (wAs K (.ref A.C_BenchError) i (fun a cls d => tAsg (tKind a cls d i (R_l_kind A)) (gName j)) (fun _ _ _ _ => False) D) D σ H) D σ H := by
  refine raises _ _ fun H' u σ' hl => ⟨true, sub, fun _ a1 _ => ?_, fun w => by cases w⟩
  have a2 := a.lost u n hl
  refine ⟨B, z, rfl, rfl, List.getElem?_set_self (by rw [hl]; exact hi), good, fun H'' u2 => ?_⟩
  have a3 := a2.go (Ext.of_up a2.same u2)
  have a4 := ((a3.setNo (i := i) (x := some (.ref a1))).set (i := j) (d := .str z) (.str z)).setNo (i := i) (x := none)
  have e : ((((List.replicate n Sl.no).set i .no).set j (.dat (.str z))).set i .no) = (((List.replicate n Sl.no).set j (.dat (.str z))).set i .no) := by
    have : (List.replicate n Sl.no).set i .no = List.replicate n Sl.no := by
      apply List.ext_getElem?
      intro k
      by_cases hk : i = k
      · subst hk
        rw [List.getElem?_set_self (by simpa using hi), List.getElem?_replicate, if_pos hi]
      · rw [List.getElem?_set_ne hk]
    rw [this]
  rw [e] at a4
  exact q _ _ _ a4
end

section
variable {P : Program} {w : World} {K : PySem.W.Frag} {mg : Str → Option Value} {base : Heap} {A : Ad}
theorem bench_raises {δ : List Sl} {σ : L2.St} {Hk H : Hp} {t : TA} {q1 q2 : Da} {ts : List Da} {B : Addr} {E : XK} {Q : VK} (D : Dats K δ σ Hk) (s : Same Hk H) (ha : EvSA K t δ [q1, q2]) (e1 : q1 = .lst ts ∨ q1 = .tup ts) (bad : BadB A ts q2 B)
    (hE : ∀ H', Same H H' → E (.ref B) none H') : tMake A.C_Bench (sp_Bench_init K A) [] E t σ H Q :=
  ha σ Hk D H s _ fun vs H1 H1' x1 r1 => by
    intro x dx nx ndx nex
    obtain ⟨v1, v2, rfl, r1, r2⟩ := r1.two_of
    have h1x : H1 x = none := x1.st.free nx
    have h1d : H1 dx = none := x1.st.free ndx
    exact ⟨x, dx, v1, v2, H1, q1, q2, ts, rfl, upd_same, h1x, same_updK (same_updK x1.st h1d) h1x, r1, r2, e1, .inr ⟨B, bad, fun H' kp => hE H' fun b o e => by
      have e := x1.up b o e
      exact kp b o (by rw [upd_ne (ne_of_none e nx), upd_ne (ne_of_none e ndx)]; exact e) (ne_of_none e nx)⟩⟩
/-- a call within a try raises: the handler asks the class and keeps the word -/
theorem at_caughtD (T : Tx K mg A) {C : Ct} {δ : List Sl} {σ : L2.St} {Hk H : Hp} {D : Ends} {te : WX → TE} {B : Addr} {z : Str} {n i j : Nat} (hC : C.K = K) (a : At C δ σ Hk H) (hi : i < n) (hij : j ≠ i) (good : R_l_kind A B z) (sub : PySem.W.exmOne K (.ref B) (.ref A.C_BenchError) = some true)
    (raises : ∀ (W : WX) (Q : VK), (∀ H', Same H H' → EW n W (.ref B) none H') → te W σ H Q) (u : TS) (q : Nx C D.nx (((List.replicate n Sl.no).set j (.dat (.str z))).set i .no)) :
    (fun (D : Ends) σ H => (fun W => tDrop (te W)) (wAs K (.ref A.C_BenchError) i (fun a cls d => tAsg (tKind a cls d i (R_l_kind A)) (gName j)) (fun _ _ _ _ => False) D) { D with nx := u D } σ H) D σ H := by
  refine raises _ _ fun H' u1 σ' hl => ⟨true, sub, fun _ a1 _ => ?_, fun w => by cases w⟩
  have a2 := a.lost u1 n hl
  refine ⟨B, z, rfl, rfl, List.getElem?_set_self (by rw [hl]; exact hi), good, fun H'' u2 => ?_⟩
  have a3 := a2.go (Ext.of_up a2.same u2)
  have a4 := ((a3.setNo (i := i) (x := some (.ref a1))).set (i := j) (d := .str z) (.str z)).setNo (i := i) (x := none)
  have e : ((((List.replicate n Sl.no).set i .no).set j (.dat (.str z))).set i .no) = (((List.replicate n Sl.no).set j (.dat (.str z))).set i .no) := by
    have : (List.replicate n Sl.no).set i .no = List.replicate n Sl.no := by
      apply List.ext_getElem?
      intro k
      by_cases hk : i = k
      · subst hk
        rw [List.getElem?_set_self (by simpa using hi), List.getElem?_replicate, if_pos hi]
      · rw [List.getElem?_set_ne hk]
    rw [this]
  rw [e] at a4
  exact q _ _ _ a4
end

/-! # Notes -/
section
variable {P : Program} {w : World} {K : PySem.W.Frag} {mg : Str → Option Value} {base : Heap} {A : Ad}
/-- a sign that may stand in a word -/
def prn (c : Nat) : Prop := 33 ≤ c ∧ c ≤ 126
theorem bang_S : ("!" : Str) = ⟨#[33]⟩ := by decide +kernel
theorem tilde_S : ("~" : Str) = ⟨#[126]⟩ := by decide +kernel
theorem signs_ok {l : List Nat} (h : ∀ c ∈ l, c < 256) : okS (S l) := by
  unfold okS PyData.strOk
  rw [← Array.all_toList, List.all_eq_true]
  intro c hc
  have := h c hc
  exact decide_eq_true (by omega)
def R_is_word (ds : List Da) (d : Da) : Prop := ∃ (p : Wd), ds = [.str (S p)] ∧ (∀ c ∈ p, prn c) ∧ p.length ≤ 80000 ∧ d = .bl (decide (p ≠ []))
abbrev sp_is_word (K : PySem.W.Frag) (A : Ad) : Sp := SpD K R_is_word
theorem ok_is_word (T : Tx K mg A) : FnOk P w K mg base CX0 1 A.f_is_word A.fd_is_word ["part"] (sp_is_word K A) := by
  refine T.F_is_word.ok sc_is_word (spd_len (n := 1) (by rintro _ _ ⟨_, rfl, _⟩; rfl)) (fun cdv A' outer s H vs Q E hr h => ⟨_, (pss_one (ps_ret (pe_and (pe_cmpR (op_neD hr.units) (pv 0) pe_str (nomark _)) (pe_one (pe_callB (cr_all rfl) rfl T.n_all PyProof.Rows.boot_all (pa_cons (pe_lc (own := [("sign", 1)]) (g := (gName 1)) (tt := tYes) (te := (tChain rLeS rLeS (tC (.str "!")) (tVar 1) (tC (.str "~")))) rfl sc_is_word.nd (pi_str (pv 0)) (blkOk_by (own := [("sign", 1)]) (N := N_is_word) (sc := (defScope s_is_word)) (by decide +kernel)) (fun _ _ _ _ _ => (pg_name (i := 1) sc_is_word.nd rfl (Or.inl rfl))) (fun _ _ _ _ _ => pts_nil) (fun _ _ _ _ _ => (pe_chain op_leS op_leS pe_str (pv 1) pe_str))) pa_nil)))))), spd_body (N := N_is_word) (ts := (tRet (tAndV (tOp (rNeD K) (tVar 0) (tC (.str ""))) (tCB (rAll K) (tCons (tLc (iStr (tVar 0)) (gName 1) tYes (tChain rLeS rLeS (tC (.str "!")) (tVar 1) (tC (.str "~"))) [1]) tNil))))) (by rintro _ _ ⟨_, rfl, _⟩; exact (by decide : 1 ≤ N_is_word.length)) ?_ _ _ _ _ h⟩)
  rintro _ _ ⟨p, rfl, hp, hl, rfl⟩ C Q rfl post
  refine go_ret (EvS.to (evs_andV (evs_op (evs_var rfl) (evs_str (i := "")) (rv_ne (n := 3) (ok_str (signs_ok fun c hc => by have := hp c hc; unfold prn at this; omega)) (ok_str (by unfold okS; decide +kernel)) (by decide))) fun _ => evs_cb (evs_cons (EvSN.ev (EvSN.to (evs_lcYB (xs := (S p).cps.toList) (enc := fun c => Da.str ⟨#[c]⟩) (itd_str (evs_var rfl)) (fun _ => .bl true) (by rw [S_list]; omega) fun c hc => ⟨_, tgd_name, EvS.to (evs_chain evs_str (evs_var rfl) evs_str rv_leS rv_leS) ?_⟩) (?_ : _ = ((S p).cps.toList.map fun _ => true).map Da.bl))) evs_nil) rc_all) ?_) post
  · obtain ⟨h1, h2⟩ := hp c (by rw [S_list] at hc; exact hc)
    have a1 : ¬ (([c] : List Nat) < [33]) := fun z => by have := lt_one.mp z; omega
    have a2 : ¬ (([126] : List Nat) < [c]) := fun z => by have := lt_one.mp z; omega
    rw [bang_S, tilde_S]
    show Da.bl ((!decide (([c] : List Nat) < [33])) && (!decide (([126] : List Nat) < [c]))) = _
    rw [decide_eq_false a1, decide_eq_false a2] <;> rfl
  · rw [List.map_map] <;> rfl
  · rw [List.all_map, S_list]
    have : (p.all (id ∘ fun _ => true)) = true := List.all_eq_true.mpr fun _ _ => rfl
    rw [this, Bool.and_true, eqD_str]
    congr 1
    by_cases c : p = []
    · subst c; decide +kernel
    · rw [decide_eq_true c, decide_eq_false fun z => c ((S_list p).symm.trans ((congrArg (fun x : Str => x.cps.toList) z).trans (by decide +kernel)))] <;> rfl
def wD (p : Wd) : Da := .str (S p)
theorem wD_map (ps : List Wd) : ps.map wD = (ps.map S).map Da.str := by rw [List.map_map] <;> rfl
theorem S_inj' {p q : Wd} : (S p = S q) ↔ p = q := ⟨S_inj, fun h => by rw [h]⟩
def formB (ps : List Wd) (f : Wd) (n : Nat) : Bool := decide (ps.head? = some f) && decide (ps.length = n + 1) && ps.all fun p => decide (p ≠ [])
def R_is_form (ds : List Da) (d : Da) : Prop := ∃ (ps : List Wd) (f : Wd) (n : Nat), ds = [.lst (ps.map wD), .str (S f), .int n] ∧ (ps ≠ [] ∧ (∀ p ∈ ps, (∀ c ∈ p, prn c) ∧ p.length ≤ 80000) ∧ (∀ c ∈ f, prn c) ∧ ps.length ≤ 80000) ∧ d = .bl (formB ps f n)
abbrev sp_is_form (K : PySem.W.Frag) (A : Ad) : Sp := SpD K R_is_form
theorem ok_is_form (T : Tx K mg A) : FnOk P w K mg base CX0 2 A.f_is_form A.fd_is_form ["parts", "first", "many"] (sp_is_form K A) := by
  refine T.F_is_form.ok sc_is_form (spd_len (n := 3) (by rintro _ _ ⟨_, _, _, rfl, _⟩; rfl)) (fun cdv A' outer s H vs Q E hr h => ⟨_, (pss_cons (ps_if (PW.pt (pw_or (pt_cmpR (op_neD hr.units) (pe_ix ix_seq (pv 0) pe_int (fun _ _ => rfl)) (pv 1) (nomark _)) (pw_or1 (pt_cmpR (op_neD hr.units) (pe_callB call_lenU rfl T.n_len PySem.boot_len (pa_cons (pv 0) pa_nil)) (pe_op op_addU (pv 2) pe_int) (nomark _))))) (pss_one (ps_ret pe_bl)) pss_nil)
  (pss_one (ps_ret (pe_callB (cr_all rfl) rfl T.n_all PyProof.Rows.boot_all (pa_cons (pe_lc (own := [("part", 3)]) (g := (gName 3)) (tt := tYes) (te := (tCall (sp_is_word K A) [] E0 (tCons (tVar 3) tNil))) rfl sc_is_form.nd (pi_list (pv 0)) (blkOk_by (own := [("part", 3)]) (N := N_is_form) (sc := (defScope s_is_form)) (by decide +kernel)) (fun _ _ _ _ _ => (pg_name (i := 3) sc_is_form.nd rfl (Or.inl rfl))) (fun _ _ _ _ _ => pts_nil) (fun _ _ _ _ _ => (pe_call (ok_is_word T) hr rfl T.g_is_word T.F_is_word.kp T.B_is_word .nil pass0 (pa_cons (pv 3) pa_nil)))) pa_nil))))), spd_body (N := N_is_form) (ts := (tSeq (tIfS (tOr (tTest (tOp (rNeD K) (tOp (rIx K) (tVar 0) (tC (.int 0))) (tVar 1))) (tTest (tOp (rNeD K) (tCB (rLen K) (tCons (tVar 0) tNil)) (tOp (rAddU K) (tVar 2) (tC (.int 1)))))) (tRet (tC (.bl false))) tNext) (tRet (tCB (rAll K) (tCons (tLc (iList K (tVar 0)) (gName 3) tYes (tCall (sp_is_word K A) [] E0 (tCons (tVar 3) tNil)) [3]) tNil))))) (by rintro _ _ ⟨_, _, _, rfl, _⟩; exact (by decide : 3 ≤ N_is_form.length)) ?_ _ _ _ _ h⟩)
  rintro _ _ ⟨ps, f, n, rfl, ⟨ne, hp, hf, hl⟩, rfl⟩ C Q rfl post
  have okw : ∀ {p : Wd}, (∀ c ∈ p, prn c) → okS (S p) := fun h => signs_ok fun c hc => by have := h c hc; unfold prn at this; omega
  cases ps with
  | nil => exact absurd rfl ne
  | cons p0 ps =>
    have h0 := hp p0 (List.mem_cons_self ..)
    refine sq_if1 (b := !(decide (p0 = f) && decide ((p0 :: ps).length = n + 1))) (EvST.to (evt_or (evt_test (evs_op (evs_op (evs_var (d := .lst ((p0 :: ps).map wD)) rfl) evs_int (rv_ixL (d := wD p0) (show atI _ ((0 : Nat) : Int) = _ from atI_nat rfl))) (evs_var rfl) (rv_ne (n := 3) (ok_str (okw h0.1)) (ok_str (okw hf)) (by decide)))) (fun _ => evt_test (evs_op (evs_cb (evs_cons (evs_var (d := .lst ((p0 :: ps).map wD)) rfl) evs_nil) rc_lenL) (evs_op (evs_var rfl) evs_int rv_addI) (rv_ne (n := 3) ok_int ok_int (by decide))))) ?_) (fun z => ?_) (fun z => ?_)
    · rw [wD, eqD_str, eqD_int, List.length_map]
      have e1 : decide (S p0 = S f) = decide (p0 = f) := decide_eq_decide.mpr S_inj'
      have e2 : decide ((((p0 :: ps).length : Nat) : Int) = (n : Int) + 1) = decide ((p0 :: ps).length = n + 1) := decide_eq_decide.mpr ⟨fun h => by omega, fun h => by omega⟩
      rw [e1, e2]
      cases decide (p0 = f) <;> cases decide ((p0 :: ps).length = n + 1) <;> rfl
    · have e : formB (p0 :: ps) f n = false := by
        rw [Bool.not_eq_true'] at z
        unfold formB
        have e1 : decide ((p0 :: ps).head? = some f) = decide (p0 = f) := decide_eq_decide.mpr ⟨fun h => by injection h, fun h => by rw [h] <;> rfl⟩
        rw [e1, z] <;> rfl
      rw [e] at post
      exact go_ret evs_bl post
    · refine go_ret (EvS.to (evs_cb (evs_cons (EvSN.ev (EvSN.to (evs_lcYB (xs := p0 :: ps) (enc := wD) (itd_list (evs_var rfl)) (fun p => .bl (decide (p ≠ []))) (by omega) fun p hm => ⟨_, tgd_name, evs_call (evs_cons (evs_var rfl) evs_nil) ⟨p, rfl, (hp p hm).1, (hp p hm).2, rfl⟩⟩) (?_ : _ = ((p0 :: ps).map fun p => decide (p ≠ [])).map Da.bl))) evs_nil) rc_all) ?_) post
      · rw [List.map_map] <;> rfl
      · rw [Bool.not_eq_false'] at z
        unfold formB
        have e1 : decide ((p0 :: ps).head? = some f) = decide (p0 = f) := decide_eq_decide.mpr ⟨fun h => by injection h, fun h => by rw [h] <;> rfl⟩
        rw [e1, z, Bool.true_and, List.all_map] <;> rfl
/-- the signs of a text, and its size -/
def TxOk (l : Wd) : Prop := (∀ c ∈ l, c = 32 ∨ c = 10 ∨ prn c) ∧ l.length ≤ 60000
def R_rows_of (ds : List Da) (es : List Da) : Prop := ∃ (l : Wd), ds = [.str (S l)] ∧ TxOk l ∧ (splitC 10 l).getLast? = some [] ∧ es = (splitC 10 l).dropLast.map wD
def X_rows_of (A : Ad) (ds : List Da) (B : Addr) : Prop := ∃ (l : Wd), ds = [.str (S l)] ∧ TxOk l ∧ (splitC 10 l).getLast? ≠ some [] ∧ B = A.C_NoText
abbrev sp_rows_of (K : PySem.W.Frag) (A : Ad) : Sp := SpXN K R_rows_of (X_rows_of A)
theorem nl_S : ("\n" : Str) = S [10] := by decide +kernel
theorem sp_S : (" " : Str) = S [32] := by decide +kernel
theorem e_S : ("" : Str) = S [] := by decide +kernel
theorem tx_256 {l : Wd} (h : TxOk l) : ∀ c ∈ l, c < 256 := fun c hc => by
  have := h.1 c hc
  unfold prn at this
  omega
theorem body_rows_of (T : Tx K mg A) : ∀ (C : Ct) (Q : VK) (E : XK) (l : Wd), C.K = K → TxOk l → ((splitC 10 l).getLast? = some [] → PostN C ((splitC 10 l).dropLast.map wD) Q) → ((splitC 10 l).getLast? ≠ some [] → ∀ H', Same C.H0 H' → E (.ref A.C_NoText) none H') → Go C ((tSeq (tAsg (tM1 rSplit (tVar 0) (tC (.str "\n"))) (gName 1)) (tSeq (tIfS (tTest (tOp (rNeD K) (tBM0 K "list" rPop (tVar 1)) (tC (.str "")))) (tRaise E A.C_NoText) tNext) (tRet (tVar 1))))) { nx := fun _ H' => Q .non H', rt := Q } [.dat (.str (S l)), .no] := by
  rintro C Q E l rfl hl good bad
  have ne := splitC_ne 10 l
  have e0 := List.dropLast_concat_getLast ne
  have eg := List.getLast?_eq_some_getLast ne
  have lm := List.getLast_mem ne
  refine sq_setN (ds := (splitC 10 l).map wD) (EvSN.to (evs_split (a := S l) (b := S [10]) (evs_var rfl) (by rw [nl_S]; exact evs_str) (by decide) (by rw [S_len]; have := hl.2; omega)) (by rw [split_sign (by decide), wD_map])) ?_
  have ed : (splitC 10 l).map wD = (splitC 10 l).dropLast.map wD ++ [.str (S ((splitC 10 l).getLast ne))] := by
    conv => lhs; rw [← e0]
    rw [List.map_append] <;> rfl
  rw [ed]
  generalize (splitC 10 l).getLast ne = q at *
  refine go_seq (go_popNe (i := 1) rfl (signs_ok fun c hc => tx_256 hl c (splitC_sub lm hc)) (by unfold okS; decide +kernel) (fun z => ?_) (fun z => ?_))
  · exact go_raise (bad fun h => by rw [eg] at h; injection h with h; exact z (by rw [h, e_S]))
  · have hq : q = [] := by rw [e_S] at z; exact S_inj z
    exact go_one (nx_go (go_retO (i := 1) rfl (good (by rw [eg, hq]))))
theorem ok_rows_of (T : Tx K mg A) : FnOk P w K mg base (L2.CX P w) 1 A.f_rows_of A.fd_rows_of ["text"] (sp_rows_of K A) := by
  refine T.F_rows_of.okX sc_rows_of (spxn_len (n := 1) (by rintro _ _ ⟨_, rfl, _⟩; rfl) (by rintro _ _ ⟨_, rfl, _⟩; rfl)) (fun cdv A' outer s H vs Q E hr h => ⟨_, (pss_cons (ps_set (i := 1) sc_rows_of.nd rfl (Or.inl rfl) (pe_split (pv 0) pe_str))
  (pss_cons (ps_if (pt_cmpR (op_neD hr.units) (pe_bm0 PySem.F.plainAttrs_list PySem.F.slot_list_pop PySem.F.type_list_pop mt_pop (pv 1)) pe_str (nomark _)) (pss_one (ps_raise rfl (takes_of rfl rfl rfl rfl) (pmk_own PySem.F.excBase_ValueError T.x_NoText T.g_NoText T.kc_NoText (raises_own T.b_NoText T.t_NoText) (by exact rfl)))) pss_nil)
  (pss_one (ps_ret (pv 1))))), spxn_body (N := N_rows_of) (ts := fun E => (tSeq (tAsg (tM1 rSplit (tVar 0) (tC (.str "\n"))) (gName 1)) (tSeq (tIfS (tTest (tOp (rNeD K) (tBM0 K "list" rPop (tVar 1)) (tC (.str "")))) (tRaise E A.C_NoText) tNext) (tRet (tVar 1))))) (by rintro _ _ ⟨_, rfl, _⟩; exact (by decide : 1 ≤ N_rows_of.length)) (by rintro _ _ ⟨_, rfl, _⟩; exact (by decide : 1 ≤ N_rows_of.length)) ?_ ?_ _ _ _ _ h⟩)
  · rintro _ _ ⟨l, rfl, hl, e, rfl⟩ C Q E hC post
    exact body_rows_of T C Q E l hC hl (fun _ => post) (fun n => absurd e n)
  · rintro _ _ ⟨l, rfl, hl, e, rfl⟩ C Q E hC post
    exact body_rows_of T C Q E l hC hl (fun n => absurd n e) (fun _ => post)
end

section
variable {P : Program} {w : World} {K : PySem.W.Frag} {mg : Str → Option Value} {base : Heap} {A : Ad}
def cl (x : Str) : Wd := x.cps.toList
theorem S_cl (x : Str) : S (cl x) = x := S_cps x
def cl2 (p : Pr) : Wd × Wd := (cl p.1, cl p.2)
def WrOk (ns : List Str) (ps : List Pr) : Prop := (∀ x ∈ ns, x.length ≤ 8) ∧ (∀ p ∈ ps, p.1.length ≤ 8 ∧ p.2.length ≤ 8) ∧ ns.length ≤ 8 ∧ ps.length ≤ 200
theorem cl_len {x : Str} : (cl x).length = x.length := by
  unfold cl
  rw [Array.length_toList] <;> rfl
def R_written (A : Ad) (ds : List Da) (d : Da) : Prop := ∃ (ns : List Str) (ps : List Pr), ds = [benchD A ns ps] ∧ WrOk ns ps ∧ d = .str (S (writeT (ns.map cl) (ps.map cl2)))
abbrev sp_written (K : PySem.W.Frag) (A : Ad) : Sp := SpD K (R_written A)
theorem ok_written (T : Tx K mg A) : FnOk P w K mg base CX0 1 A.f_written A.fd_written ["bench"] (sp_written K A) := by
  refine T.F_written.ok sc_written (spd_len (n := 1) (by rintro _ _ ⟨_, _, rfl, _⟩; rfl)) (fun cdv A' outer s H vs Q E hr h => ⟨_, (pss_cons (ps_setLc (i := 1) (own := [("name", 3)]) (g := (gName 3)) (tt := tYes) (te := (tJoin [(tFmt (tC (.str "speech"))), (tC (.str " ")), (tFmt (tVar 3)), (tC (.str "\n"))])) rfl sc_written.nd rfl rfl (sw_true rfl rfl rfl (by decide +kernel)) (pi_tup (pe_fld (pv 0) rfl)) (blkOk_by (own := [("name", 3)]) (N := N_written) (sc := (defScope s_written)) (by decide +kernel)) (fun _ _ _ _ _ => (pg_name (i := 3) sc_written.nd rfl (Or.inl rfl))) (fun _ _ _ _ _ => pts_nil) (fun _ _ _ _ _ => (pe_joined (PJ.cons (pe_fmt (pe_glob (v := (.str "speech")) rfl T.g_SPEECH ⟨_, rfl⟩)) (PJ.cons pe_str (PJ.cons (pe_fmt (pv 3)) (PJ.cons pe_str PJ.nil)))))))
  (pss_cons (ps_setLc (i := 2) (own := [("one", 4), ("other", 5)]) (g := (gTup K 2 (gCons (gName 4) (gCons (gName 5) gNil)))) (tt := tYes) (te := (tJoin [(tFmt (tC (.str "against"))), (tC (.str " ")), (tFmt (tVar 4)), (tC (.str " ")), (tFmt (tVar 5)), (tC (.str "\n"))])) rfl sc_written.nd rfl rfl (sw_true rfl rfl rfl (by decide +kernel)) (pi_tup (pe_fld (pv 0) rfl)) (blkOk_by (own := [("one", 4), ("other", 5)]) (N := N_written) (sc := (defScope s_written)) (by decide +kernel)) (fun _ _ _ _ _ => (pg_tup rfl (pgs_cons (pg_name (i := 4) sc_written.nd rfl (Or.inl rfl)) (pgs_cons (pg_name (i := 5) sc_written.nd rfl (Or.inl rfl)) pgs_nil)))) (fun _ _ _ _ _ => pts_nil) (fun _ _ _ _ _ => (pe_joined (PJ.cons (pe_fmt (pe_glob (v := (.str "against")) rfl T.g_AGAINST ⟨_, rfl⟩)) (PJ.cons pe_str (PJ.cons (pe_fmt (pv 4)) (PJ.cons pe_str (PJ.cons (pe_fmt (pv 5)) (PJ.cons pe_str PJ.nil)))))))))
  (pss_one (ps_ret (pe_join pe_str (pe_op op_addU (pv 1) (pv 2))))))), spd_body (N := N_written) (ts := (tSeq (tAsg (tLc (iTup K (tFld K (tVar 0) "names")) (gName 3) tYes (tJoin [(tFmt (tC (.str "speech"))), (tC (.str " ")), (tFmt (tVar 3)), (tC (.str "\n"))]) [3]) (gName 1)) (tSeq (tAsg (tLc (iTup K (tFld K (tVar 0) "pairs")) (gTup K 2 (gCons (gName 4) (gCons (gName 5) gNil))) tYes (tJoin [(tFmt (tC (.str "against"))), (tC (.str " ")), (tFmt (tVar 4)), (tC (.str " ")), (tFmt (tVar 5)), (tC (.str "\n"))]) [4, 5]) (gName 2)) (tRet (tM1 (rJoinS K) (tC (.str "")) (tOp (rAddU K) (tVar 1) (tVar 2))))))) (by rintro _ _ ⟨_, _, rfl, _⟩; exact (by decide : 1 ≤ N_written.length)) ?_ _ _ _ _ h⟩)
  rintro _ _ ⟨ns, ps, rfl, ⟨h1, h2, h3, h4⟩, rfl⟩ C Q rfl post
  have en : ∀ x : Str, catL Str.empty [("speech" : Str), " ", x, "\n"] = S (nameR (cl x) ++ [10]) := fun x => by
    have := catL_S [spW, [32], cl x, [10]] []
    rw [List.map_cons, List.map_cons, List.map_cons, List.map_cons, List.map_nil, S_cl, ← spW_S, ← sp_S, ← nl_S] at this
    rw [show Str.empty = S [] from rfl, this]
    unfold nameR
    simp
  have ep : ∀ p : Pr, catL Str.empty [("against" : Str), " ", p.1, " ", p.2, "\n"] = S (pairR (cl2 p) ++ [10]) := fun p => by
    have := catL_S [agW, [32], cl p.1, [32], cl p.2, [10]] []
    rw [List.map_cons, List.map_cons, List.map_cons, List.map_cons, List.map_cons, List.map_cons, List.map_nil, S_cl, S_cl, ← agW_S, ← sp_S, ← nl_S] at this
    rw [show Str.empty = S [] from rfl, this]
    unfold pairR cl2
    simp
  refine sq_setN (ds := (ns.map fun x => S (nameR (cl x) ++ [10])).map Da.str) (EvSN.to (evs_lcY (xs := ns) (enc := Da.str) (itd_tup (evs_names T (evs_var rfl))) (fun x => .str (S (nameR (cl x) ++ [10]))) (by omega) fun x hx => ⟨_, tgd_name, EvS.to (evs_joinF (.cons (evs_fmtS evs_str (by decide)) (by decide) (.cons evs_str (by decide) (.cons (evs_fmtS (evs_var rfl) (by have := h1 x hx; omega)) (by have := h1 x hx; omega) (.cons evs_str (by decide) .nil)))) (by show 4 ≤ 50; decide)) (congrArg Da.str (en x))⟩) (by rw [List.map_map] <;> rfl)) ?_
  refine go_freeze 1 rfl ?_
  refine sq_setN (ds := (ps.map fun p => S (pairR (cl2 p) ++ [10])).map Da.str) (EvSN.to (evs_lcY (xs := ps) (enc := dP) (itd_tup (evs_pairs T (evs_var rfl))) (fun p => .str (S (pairR (cl2 p) ++ [10]))) (by omega) fun p hp => ⟨_, tgd_tup2, EvS.to (evs_joinF (.cons (evs_fmtS evs_str (by decide)) (by decide) (.cons evs_str (by decide) (.cons (evs_fmtS (evs_var rfl) (by have := (h2 p hp).1; omega)) (by have := (h2 p hp).1; omega) (.cons evs_str (by decide) (.cons (evs_fmtS (evs_var rfl) (by have := (h2 p hp).2; omega)) (by have := (h2 p hp).2; omega) (.cons evs_str (by decide) .nil)))))) (by show 6 ≤ 50; decide)) (congrArg Da.str (ep p))⟩) (by rw [List.map_map] <;> rfl)) ?_
  refine go_freeze 2 rfl ?_
  have eall : (ns.map fun x => S (nameR (cl x) ++ [10])) ++ (ps.map fun p => S (pairR (cl2 p) ++ [10])) = ((writeR (ns.map cl) (ps.map cl2)).map (· ++ [10])).map S := by
    unfold writeR
    rw [List.map_append, List.map_append]
    simp only [List.map_map]
    rfl
  refine go_ret (EvS.to (evs_joinL (a := S []) (ys := ((writeR (ns.map cl) (ps.map cl2)).map (· ++ [10])).map S) (by rw [← e_S]; exact evs_str) (EvSN.ev (EvSN.to (evs_opN (evs_var (d := .lst ((ns.map fun x => S (nameR (cl x) ++ [10])).map Da.str)) rfl) (evs_var (d := .lst ((ps.map fun p => S (pairR (cl2 p) ++ [10])).map Da.str)) rfl) (rv_addL (by rw [List.length_map, List.length_map, List.length_map, List.length_map]; omega))) (by rw [← List.map_append, eall]))) ?_) (by rw [join_flat] <;> rfl)) post
  have small : ∀ z ∈ ((writeR (ns.map cl) (ps.map cl2)).map (· ++ [10])).map S, z.length ≤ 40 := fun z hz => by
    rw [← eall, List.mem_append] at hz
    rcases hz with hz | hz
    · obtain ⟨x, hx, rfl⟩ := List.mem_map.mp hz
      have := h1 x hx
      rw [S_len]
      unfold nameR
      simp only [List.length_append, List.length_cons, List.length_nil, cl_len]
      have : spW.length = 6 := rfl
      omega
    · obtain ⟨p, hp, rfl⟩ := List.mem_map.mp hz
      have := h2 p hp
      rw [S_len]
      unfold pairR cl2
      simp only [List.length_append, List.length_cons, List.length_nil, cl_len]
      have : agW.length = 7 := rfl
      omega
  have sum_le : ∀ (zs : List Str), (∀ z ∈ zs, z.length ≤ 40) → (zs.map (·.length)).sum ≤ 40 * zs.length := fun zs => by
    induction zs with
    | nil => intro _; simp
    | cons z zs ih =>
      intro h
      have a1 := ih fun y hy => h y (List.mem_cons_of_mem _ hy)
      have a2 := h z (List.mem_cons_self ..)
      simp only [List.map_cons, List.sum_cons, List.length_cons]
      omega
  have := sum_le _ small
  have lz : (((writeR (ns.map cl) (ps.map cl2)).map (· ++ [10])).map S).length = ns.length + ps.length := by rw [← eall, List.length_append, List.length_map, List.length_map]
  have l0 : (S []).length = 0 := rfl
  rw [l0, Nat.mul_zero]
  omega
end

section
variable {P : Program} {w : World} {K : PySem.W.Frag} {mg : Str → Option Value} {base : Heap} {A : Ad}
def wP (q : Wd × Wd) : Da := .tup [wD q.1, wD q.2]
def toP (q : Wd × Wd) : Bool × Pr := (true, (S q.1, S q.2))
theorem wP_map (ps : List (Wd × Wd)) : ps.map wP = (ps.map toP).map dQ := by rw [List.map_map] <;> rfl
theorem form_1 {ps : List Wd} : formB ps spW 1 = true ↔ ∃ a, ps = [spW, a] ∧ rowW ps = .name a := by
  unfold formB
  rw [Bool.and_eq_true, Bool.and_eq_true, decide_eq_true_eq, decide_eq_true_eq, List.all_eq_true]
  constructor
  · rintro ⟨⟨h1, h2⟩, h3⟩
    exact rowW_name h1 h2 fun p hp => of_decide_eq_true (h3 p hp)
  · rintro ⟨a, _, h⟩
    obtain ⟨h1, h2, h3⟩ := rowW_form1 h
    exact ⟨⟨h1, h2⟩, fun p hp => decide_eq_true (h3 p hp)⟩
theorem form_2 {ps : List Wd} : formB ps agW 2 = true ↔ ∃ a b, ps = [agW, a, b] ∧ rowW ps = .pair a b := by
  unfold formB
  rw [Bool.and_eq_true, Bool.and_eq_true, decide_eq_true_eq, decide_eq_true_eq, List.all_eq_true]
  constructor
  · rintro ⟨⟨h1, h2⟩, h3⟩
    exact rowW_pair h1 h2 fun p hp => of_decide_eq_true (h3 p hp)
  · rintro ⟨a, b, _, h⟩
    obtain ⟨h1, h2, h3⟩ := rowW_form2 h
    exact ⟨⟨h1, h2⟩, fun p hp => decide_eq_true (h3 p hp)⟩
theorem sp_prn : ∀ c ∈ spW, prn c := by unfold prn spW; decide
theorem ag_prn : ∀ c ∈ agW, prn c := by unfold prn agW; decide
def RdOk (l : Wd) : Prop := TxOk l ∧ (splitC 10 l).length ≤ 150
def R_read (A : Ad) (ds : List Da) (d : Da) : Prop := ∃ (l : Wd) (ms : List Wd) (qs : List (Wd × Wd)) (ns : List Str) (ps : List Pr), ds = [.str (S l)] ∧ RdOk l ∧ readT l = some (ms, qs) ∧ OkB (ms.map wD) (qs.map toP) ns ps ∧ d = benchD A ns ps
def X_read (A : Ad) (ds : List Da) (B : Addr) : Prop := ∃ (l : Wd), ds = [.str (S l)] ∧ RdOk l ∧ ((readT l = none ∧ B = A.C_NoText) ∨ ∃ ms qs, readT l = some (ms, qs) ∧ BadB A (ms.map wD) (.lst (qs.map wP)) B)
abbrev sp_read (K : PySem.W.Frag) (A : Ad) : Sp := SpX K (R_read A) (X_read A)
theorem body_read (T : Tx K mg A) : ∀ (C : Ct) (Q : VK) (E : XK) (l : Wd), C.K = K → RdOk l → (readT l = none → ∀ H', Same C.H0 H' → E (.ref A.C_NoText) none H') →
    (∀ ms qs, readT l = some (ms, qs) → ∀ a b c, Go C (tRet (tMake A.C_Bench (sp_Bench_init C.K A) [] E (tCons (tVar 1) (tCons (tVar 2) tNil)))) { nx := fun _ H' => Q .non H', rt := Q } [.dat (.str (S l)), .dat (.lst (ms.map wD)), .dat (.lst (qs.map wP)), a, b, c]) →
    Go C ((tSeq (tAsg (tLst tNil) (gName 1)) (tSeq (tAsg (tLst tNil) (gName 2)) (tSeq (tFor (iEnum1 K (tCons (tCall (sp_rows_of K A) [] E (tCons (tVar 0) tNil)) tNil)) (gTup K 2 (gCons (gName 3) (gCons (gName 4) gNil))) (tSeq (tAsg (tM1 rSplit (tVar 4) (tC (.str " "))) (gName 5)) (tIfS (tAnd (tB (tCall (sp_is_form K A) [] E0 (tCons (tVar 5) (tCons (tC (.str "speech")) (tCons (tC (.int 1)) tNil))))) (tNot (truB K (tVar 2)))) (tDrop (tBM K "list" rAppend (tVar 1) (tCons (tOp (rIx K) (tVar 5) (tC (.int 1))) tNil))) (tIfS (tB (tCall (sp_is_form K A) [] E0 (tCons (tVar 5) (tCons (tC (.str "against")) (tCons (tC (.int 2)) tNil))))) (tDrop (tBM K "list" rAppend (tVar 2) (tCons (tTup (tCons (tOp (rIx K) (tVar 5) (tC (.int 1))) (tCons (tOp (rIx K) (tVar 5) (tC (.int 2))) tNil))) tNil))) (tRaise1 E A.C_NoText (tJoin [(tC (.str "row ")), (tFmt (tVar 3)), (tC (.str " is not written as a speech or a pair is there"))])))))) (tRet (tMake A.C_Bench (sp_Bench_init K A) [] E (tCons (tVar 1) (tCons (tVar 2) tNil)))))))) { nx := fun _ H' => Q .non H', rt := Q } [.dat (.str (S l)), .no, .no, .no, .no, .no] := by
  rintro C Q E l rfl ⟨hl, hr⟩ bad fine
  refine sq_setN (ds := ([] : List Wd).map wD) (evs_lst evs_nil (by decide)) ?_
  refine sq_setN (ds := ([] : List (Wd × Wd)).map wP) (evs_lst evs_nil (by decide)) ?_
  by_cases eg : (splitC 10 l).getLast? = some []
  · have eT : readT l = readR [] [] (splitC 10 l).dropLast := if_pos eg
    rw [eT] at bad
    have ld : (splitC 10 l).dropLast.length ≤ 150 := by rw [List.length_dropLast]; omega
    have sub : ∀ r ∈ (splitC 10 l).dropLast, r ∈ splitC 10 l := fun r h => List.dropLast_subset _ h
    have fine2 := fine
    rw [eT] at fine2
    have hc := evs_callXN (K := C.K) (δ := [.dat (.str (S l)), .own (([] : List Wd).map wD), .own (([] : List (Wd × Wd)).map wP), .no, .no, .no]) (R := R_rows_of) (RX := X_rows_of A) (E := E) (t := tCons (tVar 0) tNil) (evs_cons (evs_var rfl) evs_nil) (show R_rows_of _ ((splitC 10 l).dropLast.map wD) from ⟨l, rfl, hl, eg, rfl⟩)
    generalize (splitC 10 l).dropLast = rows at bad fine2 hc ld sub
    refine sq_for (itd_enum1 (evs_cons (EvSN.ev hc) evs_nil)) (fun i δ => ∃ ms qs, readR [] [] (rows.take i) = some (ms, qs) ∧ (ms.length ≤ i ∧ qs.length ≤ i) ∧ ∃ a b c, δ = [.dat (.str (S l)), .own (ms.map wD), .own (qs.map wP), a, b, c]) ⟨[], [], by rw [List.take_zero, readR], ⟨Nat.le_refl _, Nat.le_refl _⟩, .no, .no, .no, rfl⟩ ?_ ?_
    · rintro P' i d _ hd ⟨ms, qs, hm, ⟨l1, l2⟩, a, b, c, rfl⟩
      obtain ⟨e, he, rfl⟩ := enums1_at hd
      rw [List.getElem?_map] at he
      have hi : i < rows.length := by
        cases q : rows[i]? with
        | none => rw [q] at he; cases he
        | some r => exact (List.getElem?_eq_some_iff.mp q).1
      rw [List.getElem?_eq_getElem hi] at he
      cases he
      have et : rows.take (i + 1) = rows.take i ++ [rows[i]] := (List.take_append_getElem hi).symm
      have ed : rows = rows.take (i + 1) ++ rows.drop (i + 1) := (List.take_append_drop ..).symm
      have rm := sub _ (List.getElem_mem hi)
      generalize rows[i] = r at et rm
      have hs : readR [] [] (rows.take (i + 1)) = readR ms qs [r] := by rw [et, readR_snoc, hm] <;> rfl
      have pr : ∀ p ∈ splitC 32 r, (∀ c ∈ p, prn c) ∧ p.length ≤ 80000 := fun p hp => by
        refine ⟨fun c hc => ?_, ?_⟩
        · have c1 := splitC_sub hp hc
          rcases hl.1 c (splitC_sub rm c1) with h | h | h
          · exact absurd hc (h ▸ splitC_free hp)
          · exact absurd c1 (h ▸ splitC_free rm)
          · exact h
        · have e1 := splitC_len hp
          have e2 := splitC_len rm
          have e3 := hl.2
          omega
      have fail : readR ms qs [r] = none → ∀ H', Same C.H0 H' → E (.ref A.C_NoText) none H' := fun h => bad (by
        rw [ed]
        exact readR_none (by rw [hs, h]))
      refine ⟨_, tga_tup2, ?_⟩
      show Go _ _ _ [.dat (.str (S l)), .own (ms.map wD), .own (qs.map wP), .dat (.int (i + 1 : Nat)), .dat (wD r), c]
      refine sq_setN (ds := (splitC 32 r).map wD) (EvSN.to (evs_split (a := S r) (b := S [32]) (evs_var rfl) (by rw [← sp_S]; exact evs_str) (by decide) (by rw [S_len]; have e2 := splitC_len rm; have e3 := hl.2; omega)) (by rw [split_sign (by decide), wD_map])) ?_
      refine go_freeze 5 rfl ?_
      have hrr : readR ms qs [r] = match rowW (splitC 32 r) with
        | .name a => if qs = [] then some (ms ++ [a], qs) else none
        | .pair a b => some (ms, qs ++ [(a, b)])
        | .none => none := by
        rw [readR] <;> cases rowW (splitC 32 r) <;> simp only [readR]
      have ne := splitC_ne 32 r
      have pl : (splitC 32 r).length ≤ 80000 := by
        have e1 := splitC_many (c := 32) r
        have e2 := splitC_len rm
        have e3 := hl.2
        omega
      generalize splitC 32 r = parts at hrr pr ne pl
      refine go_if (b := formB parts spW 1 && !(!(qs.map wP).isEmpty)) (evt_and (evt_B (evs_call (evs_cons (evs_var rfl) (evs_cons (by rw [spW_S]; exact evs_str) (evs_cons evs_int evs_nil))) ⟨parts, spW, 1, rfl, ⟨ne, pr, sp_prn, pl⟩, rfl⟩)) (fun _ => evt_not (evt_tru (evs_var rfl)))) (fun z => ?_) (fun z => ?_)
      · rw [Bool.and_eq_true, Bool.not_not, List.isEmpty_iff, List.map_eq_nil_iff] at z
        obtain ⟨z1, rfl⟩ := z
        obtain ⟨a1, rfl, er⟩ := form_1.mp z1
        rw [er] at hrr
        refine go_append (d := wD a1) rfl (evs_op (evs_var rfl) evs_int (rv_ixL (show atI _ ((1 : Nat) : Int) = _ from atI_nat rfl))) (by rw [List.length_map]; omega) (nx_end ⟨ms ++ [a1], [], by rw [hs, hrr] <;> rfl, ⟨by rw [List.length_append]; exact Nat.succ_le_succ l1, by exact Nat.zero_le _⟩, .dat (.int (i + 1 : Nat)), .dat (wD r), .dat (.lst ([spW, a1].map wD)), by rw [List.map_append] <;> rfl⟩)
      · refine go_if (b := formB parts agW 2) (evt_B (evs_call (evs_cons (evs_var rfl) (evs_cons (by rw [agW_S]; exact evs_str) (evs_cons evs_int evs_nil))) ⟨parts, agW, 2, rfl, ⟨ne, pr, ag_prn, pl⟩, rfl⟩)) (fun y => ?_) (fun y => ?_)
        · obtain ⟨a1, b1, rfl, er⟩ := form_2.mp y
          rw [er] at hrr
          refine go_append (d := wP (a1, b1)) rfl (evs_tup (evs_cons (evs_op (evs_var rfl) evs_int (rv_ixL (show atI _ ((1 : Nat) : Int) = _ from atI_nat rfl))) (evs_cons (evs_op (evs_var rfl) evs_int (rv_ixL (show atI _ ((2 : Nat) : Int) = _ from atI_nat rfl))) evs_nil)) (by show 2 ≤ 1000; decide)) (by rw [List.length_map]; omega) (nx_end ⟨ms, qs ++ [(a1, b1)], by rw [hs, hrr], ⟨Nat.le_succ_of_le l1, by rw [List.length_append]; exact Nat.succ_le_succ l2⟩, .dat (.int (i + 1 : Nat)), .dat (wD r), .dat (.lst ([agW, a1, b1].map wD)), by rw [List.map_append] <;> rfl⟩)
        · refine go_raiseX (evx_join (.cons (EvS.to evs_str rfl) (by decide) (.cons (evs_fmtIB (evs_var rfl) (by omega)) (small_intB (i + 1) (by omega)).1 (.cons (EvS.to evs_str rfl) (by decide) .nil))) (by show 3 ≤ 100; decide)) (fail ?_)
          rw [hrr]
          cases er : rowW parts with
          | name a1 =>
            obtain ⟨h1, h2, h3⟩ := rowW_form1 er
            have f1 : formB parts spW 1 = true := by
              unfold formB
              rw [Bool.and_eq_true, Bool.and_eq_true, decide_eq_true_eq, decide_eq_true_eq, List.all_eq_true]
              exact ⟨⟨h1, h2⟩, fun p hp => decide_eq_true (h3 p hp)⟩
            rw [f1, Bool.true_and, Bool.not_not] at z
            refine if_neg fun e => ?_
            rw [e] at z
            cases z
          | pair a1 b1 =>
            obtain ⟨h1, h2, h3⟩ := rowW_form2 er
            have f1 : formB parts agW 2 = true := by
              unfold formB
              rw [Bool.and_eq_true, Bool.and_eq_true, decide_eq_true_eq, decide_eq_true_eq, List.all_eq_true]
              exact ⟨⟨h1, h2⟩, fun p hp => decide_eq_true (h3 p hp)⟩
            rw [f1] at y
            cases y
          | none => rfl
    · rintro _ ⟨ms, qs, hm, _, a, b, c, rfl⟩
      rw [enums1_len, List.length_map, List.take_length] at hm
      exact go_freeze 1 rfl (go_freeze 2 rfl (fine2 ms qs hm a b c))
  · have eT : readT l = none := if_neg eg
    exact fun σ Hk H a => callXN_raises a.dat a.same (evs_cons (evs_var rfl) evs_nil) ⟨l, rfl, hl, eg, rfl⟩ (fun H' u => bad eT H' (a.ext.up.trans u))
theorem ok_read (T : Tx K mg A) : FnOk P w K mg base (L2.CX P w) 5 A.f_read A.fd_read ["text"] (sp_read K A) := by
  refine T.F_read.okX sc_read (spx_len (n := 1) (by rintro _ _ ⟨_, _, _, _, _, rfl, _⟩; rfl) (by rintro _ _ ⟨_, rfl, _⟩; rfl)) (fun cdv A' outer s H vs Q E hr h => ⟨_, (pss_cons (ps_set (i := 1) sc_read.nd rfl (Or.inl rfl) (pe_lst pa_nil))
  (pss_cons (ps_set (i := 2) sc_read.nd rfl (Or.inl rfl) (pe_lst pa_nil))
  (pss_cons (ps_for (passes_of rfl) rfl (pi_enum1 rfl T.n_enumerate (pa_cons (pe_call (ok_rows_of T) (hr.mono (by decide) : Room 1 _) rfl T.g_rows_of T.F_rows_of.kp T.B_rows_of .nil (passes_call (takes_of rfl rfl rfl rfl) (fun _ _ _ _ h => h)) (pa_cons (pv 0) pa_nil)) pa_nil) (pk_cons pe_int pk_nil)) (pg_tup rfl (pgs_cons (pg_name (i := 3) sc_read.nd rfl (Or.inl rfl)) (pgs_cons (pg_name (i := 4) sc_read.nd rfl (Or.inl rfl)) pgs_nil)))
  (pss_cons (ps_set (i := 5) sc_read.nd rfl (Or.inl rfl) (pe_split (pv 4) pe_str))
  (pss_one (ps_if (PW.pt (pw_and (pt_val (pe_call (ok_is_form T) (hr.mono (by decide) : Room 2 _) rfl T.g_is_form T.F_is_form.kp T.B_is_form .nil pass0 (pa_cons (pv 5) (pa_cons (pe_glob (v := (.str "speech")) rfl T.g_SPEECH ⟨_, rfl⟩) (pa_cons pe_int pa_nil))))) (pw_and1 (pt_not (pt_truth (pv 2) (fun _ => rfl)))))) (pss_one (ps_expr (pe_bm PySem.F.plainAttrs_list PySem.F.slot_list_append PySem.F.type_list_append mt_append (pv 1) (pa_cons (pe_ix ix_seq (pv 5) pe_int (fun _ _ => rfl)) pa_nil)))) (pss_one (ps_if (pt_val (pe_call (ok_is_form T) (hr.mono (by decide) : Room 2 _) rfl T.g_is_form T.F_is_form.kp T.B_is_form .nil pass0 (pa_cons (pv 5) (pa_cons (pe_glob (v := (.str "against")) rfl T.g_AGAINST ⟨_, rfl⟩) (pa_cons pe_int pa_nil))))) (pss_one (ps_expr (pe_bm PySem.F.plainAttrs_list PySem.F.slot_list_append PySem.F.type_list_append mt_append (pv 2) (pa_cons (pe_tup (pa_cons (pe_ix ix_seq (pv 5) pe_int (fun _ _ => rfl)) (pa_cons (pe_ix ix_seq (pv 5) pe_int (fun _ _ => rfl)) pa_nil))) pa_nil)))) (pss_one (ps_raise rfl (takes_of rfl rfl rfl rfl) (SkE.pmk_own1 PySem.F.excBase_ValueError T.x_NoText T.g_NoText T.kc_NoText (raises_own T.b_NoText T.t_NoText) (by exact rfl) (pe_joined (PJ.cons pe_str (PJ.cons (pe_fmt (pv 3)) (PJ.cons pe_str PJ.nil)))))))))))))
  (pss_one (ps_ret (pe_make T.M_Bench (ok_Bench_init T) hr rfl T.g_Bench T.B_Bench_init .nil (passes_call (takes_of rfl rfl rfl rfl) (fun _ _ _ _ h => h)) (pa_cons (pv 1) (pa_cons (pv 2) pa_nil)))))))), spx_body (N := N_read) (ts := fun E => (tSeq (tAsg (tLst tNil) (gName 1)) (tSeq (tAsg (tLst tNil) (gName 2)) (tSeq (tFor (iEnum1 K (tCons (tCall (sp_rows_of K A) [] E (tCons (tVar 0) tNil)) tNil)) (gTup K 2 (gCons (gName 3) (gCons (gName 4) gNil))) (tSeq (tAsg (tM1 rSplit (tVar 4) (tC (.str " "))) (gName 5)) (tIfS (tAnd (tB (tCall (sp_is_form K A) [] E0 (tCons (tVar 5) (tCons (tC (.str "speech")) (tCons (tC (.int 1)) tNil))))) (tNot (truB K (tVar 2)))) (tDrop (tBM K "list" rAppend (tVar 1) (tCons (tOp (rIx K) (tVar 5) (tC (.int 1))) tNil))) (tIfS (tB (tCall (sp_is_form K A) [] E0 (tCons (tVar 5) (tCons (tC (.str "against")) (tCons (tC (.int 2)) tNil))))) (tDrop (tBM K "list" rAppend (tVar 2) (tCons (tTup (tCons (tOp (rIx K) (tVar 5) (tC (.int 1))) (tCons (tOp (rIx K) (tVar 5) (tC (.int 2))) tNil))) tNil))) (tRaise1 E A.C_NoText (tJoin [(tC (.str "row ")), (tFmt (tVar 3)), (tC (.str " is not written as a speech or a pair is there"))])))))) (tRet (tMake A.C_Bench (sp_Bench_init K A) [] E (tCons (tVar 1) (tCons (tVar 2) tNil)))))))) (by rintro _ _ ⟨_, _, _, _, _, rfl, _⟩; exact (by decide : 1 ≤ N_read.length)) (by rintro _ _ ⟨_, rfl, _⟩; exact (by decide : 1 ≤ N_read.length)) ?_ ?_ _ _ _ _ h⟩)
  · rintro _ _ ⟨l, ms, qs, ns, ps, rfl, ok, hm, okb, rfl⟩ C Q E rfl post
    refine body_read T C Q E l rfl ok (fun e => by rw [hm] at e; cases e) fun ms' qs' e a b c => ?_
    rw [hm] at e
    cases e
    exact go_ret (evs_bench T (evs_cons (evs_var rfl) (evs_cons (evs_var rfl) evs_nil)) (.inl rfl) (.inl (congrArg Da.lst (wP_map qs))) okb) post
  · rintro _ _ ⟨l, rfl, ok, hor⟩ C Q E rfl post
    refine body_read T C Q E l rfl ok (fun e => ?_) fun ms' qs' e a b c => ?_
    · rcases hor with hor | ⟨ms, qs, hm, _⟩
      · obtain ⟨_, rfl⟩ := hor
        exact post
      · rw [hm] at e
        cases e
    · rcases hor with hor | ⟨ms, qs, hm, bad⟩
      · obtain ⟨e2, _⟩ := hor
        rw [e] at e2
        cases e2
      · rw [hm] at e
        cases e
        exact fun σ Hk H a => bench_raises a.dat a.same (evs_cons (evs_var rfl) (evs_cons (evs_var rfl) evs_nil)) (.inl rfl) bad (fun H' u => post H' (a.ext.up.trans u))
end

section
variable {P : Program} {w : World} {K : PySem.W.Frag} {mg : Str → Option Value} {base : Heap} {A : Ad}
def R_l_text (ds : List Da) (d : Da) : Prop := ∃ (ns : List Str) (ps : List Pr), ds = [.lst (ns.map Da.str), .lst (ps.map dP)] ∧ WrOk ns ps ∧ d = .str (S (writeT (ns.map cl) (ps.map cl2)))
abbrev sp_l_text (K : PySem.W.Frag) (A : Ad) : Sp := SpD K R_l_text
theorem S_add (a b : List Nat) : S a ++ S b = S (a ++ b) := by
  have := catL_S [b] a
  simpa [catL] using this
theorem len_add (x y : Str) : (x ++ y).length = x.length + y.length := by
  rw [← S_cl x, ← S_cl y, S_add, S_len, S_len, S_len, List.length_append]
theorem row_sum {ns : List Str} {ps : List Pr} (h1 : ∀ x ∈ ns, x.length ≤ 8) (h2 : ∀ p ∈ ps, p.1.length ≤ 8 ∧ p.2.length ≤ 8) :
    ((((writeR (ns.map cl) (ps.map cl2)).map (· ++ [10])).map S).map (·.length)).sum ≤ 40 * (ns.length + ps.length) ∧ (((writeR (ns.map cl) (ps.map cl2)).map (· ++ [10])).map S).length = ns.length + ps.length := by
  have eall : (ns.map fun x => S (nameR (cl x) ++ [10])) ++ (ps.map fun p => S (pairR (cl2 p) ++ [10])) = ((writeR (ns.map cl) (ps.map cl2)).map (· ++ [10])).map S := by
    unfold writeR
    rw [List.map_append, List.map_append]
    simp only [List.map_map]
    rfl
  have small : ∀ z ∈ ((writeR (ns.map cl) (ps.map cl2)).map (· ++ [10])).map S, z.length ≤ 40 := fun z hz => by
    rw [← eall, List.mem_append] at hz
    rcases hz with hz | hz
    · obtain ⟨x, hx, rfl⟩ := List.mem_map.mp hz
      have := h1 x hx
      rw [S_len]
      unfold nameR
      simp only [List.length_append, List.length_cons, List.length_nil, cl_len]
      have : spW.length = 6 := rfl
      omega
    · obtain ⟨p, hp, rfl⟩ := List.mem_map.mp hz
      have := h2 p hp
      rw [S_len]
      unfold pairR cl2
      simp only [List.length_append, List.length_cons, List.length_nil, cl_len]
      have : agW.length = 7 := rfl
      omega
  have sum_le : ∀ (zs : List Str), (∀ z ∈ zs, z.length ≤ 40) → (zs.map (·.length)).sum ≤ 40 * zs.length := fun zs => by
    induction zs with
    | nil => intro _; simp
    | cons z zs ih =>
      intro h
      have a1 := ih fun y hy => h y (List.mem_cons_of_mem _ hy)
      have a2 := h z (List.mem_cons_self ..)
      simp only [List.map_cons, List.sum_cons, List.length_cons]
      omega
  have lz : (((writeR (ns.map cl) (ps.map cl2)).map (· ++ [10])).map S).length = ns.length + ps.length := by rw [← eall, List.length_append, List.length_map, List.length_map]
  exact ⟨by rw [← lz]; exact sum_le _ small, lz⟩
theorem ok_l_text (T : Tx K mg A) : FnOk P w K mg base CX0 1 A.f_l_text A.fd_l_text ["_law_names_here", "_law_pairs_here"] (sp_l_text K A) := by
  refine T.F_l_text.ok sc_l_text (spd_len (n := 2) (by rintro _ _ ⟨_, _, rfl, _⟩; rfl)) (fun cdv A' outer s H vs Q E hr h => ⟨_, (pss_one (ps_ret (pe_join pe_str (pe_op op_addU (pe_lc (own := [("_law_name_here", 2)]) (g := (gName 2)) (tt := tYes) (te := (tOp (rAddU K) (tOp (rAddU K) (tC (.str "speech ")) (tVar 2)) (tC (.str "\n")))) rfl sc_l_text.nd (pi_list (pv 0)) (blkOk_by (own := [("_law_name_here", 2)]) (N := N_l_text) (sc := (defScope s_l_text)) (by decide +kernel)) (fun _ _ _ _ _ => (pg_name (i := 2) sc_l_text.nd rfl (Or.inl rfl))) (fun _ _ _ _ _ => pts_nil) (fun _ _ _ _ _ => (pe_op op_addU (pe_op op_addU pe_str (pv 2)) pe_str))) (pe_lc (own := [("_law_a", 3), ("_law_b", 4)]) (g := (gTup K 2 (gCons (gName 3) (gCons (gName 4) gNil)))) (tt := tYes) (te := (tOp (rAddU K) (tOp (rAddU K) (tOp (rAddU K) (tOp (rAddU K) (tC (.str "against ")) (tVar 3)) (tC (.str " "))) (tVar 4)) (tC (.str "\n")))) rfl sc_l_text.nd (pi_list (pv 1)) (blkOk_by (own := [("_law_a", 3), ("_law_b", 4)]) (N := N_l_text) (sc := (defScope s_l_text)) (by decide +kernel)) (fun _ _ _ _ _ => (pg_tup rfl (pgs_cons (pg_name (i := 3) sc_l_text.nd rfl (Or.inl rfl)) (pgs_cons (pg_name (i := 4) sc_l_text.nd rfl (Or.inl rfl)) pgs_nil)))) (fun _ _ _ _ _ => pts_nil) (fun _ _ _ _ _ => (pe_op op_addU (pe_op op_addU (pe_op op_addU (pe_op op_addU pe_str (pv 3)) pe_str) (pv 4)) pe_str))))))), spd_body (N := N_l_text) (ts := (tRet (tM1 (rJoinS K) (tC (.str "")) (tOp (rAddU K) (tLc (iList K (tVar 0)) (gName 2) tYes (tOp (rAddU K) (tOp (rAddU K) (tC (.str "speech ")) (tVar 2)) (tC (.str "\n"))) [2]) (tLc (iList K (tVar 1)) (gTup K 2 (gCons (gName 3) (gCons (gName 4) gNil))) tYes (tOp (rAddU K) (tOp (rAddU K) (tOp (rAddU K) (tOp (rAddU K) (tC (.str "against ")) (tVar 3)) (tC (.str " "))) (tVar 4)) (tC (.str "\n"))) [3, 4]))))) (by rintro _ _ ⟨_, _, rfl, _⟩; exact (by decide : 2 ≤ N_l_text.length)) ?_ _ _ _ _ h⟩)
  rintro _ _ ⟨ns, ps, rfl, ⟨h1, h2, h3, h4⟩, rfl⟩ C Q rfl post
  have en : ∀ x : Str, (("speech " : Str) ++ x) ++ "\n" = S (nameR (cl x) ++ [10]) := fun x => by
    rw [← S_cl x, show ("speech " : Str) = S (spW ++ [32]) by decide +kernel, nl_S, S_add, S_add, S_cl]
    unfold nameR
    simp
  have ep : ∀ p : Pr, (((("against " : Str) ++ p.1) ++ " ") ++ p.2) ++ "\n" = S (pairR (cl2 p) ++ [10]) := fun p => by
    rw [← S_cl p.1, ← S_cl p.2, show ("against " : Str) = S (agW ++ [32]) by decide +kernel, nl_S, sp_S, S_add, S_add, S_add, S_add]
    unfold pairR cl2
    simp
  have eall : (ns.map fun x => S (nameR (cl x) ++ [10])) ++ (ps.map fun p => S (pairR (cl2 p) ++ [10])) = ((writeR (ns.map cl) (ps.map cl2)).map (· ++ [10])).map S := by
    unfold writeR
    rw [List.map_append, List.map_append]
    simp only [List.map_map]
    rfl
  obtain ⟨b1, b2⟩ := row_sum h1 h2
  refine go_ret (EvS.to (evs_joinL (a := S []) (ys := ((writeR (ns.map cl) (ps.map cl2)).map (· ++ [10])).map S) (by rw [← e_S]; exact evs_str) (EvSN.ev (EvSN.to (evs_opN
    (EvSN.ev (EvSN.to (evs_lcY (xs := ns) (enc := Da.str) (itd_list (evs_var rfl)) (fun x => .str (S (nameR (cl x) ++ [10]))) (by omega) fun x hx => ⟨_, tgd_name, EvS.to (evs_op (evs_op evs_str (evs_var rfl) (rv_addB (by have := h1 x hx; show 7 + _ ≤ _; omega))) evs_str (rv_addB (by have := h1 x hx; rw [len_add]; show 7 + _ + 1 ≤ _; omega))) (congrArg Da.str (en x))⟩) (?_ : _ = (ns.map fun x => S (nameR (cl x) ++ [10])).map Da.str)))
    (EvSN.ev (EvSN.to (evs_lcY (xs := ps) (enc := dP) (itd_list (evs_var rfl)) (fun p => .str (S (pairR (cl2 p) ++ [10]))) (by omega) fun p hp => ⟨_, tgd_tup2, EvS.to (evs_op (evs_op (evs_op (evs_op evs_str (evs_var rfl) (rv_addB (by have := h2 p hp; show 8 + _ ≤ _; omega))) evs_str (rv_addB (by have := h2 p hp; rw [len_add]; show 8 + _ + 1 ≤ _; omega))) (evs_var rfl) (rv_addB (by have := h2 p hp; rw [len_add, len_add]; show 8 + _ + 1 + _ ≤ _; omega))) evs_str (rv_addB (by have := h2 p hp; rw [len_add, len_add, len_add]; show 8 + _ + 1 + _ + 1 ≤ _; omega))) (congrArg Da.str (ep p))⟩) (?_ : _ = (ps.map fun p => S (pairR (cl2 p) ++ [10])).map Da.str)))
    (rv_addL (by rw [List.length_map, List.length_map, List.length_map, List.length_map]; omega))) (by rw [← List.map_append, eall]))) ?_) (by rw [join_flat] <;> rfl)) post
  · rw [List.map_map] <;> rfl
  · rw [List.map_map] <;> rfl
  · have l0 : (S []).length = 0 := rfl
    rw [l0, Nat.mul_zero]
    omega
def R_l_read (A : Ad) (ds : List Da) (d : Da) : Prop := R_read A ds d ∨ ∃ B z, X_read A ds B ∧ R_l_kind A B z ∧ d = .str z
abbrev sp_l_read (K : PySem.W.Frag) (A : Ad) : Sp := SpD K (R_l_read A)
theorem ok_l_read (T : Tx K mg A) : FnOk P w K mg base CX0 6 A.f_l_read A.fd_l_read ["_law_text_here"] (sp_l_read K A) := by
  refine T.F_l_read.ok sc_l_read (spd_len (n := 1) (by rintro _ _ (⟨_, _, _, _, _, rfl, _⟩ | ⟨_, _, ⟨_, rfl, _⟩, _⟩) <;> rfl)) (fun cdv A' outer s H vs Q E hr h => ⟨_, (pss_cons (ps_try_as (i := 2) (tb := fun W => (tAsg (tCall (sp_read K A) [] (EW 3 W) (tCons (tVar 0) tNil)) (gName 1))) (ts := (fun a cls d => tAsg (tKind a cls d 2 (R_l_kind A)) (gName 1))) (Wout := fun _ _ _ _ => False) rfl rfl sc_l_read.nd rfl rfl ⟨rfl, by decide, Or.inl T.g_BenchError⟩ takes0 (fun W pn xe tk _ => (pss_one (ps_set (i := 1) sc_l_read.nd rfl (Or.inl rfl) (pe_call (ok_read T) hr rfl T.g_read T.F_read.kp T.B_read .nil (passW (n := 3) tk rfl) (pa_cons (pv 0) pa_nil))))) (fun a oe cls d pn hz hf => (pss_one (ps_set (i := 1) sc_l_read.nd rfl (Or.inl rfl) (pe_callE (ok_l_kind T) ⟨(hr.mono (by decide) : Room 1 _).dp, (hr.mono (by decide) : Room 1 _).un⟩ (List.mem_cons_self ..) hz hf rfl T.g_l_kind T.F_l_kind.kp T.B_l_kind (pv 2))))))
  (pss_one (ps_ret (pv 1)))), spd_body (N := N_l_read) (ts := (tSeq (fun D σ H => (fun W => (tAsg (tCall (sp_read K A) [] (EW 3 W) (tCons (tVar 0) tNil)) (gName 1))) (wAs K (.ref A.C_BenchError) 2 (fun a cls d => tAsg (tKind a cls d 2 (R_l_kind A)) (gName 1)) (fun _ _ _ _ => False) D) D σ H) (tRet (tVar 1)))) (by rintro _ _ (⟨_, _, _, _, _, rfl, _⟩ | ⟨_, _, ⟨_, rfl, _⟩, _⟩) <;> exact (by decide : 1 ≤ N_l_read.length)) ?_ _ _ _ _ h⟩)
  rintro _ _ (⟨l, ms, qs, ns, ps, rfl, hr⟩ | ⟨B, z, ⟨l, rfl, hx⟩, hk, rfl⟩) C Q rfl post
  · intro σ Hk H a
    exact go_seq (go_set (i := 1) (evs_callX (evs_cons (evs_var rfl) evs_nil) ⟨l, ms, qs, ns, ps, rfl, hr⟩) (nx_go (go_ret (evs_var rfl) post))) σ Hk H a
  · intro σ Hk H a
    have sub : PySem.W.exmOne C.K (.ref B) (.ref A.C_BenchError) = some true := by
      rcases hk with ⟨rfl, _⟩ | ⟨rfl, _⟩ | ⟨rfl, _⟩ | ⟨rfl, _⟩ | ⟨rfl, _⟩
      · exact T.e_TooMany_BenchError
      · exact T.e_BadName_BenchError
      · exact T.e_NoSpeech_BenchError
      · exact T.e_Twice_BenchError
      · exact T.e_NoText_BenchError
    exact go_seq (fun σ Hk H a => at_caught (n := 3) T rfl a (by decide) (by decide) hk sub (fun W Q' hE => callX_raises a.dat a.same (evs_cons (evs_var rfl) evs_nil) ⟨l, rfl, hx⟩ hE) (nx_go (go_ret (evs_var rfl) post))) σ Hk H a
end

section
variable {P : Program} {w : World} {K : PySem.W.Frag} {mg : Str → Option Value} {base : Heap} {A : Ad}
/-- names as a list or a tuple -/
def NmD (v : List Str) (d : Da) : Prop := d = .lst (v.map Da.str) ∨ d = .tup (v.map Da.str)
theorem evs_inN {neg : Bool} {δ : List Sl} {ta tb : TE} {v : List Str} {x : Str} {d : Da} (h1 : EvS K ta δ (.str x)) (h2 : EvS K tb δ d) (hd : NmD v d) : EvS K (tOp (rIn K neg) ta tb) δ (.bl (if neg then !decide (x ∈ v) else decide (x ∈ v))) := by
  refine EvS.to (evs_op h1 h2 (rv_inS (neg := neg) (xs := v) hd)) ?_
  cases neg <;> rfl
theorem itd_nm {δ : List Sl} {te : TE} {v : List Str} {d : Da} (h : EvS K te δ d) (hd : NmD v d) : ItD K (iSeq K te) δ (v.map Da.str) := by
  rcases hd with rfl | rfl
  · exact itd_seqL (itd_list h)
  · exact itd_seqT (itd_tup h)
end
section
variable {P : Program} {w : World} {K : PySem.W.Frag} {mg : Str → Option Value} {base : Heap} {A : Ad}
def R_l_name (ds : List Da) (d : Da) : Prop := ∃ x : Str, ds = [.str x] ∧ (okS x ∧ x.length ≤ 90000) ∧ d = .bl (isNameB (.str x))
abbrev sp_l_name (K : PySem.W.Frag) (A : Ad) : Sp := SpD K R_l_name
theorem sign_ok {x : Str} {c : Nat} (h : okS x) (m : c ∈ x.cps.toList) : okS (⟨#[c]⟩ : Str) := by
  unfold okS PyData.strOk at h ⊢
  rw [← Array.all_toList, List.all_eq_true] at h ⊢
  intro d hd
  have hd : d ∈ [c] := hd
  rw [List.mem_singleton] at hd
  subst hd
  exact h _ m
theorem signs_map (l : List Nat) : l.map (fun c => Da.str ⟨#[c]⟩) = (l.map fun c => (⟨#[c]⟩ : Str)).map Da.str := by rw [List.map_map] <;> rfl
theorem ok_l_name (T : Tx K mg A) : FnOk P w K mg base CX0 1 A.f_l_name A.fd_l_name ["_law_word"] (sp_l_name K A) := by
  refine T.F_l_name.ok sc_l_name (spd_len (n := 1) (by rintro _ _ ⟨_, rfl, _, rfl⟩; rfl)) (fun cdv A' outer s H vs Q E hr h => ⟨_, (pss_one (ps_ret (pe_and (pe_chain op_lt op_lt pe_int (pe_callB call_lenU rfl T.n_len PySem.boot_len (pa_cons (pv 0) pa_nil)) pe_int) (pe_one (pe_cmpR (op_eqD hr.units) (pe_lc (own := [("_law_sign", 1)]) (g := (gName 1)) (tt := (tTest (tOp rNiC (tVar 1) (tC (.str "abcdefghijklmnopqrstuvwxyz"))))) (te := (tVar 1)) rfl sc_l_name.nd (pi_str (pv 0)) (blkOk_by (own := [("_law_sign", 1)]) (N := N_l_name) (sc := (defScope s_l_name)) (by decide +kernel)) (fun _ _ _ _ _ => (pg_name (i := 1) sc_l_name.nd rfl (Or.inl rfl))) (fun _ _ _ _ _ => (pts_one (pt_cmpR op_notIn_signU (pv 1) pe_str rfl))) (fun _ _ _ _ _ => (pv 1))) (pe_lst pa_nil) (nomark _)))))), spd_body (N := N_l_name) (ts := (tRet (tAndV (tChain (rI0 fun i j => .bl (decide (i < j))) (rI0 fun i j => .bl (decide (i < j))) (tC (.int 0)) (tCB (rLen K) (tCons (tVar 0) tNil)) (tC (.int 9))) (tOp (rEqD K) (tLc (iStr (tVar 0)) (gName 1) (tTest (tOp rNiC (tVar 1) (tC (.str "abcdefghijklmnopqrstuvwxyz")))) (tVar 1) [1]) (tLst tNil))))) (by rintro _ _ ⟨_, rfl, _, rfl⟩; exact (by decide : 1 ≤ N_l_name.length)) ?_ _ _ _ _ h⟩)
  rintro _ _ ⟨x, rfl, ⟨ox, hx⟩, rfl⟩ C Q rfl post
  refine go_ret (EvS.to (evs_andV (c := decide ((x.cps.toList.filter fun c => !decide (c ∈ az)) = [])) (evs_chain evs_int (evs_cb (evs_cons (evs_var rfl) evs_nil) (rc_lenB (by omega))) evs_int (rv_b0 (g := fun i j => decide (i < j))) (rv_b0 (g := fun i j => decide (i < j)))) (fun z => ?_)) ?_) post
  · rw [Bool.and_eq_true, decide_eq_true_eq, decide_eq_true_eq] at z
    have hx8 : x.length ≤ 8 := by omega
    refine EvS.to (evs_op (EvSN.ev (EvSN.to (evs_lc (xs := x.cps.toList) (enc := fun c => Da.str ⟨#[c]⟩) (itd_str (evs_var rfl)) (fun c => !decide (c ∈ az)) (fun c => Da.str ⟨#[c]⟩) (show x.length ≤ 1000 by omega) fun c hc => ⟨_, tgd_name, EvST.to (evt_test (evs_op (evs_var rfl) evs_str rv_niC)) ?_, fun _ => evs_var rfl⟩) (signs_map _))) (EvSN.ev (evs_lst (ds := ([] : List Str).map Da.str) evs_nil (by decide))) (rv_eq (n := 3) (ok_strs fun y hy => ?_) (fun d hd => by cases hd) (by decide))) ?_
    · rw [az_eq, S_list]
    · obtain ⟨c, hc, rfl⟩ := List.mem_map.mp hy
      exact sign_ok ox (List.mem_filter.mp hc).1
    · rw [eqD_strs]
      refine congrArg Da.bl (decide_eq_decide.mpr ?_)
      rw [List.map_eq_nil_iff]
  · rw [isNameB_str]
    have e1 : (decide ((0 : Int) < (x.length : Nat)) && decide (((x.length : Nat) : Int) < 9)) = (decide ((1 : Int) ≤ (x.length : Nat)) && decide (((x.length : Nat) : Int) ≤ 8)) := by
      rw [show decide ((0 : Int) < (x.length : Nat)) = decide ((1 : Int) ≤ (x.length : Nat)) from decide_eq_decide.mpr ⟨fun h => by omega, fun h => by omega⟩, show decide (((x.length : Nat) : Int) < 9) = decide (((x.length : Nat) : Int) ≤ 8) from decide_eq_decide.mpr ⟨fun h => by omega, fun h => by omega⟩]
    have e2 : decide ((x.cps.toList.filter fun c => !decide (c ∈ az)) = []) = x.cps.toList.all fun c => decide (c ∈ az) := by
      induction x.cps.toList with
      | nil => rfl
      | cons c l ih =>
        rw [List.all_cons]
        by_cases m : c ∈ az
        · rw [decide_eq_true m, Bool.true_and, ← ih, List.filter_cons_of_neg (by simp [m])]
        · rw [decide_eq_false m, Bool.false_and, List.filter_cons_of_pos (by simp [m]), decide_eq_false (by simp)]
    rw [← e1, ← e2]
def tQ (p : Pr) : Bool × Pr := (true, p)
def dueW (xs : List Str) (ps : List Pr) : Str := if 8 < xs.length then "many" else match chk [] (xs.map Da.str) with
  | none => "name"
  | some ns => prW (chkP ns [] (ps.map tQ))
def DueOk (xs : List Str) (ps : List Pr) : Prop := (∀ x ∈ xs, okS x ∧ x.length ≤ 90000) ∧ (∀ p ∈ ps, okS p.1 ∧ okS p.2) ∧ xs.length ≤ 200 ∧ ps.length ≤ 200
def R_l_due (ds : List Da) (d : Da) : Prop := ∃ (xs : List Str) (ps : List Pr), ds = [.lst (xs.map Da.str), .lst (ps.map dP)] ∧ DueOk xs ps ∧ d = .str (dueW xs ps)
abbrev sp_l_due (K : PySem.W.Frag) (A : Ad) : Sp := SpD K R_l_due
theorem chkP_seenQ {ns : List Str} {qs : List (Bool × Pr)} {ps : List Pr} (h : chkP ns [] qs = .ok ps) : ps = qs.map (·.2) := by
  have : ∀ (qs : List (Bool × Pr)) (seen ps : List Pr), chkP ns seen qs = .ok ps → ps = seen ++ qs.map (·.2) := by
    intro qs
    induction qs with
    | nil => intro seen ps h; rw [chkP] at h; cases h; simp
    | cons q qs ih =>
      intro seen ps h
      rw [chkP_cons] at h
      split at h
      · split at h
        · cases h
        · rw [ih _ _ h, List.append_assoc] <;> rfl
      · cases h
  exact this qs [] ps h
theorem ok_l_due (T : Tx K mg A) : FnOk P w K mg base CX0 2 A.f_l_due A.fd_l_due ["_law_names_here", "_law_pairs_here"] (sp_l_due K A) := by
  refine T.F_l_due.ok sc_l_due (spd_len (n := 2) (by rintro _ _ ⟨_, _, rfl, _⟩; rfl)) (fun cdv A' outer s H vs Q E hr h => ⟨_, (pss_cons (ps_if (pt_cmpR op_gt (pe_callB call_lenU rfl T.n_len PySem.boot_len (pa_cons (pv 0) pa_nil)) pe_int (nomark _)) (pss_one (ps_ret pe_str)) pss_nil)
  (pss_cons (ps_for PassesOwn.never rfl (pi_range1 rfl T.n_range (pa_cons (pe_callB call_lenU rfl T.n_len PySem.boot_len (pa_cons (pv 0) pa_nil)) pa_nil)) (pg_name (i := 2) sc_l_due.nd rfl (Or.inl rfl))
  (pss_one (ps_if (PW.pt (pw_or (pt_not (pt_val (pe_call (ok_l_name T) hr rfl T.g_l_name T.F_l_name.kp T.B_l_name .nil pass0 (pa_cons (pe_ix ix_seq (pv 0) (pv 2) (fun _ _ => rfl)) pa_nil)))) (pw_or1 (pt_cmpR op_in_seq (pe_ix ix_seq (pv 0) (pv 2) (fun _ _ => rfl)) (pe_slice sl_U (pv 0) po_none (po_some (pv 2))) rfl)))) (pss_one (ps_ret pe_str)) pss_nil)))
  (pss_cons (ps_for PassesOwn.never rfl (pi_range1 rfl T.n_range (pa_cons (pe_callB call_lenU rfl T.n_len PySem.boot_len (pa_cons (pv 1) pa_nil)) pa_nil)) (pg_name (i := 2) sc_l_due.nd rfl (Or.inl rfl))
  (pss_cons (ps_if (PW.pt (pw_or (pt_cmpR op_notIn_seq (pe_ix ix_seq (pe_ix ix_seq (pv 1) (pv 2) (fun _ _ => rfl)) pe_int (fun _ _ => rfl)) (pv 0) rfl) (pw_or1 (pt_cmpR op_notIn_seq (pe_ix ix_seq (pe_ix ix_seq (pv 1) (pv 2) (fun _ _ => rfl)) pe_int (fun _ _ => rfl)) (pv 0) rfl)))) (pss_one (ps_ret pe_str)) pss_nil)
  (pss_one (ps_if (pt_cmpR (op_inD (units65 hr)) (pe_ix ix_seq (pv 1) (pv 2) (fun _ _ => rfl)) (pe_slice sl_U (pv 1) po_none (po_some (pv 2))) rfl) (pss_one (ps_ret pe_str)) pss_nil))))
  (pss_one (ps_ret pe_str))))), spd_body (N := N_l_due) (ts := (tSeq (tIfS (tTest (tOp (rI0 fun i j => .bl (decide (j < i))) (tCB (rLen K) (tCons (tVar 0) tNil)) (tC (.int 8)))) (tRet (tC (.str "many"))) tNext) (tSeq (tFor (iRng1 (tCons (tCB (rLen K) (tCons (tVar 0) tNil)) tNil)) (gName 2) (tIfS (tOr (tNot (tB (tCall (sp_l_name K A) [] E0 (tCons (tOp (rIx K) (tVar 0) (tVar 2)) tNil)))) (tTest (tOp (rIn K false) (tOp (rIx K) (tVar 0) (tVar 2)) (tSl (rSlU K) (tVar 0) tNoPart (tPart (tVar 2)))))) (tRet (tC (.str "name"))) tNext)) (tSeq (tFor (iRng1 (tCons (tCB (rLen K) (tCons (tVar 1) tNil)) tNil)) (gName 2) (tSeq (tIfS (tOr (tTest (tOp (rIn K true) (tOp (rIx K) (tOp (rIx K) (tVar 1) (tVar 2)) (tC (.int 0))) (tVar 0))) (tTest (tOp (rIn K true) (tOp (rIx K) (tOp (rIx K) (tVar 1) (tVar 2)) (tC (.int 1))) (tVar 0)))) (tRet (tC (.str "speech"))) tNext) (tIfS (tTest (tOp (rInD K) (tOp (rIx K) (tVar 1) (tVar 2)) (tSl (rSlU K) (tVar 1) tNoPart (tPart (tVar 2))))) (tRet (tC (.str "twice"))) tNext))) (tRet (tC (.str ""))))))) (by rintro _ _ ⟨_, _, rfl, _⟩; exact (by decide : 2 ≤ N_l_due.length)) ?_ _ _ _ _ h⟩)
  rintro _ _ ⟨xs, ps, rfl, ⟨kx, kp, lx, lp⟩, rfl⟩ C Q rfl post
  unfold dueW at post
  refine sq_if1 (b := decide (8 < xs.length)) (EvST.to (evt_test (evs_op (evs_cb (evs_cons (evs_var rfl) evs_nil) rc_lenL) evs_int (rv_b0 (g := fun i j => decide (j < i))))) (decide_eq_decide.mpr ⟨fun h => by rw [List.length_map] at h; omega, fun h => by rw [List.length_map]; omega⟩)) (fun z => ?_) (fun z => ?_)
  · rw [if_pos (of_decide_eq_true z)] at post
    exact go_ret evs_str post
  rw [if_neg (of_decide_eq_false z)] at post
  have z := of_decide_eq_false z
  refine sq_for (itd_rng1 (evs_cons (evs_cb (evs_cons (evs_var rfl) evs_nil) rc_lenL) evs_nil) (by rw [List.length_map]; omega) (by rw [List.length_map]; omega)) (fun i δ => (∃ seen, chk [] ((xs.map Da.str).take i) = some seen) ∧ ∃ a, δ = [.dat (.lst (xs.map Da.str)), .dat (.lst (ps.map dP)), a]) ⟨⟨[], by simp [chk]⟩, .no, rfl⟩ ?_ ?_
  · rintro P' i d _ hd ⟨⟨seen, hsn⟩, a, rfl⟩
    obtain ⟨hi, rfl⟩ := rng0_at hd
    have hi : i < xs.length := by rw [List.length_map] at hi; omega
    have ht : (xs.map Da.str)[i]? = some (.str xs[i]) := by rw [List.getElem?_map, List.getElem?_eq_getElem hi] <;> rfl
    have tm := List.getElem_mem hi
    have hst := chk_step ht hsn
    have e0 := chk_is0 hsn
    generalize xs[i] = x at ht tm hst
    obtain ⟨ox, hx⟩ := kx x tm
    refine ⟨_, tga_name, ?_⟩
    have eat : atI (xs.map Da.str) (i : Nat) = some (.str x) := atI_nat ht
    have ecut : cutD (xs.map Da.str) none (some ((i : Nat) : Int)) = seen.map Da.str := by rw [cut_to, e0]
    refine go_if (b := !(chk seen [.str x]).isSome) (EvST.to (evt_or (c := decide (x ∈ seen)) (evt_not (evt_B (evs_call (evs_cons (evs_op (evs_var rfl) (evs_var rfl) (rv_ixL eat)) evs_nil) ⟨x, rfl, ⟨ox, hx⟩, rfl⟩))) (fun y => ?_)) ?_) (fun y => ?_) (fun y => ?_)
    · exact evt_test (evs_inN (neg := false) (x := x) (v := seen) (evs_op (evs_var rfl) (evs_var rfl) (rv_ixL eat)) (EvSN.ev (EvSN.to (evs_slN (evs_var rfl) evo_none (evo_some (evs_var rfl))) ecut)) (.inl rfl))
    · rw [chk_one]
      cases y : isNameB (.str x) <;> by_cases m : x ∈ seen <;> simp [y, m]
    · have hf : chk [] (xs.map Da.str) = none := chk_fail (i := i + 1) (by
        rw [hst]
        cases e : chk seen [.str x] with
        | none => rfl
        | some _ => rw [e] at y; cases y)
      rw [hf] at post
      exact go_ret evs_str post
    · cases e : chk seen [.str x] with
      | none => rw [e] at y; cases y
      | some s2 => exact go_one (nx_end ⟨⟨s2, by rw [hst, e]⟩, _, rfl⟩)
  · rintro _ ⟨⟨ns, hc⟩, a, rfl⟩
    have hc : chk [] (xs.map Da.str) = some ns := by
      have e : (rng 0 (((xs.map Da.str).length : Int)).toNat).length = (xs.map Da.str).length := by simp [rng]
      rw [e, List.take_length] at hc
      exact hc
    rw [hc] at post
    replace post : Post C (.str (prW (chkP ns [] (ps.map tQ)))) Q := post
    rw [chk_is0 hc]
    refine sq_for (itd_rng1 (evs_cons (evs_cb (evs_cons (evs_var rfl) evs_nil) rc_lenL) evs_nil) (by rw [List.length_map]; omega) (by rw [List.length_map]; omega)) (fun i δ => (∃ seen, chkP ns [] ((ps.map tQ).take i) = .ok seen) ∧ ∃ a, δ = [.dat (.lst (ns.map Da.str)), .dat (.lst (ps.map dP)), a]) ⟨⟨[], by simp [chkP]⟩, _, rfl⟩ ?_ ?_
    · rintro P' i d _ hd ⟨⟨seen, hsn⟩, a, rfl⟩
      obtain ⟨hi, rfl⟩ := rng0_at hd
      have hi : i < ps.length := by rw [List.length_map] at hi; omega
      have hq : ps[i]? = some ps[i] := List.getElem?_eq_getElem hi
      have qm := List.getElem_mem hi
      have hst := chkP_step (q := tQ ps[i]) (by rw [List.getElem?_map, hq] <;> rfl) hsn
      have e1 := chkP_seenQ hsn
      rw [← List.map_take, List.map_map] at e1
      generalize ps[i] = p at hq qm hst
      obtain ⟨ok1, ok2⟩ := kp p qm
      refine ⟨_, tga_name, ?_⟩
      have eat : atI (ps.map dP) (i : Nat) = some (dP p) := atI_nat (by rw [List.getElem?_map, hq] <;> rfl)
      have e1 : seen = ps.take i := by rw [e1]; exact List.map_id' _
      have ecut : cutD (ps.map dP) none (some ((i : Nat) : Int)) = seen.map dP := by rw [cut_to, ← List.map_take, ← e1]
      have hone : chkP ns seen [tQ p] = if decide (p.1 ∈ ns) && decide (p.2 ∈ ns) then (if p ∈ seen then .twice else .ok (seen ++ [p])) else .strange := by
        rw [chkP_cons] <;> rfl
      have okse : ∀ p ∈ seen, okS p.1 ∧ okS p.2 := fun p hp => by
        rw [e1] at hp
        exact kp p (List.mem_of_mem_take hp)
      refine sq_if1 (b := !(decide (p.1 ∈ ns) && decide (p.2 ∈ ns))) (EvST.to (evt_or (evt_test (evs_inN (neg := true) (x := p.1) (v := ns) (evs_op (evs_op (evs_var rfl) (evs_var rfl) (rv_ixL eat)) evs_int (rv_ixT rfl)) (evs_var rfl) (.inl rfl))) (fun _ => evt_test (evs_inN (neg := true) (x := p.2) (v := ns) (evs_op (evs_op (evs_var rfl) (evs_var rfl) (rv_ixL eat)) evs_int (rv_ixT rfl)) (evs_var rfl) (.inl rfl)))) ?_) (fun y => ?_) (fun y => ?_)
      · cases decide (p.1 ∈ ns) <;> cases decide (p.2 ∈ ns) <;> rfl
      · have hf : chkP ns [] (ps.map tQ) = .strange := chkP_fail (i := i + 1) (by rw [hst, hone, if_neg (by rw [Bool.not_eq_true'] at y; rw [y]; decide)]) (.inl rfl)
        rw [hf] at post
        exact go_ret evs_str post
      have y : (decide (p.1 ∈ ns) && decide (p.2 ∈ ns)) = true := by simpa using y
      rw [if_pos y] at hone
      refine go_if (b := decide (p ∈ seen)) (EvST.to (evt_test (evs_op (evs_op (evs_var rfl) (evs_var rfl) (rv_ixL eat)) (EvSN.ev (EvSN.to (evs_slN (evs_var rfl) evo_none (evo_some (evs_var rfl))) ecut)) (rv_inD (n := 3) (ok_dP ⟨ok1, ok2⟩) (ok_dPs okse) (by decide)))) any_dP) (fun v => ?_) (fun v => ?_)
      · have hf : chkP ns [] (ps.map tQ) = .twice := chkP_fail (i := i + 1) (by rw [hst, hone, if_pos (of_decide_eq_true v)]) (.inr rfl)
        rw [hf] at post
        exact go_ret evs_str post
      · rw [if_neg (of_decide_eq_false v)] at hone
        exact go_one (nx_end ⟨⟨_, by rw [hst, hone]⟩, _, rfl⟩)
    · rintro _ ⟨⟨seen, hsn⟩, a, rfl⟩
      have hsn : chkP ns [] (ps.map tQ) = .ok seen := by
        have e : (rng 0 (((ps.map dP).length : Int)).toNat).length = (ps.map tQ).length := by simp [rng]
        rw [e, List.take_length] at hsn
        exact hsn
      rw [hsn] at post
      exact go_ret evs_str post
end

section
variable {P : Program} {w : World} {K : PySem.W.Frag} {mg : Str → Option Value} {base : Heap} {A : Ad}
theorem evs_neg {δ : List Sl} {te : TE} {i : Int} (h : EvS K te δ (.int i)) : EvS K (tUn (rU fun i => .int (-i)) te) δ (.int (-i)) := fun σ Hk D H s Q q =>
  h σ Hk D H s _ fun v H1 H1' x1 r1 => by
    cases r1
    exact ⟨i, rfl, q _ H1 H1' x1 (.int _)⟩
theorem at_last {α : Type} {l : List α} {x : α} : L2.atI (l ++ [x]) (-1) = some x := by
  unfold L2.atI ixN
  rw [if_neg (by decide), List.length_append, List.length_singleton, if_pos (by omega)]
  show (l ++ [x])[((-1 : Int) + ((l.length + 1 : Nat) : Int)).toNat]? = some x
  rw [show ((-1 : Int) + ((l.length + 1 : Nat) : Int)).toNat = l.length by omega, List.getElem?_append_right (Nat.le_refl _), Nat.sub_self] <;> rfl
end
section
variable {P : Program} {w : World} {K : PySem.W.Frag} {mg : Str → Option Value} {base : Heap} {A : Ad}
theorem evs_disp2 {δ : List Sl} {a b : Str} {i j : Int} (ne : a ≠ b) : EvSB K (tDisp [(tC (.str a), tC (.int i)), (tC (.str b), tC (.int j))]) δ [a, b] [.int i, .int j] := fun σ Hk D H s Q q p hp =>
  ⟨upd_same, [(.inr a, .int i), (.inr b, .int j)], rfl, by show 2 ≤ 15; decide, q p [.int i, .int j] Hk _ ⟨fun b o e => by rw [upd_ne (ne_of_none e hp), upd_ne (ne_of_none e hp)]; exact e, Same.refl _, same_updK (same_updK s (s.free hp)) (s.free hp), fun b o e n => by rw [n] at e; cases e⟩ hp (s.free hp) (by
      rw [upd_same]
      have : ¬ (Sum.inr a : Key) = .inr b := fun h => ne (Sum.inr.inj h)
      simp [mergeK, putK, kvz, this]) rfl (.cons (.int i) (.cons (.int j) .nil))⟩
theorem cut_last {α : Type} {xs : List α} : cutD xs none (some (-1)) = xs.dropLast := by
  unfold cutD
  rw [HT.sIx_none, List.drop_zero, List.dropLast_eq_take]
  congr 1
  simp only [HT.sIx]
  rw [if_pos (by decide)]
  omega
theorem split_snoc (c : Nat) : ∀ l : List Nat, splitC c (l ++ [c]) = splitC c l ++ [[]]
  | [] => by simp [splitC]
  | d :: r => by
    rw [List.cons_append, splitC, split_snoc c r, splitC]
    by_cases e : d = c
    · rw [if_pos e, if_pos e, List.cons_append]
    · rw [if_neg e, if_neg e]
      cases q : splitC c r with
      | nil => exact absurd q (splitC_ne c r)
      | cons a t => rfl
theorem split_end (c : Nat) (l : List Nat) : (splitC c (l ++ [c])).getLast? = some [] := by
  rw [split_snoc, List.getLast?_concat]
theorem split_noend {c d : Nat} (h : d ≠ c) : ∀ l : List Nat, (splitC c (l ++ [d])).getLast? ≠ some []
  | [] => by simp [splitC, h]
  | x :: r => by
    have ih := split_noend h r
    rw [List.cons_append, splitC]
    by_cases e : x = c
    · rw [if_pos e, List.getLast?_cons]
      intro z
      have z := Option.some.inj z
      cases q : (splitC c (r ++ [d])).getLast? with
      | none => rw [List.getLast?_eq_none_iff] at q; exact splitC_ne c _ q
      | some y => rw [q] at z ih; exact ih (congrArg some z)
    · rw [if_neg e]
      cases q : splitC c (r ++ [d]) with
      | nil => exact absurd q (splitC_ne c _)
      | cons a t =>
        rw [q] at ih
        cases t with
        | nil => intro z; cases z
        | cons b t => rw [List.getLast?_cons_cons] at ih ⊢; exact ih
def rowN (p : Wd) : Int := if p = spW then 2 else if p = agW then 3 else 0
theorem rowN_get (p : Wd) : (dget [("speech" : Str), "against"] [.int 2, .int 3] (S p)).getD (.int 0) = .int (rowN p) := by
  unfold rowN
  rw [spW_S, agW_S]
  simp only [dget]
  by_cases h : p = spW
  · rw [if_pos (congrArg S h.symm), if_pos h] <;> rfl
  · rw [if_neg (fun e => h (S_inj e).symm), if_neg h]
    by_cases h2 : p = agW
    · rw [if_pos (congrArg S h2.symm), if_pos h2] <;> rfl
    · rw [if_neg (fun e => h2 (S_inj e).symm), if_neg h2] <;> rfl
theorem row_bad {p : Wd} {ps : List Wd} (h : [] ∈ p :: ps ∨ (((p :: ps).length : Nat) : Int) ≠ rowN p) : rowW (p :: ps) = .none := by
  cases e : rowW (p :: ps) with
  | none => rfl
  | name a =>
    obtain ⟨h1, h2, h3⟩ := rowW_form1 e
    rcases h with h | h
    · exact absurd rfl (h3 _ h)
    · have h1 : p = spW := by injection h1
      unfold rowN at h
      rw [if_pos h1, h2] at h
      exact absurd rfl h
  | pair a b =>
    obtain ⟨h1, h2, h3⟩ := rowW_form2 e
    rcases h with h | h
    · exact absurd rfl (h3 _ h)
    · have h1 : p = agW := by injection h1
      unfold rowN at h
      rw [if_neg (fun x => sp_ag (x.symm.trans h1)), if_pos h1, h2] at h
      exact absurd rfl h
theorem row_good {p : Wd} {ps : List Wd} (h : [] ∉ p :: ps) (h2 : (((p :: ps).length : Nat) : Int) = rowN p) : (∃ a, p :: ps = [spW, a] ∧ rowW (p :: ps) = .name a) ∨ ∃ a b, p :: ps = [agW, a, b] ∧ rowW (p :: ps) = .pair a b := by
  have hn : ∀ q ∈ p :: ps, q ≠ [] := fun q hq e => h (e ▸ hq)
  unfold rowN at h2
  by_cases e : p = spW
  · rw [if_pos e] at h2
    exact .inl (rowW_name (by rw [e] <;> rfl) (by omega) hn)
  · rw [if_neg e] at h2
    by_cases e2 : p = agW
    · rw [if_pos e2] at h2
      exact .inr (rowW_pair (by rw [e2] <;> rfl) (by omega) hn)
    · rw [if_neg e2, List.length_cons] at h2
      omega
def R_l_parted (ds : List Da) (d : Da) : Prop := ∃ (l : Wd), ds = [.str (S l)] ∧ RdOk l ∧ d = match readT l with
  | none => .non
  | some q => .tup [.lst (q.1.map wD), .lst (q.2.map wP)]
abbrev sp_l_parted (K : PySem.W.Frag) (A : Ad) : Sp := SpD K R_l_parted
theorem ok_l_parted (T : Tx K mg A) : FnOk P w K mg base CX0 1 A.f_l_parted A.fd_l_parted ["_law_text_here"] (sp_l_parted K A) := by
  refine T.F_l_parted.ok sc_l_parted (spd_len (n := 1) (by rintro _ _ ⟨_, rfl, _, rfl⟩; rfl)) (fun cdv A' outer s H vs Q E hr h => ⟨_, (pss_cons (ps_if (PW.pt (pw_and (pt_cmpR (op_neD hr.units) (pv 0) pe_str (nomark _)) (pw_and1 (pt_cmpR (op_neD hr.units) (pe_ix ix_seq (pv 0) (pe_un un_neg pe_int) (fun _ _ => rfl)) pe_str (nomark _))))) (pss_one (ps_ret pe_non)) pss_nil)
  (pss_cons (ps_set (i := 1) sc_l_parted.nd rfl (Or.inl rfl) (pe_lst pa_nil))
  (pss_cons (ps_set (i := 2) sc_l_parted.nd rfl (Or.inl rfl) (pe_lst pa_nil))
  (pss_cons (ps_for PassesOwn.never rfl (pi_list (pe_slice sl_U (pe_split (pv 0) pe_str) po_none (po_some (pe_un un_neg pe_int)))) (pg_name (i := 3) sc_l_parted.nd rfl (Or.inl rfl))
  (pss_cons (ps_set (i := 4) sc_l_parted.nd rfl (Or.inl rfl) (pe_split (pv 3) pe_str))
  (pss_cons (ps_if (PW.pt (pw_or (pt_cmpR op_in_seq pe_str (pv 4) rfl) (pw_or1 (pt_cmpR (op_neD hr.units) (pe_callB call_lenU rfl T.n_len PySem.boot_len (pa_cons (pv 4) pa_nil)) (pe_dget2 (hu_of hr) (pe_disp (pps_cons pe_str pe_int (pps_cons pe_str pe_int pps_nil)) rfl rfl (by intro h; cases h) (by show 2 ≤ 15; decide)) (pe_ix ix_seq (pv 4) pe_int (fun _ _ => rfl)) pe_int ⟨rfl, rfl, rfl, rfl⟩) (nomark _))))) (pss_one (ps_ret pe_non)) pss_nil)
  (pss_one (ps_if (pt_cmpR (op_eqD hr.units) (pe_callB call_lenU rfl T.n_len PySem.boot_len (pa_cons (pv 4) pa_nil)) pe_int (nomark _)) (pss_cons (ps_if (pt_cmpR (op_neD hr.units) (pv 2) (pe_lst pa_nil) (nomark _)) (pss_one (ps_ret pe_non)) pss_nil)
  (pss_one (ps_expr (pe_bm PySem.F.plainAttrs_list PySem.F.slot_list_append PySem.F.type_list_append mt_append (pv 1) (pa_cons (pe_ix ix_seq (pv 4) pe_int (fun _ _ => rfl)) pa_nil))))) (pss_one (ps_expr (pe_bm PySem.F.plainAttrs_list PySem.F.slot_list_append PySem.F.type_list_append mt_append (pv 2) (pa_cons (pe_tup (pa_cons (pe_ix ix_seq (pv 4) pe_int (fun _ _ => rfl)) (pa_cons (pe_ix ix_seq (pv 4) pe_int (fun _ _ => rfl)) pa_nil))) pa_nil)))))))))
  (pss_one (ps_ret (pe_tup (pa_cons (pv 1) (pa_cons (pv 2) pa_nil))))))))), spd_body (N := N_l_parted) (ts := (tSeq (tIfS (tAnd (tTest (tOp (rNeD K) (tVar 0) (tC (.str "")))) (tTest (tOp (rNeD K) (tOp (rIx K) (tVar 0) (tUn (rU fun i => .int (-i)) (tC (.int 1)))) (tC (.str "\n"))))) (tRet (tC .non)) tNext) (tSeq (tAsg (tLst tNil) (gName 1)) (tSeq (tAsg (tLst tNil) (gName 2)) (tSeq (tFor (iList K (tSl (rSlU K) (tM1 rSplit (tVar 0) (tC (.str "\n"))) tNoPart (tPart (tUn (rU fun i => .int (-i)) (tC (.int 1)))))) (gName 3) (tSeq (tAsg (tM1 rSplit (tVar 3) (tC (.str " "))) (gName 4)) (tSeq (tIfS (tOr (tTest (tOp (rIn K false) (tC (.str "")) (tVar 4))) (tTest (tOp (rNeD K) (tCB (rLen K) (tCons (tVar 4) tNil)) (tDGet2 (tDisp [((tC (.str "speech")), (tC (.int 2))), ((tC (.str "against")), (tC (.int 3)))]) (tOp (rIx K) (tVar 4) (tC (.int 0))) (tC (.int 0)))))) (tRet (tC .non)) tNext) (tIfS (tTest (tOp (rEqD K) (tCB (rLen K) (tCons (tVar 4) tNil)) (tC (.int 2)))) (tSeq (tIfS (tTest (tOp (rNeD K) (tVar 2) (tLst tNil))) (tRet (tC .non)) tNext) (tDrop (tBM K "list" rAppend (tVar 1) (tCons (tOp (rIx K) (tVar 4) (tC (.int 1))) tNil)))) (tDrop (tBM K "list" rAppend (tVar 2) (tCons (tTup (tCons (tOp (rIx K) (tVar 4) (tC (.int 1))) (tCons (tOp (rIx K) (tVar 4) (tC (.int 2))) tNil))) tNil))))))) (tRet (tTup (tCons (tVar 1) (tCons (tVar 2) tNil))))))))) (by rintro _ _ ⟨_, rfl, _, rfl⟩; exact (by decide : 1 ≤ N_l_parted.length)) ?_ _ _ _ _ h⟩)
  rintro _ _ ⟨l, rfl, ⟨hl, hr⟩, rfl⟩ C Q rfl post
  have okl : okS (S l) := signs_ok (tx_256 hl)
  refine sq_if1 (b := !decide ((splitC 10 l).getLast? = some [])) ?_ (fun z => ?_) (fun z => ?_)
  · by_cases ne : l = []
    · subst ne
      exact EvST.to (evt_and (c := false) (evt_test (evs_op (evs_var rfl) evs_str (rv_ne (n := 3) (ok_str okl) (ok_str (by unfold okS; decide +kernel)) (by decide)))) (fun z => by rw [eqD_str, e_S] at z; simp at z)) (by rw [Bool.and_false]; decide +kernel)
    · obtain ⟨l', c, rfl⟩ : ∃ l' c, l = l' ++ [c] := ⟨l.dropLast, l.getLast ne, (List.dropLast_concat_getLast ne).symm⟩
      have cm : c ∈ l' ++ [c] := List.mem_append_right _ (List.mem_singleton_self c)
      have c256 := tx_256 hl c cm
      refine EvST.to (evt_and (c := !decide (c = 10)) (evt_test (evs_op (evs_var rfl) evs_str (rv_ne (n := 3) (ok_str okl) (ok_str (by unfold okS; decide +kernel)) (by decide)))) (fun z => EvST.to (evt_test (evs_op (evs_op (evs_var rfl) (evs_neg evs_int) (rv_ixB (c := c) (by rw [S_len]; exact Nat.le_trans hl.2 (by decide)) (by rw [S_list]; exact at_last))) evs_str (rv_ne (n := 3) (ok_str (signs_ok (l := [c]) (fun x hx => by rw [List.mem_singleton] at hx; omega))) (ok_str (by unfold okS; decide +kernel)) (by decide)))) ?_)) ?_
      · rw [eqD_str, nl_S]
        refine congrArg Bool.not (decide_eq_decide.mpr ⟨fun e => ?_, fun e => by rw [e] <;> rfl⟩)
        have e : S [c] = S [10] := e
        have e := S_inj e
        injection e
      · rw [eqD_str, e_S, decide_eq_false (fun e => ne (S_inj e)), Bool.not_false, Bool.true_and]
        refine congrArg Bool.not (decide_eq_decide.mpr ⟨fun e => ?_, fun e => ?_⟩)
        · subst e
          exact split_end 10 l'
        · by_cases h : c = 10
          · exact h
          · exact absurd e (split_noend h l')
  · have z : (splitC 10 l).getLast? ≠ some [] := of_decide_eq_false (by rwa [Bool.not_eq_true'] at z)
    have eT : readT l = none := if_neg z
    rw [eT] at post
    exact go_ret evs_non post
  have eg : (splitC 10 l).getLast? = some [] := of_decide_eq_true (by rwa [Bool.not_eq_false'] at z)
  have eT : readT l = readR [] [] (splitC 10 l).dropLast := if_pos eg
  rw [eT] at post
  have sub : ∀ r ∈ (splitC 10 l).dropLast, r ∈ splitC 10 l := fun r h => List.dropLast_subset _ h
  have ld : (splitC 10 l).dropLast.length ≤ 150 := by rw [List.length_dropLast]; omega
  refine sq_setN (ds := ([] : List Wd).map wD) (evs_lst evs_nil (by decide)) ?_
  refine sq_setN (ds := ([] : List (Wd × Wd)).map wP) (evs_lst evs_nil (by decide)) ?_
  have hc : ∀ (δ : List Sl), δ[0]? = some (.dat (.str (S l))) → EvSN C.K (tSl (rSlU C.K) (tM1 rSplit (tVar 0) (tC (.str "\n"))) tNoPart (tPart (tUn (rU fun i => .int (-i)) (tC (.int 1))))) δ ((splitC 10 l).dropLast.map wD) := fun δ h => EvSN.to (evs_slN (EvSN.ev (EvSN.to (evs_split (a := S l) (b := S [10]) (evs_var h) (by rw [← nl_S]; exact evs_str) (by decide) (by rw [S_len]; exact Nat.le_trans hl.2 (by decide))) (show ((Txt.split (S l) (S [10])).map Da.str) = (splitC 10 l).map wD by rw [split_sign (by decide), wD_map]))) evo_none (evo_some (evs_neg evs_int))) (by rw [cut_last, List.map_dropLast])
  generalize (splitC 10 l).dropLast = rows at post ld sub hc
  refine sq_for (itd_list (EvSN.ev (hc _ rfl))) (fun i δ => ∃ ms qs, readR [] [] (rows.take i) = some (ms, qs) ∧ ((ms.length ≤ i ∧ qs.length ≤ i) ∧ ∀ q ∈ qs, okS (S q.1) ∧ okS (S q.2)) ∧ ∃ a b, δ = [.dat (.str (S l)), .own (ms.map wD), .own (qs.map wP), a, b]) ⟨[], [], by rw [List.take_zero, readR], ⟨⟨Nat.le_refl _, Nat.le_refl _⟩, fun q h => by cases h⟩, .no, .no, rfl⟩ ?_ ?_
  · rintro P' i d _ hd ⟨ms, qs, hm, ⟨⟨l1, l2⟩, okq⟩, a, b, rfl⟩
    rw [List.getElem?_map] at hd
    have hi : i < rows.length := by
      cases q : rows[i]? with
      | none => rw [q] at hd; cases hd
      | some r => exact (List.getElem?_eq_some_iff.mp q).1
    rw [List.getElem?_eq_getElem hi] at hd
    cases hd
    have et : rows.take (i + 1) = rows.take i ++ [rows[i]] := (List.take_append_getElem hi).symm
    have ed : rows = rows.take (i + 1) ++ rows.drop (i + 1) := (List.take_append_drop ..).symm
    have rm := sub _ (List.getElem_mem hi)
    generalize rows[i] = r at et rm
    have hs : readR [] [] (rows.take (i + 1)) = readR ms qs [r] := by rw [et, readR_snoc, hm] <;> rfl
    have okw : ∀ p ∈ splitC 32 r, okS (S p) := fun p hp => signs_ok fun c hc => by
      rcases hl.1 c (splitC_sub rm (splitC_sub hp hc)) with h | h | h
      · omega
      · omega
      · unfold prn at h; omega
    have fail : readR ms qs [r] = none → Post C .non Q := fun h => by
      have e : readR [] [] rows = none := by
        rw [ed]
        exact readR_none (by rw [hs, h])
      rw [e] at post
      exact post
    refine ⟨_, tga_name, ?_⟩
    show Go _ _ _ [.dat (.str (S l)), .own (ms.map wD), .own (qs.map wP), .dat (wD r), b]
    refine sq_setN (ds := (splitC 32 r).map wD) (EvSN.to (evs_split (a := S r) (b := S [32]) (evs_var rfl) (by rw [← sp_S]; exact evs_str) (by decide) (by rw [S_len]; have e2 := splitC_len rm; have e3 := hl.2; omega)) (by rw [split_sign (by decide), wD_map])) ?_
    refine go_freeze 4 rfl ?_
    have hrr : readR ms qs [r] = match rowW (splitC 32 r) with
      | .name a => if qs = [] then some (ms ++ [a], qs) else none
      | .pair a b => some (ms, qs ++ [(a, b)])
      | .none => none := by
      rw [readR] <;> cases rowW (splitC 32 r) <;> simp only [readR]
    have ne := splitC_ne 32 r
    generalize splitC 32 r = parts at hrr okw ne
    cases parts with
    | nil => exact absurd rfl ne
    | cons p ps =>
    refine sq_if1 (b := decide ([] ∈ p :: ps) || !decide ((((p :: ps).length : Nat) : Int) = rowN p)) (EvST.to (evt_or (c := !decide ((((p :: ps).length : Nat) : Int) = rowN p)) (evt_test (evs_inN (neg := false) (x := S []) (v := (p :: ps).map S) (by rw [← e_S]; exact evs_str) (evs_var rfl) (.inl (congrArg Da.lst (wD_map _))))) (fun _ => EvST.to (evt_test (evs_op (evs_cb (evs_cons (evs_var rfl) evs_nil) rc_lenL) (EvS.to (evs_dget2 (EvSB.ev (evs_disp2 (by decide +kernel))) (evs_op (evs_var (d := .lst ((p :: ps).map wD)) rfl) evs_int (rv_ixL (d := .str (S p)) (show atI _ ((0 : Nat) : Int) = _ from atI_nat rfl))) evs_int) (rowN_get p)) (rv_ne (n := 3) ok_int ok_int (by decide)))) (by rw [eqD_int, List.length_map]))) ?_) (fun z => ?_) (fun z => ?_)
    · congr 1
      refine decide_eq_decide.mpr ⟨fun h => ?_, fun h => List.mem_map_of_mem h⟩
      obtain ⟨q, hq, e⟩ := List.mem_map.mp h
      rw [← S_inj e]
      exact hq
    · have hb : [] ∈ p :: ps ∨ (((p :: ps).length : Nat) : Int) ≠ rowN p := by
        rw [Bool.or_eq_true, decide_eq_true_eq, Bool.not_eq_true', decide_eq_false_iff_not] at z
        exact z
      rw [row_bad hb] at hrr
      exact go_ret evs_non (fail hrr)
    · rw [Bool.or_eq_false_iff, decide_eq_false_iff_not, Bool.not_eq_false', decide_eq_true_eq] at z
      rcases row_good z.1 z.2 with ⟨a1, ep, er⟩ | ⟨a1, b1, ep, er⟩
      · rw [er] at hrr
        replace hrr : readR ms qs [r] = if qs = [] then some (ms ++ [a1], qs) else none := hrr
        cases ep
        refine go_if (b := true) (EvST.to (evt_test (evs_op (evs_cb (evs_cons (evs_var rfl) evs_nil) rc_lenL) evs_int (rv_eq (n := 3) ok_int ok_int (by decide)))) rfl) (fun _ => ?_) (fun y => by cases y)
        refine sq_if1 (b := !decide (qs = [])) (EvST.to (evt_test (evs_op (evs_var rfl) (EvSN.ev (evs_lst (ds := ([] : List Pr).map dP) evs_nil (by decide))) (rv_ne (n := 3) (d1 := .lst (qs.map wP)) ?_ (ok_dPs (ps := []) (fun p h => by cases h)) (by decide)))) ?_) (fun y => ?_) (fun y => ?_)
        · have := ok_dPs (n := 1) (ps := qs.map fun q => (S q.1, S q.2)) (fun p hp => by
            obtain ⟨q, hq, rfl⟩ := List.mem_map.mp hp
            exact okq q hq)
          rw [List.map_map] at this
          exact this
        · cases qs with
          | nil => rfl
          | cons q qs => rfl
        · rw [if_neg (of_decide_eq_false (by rwa [Bool.not_eq_true'] at y))] at hrr
          exact go_ret evs_non (fail hrr)
        · rw [if_pos (of_decide_eq_true (by rwa [Bool.not_eq_false'] at y))] at hrr
          exact go_append (d := wD a1) rfl (evs_op (evs_var rfl) evs_int (rv_ixL (show atI _ ((1 : Nat) : Int) = _ from atI_nat rfl))) (by rw [List.length_map]; omega) (nx_end ⟨ms ++ [a1], qs, by rw [hs, hrr], ⟨⟨by rw [List.length_append]; exact Nat.succ_le_succ l1, Nat.le_succ_of_le l2⟩, okq⟩, .dat (wD r), .dat (.lst ([spW, a1].map wD)), by rw [List.map_append] <;> rfl⟩)
      · rw [er] at hrr
        cases ep
        refine go_if (b := false) (EvST.to (evt_test (evs_op (evs_cb (evs_cons (evs_var rfl) evs_nil) rc_lenL) evs_int (rv_eq (n := 3) ok_int ok_int (by decide)))) rfl) (fun y => by cases y) (fun _ => ?_)
        have o1 := okw a1 (by simp)
        have o2 := okw b1 (by simp)
        exact go_append (d := wP (a1, b1)) rfl (evs_tup (evs_cons (evs_op (evs_var rfl) evs_int (rv_ixL (show atI _ ((1 : Nat) : Int) = _ from atI_nat rfl))) (evs_cons (evs_op (evs_var rfl) evs_int (rv_ixL (show atI _ ((2 : Nat) : Int) = _ from atI_nat rfl))) evs_nil)) (by show 2 ≤ 1000; decide)) (by rw [List.length_map]; omega) (nx_end ⟨ms, qs ++ [(a1, b1)], by rw [hs, hrr], ⟨⟨Nat.le_succ_of_le l1, by rw [List.length_append]; exact Nat.succ_le_succ l2⟩, fun q hq => by
          rcases List.mem_append.mp hq with h | h
          · exact okq q h
          · rw [List.mem_singleton] at h
            subst h
            exact ⟨o1, o2⟩⟩, .dat (wD r), .dat (.lst ([agW, a1, b1].map wD)), by rw [List.map_append] <;> rfl⟩)
  · rintro _ ⟨ms, qs, hm, _, a, b, rfl⟩
    rw [List.length_map, List.take_length] at hm
    rw [hm] at post
    exact go_freeze 1 rfl (go_freeze 2 rfl (go_ret (evs_tup (evs_cons (evs_var rfl) (evs_cons (evs_var rfl) evs_nil)) (by show 2 ≤ 1000; decide)) post))
end

section
variable {P : Program} {w : World} {K : PySem.W.Frag} {mg : Str → Option Value} {base : Heap} {A : Ad}
def SpOk (l : Wd) : Prop := TxOk l ∧ l.length ≤ 20000 ∧ l.count 10 ≤ 140
def R_l_spoilt (ds : List Da) (d : Da) : Prop := ∃ (l : Wd) (mix : Nat), ds = [.str (S l), .int (mix : Nat)] ∧ SpOk l ∧ d = .str (S (spoilW l mix))
abbrev sp_l_spoilt (K : PySem.W.Frag) (A : Ad) : Sp := SpD K R_l_spoilt
theorem sgW_at {k : Nat} (h : k < 18) : atI (S sgW).cps.toList ((k : Nat) : Int) = some (sgW.getD k 0) := by
  rw [S_list]
  refine atI_nat ?_
  have : k < sgW.length := h
  rw [List.getD_eq_getElem?_getD, List.getElem?_eq_getElem this] <;> rfl
theorem repW_S (l : Wd) : rep1 (S l) (S [32]) (S [32, 32]) = S (repW l) := (S_tl _).symm
theorem x_S : ("x" : Str) = S [120] := by decide +kernel
theorem sp2_S : ("  " : Str) = S [32, 32] := by decide +kernel
def soW (rows : List Wd) (k w : Nat) : Da := .lst ((someW rows w k).map wD)
theorem ok_l_spoilt (T : Tx K mg A) : FnOk P w K mg base CX0 1 A.f_l_spoilt A.fd_l_spoilt ["_law_text_here", "_law_mix"] (sp_l_spoilt K A) := by
  refine T.F_l_spoilt.ok sc_l_spoilt (spd_len (n := 2) (by rintro _ _ ⟨_, _, rfl, _⟩; rfl)) (fun cdv A' outer s H vs Q E hr h => ⟨_, (pss_cons (ps_set (i := 2) sc_l_spoilt.nd rfl (Or.inl rfl) (pe_slice sl_U (pe_split (pv 0) pe_str) po_none (po_some (pe_un un_neg pe_int))))
  (pss_cons (ps_set (i := 3) sc_l_spoilt.nd rfl (Or.inl rfl) (pe_op op_mod (pv 1) pe_int))
  (pss_cons (ps_set (i := 4) sc_l_spoilt.nd rfl (Or.inl rfl) (pe_op op_mod (pe_op op_fdiv (pv 1) pe_int) (pe_op op_addU (pe_callB call_lenU rfl T.n_len PySem.boot_len (pa_cons (pv 2) pa_nil)) pe_int)))
  (pss_cons (ps_if (PW.pt (pw_and (pt_cmpR op_lt (pv 3) pe_int (nomark _)) (pw_and1 (pt_cmpR op_lt (pv 4) (pe_callB call_lenU rfl T.n_len PySem.boot_len (pa_cons (pv 2) pa_nil)) (nomark _))))) (pss_cons (ps_set (i := 7) sc_l_spoilt.nd rfl (Or.inl rfl) (pe_lst (pa_cons (pe_op op_addU (pe_slice sl_U (pv 2) po_none (po_some (pv 4))) (pe_slice sl_U (pv 2) (po_some (pe_op op_addU (pv 4) pe_int)) po_none)) (pa_cons (pe_op op_addU (pe_op op_addU (pe_slice sl_U (pv 2) po_none (po_some (pv 4))) (pe_lst (pa_cons (pe_ix ix_seq (pv 2) (pv 4) (fun _ _ => rfl)) pa_nil))) (pe_slice sl_U (pv 2) (po_some (pv 4)) po_none)) pa_nil))))
  (pss_cons (ps_expr (pe_bm PySem.F.plainAttrs_list PySem.F.slot_list_append PySem.F.type_list_append mt_append (pv 7) (pa_cons (pe_op op_addU (pe_slice sl_U (pv 2) (po_some (pv 4)) po_none) (pe_slice sl_U (pv 2) po_none (po_some (pv 4)))) pa_nil)))
  (pss_one (ps_ret (pe_join pe_str (pe_lc (own := [("_law_row", 8)]) (g := (gName 8)) (tt := tYes) (te := (tOp (rAddU K) (tVar 8) (tC (.str "\n")))) rfl sc_l_spoilt.nd (pi_list (pe_ix ix_seq (pv 7) (pv 3) (fun _ _ => rfl))) (blkOk_by (own := [("_law_row", 8)]) (N := N_l_spoilt) (sc := (defScope s_l_spoilt)) (by decide +kernel)) (fun _ _ _ _ _ => (pg_name (i := 8) sc_l_spoilt.nd rfl (Or.inl rfl))) (fun _ _ _ _ _ => pts_nil) (fun _ _ _ _ _ => (pe_op op_addU (pv 8) pe_str)))))))) pss_nil)
  (pss_cons (ps_if (pt_cmpR (op_eqD hr.units) (pv 3) pe_int (nomark _)) (pss_one (ps_ret (pe_ix ix_seq (pe_lst (pa_cons (pe_slice sl_U (pv 0) po_none (po_some (pe_un un_neg pe_int))) (pa_cons (pe_op op_addU (pv 0) pe_str) (pa_cons (pe_op op_addU pe_str (pv 0)) (pa_rep1 (ik := 0) rfl (Or.inl rfl) (by decide +kernel) (by decide +kernel)))))) (pe_op op_mod (pe_op op_fdiv (pv 1) pe_int) pe_int) (fun _ _ => rfl)))) pss_nil)
  (pss_cons (ps_set (i := 5) sc_l_spoilt.nd rfl (Or.inl rfl) (pe_op op_mod (pe_op op_fdiv (pv 1) pe_int) (pe_op op_addU (pe_callB call_lenU rfl T.n_len PySem.boot_len (pa_cons (pv 0) pa_nil)) pe_int)))
  (pss_cons (ps_set (i := 6) sc_l_spoilt.nd rfl (Or.inl rfl) (pe_ix ix_seq pe_str (pe_op op_mod (pe_op op_fdiv (pv 1) pe_int) pe_int) (fun _ _ => rfl)))
  (pss_cons (ps_if (pt_cmpR op_lt (pv 3) pe_int (nomark _)) (pss_one (ps_ret (pe_op op_addU (pe_op op_addU (pe_slice sl_U (pv 0) po_none (po_some (pv 5))) (pv 6)) (pe_slice sl_U (pv 0) (po_some (pv 5)) po_none)))) pss_nil)
  (pss_cons (ps_if (pt_cmpR (op_eqD hr.units) (pv 3) pe_int (nomark _)) (pss_one (ps_ret (pe_op op_addU (pe_slice sl_U (pv 0) po_none (po_some (pv 5))) (pe_slice sl_U (pv 0) (po_some (pe_op op_addU (pv 5) pe_int)) po_none)))) pss_nil)
  (pss_one (ps_ret (pe_op op_addU (pe_op op_addU (pe_slice sl_U (pv 0) po_none (po_some (pv 5))) (pv 6)) (pe_slice sl_U (pv 0) (po_some (pe_op op_addU (pv 5) pe_int)) po_none))))))))))))), spd_body (N := N_l_spoilt) (ts := (tSeq (tAsg (tSl (rSlU K) (tM1 rSplit (tVar 0) (tC (.str "\n"))) tNoPart (tPart (tUn (rU fun i => .int (-i)) (tC (.int 1))))) (gName 2)) (tSeq (tAsg (tOp (rI (fun _ j => 0 < j) fun i j => .int (i % j)) (tVar 1) (tC (.int 9))) (gName 3)) (tSeq (tAsg (tOp (rI (fun _ j => 0 < j) fun i j => .int (i % j)) (tOp (rI CDiv fun i j => .int (i / j)) (tVar 1) (tC (.int 9))) (tOp (rAddU K) (tCB (rLen K) (tCons (tVar 2) tNil)) (tC (.int 1)))) (gName 4)) (tSeq (tIfS (tAnd (tTest (tOp (rI0 fun i j => .bl (decide (i < j))) (tVar 3) (tC (.int 3)))) (tTest (tOp (rI0 fun i j => .bl (decide (i < j))) (tVar 4) (tCB (rLen K) (tCons (tVar 2) tNil))))) (tSeq (tAsg (tLst (tCons (tOp (rAddU K) (tSl (rSlU K) (tVar 2) tNoPart (tPart (tVar 4))) (tSl (rSlU K) (tVar 2) (tPart (tOp (rAddU K) (tVar 4) (tC (.int 1)))) tNoPart)) (tCons (tOp (rAddU K) (tOp (rAddU K) (tSl (rSlU K) (tVar 2) tNoPart (tPart (tVar 4))) (tLst (tCons (tOp (rIx K) (tVar 2) (tVar 4)) tNil))) (tSl (rSlU K) (tVar 2) (tPart (tVar 4)) tNoPart)) tNil))) (gName 7)) (tSeq (tDrop (tBM K "list" rAppend (tVar 7) (tCons (tOp (rAddU K) (tSl (rSlU K) (tVar 2) (tPart (tVar 4)) tNoPart) (tSl (rSlU K) (tVar 2) tNoPart (tPart (tVar 4)))) tNil))) (tRet (tM1 (rJoinS K) (tC (.str "")) (tLc (iList K (tOp (rIx K) (tVar 7) (tVar 3))) (gName 8) tYes (tOp (rAddU K) (tVar 8) (tC (.str "\n"))) [8]))))) tNext) (tSeq (tIfS (tTest (tOp (rEqD K) (tVar 3) (tC (.int 3)))) (tRet (tOp (rIx K) (tLst (tCons (tSl (rSlU K) (tVar 0) tNoPart (tPart (tUn (rU fun i => .int (-i)) (tC (.int 1))))) (tCons (tOp (rAddU K) (tVar 0) (tC (.str "\n"))) (tCons (tOp (rAddU K) (tC (.str "\n")) (tVar 0)) (tAddRep 0 "x" " " "  "))))) (tOp (rI (fun _ j => 0 < j) fun i j => .int (i % j)) (tOp (rI CDiv fun i j => .int (i / j)) (tVar 1) (tC (.int 9))) (tC (.int 5))))) tNext) (tSeq (tAsg (tOp (rI (fun _ j => 0 < j) fun i j => .int (i % j)) (tOp (rI CDiv fun i j => .int (i / j)) (tVar 1) (tC (.int 9))) (tOp (rAddU K) (tCB (rLen K) (tCons (tVar 0) tNil)) (tC (.int 1)))) (gName 5)) (tSeq (tAsg (tOp (rIx K) (tC (.str "abst \n 1A-.against")) (tOp (rI (fun _ j => 0 < j) fun i j => .int (i % j)) (tOp (rI CDiv fun i j => .int (i / j)) (tVar 1) (tC (.int 9000))) (tC (.int 18)))) (gName 6)) (tSeq (tIfS (tTest (tOp (rI0 fun i j => .bl (decide (i < j))) (tVar 3) (tC (.int 6)))) (tRet (tOp (rAddU K) (tOp (rAddU K) (tSl (rSlU K) (tVar 0) tNoPart (tPart (tVar 5))) (tVar 6)) (tSl (rSlU K) (tVar 0) (tPart (tVar 5)) tNoPart))) tNext) (tSeq (tIfS (tTest (tOp (rEqD K) (tVar 3) (tC (.int 6)))) (tRet (tOp (rAddU K) (tSl (rSlU K) (tVar 0) tNoPart (tPart (tVar 5))) (tSl (rSlU K) (tVar 0) (tPart (tOp (rAddU K) (tVar 5) (tC (.int 1)))) tNoPart))) tNext) (tRet (tOp (rAddU K) (tOp (rAddU K) (tSl (rSlU K) (tVar 0) tNoPart (tPart (tVar 5))) (tVar 6)) (tSl (rSlU K) (tVar 0) (tPart (tOp (rAddU K) (tVar 5) (tC (.int 1)))) tNoPart))))))))))))) (by rintro _ _ ⟨_, _, rfl, _⟩; exact (by decide : 2 ≤ N_l_spoilt.length)) ?_ _ _ _ _ h⟩)
  rintro _ _ ⟨l, mix, rfl, ⟨hl, hn, hc⟩, rfl⟩ C Q rfl post
  have lS : (S l).length = l.length := S_len l
  have lR : (rowsC l).length ≤ 140 := by rw [rowsC_len]; exact hc
  have sl := sumL_rows l
  have okl : okS (S l) := signs_ok (tx_256 hl)
  refine sq_setN (ds := (rowsC l).map wD) (EvSN.to (evs_slN (EvSN.ev (EvSN.to (evs_split (a := S l) (b := S [10]) (evs_var rfl) (by rw [← nl_S]; exact evs_str) (by decide) (by omega)) (show ((Txt.split (S l) (S [10])).map Da.str) = (splitC 10 l).map wD by rw [split_sign (by decide), wD_map]))) evo_none (evo_some (evs_neg evs_int))) (by rw [cut_last, ← List.map_dropLast] <;> rfl)) ?_
  refine go_freeze 2 rfl ?_
  have eM : ∀ {δ : List Sl}, δ[1]? = some (.dat (.int (mix : Nat))) → EvS C.K (tOp (rI CDiv fun i j => .int (i / j)) (tVar 1) (tC (.int 9))) δ (.int ((mix / 9 : Nat))) := fun h => EvS.to (evs_op (evs_var h) evs_int (rv_i (g := fun i j => i / j) (by first | omega | exact ⟨by omega, by omega⟩ | decide))) (congrArg Da.int (by omega))
  refine sq_set (d := .int ((mix % 9 : Nat))) (EvS.to (evs_op (evs_var rfl) evs_int (rv_i (g := fun i j => i % j) (by decide))) (congrArg Da.int (by omega))) ?_
  refine sq_set (d := .int ((mix / 9 % ((rowsC l).length + 1) : Nat))) (EvS.to (evs_op (eM rfl) (evs_op (evs_cb (evs_cons (evs_var (d := .lst ((rowsC l).map wD)) rfl) evs_nil) rc_lenL) evs_int rv_addI) (rv_i (g := fun i j => i % j) (by show (0 : Int) < _; omega))) (congrArg Da.int (by rw [List.length_map]; push_cast; rfl))) ?_
  refine sq_if1 (b := decide (mix % 9 < 3 ∧ mix / 9 % ((rowsC l).length + 1) < (rowsC l).length)) (EvST.to (evt_and (evt_test (evs_op (evs_var rfl) evs_int (rv_b0 (g := fun i j => decide (i < j))))) (fun _ => evt_test (evs_op (evs_var rfl) (evs_cb (evs_cons (evs_var (d := .lst ((rowsC l).map wD)) rfl) evs_nil) rc_lenL) (rv_b0 (g := fun i j => decide (i < j)))))) ?_) (fun z => ?_) (fun z => ?_)
  · rw [← Bool.decide_and]
    refine decide_eq_decide.mpr ?_
    rw [List.length_map]
    exact ⟨fun h => ⟨by omega, by omega⟩, fun h => ⟨by omega, by omega⟩⟩
  · have z := of_decide_eq_true z
    have eW : spoilW l mix = ((someW (rowsC l) (mix % 9) (mix / 9 % ((rowsC l).length + 1))).map (· ++ [10])).flatten := if_pos z
    rw [eW] at post
    obtain ⟨z1, z2⟩ := z
    generalize mix / 9 % ((rowsC l).length + 1) = k at *
    generalize mix % 9 = way at *
    have okr : ∀ r ∈ rowsC l, r.length ≤ l.length := fun r h => (rowsC_sub h).2.2
    generalize rowsC l = rows at *
    have cA : ∀ {δ : List Sl}, δ[2]? = some (.dat (.lst (rows.map wD))) → δ[4]? = some (.dat (.int (k : Nat))) → EvS C.K (tSl (rSlU C.K) (tVar 2) tNoPart (tPart (tVar 4))) δ (.lst ((rows.take k).map wD)) := fun h h2 => EvSN.ev (EvSN.to (evs_slN (evs_var h) evo_none (evo_some (evs_var h2))) (by rw [cut_to, List.map_take]))
    have cB : ∀ {δ : List Sl}, δ[2]? = some (.dat (.lst (rows.map wD))) → δ[4]? = some (.dat (.int (k : Nat))) → EvS C.K (tSl (rSlU C.K) (tVar 2) (tPart (tVar 4)) tNoPart) δ (.lst ((rows.drop k).map wD)) := fun h h2 => EvSN.ev (EvSN.to (evs_slN (evs_var h) (evo_some (evs_var h2)) evo_none) (by rw [cut_from, List.map_drop]))
    have cD : ∀ {δ : List Sl}, δ[2]? = some (.dat (.lst (rows.map wD))) → δ[4]? = some (.dat (.int (k : Nat))) → EvS C.K (tSl (rSlU C.K) (tVar 2) (tPart (tOp (rAddU C.K) (tVar 4) (tC (.int 1)))) tNoPart) δ (.lst ((rows.drop (k + 1)).map wD)) := fun h h2 => EvSN.ev (EvSN.to (evs_slN (evs_var h) (evo_some (i := ((k + 1 : Nat) : Int)) (EvS.to (evs_op (evs_var h2) evs_int rv_addI) (congrArg Da.int (by omega)))) evo_none) (by rw [cut_from, List.map_drop]))
    have cE : ∀ {δ : List Sl}, δ[2]? = some (.dat (.lst (rows.map wD))) → δ[4]? = some (.dat (.int (k : Nat))) → EvS C.K (tLst (tCons (tOp (rIx C.K) (tVar 2) (tVar 4)) tNil)) δ (.lst (((rows.drop k).take 1).map wD)) := fun h h2 => EvSN.ev (EvSN.to (evs_lst (evs_cons (evs_op (evs_var h) (evs_var h2) (rv_ixL (d := wD rows[k]) (atI_nat (by rw [List.getElem?_map, List.getElem?_eq_getElem z2] <;> rfl)))) evs_nil) (show 1 ≤ 1000 by decide)) (by rw [List.drop_eq_getElem_cons z2] <;> rfl))
    have s0 : ∀ {δ : List Sl}, δ[2]? = some (.dat (.lst (rows.map wD))) → δ[4]? = some (.dat (.int (k : Nat))) → EvS C.K (tOp (rAddU C.K) (tSl (rSlU C.K) (tVar 2) tNoPart (tPart (tVar 4))) (tSl (rSlU C.K) (tVar 2) (tPart (tOp (rAddU C.K) (tVar 4) (tC (.int 1)))) tNoPart)) δ (soW rows k 0) := fun h h2 => EvSN.ev (EvSN.to (evs_opN (cA h h2) (cD h h2) (rv_addL (by simp only [List.length_map, List.length_take, List.length_drop]; omega))) (by rw [← List.map_append] <;> rfl))
    have s1 : ∀ {δ : List Sl}, δ[2]? = some (.dat (.lst (rows.map wD))) → δ[4]? = some (.dat (.int (k : Nat))) → EvS C.K (tOp (rAddU C.K) (tOp (rAddU C.K) (tSl (rSlU C.K) (tVar 2) tNoPart (tPart (tVar 4))) (tLst (tCons (tOp (rIx C.K) (tVar 2) (tVar 4)) tNil))) (tSl (rSlU C.K) (tVar 2) (tPart (tVar 4)) tNoPart)) δ (soW rows k 1) := fun h h2 => EvSN.ev (EvSN.to (evs_opN (EvSN.ev (evs_opN (cA h h2) (cE h h2) (rv_addL (by simp only [List.length_map, List.length_take, List.length_drop]; omega)))) (cB h h2) (rv_addL (by simp only [List.length_map, List.length_take, List.length_drop, List.length_append]; omega))) (by rw [← List.map_append, ← List.map_append] <;> rfl))
    have s2 : ∀ {δ : List Sl}, δ[2]? = some (.dat (.lst (rows.map wD))) → δ[4]? = some (.dat (.int (k : Nat))) → EvS C.K (tOp (rAddU C.K) (tSl (rSlU C.K) (tVar 2) (tPart (tVar 4)) tNoPart) (tSl (rSlU C.K) (tVar 2) tNoPart (tPart (tVar 4)))) δ (soW rows k 2) := fun h h2 => EvSN.ev (EvSN.to (evs_opN (cB h h2) (cA h h2) (rv_addL (by simp only [List.length_map, List.length_take, List.length_drop]; omega))) (by rw [← List.map_append] <;> rfl))
    refine sq_setN (ds := [soW rows k 0, soW rows k 1]) (evs_lst (evs_cons (s0 rfl rfl) (evs_cons (s1 rfl rfl) evs_nil)) (show 2 ≤ 1000 by decide)) ?_
    refine sq_append (d := soW rows k 2) rfl (s2 rfl rfl) (show 2 < 1000 by decide) ?_
    refine go_freeze 7 rfl ?_
    have atw : atI [soW rows k 0, soW rows k 1, soW rows k 2] ((way : Nat) : Int) = some (.lst ((someW rows way k).map wD)) := atI_nat (by
      have : way = 0 ∨ way = 1 ∨ way = 2 := by omega
      rcases this with rfl | rfl | rfl <;> rfl)
    have sm := someW_sum rows way k
    have sn := someW_len rows way k
    have smem : ∀ r ∈ someW rows way k, r.length ≤ l.length := fun r h => okr r (someW_mem h)
    generalize someW rows way k = got at *
    have fl := flat_len got
    refine go_ret (EvS.to (evs_joinL (a := S []) (ys := (got.map (· ++ [10])).map S) (by rw [← e_S]; exact evs_str) (EvSN.ev (EvSN.to (evs_lcY (xs := got) (enc := wD) (itd_list (evs_op (evs_var (d := .lst [soW rows k 0, soW rows k 1, soW rows k 2]) rfl) (evs_var rfl) (rv_ixL atw))) (fun r => .str (S (r ++ [10]))) (by omega) fun r hr => ⟨_, tgd_name, EvS.to (evs_op (evs_var (d := wD r) rfl) evs_str (rv_addB (by have := smem r hr; rw [S_len]; show _ + 1 ≤ _; omega))) (congrArg Da.str (by rw [nl_S, S_add]))⟩) (by rw [List.map_map, List.map_map] <;> rfl))) ?_) (by rw [join_flat] <;> rfl)) post
    have e0 : (S []).length = 0 := rfl
    rw [e0, Nat.mul_zero]
    have e1 : (((got.map (· ++ [10])).map S).map (·.length)).sum = sumL got := by
      unfold sumL
      rw [List.map_map, List.map_map]
      refine congrArg List.sum (List.map_congr_left fun r _ => ?_)
      show (S (r ++ [10])).length = _
      rw [S_len, List.length_append] <;> rfl
    omega
  have z := of_decide_eq_false z
  have eW : spoilW l mix = if mix % 9 = 3 then oddW l (mix / 9 % 5) else signsW l (mix % 9) (mix / 9 % (l.length + 1)) (sgW.getD (mix / 9000 % 18) 0) := if_neg z
  rw [eW] at post
  refine sq_if1 (b := decide (mix % 9 = 3)) (EvST.to (evt_test (evs_op (evs_var rfl) evs_int (rv_eq (n := 3) ok_int ok_int (by decide)))) ?_) (fun y => ?_) (fun y => ?_)
  · rw [eqD_int]
    exact decide_eq_decide.mpr ⟨fun h => by omega, fun h => by omega⟩
  · rw [if_pos (of_decide_eq_true y)] at post
    have hk : mix / 9 % 5 < 5 := Nat.mod_lt _ (by decide)
    have ea := evs_addRep (K := C.K) (i := 0) (x := S l) (c := "x") (a := " ") (b := "  ") (δ := [.dat (.str (S l)), .dat (.int (mix : Nat)), .dat (.lst ((rowsC l).map wD)), .dat (.int ((mix % 9 : Nat))), .dat (.int ((mix / 9 % ((rowsC l).length + 1) : Nat))), .no, .no, .no, .no]) rfl (by rw [lS]; show _ + 1 ≤ _; omega) (by rw [lS]; show _ + _ * 2 ≤ _; omega)
    rw [show S l ++ ("x" : Str) = S (l ++ [120]) by rw [x_S, S_add], show rep1 (S l) " " "  " = S (repW l) by rw [sp_S, sp2_S, repW_S]] at ea
    refine go_ret (evs_op (EvSN.ev (evs_lst (ds := [.str (S l.dropLast), .str (S (l ++ [10])), .str (S (10 :: l)), .str (S (l ++ [120])), .str (S (repW l))]) (evs_cons (EvS.to (evs_slB (evs_var rfl) evo_none (evo_some (evs_neg evs_int)) (by omega)) (congrArg Da.str (by rw [cutS_S, cut_last]))) (evs_cons (EvS.to (evs_op (evs_var rfl) evs_str (rv_addB (by rw [lS]; show _ + 1 ≤ _; omega))) (congrArg Da.str (by rw [nl_S, S_add]))) (evs_cons (EvS.to (evs_op evs_str (evs_var rfl) (rv_addB (by rw [lS]; show 1 + _ ≤ _; omega))) (congrArg Da.str (by rw [nl_S, S_add] <;> rfl))) ea))) (show 5 ≤ 1000 by decide))) (EvS.to (evs_op (eM rfl) evs_int (rv_i (g := fun i j => i % j) (by decide))) (congrArg Da.int (show _ = ((mix / 9 % 5 : Nat) : Int) by omega))) (rv_ixL (d := .str (S (oddW l (mix / 9 % 5)))) (atI_nat ?_))) post
    generalize mix / 9 % 5 = k at hk
    have : k = 0 ∨ k = 1 ∨ k = 2 ∨ k = 3 ∨ k = 4 := by omega
    rcases this with rfl | rfl | rfl | rfl | rfl <;> rfl
  rw [if_neg (of_decide_eq_false y)] at post
  refine sq_set (d := .int ((mix / 9 % (l.length + 1) : Nat))) (EvS.to (evs_op (eM rfl) (evs_op (evs_cb (evs_cons (evs_var rfl) evs_nil) (rc_lenB (by omega))) evs_int rv_addI) (rv_i (g := fun i j => i % j) (by show (0 : Int) < _; omega))) (congrArg Da.int (by rw [lS]; push_cast; rfl))) ?_
  refine sq_set (d := .str (S [sgW.getD (mix / 9000 % 18) 0])) (evs_op evs_str (EvS.to (evs_op (evs_op (evs_var rfl) evs_int (rv_i (g := fun i j => i / j) (by first | omega | exact ⟨by omega, by omega⟩ | decide))) evs_int (rv_i (g := fun i j => i % j) (by decide))) (congrArg Da.int (show _ = ((mix / 9000 % 18 : Nat) : Int) by omega))) (by rw [sgW_S]; exact rv_ixB (by rw [S_len]; decide) (sgW_at (Nat.mod_lt _ (by decide))))) ?_
  generalize sgW.getD (mix / 9000 % 18) 0 = c at post
  have hp : mix / 9 % (l.length + 1) ≤ l.length := Nat.le_of_lt_succ (Nat.mod_lt _ (Nat.succ_pos _))
  generalize mix / 9 % (l.length + 1) = k at post hp
  have cA : ∀ {δ : List Sl}, δ[0]? = some (.dat (.str (S l))) → δ[5]? = some (.dat (.int (k : Nat))) → EvS C.K (tSl (rSlU C.K) (tVar 0) tNoPart (tPart (tVar 5))) δ (.str (S (l.take k))) := fun h h2 => EvS.to (evs_slB (evs_var h) evo_none (evo_some (evs_var h2)) (by omega)) (congrArg Da.str (by rw [cutS_S, cut_to]))
  have cB : ∀ {δ : List Sl}, δ[0]? = some (.dat (.str (S l))) → δ[5]? = some (.dat (.int (k : Nat))) → EvS C.K (tSl (rSlU C.K) (tVar 0) (tPart (tVar 5)) tNoPart) δ (.str (S (l.drop k))) := fun h h2 => EvS.to (evs_slB (evs_var h) (evo_some (evs_var h2)) evo_none (by omega)) (congrArg Da.str (by rw [cutS_S, cut_from]))
  have cD : ∀ {δ : List Sl}, δ[0]? = some (.dat (.str (S l))) → δ[5]? = some (.dat (.int (k : Nat))) → EvS C.K (tSl (rSlU C.K) (tVar 0) (tPart (tOp (rAddU C.K) (tVar 5) (tC (.int 1)))) tNoPart) δ (.str (S (l.drop (k + 1)))) := fun h h2 => EvS.to (evs_slB (evs_var h) (evo_some (i := ((k + 1 : Nat) : Int)) (EvS.to (evs_op (evs_var h2) evs_int rv_addI) (congrArg Da.int (by omega)))) evo_none (by omega)) (congrArg Da.str (by rw [cutS_S, cut_from]))
  have lt : (S (l.take k)).length ≤ l.length := by rw [S_len, List.length_take]; omega
  have ld : (S (l.drop k)).length ≤ l.length := by rw [S_len, List.length_drop]; omega
  have le : (S (l.drop (k + 1))).length ≤ l.length := by rw [S_len, List.length_drop]; omega
  have l1 : (S [c]).length = 1 := rfl
  unfold signsW at post
  refine sq_if1 (b := decide (mix % 9 < 6)) (EvST.to (evt_test (evs_op (evs_var rfl) evs_int (rv_b0 (g := fun i j => decide (i < j))))) (decide_eq_decide.mpr ⟨fun h => by omega, fun h => by omega⟩)) (fun x => ?_) (fun x => ?_)
  · rw [if_pos (of_decide_eq_true x)] at post
    exact go_ret (EvS.to (evs_op (evs_op (cA rfl rfl) (evs_var rfl) (rv_addB (by omega))) (cB rfl rfl) (rv_addB (by rw [len_add]; omega))) (congrArg Da.str (by rw [S_add, S_add, List.append_assoc] <;> rfl))) post
  rw [if_neg (of_decide_eq_false x)] at post
  refine sq_if1 (b := decide (mix % 9 = 6)) (EvST.to (evt_test (evs_op (evs_var rfl) evs_int (rv_eq (n := 3) ok_int ok_int (by decide)))) ?_) (fun x => ?_) (fun x => ?_)
  · rw [eqD_int]
    exact decide_eq_decide.mpr ⟨fun h => by omega, fun h => by omega⟩
  · rw [if_pos (of_decide_eq_true x)] at post
    exact go_ret (EvS.to (evs_op (cA rfl rfl) (cD rfl rfl) (rv_addB (by omega))) (congrArg Da.str (by rw [S_add]))) post
  rw [if_neg (of_decide_eq_false x)] at post
  exact go_ret (EvS.to (evs_op (evs_op (cA rfl rfl) (evs_var rfl) (rv_addB (by omega))) (cD rfl rfl) (rv_addB (by rw [len_add]; omega))) (congrArg Da.str (by rw [S_add, S_add, List.append_assoc] <;> rfl))) post
theorem SpOk.more {l : Wd} (h : TxOk l) (h1 : l.length ≤ 19000) (m : Nat) : TxOk (spoilW l m) ∧ (spoilW l m).length ≤ 3 * l.length + 3 ∧ (spoilW l m).count 10 ≤ l.count 10 + 1 := by
  have a := spoil_len l m
  refine ⟨⟨fun c hc => ?_, by omega⟩, a, spoil_cnt l m⟩
  rcases spoil_mem hc with e | e | e | e | e
  · exact h.1 c e
  · have : ∀ c ∈ sgW, c = 32 ∨ c = 10 ∨ prn c := by unfold prn; decide
    exact this c e
  · exact .inl e
  · exact .inr (.inl e)
  · exact .inr (.inr (by rw [e]; unfold prn; decide))
end

section
variable {P : Program} {w : World} {K : PySem.W.Frag} {mg : Str → Option Value} {base : Heap} {A : Ad}
def duePr (qs : List (Wd × Wd)) : List Pr := qs.map fun q => (S q.1, S q.2)
theorem due_tQ (qs : List (Wd × Wd)) : (duePr qs).map tQ = qs.map toP := by unfold duePr; rw [List.map_map] <;> rfl
theorem due_dP (qs : List (Wd × Wd)) : (duePr qs).map dP = qs.map wP := by unfold duePr; rw [List.map_map] <;> rfl
theorem ms_str (ms : List Wd) : (ms.map S).map Da.str = ms.map wD := by rw [List.map_map] <;> rfl
theorem cl_S (a : Wd) : cl (S a) = a := S_list a
theorem ms_cl (ms : List Wd) : (ms.map S).map cl = ms := by
  rw [List.map_map]
  conv => rhs; rw [← List.map_id ms]
  exact List.map_congr_left fun a _ => cl_S a
theorem qs_cl (qs : List (Wd × Wd)) : (duePr qs).map cl2 = qs := by
  unfold duePr
  rw [List.map_map]
  conv => rhs; rw [← List.map_id qs]
  exact List.map_congr_left fun q _ => by
    show (cl (S q.1), cl (S q.2)) = q
    rw [cl_S, cl_S]
theorem ns_S (ns : List Str) : (ns.map cl).map S = ns := by
  rw [List.map_map]
  conv => rhs; rw [← List.map_id ns]
  exact List.map_congr_left fun a _ => S_cl a
theorem ps_S (ps : List Pr) : duePr (ps.map cl2) = ps := by
  unfold duePr
  rw [List.map_map]
  conv => rhs; rw [← List.map_id ps]
  exact List.map_congr_left fun p _ => by
    show (S (cl p.1), S (cl p.2)) = p
    rw [S_cl, S_cl]
theorem rows_le : ∀ rs : List Wd, rs.length ≤ ((rs.map (· ++ [10])).flatten).count 10
  | [] => Nat.le_refl _
  | r :: rs => by
    have ih := rows_le rs
    rw [List.map_cons, List.flatten_cons, List.count_append, List.count_append, List.length_cons]
    have : ([10] : List Nat).count 10 = 1 := rfl
    omega
theorem row_in {r : Wd} : ∀ {rs : List Wd}, r ∈ rs → (∀ c ∈ r, c ∈ (rs.map (· ++ [10])).flatten) ∧ r.length ≤ ((rs.map (· ++ [10])).flatten).length
  | [], h => by cases h
  | a :: t, h => by
    rw [List.map_cons, List.flatten_cons]
    rcases List.mem_cons.mp h with h | h
    · subst h
      exact ⟨fun c hc => List.mem_append_left _ (List.mem_append_left _ hc), by rw [List.length_append, List.length_append]; omega⟩
    · obtain ⟨h1, h2⟩ := row_in h
      exact ⟨fun c hc => List.mem_append_right _ (h1 c hc), by rw [List.length_append]; omega⟩
theorem read_words {l : Wd} {ms : List Wd} {qs : List (Wd × Wd)} (h : readT l = some (ms, qs)) :
    (∀ a ∈ ms, (∀ c ∈ a, c ∈ l) ∧ a.length ≤ l.length) ∧ (∀ q ∈ qs, (∀ c ∈ q.1, c ∈ l) ∧ ∀ c ∈ q.2, c ∈ l) ∧ ms.length + qs.length ≤ l.count 10 := by
  have e := write_read h
  subst e
  refine ⟨fun a ha => ?_, fun q hq => ?_, ?_⟩
  · obtain ⟨h1, h2⟩ := row_in (show nameR a ∈ writeR ms qs from List.mem_append_left _ (List.mem_map.mpr ⟨a, ha, rfl⟩))
    refine ⟨fun c hc => h1 c (by unfold nameR; simp [hc]), Nat.le_trans ?_ h2⟩
    unfold nameR
    rw [List.length_append, List.length_cons]
    omega
  · obtain ⟨h1, h2⟩ := row_in (show pairR q ∈ writeR ms qs from List.mem_append_right _ (List.mem_map.mpr ⟨q, hq, rfl⟩))
    exact ⟨fun c hc => h1 c (by unfold pairR; simp [hc]), fun c hc => h1 c (by unfold pairR; simp [hc])⟩
  · have := rows_le (writeR ms qs)
    rw [show (writeR ms qs).length = ms.length + qs.length by unfold writeR; rw [List.length_append, List.length_map, List.length_map]] at this
    exact this
theorem rd_cnt {l : Wd} (h : RdOk l) : l.count 10 ≤ 149 := by
  have := h.2
  rw [split_cnt] at this
  omega
theorem read_due {l : Wd} (hl : RdOk l) {ms : List Wd} {qs : List (Wd × Wd)} (h : readT l = some (ms, qs)) :
    (dueW (ms.map S) (duePr qs) = "" ∧ OkB (ms.map wD) (qs.map toP) (ms.map S) (duePr qs)) ∨
    ((∃ z : Str, dueW (ms.map S) (duePr qs) = z ∧ z ≠ "" ∧ okS z) ∧ ∃ B, BadB A (ms.map wD) (.lst (qs.map wP)) B ∧ R_l_kind A B (dueW (ms.map S) (duePr qs))) := by
  obtain ⟨w1, w2, w3⟩ := read_words h
  have cn := rd_cnt hl
  have kd : Kinded (ms.map wD) := fun t ht => by
    obtain ⟨a, ha, rfl⟩ := List.mem_map.mp ht
    refine ⟨⟨_, rfl⟩, fun x e => ?_⟩
    cases e
    rw [S_len]
    have := (w1 a ha).2
    have := hl.1.2
    omega
  have l256 := tx_256 hl.1
  unfold dueW
  rw [ms_str, due_tQ, List.length_map]
  by_cases h8 : 8 < ms.length
  · rw [if_pos h8]
    exact .inr ⟨⟨_, rfl, by decide +kernel, by unfold okS; decide +kernel⟩, A.C_TooMany, .inl ⟨⟨kd, by rw [List.length_map]; omega⟩, .inl ⟨by rw [List.length_map]; exact h8, rfl⟩⟩, .inl ⟨rfl, rfl⟩⟩
  rw [if_neg h8]
  cases hc : chk [] (ms.map wD) with
  | none => exact .inr ⟨⟨"name", rfl, by decide +kernel, by unfold okS; decide +kernel⟩, A.C_BadName, .inl ⟨⟨kd, by rw [List.length_map]; omega⟩, .inr ⟨by rw [List.length_map]; omega, hc, rfl⟩⟩, .inr (.inl ⟨rfl, rfl⟩)⟩
  | some ns =>
    have en : ms.map S = ns := by
      have := chk_is0 hc
      rw [← ms_str] at this
      exact str_inj this
    have nm := chk_nm _ _ _ hc fun x hx => by cases hx
    have k1 : Kinded (ms.map wD) ∧ (ms.map wD).length ≤ 8 ∧ chk [] (ms.map wD) = some ns := ⟨kd, by rw [List.length_map]; omega, hc⟩
    have qk : QOk ns (qs.map toP) := ⟨nm, fun q hq => by
      obtain ⟨p, hp, rfl⟩ := List.mem_map.mp hq
      obtain ⟨a1, a2⟩ := w2 p hp
      exact ⟨signs_ok fun c hc => l256 c (a1 c hc), signs_ok fun c hc => l256 c (a2 c hc)⟩, by rw [List.length_map]; omega⟩
    rw [en]
    cases hq : chkP ns [] (qs.map toP) with
    | ok ps =>
      have e := hq
      rw [← due_tQ] at e
      have e := chkP_seenQ e
      rw [List.map_map] at e
      have e : ps = duePr qs := by rw [e]; exact List.map_id' _
      subst e
      exact .inl ⟨by simp only [hq] <;> rfl, k1, qk, hq⟩
    | strange => exact .inr ⟨⟨"speech", by simp only [hq] <;> rfl, by decide +kernel, by unfold okS; decide +kernel⟩, A.C_NoSpeech, .inr ⟨ns, qs.map toP, .inl (congrArg Da.lst (wP_map qs)), k1, qk, .inl ⟨hq, rfl⟩⟩, .inr (.inr (.inl ⟨rfl, by simp only [hq] <;> rfl⟩))⟩
    | twice => exact .inr ⟨⟨"twice", by simp only [hq] <;> rfl, by decide +kernel, by unfold okS; decide +kernel⟩, A.C_Twice, .inr ⟨ns, qs.map toP, .inl (congrArg Da.lst (wP_map qs)), k1, qk, .inr ⟨hq, rfl⟩⟩, .inr (.inr (.inr (.inl ⟨rfl, by simp only [hq] <;> rfl⟩)))⟩
theorem ok_wr {ts : List Da} {qs : List (Bool × Pr)} {ns : List Str} {ps : List Pr} (h : OkB ts qs ns ps) : WrOk ns ps := by
  obtain ⟨⟨_, h8, hc⟩, ⟨_, _, hq⟩, hp⟩ := h
  have nm := chk_nm _ _ _ hc fun x hx => by cases hx
  have ln := chk_len _ _ _ hc
  obtain ⟨lp, mp⟩ := chkP_ok _ _ _ hp fun p hp => by cases hp
  rw [List.length_nil] at ln lp
  exact ⟨fun x hx => (nm x hx).2.1, fun p hp => ⟨(nm _ (mp p hp).1).2.1, (nm _ (mp p hp).2).2.1⟩, by omega, by omega⟩
/-- the text written -/
def txt (ns : List Str) (ps : List Pr) : Wd := writeT (ns.map cl) (ps.map cl2)
theorem nm_good {x : Str} (h : isNm x) : GoodW (cl x) := by
  obtain ⟨h1, h2, h3⟩ := h
  refine ⟨fun e => ?_, fun m => ?_, fun m => ?_⟩
  · have := cl_len (x := x)
    rw [e, List.length_nil] at this
    omega
  · have := h3 _ m
    omega
  · have := h3 _ m
    omega
theorem txt_rows {ns : List Str} {ps : List Pr} (nm : ∀ x ∈ ns, isNm x) (gp : ∀ p ∈ ps, p.1 ∈ ns ∧ p.2 ∈ ns) : ∀ r ∈ writeR (ns.map cl) (ps.map cl2), 10 ∉ r ∧ (∀ c ∈ r, c = 32 ∨ prn c) ∧ r.length + 1 ≤ 40 := by
  have wd : ∀ x ∈ ns, 10 ∉ cl x ∧ (∀ c ∈ cl x, c = 32 ∨ prn c) ∧ (cl x).length ≤ 8 := fun x hx => by
    obtain ⟨h1, h2, h3⟩ := nm x hx
    refine ⟨fun m => ?_, fun c m => ?_, by rw [cl_len]; exact h2⟩
    · have := h3 _ m
      omega
    · have := h3 c m
      unfold prn
      omega
  intro r hr
  unfold writeR at hr
  rcases List.mem_append.mp hr with hr | hr
  · obtain ⟨a, ha, rfl⟩ := List.mem_map.mp hr
    obtain ⟨x, hx, rfl⟩ := List.mem_map.mp ha
    obtain ⟨a1, a2, a3⟩ := wd x hx
    unfold nameR
    refine ⟨fun m => ?_, fun c m => ?_, ?_⟩
    · rcases List.mem_append.mp m with m | m
      · exact absurd m (by decide)
      · rcases List.mem_cons.mp m with m | m
        · cases m
        · exact a1 m
    · rcases List.mem_append.mp m with m | m
      · exact .inr (sp_prn c m)
      · rcases List.mem_cons.mp m with m | m
        · exact .inl m
        · exact a2 c m
    · rw [List.length_append, List.length_cons]
      have : spW.length = 6 := rfl
      omega
  · obtain ⟨a, ha, rfl⟩ := List.mem_map.mp hr
    obtain ⟨p, hp, rfl⟩ := List.mem_map.mp ha
    obtain ⟨g1, g2⟩ := gp p hp
    obtain ⟨a1, a2, a3⟩ := wd _ g1
    obtain ⟨b1, b2, b3⟩ := wd _ g2
    unfold pairR cl2
    refine ⟨fun m => ?_, fun c m => ?_, ?_⟩
    · rcases List.mem_append.mp m with m | m
      · exact absurd m (by decide)
      · rcases List.mem_cons.mp m with m | m
        · cases m
        · rcases List.mem_append.mp m with m | m
          · exact a1 m
          · rcases List.mem_cons.mp m with m | m
            · cases m
            · exact b1 m
    · rcases List.mem_append.mp m with m | m
      · exact .inr (ag_prn c m)
      · rcases List.mem_cons.mp m with m | m
        · exact .inl m
        · rcases List.mem_append.mp m with m | m
          · exact a2 c m
          · rcases List.mem_cons.mp m with m | m
            · exact .inl m
            · exact b2 c m
    · rw [List.length_append, List.length_cons, List.length_append, List.length_cons]
      have : agW.length = 7 := rfl
      show 7 + ((cl p.1).length + ((cl p.2).length + 1) + 1) + 1 ≤ 40
      omega
theorem sumL_le : ∀ {rs : List Wd}, (∀ r ∈ rs, r.length + 1 ≤ 40) → sumL rs ≤ 40 * rs.length
  | [], _ => Nat.le_refl _
  | r :: rs, h => by
    have ih := sumL_le fun q hq => h q (List.mem_cons_of_mem r hq)
    have := h r (List.mem_cons_self ..)
    rw [sumL_cons, List.length_cons]
    omega
theorem txt_ok {ns : List Str} {ps : List Pr} (nm : ∀ x ∈ ns, isNm x) (gp : ∀ p ∈ ps, p.1 ∈ ns ∧ p.2 ∈ ns) (nl : ns.length ≤ 8) (pl : ps.length ≤ 80) : TxOk (txt ns ps) ∧ (txt ns ps).length ≤ 3520 ∧ (txt ns ps).count 10 ≤ 88 := by
  have h := txt_rows nm gp
  have ll : (writeR (ns.map cl) (ps.map cl2)).length = ns.length + ps.length := by unfold writeR; rw [List.length_append, List.length_map, List.length_map, List.length_map, List.length_map]
  have a1 : (txt ns ps).length ≤ 3520 := by
    show ((((writeR _ _).map (· ++ [10])).flatten).length) ≤ _
    rw [flat_len]
    have := sumL_le fun r hr => (h r hr).2.2
    omega
  refine ⟨⟨fun c hc => ?_, by omega⟩, a1, ?_⟩
  · rcases flat_mem hc with e | ⟨r, hr, hc⟩
    · exact .inr (.inl e)
    · rcases (h r hr).2.1 c hc with e | e
      · exact .inl e
      · exact .inr (.inr e)
  · show ((((writeR _ _).map (· ++ [10])).flatten).count 10) ≤ _
    rw [flat_cnt fun r hr => (h r hr).1]
    omega
def R_law (ds : List Da) (d : Da) : Prop := ∃ (ns : List Int), ds = [.scr ns] ∧ ns.length ≤ 63 ∧ d = .bl true
abbrev sp_law (K : PySem.W.Frag) (A : Ad) : Sp := SpD K R_law
theorem ok_law (T : Tx K mg A) : FnOk P w K mg base CX0 7 A.f_law A.fd_law ["_law_script"] (sp_law K A) := by
  refine T.F_law.ok sc_law (spd_len (n := 1) (by rintro _ _ ⟨_, rfl, _, rfl⟩; rfl)) (fun cdv A' outer s H vs Q E hr h => ⟨_, (pss_cons (ps_asg (pe_call (ok_l_drawn T) (hr.mono (by decide) : Room 4 _) rfl T.g_l_drawn T.F_l_drawn.kp T.B_l_drawn .nil pass0 (pa_cons (pv 0) pa_nil)) (pg_tup rfl (pgs_cons (pg_name (i := 1) sc_law.nd rfl (Or.inl rfl)) (pgs_cons (pg_name (i := 2) sc_law.nd rfl (Or.inl rfl)) pgs_nil))))
  (pss_cons (ps_set (i := 3) sc_law.nd rfl (Or.inl rfl) (pe_call (ok_l_text T) (hr.mono (by decide) : Room 1 _) rfl T.g_l_text T.F_l_text.kp T.B_l_text .nil pass0 (pa_cons (pv 1) (pa_cons (pv 2) pa_nil))))
  (pss_cons (ps_set (i := 4) sc_law.nd rfl (Or.inl rfl) (pe_call (ok_l_read T) hr rfl T.g_l_read T.F_l_read.kp T.B_l_read .nil pass0 (pa_cons (pv 3) pa_nil)))
  (pss_cons (ps_if (PW.pt (pw_or (pt_not (pt_val (pe_callB call_isi rfl T.n_isinstance PyProof.Rows.boot_isinstance (pa_cons (pv 4) (pa_cons (pe_glob (v := .ref A.C_Bench) rfl T.g_Bench rfl) pa_nil))))) (pw_or (pt_cmpR (op_neD hr.units) (pe_fld (pv 4) rfl) (pe_callTy call_tupleU rfl T.n_tuple PyProof.Rows.boot_tuple (pa_cons (pv 1) pa_nil)) (nomark _)) (pw_or1 (pt_cmpR (op_neD hr.units) (pe_fld (pv 4) rfl) (pe_callTy call_tupleU rfl T.n_tuple PyProof.Rows.boot_tuple (pa_cons (pv 2) pa_nil)) (nomark _)))))) (pss_one (ps_ret pe_bl)) pss_nil)
  (pss_cons (ps_if (PW.pt (pw_or (pt_cmpR (op_neD hr.units) (pe_call (ok_written T) (hr.mono (by decide) : Room 1 _) rfl T.g_written T.F_written.kp T.B_written .nil pass0 (pa_cons (pv 4) pa_nil)) (pv 3) (nomark _)) (pw_or1 (pt_cmpR (op_neD hr.units) (pe_call (ok_written T) (hr.mono (by decide) : Room 1 _) rfl T.g_written T.F_written.kp T.B_written .nil pass0 (pa_cons (pe_make T.M_Bench (ok_Bench_init T) (hr.mono (by decide) : Room 4 _) rfl T.g_Bench T.B_Bench_init .nil passL (pa_cons (pv 1) (pa_cons (pv 2) pa_nil))) pa_nil)) (pv 3) (nomark _))))) (pss_one (ps_ret pe_bl)) pss_nil)
  (pss_cons (ps_for PassesOwn.never rfl (pi_range1 rfl T.n_range (pa_cons pe_int pa_nil)) (pg_name (i := 5) sc_law.nd rfl (Or.inl rfl))
  (pss_cons (ps_set (i := 6) sc_law.nd rfl (Or.inl rfl) (pe_call (ok_l_spoilt T) (hr.mono (by decide) : Room 1 _) rfl T.g_l_spoilt T.F_l_spoilt.kp T.B_l_spoilt .nil pass0 (pa_cons (pv 3) (pa_cons (pe_call (ok_l_mixed T) (hr.mono (by decide) : Room 1 _) rfl T.g_l_mixed T.F_l_mixed.kp T.B_l_mixed .nil pass0 (pa_cons (pe_call (ok_l_cell_at T) (hr.mono (by decide) : Room 2 _) rfl T.g_l_cell_at T.F_l_cell_at.kp T.B_l_cell_at .nil pass0 (pa_cons (pv 0) (pa_cons (pv 5) pa_nil))) (pa_cons pe_int pa_nil))) pa_nil))))
  (pss_cons (ps_if (pt_cmpR (op_eqD hr.units) (pe_op op_mod (pv 5) pe_int) pe_int (nomark _)) (pss_one (ps_set (i := 6) sc_law.nd rfl (Or.inl rfl) (pe_call (ok_l_spoilt T) (hr.mono (by decide) : Room 1 _) rfl T.g_l_spoilt T.F_l_spoilt.kp T.B_l_spoilt .nil pass0 (pa_cons (pv 6) (pa_cons (pe_call (ok_l_mixed T) (hr.mono (by decide) : Room 1 _) rfl T.g_l_mixed T.F_l_mixed.kp T.B_l_mixed .nil pass0 (pa_cons (pe_call (ok_l_cell_at T) (hr.mono (by decide) : Room 2 _) rfl T.g_l_cell_at T.F_l_cell_at.kp T.B_l_cell_at .nil pass0 (pa_cons (pv 0) (pa_cons (pv 5) pa_nil))) (pa_cons pe_int pa_nil))) pa_nil))))) pss_nil)
  (pss_cons (ps_set (i := 7) sc_law.nd rfl (Or.inl rfl) (pe_call (ok_l_parted T) (hr.mono (by decide) : Room 1 _) rfl T.g_l_parted T.F_l_parted.kp T.B_l_parted .nil pass0 (pa_cons (pv 6) pa_nil)))
  (pss_cons (ps_set (i := 8) sc_law.nd rfl (Or.inl rfl) (pe_call (ok_l_read T) hr rfl T.g_l_read T.F_l_read.kp T.B_l_read .nil pass0 (pa_cons (pv 6) pa_nil)))
  (pss_cons (ps_set (i := 9) sc_law.nd rfl (Or.inl rfl) pe_str)
  (pss_cons (ps_if (pt_cmpR op_notN (pv 7) pe_non (nomark _)) (pss_one (ps_set (i := 9) sc_law.nd rfl (Or.inl rfl) (pe_call (ok_l_due T) (hr.mono (by decide) : Room 2 _) rfl T.g_l_due T.F_l_due.kp T.B_l_due .nil pass0 (pa_cons (pe_ix ix_seq (pv 7) pe_int (fun _ _ => rfl)) (pa_cons (pe_ix ix_seq (pv 7) pe_int (fun _ _ => rfl)) pa_nil))))) pss_nil)
  (pss_cons (ps_if (PW.pt (pw_and (pt_cmpR (op_neD hr.units) (pv 9) pe_str (nomark _)) (pw_and1 (pt_cmpR (op_neD hr.units) (pv 8) (pv 9) (nomark _))))) (pss_one (ps_ret pe_bl)) pss_nil)
  (pss_one (ps_if (PW.pt (pw_and (pt_cmpR (op_eqD hr.units) (pv 9) pe_str (nomark _)) (pw_and1 (PW.pt (pw_or (pt_not (pt_val (pe_callB call_isi rfl T.n_isinstance PyProof.Rows.boot_isinstance (pa_cons (pv 8) (pa_cons (pe_glob (v := .ref A.C_Bench) rfl T.g_Bench rfl) pa_nil))))) (pw_or1 (pt_cmpR (op_neD hr.units) (pe_call (ok_written T) (hr.mono (by decide) : Room 1 _) rfl T.g_written T.F_written.kp T.B_written .nil pass0 (pa_cons (pv 8) pa_nil)) (pv 6) (nomark _)))))))) (pss_one (ps_ret pe_bl)) pss_nil))))))))))
  (pss_one (ps_ret (pe_cmpR (op_eqD hr.units) (pe_fld (pe_call (ok_l_read T) hr rfl T.g_l_read T.F_l_read.kp T.B_l_read .nil pass0 (pa_cons (pv 3) pa_nil)) rfl) (pe_callTy call_tupleU rfl T.n_tuple PyProof.Rows.boot_tuple (pa_cons (pv 2) pa_nil)) (nomark _)))))))))), spd_body (N := N_law) (ts := (tSeq (tAsg (tCall (sp_l_drawn K A) [] E0 (tCons (tVar 0) tNil)) (gTup K 2 (gCons (gName 1) (gCons (gName 2) gNil)))) (tSeq (tAsg (tCall (sp_l_text K A) [] E0 (tCons (tVar 1) (tCons (tVar 2) tNil))) (gName 3)) (tSeq (tAsg (tCall (sp_l_read K A) [] E0 (tCons (tVar 3) tNil)) (gName 4)) (tSeq (tIfS (tOr (tNot (tB (tCB (rIsi K) (tCons (tVar 4) (tCons (tC (.ref A.C_Bench)) tNil))))) (tOr (tTest (tOp (rNeD K) (tFld K (tVar 4) "names") (tCB (rTuple K) (tCons (tVar 1) tNil)))) (tTest (tOp (rNeD K) (tFld K (tVar 4) "pairs") (tCB (rTuple K) (tCons (tVar 2) tNil)))))) (tRet (tC (.bl false))) tNext) (tSeq (tIfS (tOr (tTest (tOp (rNeD K) (tCall (sp_written K A) [] E0 (tCons (tVar 4) tNil)) (tVar 3))) (tTest (tOp (rNeD K) (tCall (sp_written K A) [] E0 (tCons (tMake A.C_Bench (sp_Bench_init K A) [] E0 (tCons (tVar 1) (tCons (tVar 2) tNil))) tNil)) (tVar 3)))) (tRet (tC (.bl false))) tNext) (tSeq (tFor (iRng1 (tCons (tC (.int 6)) tNil)) (gName 5) (tSeq (tAsg (tCall (sp_l_spoilt K A) [] E0 (tCons (tVar 3) (tCons (tCall (sp_l_mixed K A) [] E0 (tCons (tCall (sp_l_cell_at K A) [] E0 (tCons (tVar 0) (tCons (tVar 5) tNil))) (tCons (tC (.int 20)) tNil))) tNil))) (gName 6)) (tSeq (tIfS (tTest (tOp (rEqD K) (tOp (rI (fun _ j => 0 < j) fun i j => .int (i % j)) (tVar 5) (tC (.int 2))) (tC (.int 1)))) (tAsg (tCall (sp_l_spoilt K A) [] E0 (tCons (tVar 6) (tCons (tCall (sp_l_mixed K A) [] E0 (tCons (tCall (sp_l_cell_at K A) [] E0 (tCons (tVar 0) (tCons (tVar 5) tNil))) (tCons (tC (.int 21)) tNil))) tNil))) (gName 6)) tNext) (tSeq (tAsg (tCall (sp_l_parted K A) [] E0 (tCons (tVar 6) tNil)) (gName 7)) (tSeq (tAsg (tCall (sp_l_read K A) [] E0 (tCons (tVar 6) tNil)) (gName 8)) (tSeq (tAsg (tC (.str "text")) (gName 9)) (tSeq (tIfS (tTest (tOp (fun x y H Q => y = .non ∧ Q (.bl (!decide (x = .non))) H) (tVar 7) (tC .non))) (tAsg (tCall (sp_l_due K A) [] E0 (tCons (tOp (rIx K) (tVar 7) (tC (.int 0))) (tCons (tOp (rIx K) (tVar 7) (tC (.int 1))) tNil))) (gName 9)) tNext) (tSeq (tIfS (tAnd (tTest (tOp (rNeD K) (tVar 9) (tC (.str "")))) (tTest (tOp (rNeD K) (tVar 8) (tVar 9)))) (tRet (tC (.bl false))) tNext) (tIfS (tAnd (tTest (tOp (rEqD K) (tVar 9) (tC (.str "")))) (tOr (tNot (tB (tCB (rIsi K) (tCons (tVar 8) (tCons (tC (.ref A.C_Bench)) tNil))))) (tTest (tOp (rNeD K) (tCall (sp_written K A) [] E0 (tCons (tVar 8) tNil)) (tVar 6))))) (tRet (tC (.bl false))) tNext))))))))) (tRet (tOp (rEqD K) (tFld K (tCall (sp_l_read K A) [] E0 (tCons (tVar 3) tNil)) "pairs") (tCB (rTuple K) (tCons (tVar 2) tNil))))))))))) (by rintro _ _ ⟨_, rfl, _, rfl⟩; exact (by decide : 1 ≤ N_law.length)) ?_ _ _ _ _ h⟩)
  rintro _ _ ⟨ns, rfl, hns, rfl⟩ C Q rfl post
  have nl := nmsOf_len ns
  have nd := nmsOf_nd ns
  have nm := nmsOf_nm ns
  have gp := psOf_good ns
  have pl := psOf_len hns
  refine sq_setG (d := .tup [.lst ((nmsOf ns).map Da.str), .lst ((psOf ns).map dP)]) (evs_call (evs_cons (evs_var rfl) evs_nil) ⟨ns, rfl, hns, rfl⟩) tga_tup2 ?_
  show Go C _ _ [.dat (.scr ns), .dat (.lst ((nmsOf ns).map Da.str)), .dat (.lst ((psOf ns).map dP)), .no, .no, .no, .no, .no, .no, .no]
  generalize nmsOf ns = nms at *
  generalize psOf ns = ps at *
  have okn : ∀ x ∈ nms, okS x := fun x hx => nm_ok (nm x hx)
  have okp : ∀ p ∈ ps, okS p.1 ∧ okS p.2 := fun p hp => ⟨okn _ (gp.mem p hp).1, okn _ (gp.mem p hp).2⟩
  obtain ⟨t1, t2, t3⟩ := txt_ok nm gp.mem nl (by omega)
  have rd : readT (txt nms ps) = some (nms.map cl, ps.map cl2) := read_write (fun a ha => by
    obtain ⟨x, hx, rfl⟩ := List.mem_map.mp ha
    exact nm_good (nm x hx)) fun q hq => by
    obtain ⟨p, hp, rfl⟩ := List.mem_map.mp hq
    exact ⟨nm_good (nm _ (gp.mem p hp).1), nm_good (nm _ (gp.mem p hp).2)⟩
  have ok0 : RdOk (txt nms ps) := ⟨t1, by rw [split_cnt]; omega⟩
  have cp : chkP nms [] (ps.map tQ) = .ok ps := by
    rw [chkP_good (ps.map tQ) [] (fun q hq => by
      obtain ⟨p, hp, rfl⟩ := List.mem_map.mp hq
      exact gp.mem p hp) (by
      rw [List.nil_append, List.map_map]
      have : ps.map ((fun q : Bool × Pr => q.2) ∘ tQ) = ps := List.map_id' _
      rw [this]
      exact gp.nd), List.nil_append, List.map_map]
    exact congrArg PR.ok (List.map_id' _)
  have kd : Kinded (nms.map Da.str) ∧ (nms.map Da.str).length ≤ 8 ∧ chk [] (nms.map Da.str) = some nms := ⟨fun t ht => by
    obtain ⟨x, hx, rfl⟩ := List.mem_map.mp ht
    exact ⟨⟨_, rfl⟩, fun y e => by cases e; have := (nm x hx).2.1; omega⟩, by rw [List.length_map]; exact nl, chk_good nms [] nm (by simpa using nd)⟩
  have okb : OkB (nms.map Da.str) (ps.map tQ) nms ps := ⟨kd, ⟨nm, fun q hq => by
    obtain ⟨p, hp, rfl⟩ := List.mem_map.mp hq
    exact okp p hp, by rw [List.length_map]; omega⟩, cp⟩
  have wr := ok_wr okb
  have okb2 : OkB ((nms.map cl).map wD) ((ps.map cl2).map toP) nms ps := by
    rw [← ms_str, ns_S, ← due_tQ, ps_S]
    exact okb
  have okt : okS (S (txt nms ps)) := signs_ok (tx_256 t1)
  have r0 : R_l_read A [.str (S (txt nms ps))] (benchD A nms ps) := .inl ⟨_, _, _, nms, ps, rfl, ok0, rd, okb2, rfl⟩
  have w0 : R_written A [benchD A nms ps] (.str (S (txt nms ps))) := ⟨nms, ps, rfl, wr, rfl⟩
  refine sq_set (d := .str (S (txt nms ps))) (evs_call (evs_cons (evs_var rfl) (evs_cons (evs_var rfl) evs_nil)) ⟨nms, ps, rfl, wr, rfl⟩) ?_
  refine sq_set (d := benchD A nms ps) (evs_call (evs_cons (evs_var rfl) evs_nil) r0) ?_
  refine sq_no (EvST.to (evt_or (evt_not (evt_B (evs_cb (evs_cons (evs_var (d := benchD A nms ps) rfl) (evs_cons evs_cls evs_nil)) (rc_isiO T.io_Bench T.cl_Bench)))) (fun _ => evt_or (evt_test (evs_op (evs_names T (evs_var rfl)) (evs_cb (evs_cons (evs_var rfl) evs_nil) rc_tupleL) (rv_ne (n := 3) (ok_strT okn) (ok_strT okn) (by decide)))) (fun _ => evt_test (evs_op (evs_pairs T (evs_var rfl)) (evs_cb (evs_cons (evs_var rfl) evs_nil) rc_tupleL) (rv_ne (n := 3) (ok_dPT okp) (ok_dPT okp) (by decide)))))) ?_) ?_
  · rw [eqD_strT, eqD_dPT, decide_eq_true rfl, decide_eq_true rfl] <;> rfl
  refine sq_no (EvST.to (evt_or (evt_test (evs_op (evs_call (evs_cons (evs_var rfl) evs_nil) w0) (evs_var rfl) (rv_ne (n := 3) (ok_str okt) (ok_str okt) (by decide)))) (fun _ => evt_test (evs_op (evs_call (evs_cons (evs_bench T (evs_cons (evs_var rfl) (evs_cons (evs_var rfl) evs_nil)) (.inl rfl) (.inl (congrArg Da.lst (dQ_t ps).symm)) okb) evs_nil) w0) (evs_var rfl) (rv_ne (n := 3) (ok_str okt) (ok_str okt) (by decide))))) ?_) ?_
  · rw [eqD_str, decide_eq_true rfl] <;> rfl
  have okE : okS ("" : Str) := by unfold okS; decide +kernel
  have okT : okS ("text" : Str) := by unfold okS; decide +kernel
  generalize hl0 : txt nms ps = l0 at *
  have rest : ∀ (P' : _) (D : Ends) (l : Wd) (x5 x7 x8 x9 : Sl), RdOk l → (∀ a b c e f, Nx (C.pin P') D.nx [.dat (.scr ns), .dat (.lst (nms.map Da.str)), .dat (.lst (ps.map dP)), .dat (.str (S l0)), .dat (benchD A nms ps), a, b, c, e, f]) →
      Go (C.pin P') ((tSeq (tAsg (tCall (sp_l_parted C.K A) [] E0 (tCons (tVar 6) tNil)) (gName 7)) (tSeq (tAsg (tCall (sp_l_read C.K A) [] E0 (tCons (tVar 6) tNil)) (gName 8)) (tSeq (tAsg (tC (.str "text")) (gName 9)) (tSeq (tIfS (tTest (tOp (fun x y H Q => y = .non ∧ Q (.bl (!decide (x = .non))) H) (tVar 7) (tC .non))) (tAsg (tCall (sp_l_due C.K A) [] E0 (tCons (tOp (rIx C.K) (tVar 7) (tC (.int 0))) (tCons (tOp (rIx C.K) (tVar 7) (tC (.int 1))) tNil))) (gName 9)) tNext) (tSeq (tIfS (tAnd (tTest (tOp (rNeD C.K) (tVar 9) (tC (.str "")))) (tTest (tOp (rNeD C.K) (tVar 8) (tVar 9)))) (tRet (tC (.bl false))) tNext) (tIfS (tAnd (tTest (tOp (rEqD C.K) (tVar 9) (tC (.str "")))) (tOr (tNot (tB (tCB (rIsi C.K) (tCons (tVar 8) (tCons (tC (.ref A.C_Bench)) tNil))))) (tTest (tOp (rNeD C.K) (tCall (sp_written C.K A) [] E0 (tCons (tVar 8) tNil)) (tVar 6))))) (tRet (tC (.bl false))) tNext))))))) D [.dat (.scr ns), .dat (.lst (nms.map Da.str)), .dat (.lst (ps.map dP)), .dat (.str (S l0)), .dat (benchD A nms ps), x5, .dat (.str (S l)), x7, x8, x9] := by
    intro P' D l x5 x7 x8 x9 ok nx
    have okl : okS (S l) := signs_ok (tx_256 ok.1)
    -- the ends: a word that is due, or the bench
    have bad : ∀ (x5 x7 : Sl) (z : Str), okS z → z ≠ "" → Go (C.pin P') ((tSeq (tIfS (tAnd (tTest (tOp (rNeD C.K) (tVar 9) (tC (.str "")))) (tTest (tOp (rNeD C.K) (tVar 8) (tVar 9)))) (tRet (tC (.bl false))) tNext) (tIfS (tAnd (tTest (tOp (rEqD C.K) (tVar 9) (tC (.str "")))) (tOr (tNot (tB (tCB (rIsi C.K) (tCons (tVar 8) (tCons (tC (.ref A.C_Bench)) tNil))))) (tTest (tOp (rNeD C.K) (tCall (sp_written C.K A) [] E0 (tCons (tVar 8) tNil)) (tVar 6))))) (tRet (tC (.bl false))) tNext))) D [.dat (.scr ns), .dat (.lst (nms.map Da.str)), .dat (.lst (ps.map dP)), .dat (.str (S l0)), .dat (benchD A nms ps), x5, .dat (.str (S l)), x7, .dat (.str z), .dat (.str z)] := by
      intro x5 x7 z oz nz
      refine sq_no (EvST.to (evt_and (evt_test (evs_op (evs_var rfl) (evs_str (i := "")) (rv_ne (n := 3) (ok_str oz) (ok_str okE) (by decide)))) (fun _ => evt_test (evs_op (evs_var rfl) (evs_var rfl) (rv_ne (n := 3) (ok_str oz) (ok_str oz) (by decide))))) (by rw [eqD_str, eqD_str, decide_eq_true rfl, Bool.not_true, Bool.and_false])) ?_
      exact go_if (b := false) (EvST.to (evt_and (c := false) (evt_test (evs_op (evs_var rfl) (evs_str (i := "")) (rv_eq (n := 3) (ok_str oz) (ok_str okE) (by decide)))) (fun y => by rw [eqD_str] at y; exact absurd (of_decide_eq_true y) nz)) (by rw [Bool.and_false])) (fun y => by cases y) (fun _ => go_one (nx _ _ _ _ _))
    refine sq_set (d := match readT l with
      | none => .non
      | some q => .tup [.lst (q.1.map wD), .lst (q.2.map wP)]) (evs_call (evs_cons (evs_var rfl) evs_nil) ⟨l, rfl, ok, rfl⟩) ?_
    cases hr : readT l with
    | none =>
      refine sq_set (d := .str "text") (evs_call (evs_cons (evs_var rfl) evs_nil) (.inr ⟨A.C_NoText, "text", ⟨l, rfl, ok, .inl ⟨hr, rfl⟩⟩, .inr (.inr (.inr (.inr ⟨rfl, rfl⟩))), rfl⟩)) ?_
      refine sq_set (d := .str "text") evs_str ?_
      refine sq_no (evt_test (evs_op (evs_var rfl) evs_non (rv_notN (b := false) (by simp)))) ?_
      exact bad _ _ _ okT (by decide +kernel)
    | some q =>
      obtain ⟨ms, qs⟩ := q
      have good := read_due (A := A) ok hr
      have dok : DueOk (ms.map S) (duePr qs) := by
        obtain ⟨w1, w2, w3⟩ := read_words hr
        have l256 := tx_256 ok.1
        have cn := rd_cnt ok
        refine ⟨fun x hx => ?_, fun p hp => ?_, by rw [List.length_map]; omega, by unfold duePr; rw [List.length_map]; omega⟩
        · obtain ⟨a, ha, rfl⟩ := List.mem_map.mp hx
          refine ⟨signs_ok fun c hc => l256 c ((w1 a ha).1 c hc), ?_⟩
          rw [S_len]
          have := (w1 a ha).2
          have := ok.1.2
          omega
        · obtain ⟨a, ha, rfl⟩ := List.mem_map.mp hp
          exact ⟨signs_ok fun c hc => l256 c ((w2 a ha).1 c hc), signs_ok fun c hc => l256 c ((w2 a ha).2 c hc)⟩
      have rdue : R_l_due [.lst (ms.map wD), .lst (qs.map wP)] (.str (dueW (ms.map S) (duePr qs))) := ⟨ms.map S, duePr qs, by rw [ms_str, due_dP], dok, rfl⟩
      have two : ∀ {δ : List Sl}, δ[7]? = some (.dat (.tup [.lst (ms.map wD), .lst (qs.map wP)])) → EvSA C.K (tCons (tOp (rIx C.K) (tVar 7) (tC (.int 0))) (tCons (tOp (rIx C.K) (tVar 7) (tC (.int 1))) tNil)) δ [.lst (ms.map wD), .lst (qs.map wP)] := fun h => evs_cons (evs_op (evs_var h) evs_int (rv_ixT (d := .lst (ms.map wD)) rfl)) (evs_cons (evs_op (evs_var h) evs_int (rv_ixT (d := .lst (qs.map wP)) rfl)) evs_nil)
      rcases good with ⟨e, okB⟩ | ⟨⟨z, ez, nz, oz⟩, B, hB, hk⟩
      · refine sq_set (d := benchD A (ms.map S) (duePr qs)) (evs_call (evs_cons (evs_var rfl) evs_nil) (.inl ⟨l, ms, qs, _, _, rfl, ok, hr, okB, rfl⟩)) ?_
        refine sq_set (d := .str "text") evs_str ?_
        rw [e] at rdue
        refine sq_if1 (b := true) (evt_test (evs_op (evs_var (d := .tup [.lst (ms.map wD), .lst (qs.map wP)]) rfl) evs_non (rv_notN (b := true) (by simp)))) (fun _ => ?_) (fun y => by cases y)
        refine go_set (d := .str "") (evs_call (two rfl) rdue) (nx_go ?_)
        refine sq_no (EvST.to (evt_and (c := false) (evt_test (evs_op (evs_var (d := .str "") rfl) (evs_str (i := "")) (rv_ne (n := 3) (ok_str okE) (ok_str okE) (by decide)))) (fun y => by rw [eqD_str, decide_eq_true rfl] at y; cases y)) (by rw [Bool.and_false])) ?_
        refine go_if (b := false) (EvST.to (evt_and (evt_test (evs_op (evs_var (d := .str "") rfl) (evs_str (i := "")) (rv_eq (n := 3) (ok_str okE) (ok_str okE) (by decide)))) (fun _ => evt_or (evt_not (evt_B (evs_cb (evs_cons (evs_var (d := benchD A (ms.map S) (duePr qs)) rfl) (evs_cons evs_cls evs_nil)) (rc_isiO T.io_Bench T.cl_Bench)))) (fun _ => evt_test (evs_op (evs_call (d := .str (S l)) (evs_cons (evs_var (d := benchD A (ms.map S) (duePr qs)) rfl) evs_nil) ⟨_, _, rfl, ok_wr okB, by rw [ms_cl, qs_cl, write_read hr]⟩) (evs_var rfl) (rv_ne (n := 3) (ok_str okl) (ok_str okl) (by decide)))))) ?_) (fun y => by cases y) (fun _ => go_one (nx _ _ _ _ _))
        rw [eqD_str, eqD_str, decide_eq_true rfl, decide_eq_true rfl] <;> rfl
      · rw [ez] at rdue hk
        refine sq_set (d := .str z) (evs_call (evs_cons (evs_var rfl) evs_nil) (.inr ⟨B, z, ⟨l, rfl, ok, .inr ⟨ms, qs, hr, hB⟩⟩, hk, rfl⟩)) ?_
        refine sq_set (d := .str "text") evs_str ?_
        refine sq_if1 (b := true) (evt_test (evs_op (evs_var (d := .tup [.lst (ms.map wD), .lst (qs.map wP)]) rfl) evs_non (rv_notN (b := true) (by simp)))) (fun _ => ?_) (fun y => by cases y)
        exact go_set (d := .str z) (evs_call (two rfl) rdue) (nx_go (bad _ _ _ oz nz))
  have mx : ∀ (c k : Int), ∃ m : Nat, mixed c k = m := fun c k => ⟨(mixed c k).toNat, (Int.toNat_of_nonneg (mixed_lo c k)).symm⟩
  refine sq_for (itd_rng1 (n := 6) (evs_cons evs_int evs_nil) (by omega) (by omega)) (fun i δ => ∃ a b c e f, δ = [.dat (.scr ns), .dat (.lst (nms.map Da.str)), .dat (.lst (ps.map dP)), .dat (.str (S l0)), .dat (benchD A nms ps), a, b, c, e, f]) ⟨.no, .no, .no, .no, .no, rfl⟩ ?_ ?_
  · rintro P' i d _ hd ⟨a, b, c, e, f, rfl⟩
    obtain ⟨hi, rfl⟩ := rng0_at hd
    refine ⟨_, tga_name, ?_⟩
    obtain ⟨m, em⟩ := mx (cellAt ns i) 20
    obtain ⟨m2, em2⟩ := mx (cellAt ns i) 21
    obtain ⟨a1, a2, a3⟩ := SpOk.more t1 (by omega) m
    refine sq_set (d := .str (S (spoilW l0 m))) (evs_call (evs_cons (evs_var rfl) (evs_cons (EvS.to (evs_call (evs_cons (evs_call (evs_cons (evs_var rfl) (evs_cons (evs_var rfl) evs_nil)) (r_l_cell_at (k := i))) (evs_cons evs_int evs_nil)) r_l_mixed) (congrArg Da.int em)) evs_nil)) ⟨l0, m, rfl, ⟨t1, by omega, by omega⟩, rfl⟩) ?_
    generalize spoilW l0 m = l1 at a1 a2 a3
    obtain ⟨b1, b2, b3⟩ := SpOk.more a1 (by omega) m2
    refine sq_if (b := decide (i % 2 = 1)) (EvST.to (evt_test (evs_op (evs_op (evs_var rfl) evs_int (rv_i (g := fun i j => i % j) (by decide))) evs_int (rv_eq (n := 3) ok_int ok_int (by decide)))) ?_) (fun _ => ?_) (fun _ => ?_)
    · rw [eqD_int]
      exact decide_eq_decide.mpr ⟨fun h => by omega, fun h => by omega⟩
    · refine go_set (d := .str (S (spoilW l1 m2))) (evs_call (evs_cons (evs_var rfl) (evs_cons (EvS.to (evs_call (evs_cons (evs_call (evs_cons (evs_var rfl) (evs_cons (evs_var rfl) evs_nil)) (r_l_cell_at (k := i))) (evs_cons evs_int evs_nil)) r_l_mixed) (congrArg Da.int em2)) evs_nil)) ⟨l1, m2, rfl, ⟨a1, by omega, by omega⟩, rfl⟩) (nx_go ?_)
      exact rest P' _ _ _ _ _ _ ⟨b1, by rw [split_cnt]; omega⟩ fun a b c e f => nx_end ⟨a, b, c, e, f, rfl⟩
    · exact go_one (nx_go (rest P' _ _ _ _ _ _ ⟨a1, by rw [split_cnt]; omega⟩ fun a b c e f => nx_end ⟨a, b, c, e, f, rfl⟩))
  · rintro _ ⟨a, b, c, e, f, rfl⟩
    refine go_ret (EvS.to (evs_op (evs_pairs T (evs_call (evs_cons (evs_var rfl) evs_nil) r0)) (evs_cb (evs_cons (evs_var rfl) evs_nil) rc_tupleL) (rv_eq (n := 3) (ok_dPT okp) (ok_dPT okp) (by decide))) ?_) post
    rw [eqD_dPT, decide_eq_true rfl]
end

/-! # The end -/
theorem all_mk {K : PySem.W.Frag} {h : Heap} {mg : Str → Option Value} {fa : Addr} (X : K.In h) (G : h.Ns mainGlobals mg) (hfa : mg "law" = some (.ref fa))
    {oc__wall kV__wall dc__wall pm__wall cd__wall ct__wall : Value} {od__wall an__wall : Option Addr} {sl__wall : Array (Option Value)} {a__wall : Addr}
    {oc_is_name kV_is_name dc_is_name pm_is_name cd_is_name ct_is_name : Value} {od_is_name an_is_name : Option Addr} {sl_is_name : Array (Option Value)} {a_is_name : Addr}
    {oc_Bench_init kV_Bench_init dc_Bench_init pm_Bench_init cd_Bench_init ct_Bench_init : Value} {od_Bench_init an_Bench_init : Option Addr} {sl_Bench_init : Array (Option Value)} {a_Bench_init : Addr}
    {oc_Bench_speakers kV_Bench_speakers dc_Bench_speakers pm_Bench_speakers cd_Bench_speakers ct_Bench_speakers : Value} {od_Bench_speakers an_Bench_speakers : Option Addr} {sl_Bench_speakers : Array (Option Value)} {a_Bench_speakers : Addr}
    {oc_checked_names kV_checked_names dc_checked_names pm_checked_names cd_checked_names ct_checked_names : Value} {od_checked_names an_checked_names : Option Addr} {sl_checked_names : Array (Option Value)} {a_checked_names : Addr}
    {oc_checked_pairs kV_checked_pairs dc_checked_pairs pm_checked_pairs cd_checked_pairs ct_checked_pairs : Value} {od_checked_pairs an_checked_pairs : Option Addr} {sl_checked_pairs : Array (Option Value)} {a_checked_pairs : Addr}
    {oc_check_speech kV_check_speech dc_check_speech pm_check_speech cd_check_speech ct_check_speech : Value} {od_check_speech an_check_speech : Option Addr} {sl_check_speech : Array (Option Value)} {a_check_speech : Addr}
    {oc_written kV_written dc_written pm_written cd_written ct_written : Value} {od_written an_written : Option Addr} {sl_written : Array (Option Value)} {a_written : Addr}
    {oc_read kV_read dc_read pm_read cd_read ct_read : Value} {od_read an_read : Option Addr} {sl_read : Array (Option Value)} {a_read : Addr}
    {oc_rows_of kV_rows_of dc_rows_of pm_rows_of cd_rows_of ct_rows_of : Value} {od_rows_of an_rows_of : Option Addr} {sl_rows_of : Array (Option Value)} {a_rows_of : Addr}
    {oc_is_form kV_is_form dc_is_form pm_is_form cd_is_form ct_is_form : Value} {od_is_form an_is_form : Option Addr} {sl_is_form : Array (Option Value)} {a_is_form : Addr}
    {oc_is_word kV_is_word dc_is_word pm_is_word cd_is_word ct_is_word : Value} {od_is_word an_is_word : Option Addr} {sl_is_word : Array (Option Value)} {a_is_word : Addr}
    {oc_l_cell_at kV_l_cell_at dc_l_cell_at pm_l_cell_at cd_l_cell_at ct_l_cell_at : Value} {od_l_cell_at an_l_cell_at : Option Addr} {sl_l_cell_at : Array (Option Value)} {a_l_cell_at : Addr}
    {oc_l_mixed kV_l_mixed dc_l_mixed pm_l_mixed cd_l_mixed ct_l_mixed : Value} {od_l_mixed an_l_mixed : Option Addr} {sl_l_mixed : Array (Option Value)} {a_l_mixed : Addr}
    {oc_l_names kV_l_names dc_l_names pm_l_names cd_l_names ct_l_names : Value} {od_l_names an_l_names : Option Addr} {sl_l_names : Array (Option Value)} {a_l_names : Addr}
    {oc_l_pairs kV_l_pairs dc_l_pairs pm_l_pairs cd_l_pairs ct_l_pairs : Value} {od_l_pairs an_l_pairs : Option Addr} {sl_l_pairs : Array (Option Value)} {a_l_pairs : Addr}
    {oc_l_drawn kV_l_drawn dc_l_drawn pm_l_drawn cd_l_drawn ct_l_drawn : Value} {od_l_drawn an_l_drawn : Option Addr} {sl_l_drawn : Array (Option Value)} {a_l_drawn : Addr}
    {oc_l_kind kV_l_kind dc_l_kind pm_l_kind cd_l_kind ct_l_kind : Value} {od_l_kind an_l_kind : Option Addr} {sl_l_kind : Array (Option Value)} {a_l_kind : Addr}
    {oc_l_read kV_l_read dc_l_read pm_l_read cd_l_read ct_l_read : Value} {od_l_read an_l_read : Option Addr} {sl_l_read : Array (Option Value)} {a_l_read : Addr}
    {oc_l_text kV_l_text dc_l_text pm_l_text cd_l_text ct_l_text : Value} {od_l_text an_l_text : Option Addr} {sl_l_text : Array (Option Value)} {a_l_text : Addr}
    {oc_l_name kV_l_name dc_l_name pm_l_name cd_l_name ct_l_name : Value} {od_l_name an_l_name : Option Addr} {sl_l_name : Array (Option Value)} {a_l_name : Addr}
    {oc_l_parted kV_l_parted dc_l_parted pm_l_parted cd_l_parted ct_l_parted : Value} {od_l_parted an_l_parted : Option Addr} {sl_l_parted : Array (Option Value)} {a_l_parted : Addr}
    {oc_l_due kV_l_due dc_l_due pm_l_due cd_l_due ct_l_due : Value} {od_l_due an_l_due : Option Addr} {sl_l_due : Array (Option Value)} {a_l_due : Addr}
    {oc_l_spoilt kV_l_spoilt dc_l_spoilt pm_l_spoilt cd_l_spoilt ct_l_spoilt : Value} {od_l_spoilt an_l_spoilt : Option Addr} {sl_l_spoilt : Array (Option Value)} {a_l_spoilt : Addr}
    {oc_law kV_law dc_law pm_law cd_law ct_law : Value} {od_law an_law : Option Addr} {sl_law : Array (Option Value)} {a_law : Addr}
    {C_Bench : Addr}
    {C_BenchError : Addr}
    {C_TooMany : Addr}
    {C_BadName : Addr}
    {C_NoSpeech : Addr}
    {C_Twice : Addr}
    {C_NotHeld : Addr}
    {C_NoText : Addr}
    {t_LETTERS : Tok}
    {t_LONGEST_NAME : Tok}
    {t_MOST_SPEECHES : Tok}
    {t_SPEECH : Tok}
    {t_AGAINST : Tok}
    (g_Bench : PySem.W.nsIn K mainGlobals "Bench" = some (some (.ref C_Bench)))
    (h__wall : PySem.W.nsIn K mainGlobals "_wall" = some (some (.ref a__wall)))
    (l__wall : K.lookup a__wall = some ⟨oc__wall, od__wall, .func (PySem.W.fnOf "_wall" "_wall" (defArgs s__wall) (defBody s__wall) (defScope s__wall) .none kV__wall dc__wall pm__wall an__wall cd__wall ct__wall), sl__wall⟩)
    (c__wall : PySem.W.codeIn K cd__wall "_wall" = true)
    (k__wall : PySem.W.keepIn K (.ref a__wall) = true)
    (h_is_name : PySem.W.nsIn K mainGlobals "is_name" = some (some (.ref a_is_name)))
    (l_is_name : K.lookup a_is_name = some ⟨oc_is_name, od_is_name, .func (PySem.W.fnOf "is_name" "is_name" (defArgs s_is_name) (defBody s_is_name) (defScope s_is_name) .none kV_is_name dc_is_name pm_is_name an_is_name cd_is_name ct_is_name), sl_is_name⟩)
    (c_is_name : PySem.W.codeIn K cd_is_name "is_name" = true)
    (k_is_name : PySem.W.keepIn K (.ref a_is_name) = true)
    (h_Bench_init : PySem.W.findIn K (.ref C_Bench) "__init__" = some (some (.ref a_Bench_init)))
    (i_Bench_init : PySem.W.isFn K (.ref a_Bench_init) = true)
    (l_Bench_init : K.lookup a_Bench_init = some ⟨oc_Bench_init, od_Bench_init, .func (PySem.W.fnOf "__init__" "Bench.__init__" (defArgs s_Bench_init) (defBody s_Bench_init) (defScope s_Bench_init) .none kV_Bench_init dc_Bench_init pm_Bench_init an_Bench_init cd_Bench_init ct_Bench_init), sl_Bench_init⟩)
    (c_Bench_init : PySem.W.codeIn K cd_Bench_init "Bench.__init__" = true)
    (k_Bench_init : PySem.W.keepIn K (.ref a_Bench_init) = true)
    (h_Bench_speakers : PySem.W.findIn K (.ref C_Bench) "speakers" = some (some (.ref a_Bench_speakers)))
    (i_Bench_speakers : PySem.W.isFn K (.ref a_Bench_speakers) = true)
    (l_Bench_speakers : K.lookup a_Bench_speakers = some ⟨oc_Bench_speakers, od_Bench_speakers, .func (PySem.W.fnOf "speakers" "Bench.speakers" (defArgs s_Bench_speakers) (defBody s_Bench_speakers) (defScope s_Bench_speakers) .none kV_Bench_speakers dc_Bench_speakers pm_Bench_speakers an_Bench_speakers cd_Bench_speakers ct_Bench_speakers), sl_Bench_speakers⟩)
    (c_Bench_speakers : PySem.W.codeIn K cd_Bench_speakers "Bench.speakers" = true)
    (k_Bench_speakers : PySem.W.keepIn K (.ref a_Bench_speakers) = true)
    (h_checked_names : PySem.W.nsIn K mainGlobals "checked_names" = some (some (.ref a_checked_names)))
    (l_checked_names : K.lookup a_checked_names = some ⟨oc_checked_names, od_checked_names, .func (PySem.W.fnOf "checked_names" "checked_names" (defArgs s_checked_names) (defBody s_checked_names) (defScope s_checked_names) .none kV_checked_names dc_checked_names pm_checked_names an_checked_names cd_checked_names ct_checked_names), sl_checked_names⟩)
    (c_checked_names : PySem.W.codeIn K cd_checked_names "checked_names" = true)
    (k_checked_names : PySem.W.keepIn K (.ref a_checked_names) = true)
    (h_checked_pairs : PySem.W.nsIn K mainGlobals "checked_pairs" = some (some (.ref a_checked_pairs)))
    (l_checked_pairs : K.lookup a_checked_pairs = some ⟨oc_checked_pairs, od_checked_pairs, .func (PySem.W.fnOf "checked_pairs" "checked_pairs" (defArgs s_checked_pairs) (defBody s_checked_pairs) (defScope s_checked_pairs) .none kV_checked_pairs dc_checked_pairs pm_checked_pairs an_checked_pairs cd_checked_pairs ct_checked_pairs), sl_checked_pairs⟩)
    (c_checked_pairs : PySem.W.codeIn K cd_checked_pairs "checked_pairs" = true)
    (k_checked_pairs : PySem.W.keepIn K (.ref a_checked_pairs) = true)
    (h_check_speech : PySem.W.nsIn K mainGlobals "check_speech" = some (some (.ref a_check_speech)))
    (l_check_speech : K.lookup a_check_speech = some ⟨oc_check_speech, od_check_speech, .func (PySem.W.fnOf "check_speech" "check_speech" (defArgs s_check_speech) (defBody s_check_speech) (defScope s_check_speech) .none kV_check_speech dc_check_speech pm_check_speech an_check_speech cd_check_speech ct_check_speech), sl_check_speech⟩)
    (c_check_speech : PySem.W.codeIn K cd_check_speech "check_speech" = true)
    (k_check_speech : PySem.W.keepIn K (.ref a_check_speech) = true)
    (h_written : PySem.W.nsIn K mainGlobals "written" = some (some (.ref a_written)))
    (l_written : K.lookup a_written = some ⟨oc_written, od_written, .func (PySem.W.fnOf "written" "written" (defArgs s_written) (defBody s_written) (defScope s_written) .none kV_written dc_written pm_written an_written cd_written ct_written), sl_written⟩)
    (c_written : PySem.W.codeIn K cd_written "written" = true)
    (k_written : PySem.W.keepIn K (.ref a_written) = true)
    (h_read : PySem.W.nsIn K mainGlobals "read" = some (some (.ref a_read)))
    (l_read : K.lookup a_read = some ⟨oc_read, od_read, .func (PySem.W.fnOf "read" "read" (defArgs s_read) (defBody s_read) (defScope s_read) .none kV_read dc_read pm_read an_read cd_read ct_read), sl_read⟩)
    (c_read : PySem.W.codeIn K cd_read "read" = true)
    (k_read : PySem.W.keepIn K (.ref a_read) = true)
    (h_rows_of : PySem.W.nsIn K mainGlobals "rows_of" = some (some (.ref a_rows_of)))
    (l_rows_of : K.lookup a_rows_of = some ⟨oc_rows_of, od_rows_of, .func (PySem.W.fnOf "rows_of" "rows_of" (defArgs s_rows_of) (defBody s_rows_of) (defScope s_rows_of) .none kV_rows_of dc_rows_of pm_rows_of an_rows_of cd_rows_of ct_rows_of), sl_rows_of⟩)
    (c_rows_of : PySem.W.codeIn K cd_rows_of "rows_of" = true)
    (k_rows_of : PySem.W.keepIn K (.ref a_rows_of) = true)
    (h_is_form : PySem.W.nsIn K mainGlobals "is_form" = some (some (.ref a_is_form)))
    (l_is_form : K.lookup a_is_form = some ⟨oc_is_form, od_is_form, .func (PySem.W.fnOf "is_form" "is_form" (defArgs s_is_form) (defBody s_is_form) (defScope s_is_form) .none kV_is_form dc_is_form pm_is_form an_is_form cd_is_form ct_is_form), sl_is_form⟩)
    (c_is_form : PySem.W.codeIn K cd_is_form "is_form" = true)
    (k_is_form : PySem.W.keepIn K (.ref a_is_form) = true)
    (h_is_word : PySem.W.nsIn K mainGlobals "is_word" = some (some (.ref a_is_word)))
    (l_is_word : K.lookup a_is_word = some ⟨oc_is_word, od_is_word, .func (PySem.W.fnOf "is_word" "is_word" (defArgs s_is_word) (defBody s_is_word) (defScope s_is_word) .none kV_is_word dc_is_word pm_is_word an_is_word cd_is_word ct_is_word), sl_is_word⟩)
    (c_is_word : PySem.W.codeIn K cd_is_word "is_word" = true)
    (k_is_word : PySem.W.keepIn K (.ref a_is_word) = true)
    (h_l_cell_at : PySem.W.nsIn K mainGlobals "_law_cell_at" = some (some (.ref a_l_cell_at)))
    (l_l_cell_at : K.lookup a_l_cell_at = some ⟨oc_l_cell_at, od_l_cell_at, .func (PySem.W.fnOf "_law_cell_at" "_law_cell_at" (defArgs s_l_cell_at) (defBody s_l_cell_at) (defScope s_l_cell_at) .none kV_l_cell_at dc_l_cell_at pm_l_cell_at an_l_cell_at cd_l_cell_at ct_l_cell_at), sl_l_cell_at⟩)
    (c_l_cell_at : PySem.W.codeIn K cd_l_cell_at "_law_cell_at" = true)
    (k_l_cell_at : PySem.W.keepIn K (.ref a_l_cell_at) = true)
    (h_l_mixed : PySem.W.nsIn K mainGlobals "_law_mixed" = some (some (.ref a_l_mixed)))
    (l_l_mixed : K.lookup a_l_mixed = some ⟨oc_l_mixed, od_l_mixed, .func (PySem.W.fnOf "_law_mixed" "_law_mixed" (defArgs s_l_mixed) (defBody s_l_mixed) (defScope s_l_mixed) .none kV_l_mixed dc_l_mixed pm_l_mixed an_l_mixed cd_l_mixed ct_l_mixed), sl_l_mixed⟩)
    (c_l_mixed : PySem.W.codeIn K cd_l_mixed "_law_mixed" = true)
    (k_l_mixed : PySem.W.keepIn K (.ref a_l_mixed) = true)
    (h_l_names : PySem.W.nsIn K mainGlobals "_law_names" = some (some (.ref a_l_names)))
    (l_l_names : K.lookup a_l_names = some ⟨oc_l_names, od_l_names, .func (PySem.W.fnOf "_law_names" "_law_names" (defArgs s_l_names) (defBody s_l_names) (defScope s_l_names) .none kV_l_names dc_l_names pm_l_names an_l_names cd_l_names ct_l_names), sl_l_names⟩)
    (c_l_names : PySem.W.codeIn K cd_l_names "_law_names" = true)
    (k_l_names : PySem.W.keepIn K (.ref a_l_names) = true)
    (h_l_pairs : PySem.W.nsIn K mainGlobals "_law_pairs" = some (some (.ref a_l_pairs)))
    (l_l_pairs : K.lookup a_l_pairs = some ⟨oc_l_pairs, od_l_pairs, .func (PySem.W.fnOf "_law_pairs" "_law_pairs" (defArgs s_l_pairs) (defBody s_l_pairs) (defScope s_l_pairs) .none kV_l_pairs dc_l_pairs pm_l_pairs an_l_pairs cd_l_pairs ct_l_pairs), sl_l_pairs⟩)
    (c_l_pairs : PySem.W.codeIn K cd_l_pairs "_law_pairs" = true)
    (k_l_pairs : PySem.W.keepIn K (.ref a_l_pairs) = true)
    (h_l_drawn : PySem.W.nsIn K mainGlobals "_law_drawn" = some (some (.ref a_l_drawn)))
    (l_l_drawn : K.lookup a_l_drawn = some ⟨oc_l_drawn, od_l_drawn, .func (PySem.W.fnOf "_law_drawn" "_law_drawn" (defArgs s_l_drawn) (defBody s_l_drawn) (defScope s_l_drawn) .none kV_l_drawn dc_l_drawn pm_l_drawn an_l_drawn cd_l_drawn ct_l_drawn), sl_l_drawn⟩)
    (c_l_drawn : PySem.W.codeIn K cd_l_drawn "_law_drawn" = true)
    (k_l_drawn : PySem.W.keepIn K (.ref a_l_drawn) = true)
    (h_l_kind : PySem.W.nsIn K mainGlobals "_law_kind" = some (some (.ref a_l_kind)))
    (l_l_kind : K.lookup a_l_kind = some ⟨oc_l_kind, od_l_kind, .func (PySem.W.fnOf "_law_kind" "_law_kind" (defArgs s_l_kind) (defBody s_l_kind) (defScope s_l_kind) .none kV_l_kind dc_l_kind pm_l_kind an_l_kind cd_l_kind ct_l_kind), sl_l_kind⟩)
    (c_l_kind : PySem.W.codeIn K cd_l_kind "_law_kind" = true)
    (k_l_kind : PySem.W.keepIn K (.ref a_l_kind) = true)
    (h_l_read : PySem.W.nsIn K mainGlobals "_law_read" = some (some (.ref a_l_read)))
    (l_l_read : K.lookup a_l_read = some ⟨oc_l_read, od_l_read, .func (PySem.W.fnOf "_law_read" "_law_read" (defArgs s_l_read) (defBody s_l_read) (defScope s_l_read) .none kV_l_read dc_l_read pm_l_read an_l_read cd_l_read ct_l_read), sl_l_read⟩)
    (c_l_read : PySem.W.codeIn K cd_l_read "_law_read" = true)
    (k_l_read : PySem.W.keepIn K (.ref a_l_read) = true)
    (h_l_text : PySem.W.nsIn K mainGlobals "_law_text" = some (some (.ref a_l_text)))
    (l_l_text : K.lookup a_l_text = some ⟨oc_l_text, od_l_text, .func (PySem.W.fnOf "_law_text" "_law_text" (defArgs s_l_text) (defBody s_l_text) (defScope s_l_text) .none kV_l_text dc_l_text pm_l_text an_l_text cd_l_text ct_l_text), sl_l_text⟩)
    (c_l_text : PySem.W.codeIn K cd_l_text "_law_text" = true)
    (k_l_text : PySem.W.keepIn K (.ref a_l_text) = true)
    (h_l_name : PySem.W.nsIn K mainGlobals "_law_name" = some (some (.ref a_l_name)))
    (l_l_name : K.lookup a_l_name = some ⟨oc_l_name, od_l_name, .func (PySem.W.fnOf "_law_name" "_law_name" (defArgs s_l_name) (defBody s_l_name) (defScope s_l_name) .none kV_l_name dc_l_name pm_l_name an_l_name cd_l_name ct_l_name), sl_l_name⟩)
    (c_l_name : PySem.W.codeIn K cd_l_name "_law_name" = true)
    (k_l_name : PySem.W.keepIn K (.ref a_l_name) = true)
    (h_l_parted : PySem.W.nsIn K mainGlobals "_law_parted" = some (some (.ref a_l_parted)))
    (l_l_parted : K.lookup a_l_parted = some ⟨oc_l_parted, od_l_parted, .func (PySem.W.fnOf "_law_parted" "_law_parted" (defArgs s_l_parted) (defBody s_l_parted) (defScope s_l_parted) .none kV_l_parted dc_l_parted pm_l_parted an_l_parted cd_l_parted ct_l_parted), sl_l_parted⟩)
    (c_l_parted : PySem.W.codeIn K cd_l_parted "_law_parted" = true)
    (k_l_parted : PySem.W.keepIn K (.ref a_l_parted) = true)
    (h_l_due : PySem.W.nsIn K mainGlobals "_law_due" = some (some (.ref a_l_due)))
    (l_l_due : K.lookup a_l_due = some ⟨oc_l_due, od_l_due, .func (PySem.W.fnOf "_law_due" "_law_due" (defArgs s_l_due) (defBody s_l_due) (defScope s_l_due) .none kV_l_due dc_l_due pm_l_due an_l_due cd_l_due ct_l_due), sl_l_due⟩)
    (c_l_due : PySem.W.codeIn K cd_l_due "_law_due" = true)
    (k_l_due : PySem.W.keepIn K (.ref a_l_due) = true)
    (h_l_spoilt : PySem.W.nsIn K mainGlobals "_law_spoilt" = some (some (.ref a_l_spoilt)))
    (l_l_spoilt : K.lookup a_l_spoilt = some ⟨oc_l_spoilt, od_l_spoilt, .func (PySem.W.fnOf "_law_spoilt" "_law_spoilt" (defArgs s_l_spoilt) (defBody s_l_spoilt) (defScope s_l_spoilt) .none kV_l_spoilt dc_l_spoilt pm_l_spoilt an_l_spoilt cd_l_spoilt ct_l_spoilt), sl_l_spoilt⟩)
    (c_l_spoilt : PySem.W.codeIn K cd_l_spoilt "_law_spoilt" = true)
    (k_l_spoilt : PySem.W.keepIn K (.ref a_l_spoilt) = true)
    (h_law : PySem.W.nsIn K mainGlobals "law" = some (some (.ref a_law)))
    (l_law : K.lookup a_law = some ⟨oc_law, od_law, .func (PySem.W.fnOf "law" "law" (defArgs s_law) (defBody s_law) (defScope s_law) .none kV_law dc_law pm_law an_law cd_law ct_law), sl_law⟩)
    (c_law : PySem.W.codeIn K cd_law "law" = true)
    (k_law : PySem.W.keepIn K (.ref a_law) = true)
    (pg_Bench : PySem.W.plainGet K C_Bench Str.empty = true)
    (hd_Bench : PySem.W.hasDictIn K C_Bench = true)
    (po_Bench : PySem.W.plainOver K C_Bench = true)
    (sa_Bench : PySem.W.findIn K (.ref C_Bench) "__setattr__" = some (some (.builtin "object.__setattr__")))
    (mk_Bench : PySem.W.makesIn K C_Bench = true)
    (kc_Bench : PySem.W.keepIn K (.ref C_Bench) = true)
    (n_Bench_names : PySem.W.findIn K (.ref C_Bench) "names" = some none)
    (n_Bench_pairs : PySem.W.findIn K (.ref C_Bench) "pairs" = some none)
    (g_BenchError : PySem.W.nsIn K mainGlobals "BenchError" = some (some (.ref C_BenchError)))
    (x_BenchError : PySem.W.excIn K C_BenchError [.type "ValueError", .type "Exception", .type "BaseException", .type "object"] "ValueError.__new__" = true)
    (kc_BenchError : PySem.W.keepIn K (.ref C_BenchError) = true)
    (b_BenchError : PySem.W.subIn K (.ref C_BenchError) (.type "BaseException") = some true)
    (t_BenchError : PySem.W.typeIn K (.ref C_BenchError) = some (.type "type"))
    (i_BenchError : PySem.W.isClsIn K C_BenchError = true)
    (g_TooMany : PySem.W.nsIn K mainGlobals "TooMany" = some (some (.ref C_TooMany)))
    (x_TooMany : PySem.W.excIn K C_TooMany [.type "ValueError", .type "Exception", .type "BaseException", .type "object"] "ValueError.__new__" = true)
    (kc_TooMany : PySem.W.keepIn K (.ref C_TooMany) = true)
    (b_TooMany : PySem.W.subIn K (.ref C_TooMany) (.type "BaseException") = some true)
    (t_TooMany : PySem.W.typeIn K (.ref C_TooMany) = some (.type "type"))
    (i_TooMany : PySem.W.isClsIn K C_TooMany = true)
    (g_BadName : PySem.W.nsIn K mainGlobals "BadName" = some (some (.ref C_BadName)))
    (x_BadName : PySem.W.excIn K C_BadName [.type "ValueError", .type "Exception", .type "BaseException", .type "object"] "ValueError.__new__" = true)
    (kc_BadName : PySem.W.keepIn K (.ref C_BadName) = true)
    (b_BadName : PySem.W.subIn K (.ref C_BadName) (.type "BaseException") = some true)
    (t_BadName : PySem.W.typeIn K (.ref C_BadName) = some (.type "type"))
    (i_BadName : PySem.W.isClsIn K C_BadName = true)
    (g_NoSpeech : PySem.W.nsIn K mainGlobals "NoSpeech" = some (some (.ref C_NoSpeech)))
    (x_NoSpeech : PySem.W.excIn K C_NoSpeech [.type "ValueError", .type "Exception", .type "BaseException", .type "object"] "ValueError.__new__" = true)
    (kc_NoSpeech : PySem.W.keepIn K (.ref C_NoSpeech) = true)
    (b_NoSpeech : PySem.W.subIn K (.ref C_NoSpeech) (.type "BaseException") = some true)
    (t_NoSpeech : PySem.W.typeIn K (.ref C_NoSpeech) = some (.type "type"))
    (i_NoSpeech : PySem.W.isClsIn K C_NoSpeech = true)
    (g_Twice : PySem.W.nsIn K mainGlobals "Twice" = some (some (.ref C_Twice)))
    (x_Twice : PySem.W.excIn K C_Twice [.type "ValueError", .type "Exception", .type "BaseException", .type "object"] "ValueError.__new__" = true)
    (kc_Twice : PySem.W.keepIn K (.ref C_Twice) = true)
    (b_Twice : PySem.W.subIn K (.ref C_Twice) (.type "BaseException") = some true)
    (t_Twice : PySem.W.typeIn K (.ref C_Twice) = some (.type "type"))
    (i_Twice : PySem.W.isClsIn K C_Twice = true)
    (g_NotHeld : PySem.W.nsIn K mainGlobals "NotHeld" = some (some (.ref C_NotHeld)))
    (x_NotHeld : PySem.W.excIn K C_NotHeld [.type "ValueError", .type "Exception", .type "BaseException", .type "object"] "ValueError.__new__" = true)
    (kc_NotHeld : PySem.W.keepIn K (.ref C_NotHeld) = true)
    (b_NotHeld : PySem.W.subIn K (.ref C_NotHeld) (.type "BaseException") = some true)
    (t_NotHeld : PySem.W.typeIn K (.ref C_NotHeld) = some (.type "type"))
    (i_NotHeld : PySem.W.isClsIn K C_NotHeld = true)
    (g_NoText : PySem.W.nsIn K mainGlobals "NoText" = some (some (.ref C_NoText)))
    (x_NoText : PySem.W.excIn K C_NoText [.type "ValueError", .type "Exception", .type "BaseException", .type "object"] "ValueError.__new__" = true)
    (kc_NoText : PySem.W.keepIn K (.ref C_NoText) = true)
    (b_NoText : PySem.W.subIn K (.ref C_NoText) (.type "BaseException") = some true)
    (t_NoText : PySem.W.typeIn K (.ref C_NoText) = some (.type "type"))
    (i_NoText : PySem.W.isClsIn K C_NoText = true)
    (ioa_Bench : PySem.W.findIn K (.ref C_Bench) "__class__" = some (some (.builtin "object.__class__")))
    (ion_Bench : PySem.W.specialIn K (.builtin "object.__class__") "__get__" = some (some (.builtin "getset_descriptor.__get__")))
    (iot_Bench : PySem.W.takesIn K (.builtin "object.__class__") = some true)
    (iom_Bench : PySem.W.mroIn K C_Bench (.type "object") = some true)
    (echg_TooMany : PySem.W.findIn K (.ref C_TooMany) "__getattribute__" = some (some (.builtin "BaseException.__getattribute__")))
    (echk_TooMany : PySem.W.findIn K (.ref C_TooMany) "__getattr__" = some none)
    (echd_TooMany : PySem.W.hasDictIn K C_TooMany = true)
    (echa_TooMany : PySem.W.findIn K (.ref C_TooMany) "__class__" = some (some (.builtin "object.__class__")))
    (echn_TooMany : PySem.W.specialIn K (.builtin "object.__class__") "__get__" = some (some (.builtin "getset_descriptor.__get__")))
    (echt_TooMany : PySem.W.takesIn K (.builtin "object.__class__") = some true)
    (echm_TooMany : PySem.W.mroIn K C_TooMany (.type "object") = some true)
    (kv_TooMany : PySem.W.kitOne K (.ref C_TooMany) (.type "ValueError") = some true)
    (kt_TooMany_TooMany : PySem.W.kitOne K (.ref C_TooMany) (.ref C_TooMany) = some true)
    (kt_TooMany_BadName : PySem.W.kitOne K (.ref C_TooMany) (.ref C_BadName) = some false)
    (kt_TooMany_NoSpeech : PySem.W.kitOne K (.ref C_TooMany) (.ref C_NoSpeech) = some false)
    (kt_TooMany_Twice : PySem.W.kitOne K (.ref C_TooMany) (.ref C_Twice) = some false)
    (kt_TooMany_NotHeld : PySem.W.kitOne K (.ref C_TooMany) (.ref C_NotHeld) = some false)
    (kt_TooMany_NoText : PySem.W.kitOne K (.ref C_TooMany) (.ref C_NoText) = some false)
    (echg_BadName : PySem.W.findIn K (.ref C_BadName) "__getattribute__" = some (some (.builtin "BaseException.__getattribute__")))
    (echk_BadName : PySem.W.findIn K (.ref C_BadName) "__getattr__" = some none)
    (echd_BadName : PySem.W.hasDictIn K C_BadName = true)
    (echa_BadName : PySem.W.findIn K (.ref C_BadName) "__class__" = some (some (.builtin "object.__class__")))
    (echn_BadName : PySem.W.specialIn K (.builtin "object.__class__") "__get__" = some (some (.builtin "getset_descriptor.__get__")))
    (echt_BadName : PySem.W.takesIn K (.builtin "object.__class__") = some true)
    (echm_BadName : PySem.W.mroIn K C_BadName (.type "object") = some true)
    (kv_BadName : PySem.W.kitOne K (.ref C_BadName) (.type "ValueError") = some true)
    (kt_BadName_TooMany : PySem.W.kitOne K (.ref C_BadName) (.ref C_TooMany) = some false)
    (kt_BadName_BadName : PySem.W.kitOne K (.ref C_BadName) (.ref C_BadName) = some true)
    (kt_BadName_NoSpeech : PySem.W.kitOne K (.ref C_BadName) (.ref C_NoSpeech) = some false)
    (kt_BadName_Twice : PySem.W.kitOne K (.ref C_BadName) (.ref C_Twice) = some false)
    (kt_BadName_NotHeld : PySem.W.kitOne K (.ref C_BadName) (.ref C_NotHeld) = some false)
    (kt_BadName_NoText : PySem.W.kitOne K (.ref C_BadName) (.ref C_NoText) = some false)
    (echg_NoSpeech : PySem.W.findIn K (.ref C_NoSpeech) "__getattribute__" = some (some (.builtin "BaseException.__getattribute__")))
    (echk_NoSpeech : PySem.W.findIn K (.ref C_NoSpeech) "__getattr__" = some none)
    (echd_NoSpeech : PySem.W.hasDictIn K C_NoSpeech = true)
    (echa_NoSpeech : PySem.W.findIn K (.ref C_NoSpeech) "__class__" = some (some (.builtin "object.__class__")))
    (echn_NoSpeech : PySem.W.specialIn K (.builtin "object.__class__") "__get__" = some (some (.builtin "getset_descriptor.__get__")))
    (echt_NoSpeech : PySem.W.takesIn K (.builtin "object.__class__") = some true)
    (echm_NoSpeech : PySem.W.mroIn K C_NoSpeech (.type "object") = some true)
    (kv_NoSpeech : PySem.W.kitOne K (.ref C_NoSpeech) (.type "ValueError") = some true)
    (kt_NoSpeech_TooMany : PySem.W.kitOne K (.ref C_NoSpeech) (.ref C_TooMany) = some false)
    (kt_NoSpeech_BadName : PySem.W.kitOne K (.ref C_NoSpeech) (.ref C_BadName) = some false)
    (kt_NoSpeech_NoSpeech : PySem.W.kitOne K (.ref C_NoSpeech) (.ref C_NoSpeech) = some true)
    (kt_NoSpeech_Twice : PySem.W.kitOne K (.ref C_NoSpeech) (.ref C_Twice) = some false)
    (kt_NoSpeech_NotHeld : PySem.W.kitOne K (.ref C_NoSpeech) (.ref C_NotHeld) = some false)
    (kt_NoSpeech_NoText : PySem.W.kitOne K (.ref C_NoSpeech) (.ref C_NoText) = some false)
    (echg_Twice : PySem.W.findIn K (.ref C_Twice) "__getattribute__" = some (some (.builtin "BaseException.__getattribute__")))
    (echk_Twice : PySem.W.findIn K (.ref C_Twice) "__getattr__" = some none)
    (echd_Twice : PySem.W.hasDictIn K C_Twice = true)
    (echa_Twice : PySem.W.findIn K (.ref C_Twice) "__class__" = some (some (.builtin "object.__class__")))
    (echn_Twice : PySem.W.specialIn K (.builtin "object.__class__") "__get__" = some (some (.builtin "getset_descriptor.__get__")))
    (echt_Twice : PySem.W.takesIn K (.builtin "object.__class__") = some true)
    (echm_Twice : PySem.W.mroIn K C_Twice (.type "object") = some true)
    (kv_Twice : PySem.W.kitOne K (.ref C_Twice) (.type "ValueError") = some true)
    (kt_Twice_TooMany : PySem.W.kitOne K (.ref C_Twice) (.ref C_TooMany) = some false)
    (kt_Twice_BadName : PySem.W.kitOne K (.ref C_Twice) (.ref C_BadName) = some false)
    (kt_Twice_NoSpeech : PySem.W.kitOne K (.ref C_Twice) (.ref C_NoSpeech) = some false)
    (kt_Twice_Twice : PySem.W.kitOne K (.ref C_Twice) (.ref C_Twice) = some true)
    (kt_Twice_NotHeld : PySem.W.kitOne K (.ref C_Twice) (.ref C_NotHeld) = some false)
    (kt_Twice_NoText : PySem.W.kitOne K (.ref C_Twice) (.ref C_NoText) = some false)
    (echg_NoText : PySem.W.findIn K (.ref C_NoText) "__getattribute__" = some (some (.builtin "BaseException.__getattribute__")))
    (echk_NoText : PySem.W.findIn K (.ref C_NoText) "__getattr__" = some none)
    (echd_NoText : PySem.W.hasDictIn K C_NoText = true)
    (echa_NoText : PySem.W.findIn K (.ref C_NoText) "__class__" = some (some (.builtin "object.__class__")))
    (echn_NoText : PySem.W.specialIn K (.builtin "object.__class__") "__get__" = some (some (.builtin "getset_descriptor.__get__")))
    (echt_NoText : PySem.W.takesIn K (.builtin "object.__class__") = some true)
    (echm_NoText : PySem.W.mroIn K C_NoText (.type "object") = some true)
    (kv_NoText : PySem.W.kitOne K (.ref C_NoText) (.type "ValueError") = some true)
    (kt_NoText_TooMany : PySem.W.kitOne K (.ref C_NoText) (.ref C_TooMany) = some false)
    (kt_NoText_BadName : PySem.W.kitOne K (.ref C_NoText) (.ref C_BadName) = some false)
    (kt_NoText_NoSpeech : PySem.W.kitOne K (.ref C_NoText) (.ref C_NoSpeech) = some false)
    (kt_NoText_Twice : PySem.W.kitOne K (.ref C_NoText) (.ref C_Twice) = some false)
    (kt_NoText_NotHeld : PySem.W.kitOne K (.ref C_NoText) (.ref C_NotHeld) = some false)
    (kt_NoText_NoText : PySem.W.kitOne K (.ref C_NoText) (.ref C_NoText) = some true)
    (s_NoSpeech_BenchError : PySem.W.subIn K (.ref C_NoSpeech) (.ref C_BenchError) = some true)
    (s_TooMany_BenchError : PySem.W.subIn K (.ref C_TooMany) (.ref C_BenchError) = some true)
    (s_BadName_BenchError : PySem.W.subIn K (.ref C_BadName) (.ref C_BenchError) = some true)
    (s_Twice_BenchError : PySem.W.subIn K (.ref C_Twice) (.ref C_BenchError) = some true)
    (s_NoText_BenchError : PySem.W.subIn K (.ref C_NoText) (.ref C_BenchError) = some true)
    (g_LETTERS : PySem.W.nsIn K mainGlobals "LETTERS" = some (some (.str "abcdefghijklmnopqrstuvwxyz" t_LETTERS)))
    (g_LONGEST_NAME : PySem.W.nsIn K mainGlobals "LONGEST_NAME" = some (some (.int 8 t_LONGEST_NAME)))
    (g_MOST_SPEECHES : PySem.W.nsIn K mainGlobals "MOST_SPEECHES" = some (some (.int 8 t_MOST_SPEECHES)))
    (g_SPEECH : PySem.W.nsIn K mainGlobals "SPEECH" = some (some (.str "speech" t_SPEECH)))
    (g_AGAINST : PySem.W.nsIn K mainGlobals "AGAINST" = some (some (.str "against" t_AGAINST)))
    (z_ValueError : PySem.W.nsIn K mainGlobals "ValueError" = some none)
    (z_all : PySem.W.nsIn K mainGlobals "all" = some none)
    (z_enumerate : PySem.W.nsIn K mainGlobals "enumerate" = some none)
    (z_isinstance : PySem.W.nsIn K mainGlobals "isinstance" = some none)
    (z_len : PySem.W.nsIn K mainGlobals "len" = some none)
    (z_range : PySem.W.nsIn K mainGlobals "range" = some none)
    (z_str : PySem.W.nsIn K mainGlobals "str" = some none)
    (z_tuple : PySem.W.nsIn K mainGlobals "tuple" = some none) : ∃ A : Ad, Tx K mg A ∧ A.f_law = fa := by
  have e := hfa.symm.trans (PySem.W.mg_of X G h_law)
  cases e
  refine ⟨{
    f__wall := a__wall,
    fd__wall := PySem.W.fnOf "_wall" "_wall" (defArgs s__wall) (defBody s__wall) (defScope s__wall) .none kV__wall dc__wall pm__wall an__wall cd__wall ct__wall,
    f_is_name := a_is_name,
    fd_is_name := PySem.W.fnOf "is_name" "is_name" (defArgs s_is_name) (defBody s_is_name) (defScope s_is_name) .none kV_is_name dc_is_name pm_is_name an_is_name cd_is_name ct_is_name,
    f_Bench_init := a_Bench_init,
    fd_Bench_init := PySem.W.fnOf "__init__" "Bench.__init__" (defArgs s_Bench_init) (defBody s_Bench_init) (defScope s_Bench_init) .none kV_Bench_init dc_Bench_init pm_Bench_init an_Bench_init cd_Bench_init ct_Bench_init,
    f_Bench_speakers := a_Bench_speakers,
    fd_Bench_speakers := PySem.W.fnOf "speakers" "Bench.speakers" (defArgs s_Bench_speakers) (defBody s_Bench_speakers) (defScope s_Bench_speakers) .none kV_Bench_speakers dc_Bench_speakers pm_Bench_speakers an_Bench_speakers cd_Bench_speakers ct_Bench_speakers,
    f_checked_names := a_checked_names,
    fd_checked_names := PySem.W.fnOf "checked_names" "checked_names" (defArgs s_checked_names) (defBody s_checked_names) (defScope s_checked_names) .none kV_checked_names dc_checked_names pm_checked_names an_checked_names cd_checked_names ct_checked_names,
    f_checked_pairs := a_checked_pairs,
    fd_checked_pairs := PySem.W.fnOf "checked_pairs" "checked_pairs" (defArgs s_checked_pairs) (defBody s_checked_pairs) (defScope s_checked_pairs) .none kV_checked_pairs dc_checked_pairs pm_checked_pairs an_checked_pairs cd_checked_pairs ct_checked_pairs,
    f_check_speech := a_check_speech,
    fd_check_speech := PySem.W.fnOf "check_speech" "check_speech" (defArgs s_check_speech) (defBody s_check_speech) (defScope s_check_speech) .none kV_check_speech dc_check_speech pm_check_speech an_check_speech cd_check_speech ct_check_speech,
    f_written := a_written,
    fd_written := PySem.W.fnOf "written" "written" (defArgs s_written) (defBody s_written) (defScope s_written) .none kV_written dc_written pm_written an_written cd_written ct_written,
    f_read := a_read,
    fd_read := PySem.W.fnOf "read" "read" (defArgs s_read) (defBody s_read) (defScope s_read) .none kV_read dc_read pm_read an_read cd_read ct_read,
    f_rows_of := a_rows_of,
    fd_rows_of := PySem.W.fnOf "rows_of" "rows_of" (defArgs s_rows_of) (defBody s_rows_of) (defScope s_rows_of) .none kV_rows_of dc_rows_of pm_rows_of an_rows_of cd_rows_of ct_rows_of,
    f_is_form := a_is_form,
    fd_is_form := PySem.W.fnOf "is_form" "is_form" (defArgs s_is_form) (defBody s_is_form) (defScope s_is_form) .none kV_is_form dc_is_form pm_is_form an_is_form cd_is_form ct_is_form,
    f_is_word := a_is_word,
    fd_is_word := PySem.W.fnOf "is_word" "is_word" (defArgs s_is_word) (defBody s_is_word) (defScope s_is_word) .none kV_is_word dc_is_word pm_is_word an_is_word cd_is_word ct_is_word,
    f_l_cell_at := a_l_cell_at,
    fd_l_cell_at := PySem.W.fnOf "_law_cell_at" "_law_cell_at" (defArgs s_l_cell_at) (defBody s_l_cell_at) (defScope s_l_cell_at) .none kV_l_cell_at dc_l_cell_at pm_l_cell_at an_l_cell_at cd_l_cell_at ct_l_cell_at,
    f_l_mixed := a_l_mixed,
    fd_l_mixed := PySem.W.fnOf "_law_mixed" "_law_mixed" (defArgs s_l_mixed) (defBody s_l_mixed) (defScope s_l_mixed) .none kV_l_mixed dc_l_mixed pm_l_mixed an_l_mixed cd_l_mixed ct_l_mixed,
    f_l_names := a_l_names,
    fd_l_names := PySem.W.fnOf "_law_names" "_law_names" (defArgs s_l_names) (defBody s_l_names) (defScope s_l_names) .none kV_l_names dc_l_names pm_l_names an_l_names cd_l_names ct_l_names,
    f_l_pairs := a_l_pairs,
    fd_l_pairs := PySem.W.fnOf "_law_pairs" "_law_pairs" (defArgs s_l_pairs) (defBody s_l_pairs) (defScope s_l_pairs) .none kV_l_pairs dc_l_pairs pm_l_pairs an_l_pairs cd_l_pairs ct_l_pairs,
    f_l_drawn := a_l_drawn,
    fd_l_drawn := PySem.W.fnOf "_law_drawn" "_law_drawn" (defArgs s_l_drawn) (defBody s_l_drawn) (defScope s_l_drawn) .none kV_l_drawn dc_l_drawn pm_l_drawn an_l_drawn cd_l_drawn ct_l_drawn,
    f_l_kind := a_l_kind,
    fd_l_kind := PySem.W.fnOf "_law_kind" "_law_kind" (defArgs s_l_kind) (defBody s_l_kind) (defScope s_l_kind) .none kV_l_kind dc_l_kind pm_l_kind an_l_kind cd_l_kind ct_l_kind,
    f_l_read := a_l_read,
    fd_l_read := PySem.W.fnOf "_law_read" "_law_read" (defArgs s_l_read) (defBody s_l_read) (defScope s_l_read) .none kV_l_read dc_l_read pm_l_read an_l_read cd_l_read ct_l_read,
    f_l_text := a_l_text,
    fd_l_text := PySem.W.fnOf "_law_text" "_law_text" (defArgs s_l_text) (defBody s_l_text) (defScope s_l_text) .none kV_l_text dc_l_text pm_l_text an_l_text cd_l_text ct_l_text,
    f_l_name := a_l_name,
    fd_l_name := PySem.W.fnOf "_law_name" "_law_name" (defArgs s_l_name) (defBody s_l_name) (defScope s_l_name) .none kV_l_name dc_l_name pm_l_name an_l_name cd_l_name ct_l_name,
    f_l_parted := a_l_parted,
    fd_l_parted := PySem.W.fnOf "_law_parted" "_law_parted" (defArgs s_l_parted) (defBody s_l_parted) (defScope s_l_parted) .none kV_l_parted dc_l_parted pm_l_parted an_l_parted cd_l_parted ct_l_parted,
    f_l_due := a_l_due,
    fd_l_due := PySem.W.fnOf "_law_due" "_law_due" (defArgs s_l_due) (defBody s_l_due) (defScope s_l_due) .none kV_l_due dc_l_due pm_l_due an_l_due cd_l_due ct_l_due,
    f_l_spoilt := a_l_spoilt,
    fd_l_spoilt := PySem.W.fnOf "_law_spoilt" "_law_spoilt" (defArgs s_l_spoilt) (defBody s_l_spoilt) (defScope s_l_spoilt) .none kV_l_spoilt dc_l_spoilt pm_l_spoilt an_l_spoilt cd_l_spoilt ct_l_spoilt,
    f_law := fa,
    fd_law := PySem.W.fnOf "law" "law" (defArgs s_law) (defBody s_law) (defScope s_law) .none kV_law dc_law pm_law an_law cd_law ct_law,
    C_Bench := C_Bench,
    C_BenchError := C_BenchError,
    C_TooMany := C_TooMany,
    C_BadName := C_BadName,
    C_NoSpeech := C_NoSpeech,
    C_Twice := C_Twice,
    C_NotHeld := C_NotHeld,
    C_NoText := C_NoText,
    t_LETTERS := t_LETTERS,
    t_LONGEST_NAME := t_LONGEST_NAME,
    t_MOST_SPEECHES := t_MOST_SPEECHES,
    t_SPEECH := t_SPEECH,
    t_AGAINST := t_AGAINST }, ?_, rfl⟩
  exact {
    F__wall := fun_mk (st := s__wall) l__wall c__wall k__wall,
    B__wall := (fun_mk (st := s__wall) l__wall c__wall k__wall).binds (ps := ["k"]) fun _ _ _ _ _ _ us hl => match us, hl with | [_], _ => rfl,
    g__wall := PySem.W.mg_of X G h__wall,
    F_is_name := fun_mk (st := s_is_name) l_is_name c_is_name k_is_name,
    B_is_name := (fun_mk (st := s_is_name) l_is_name c_is_name k_is_name).binds (ps := ["thing"]) fun _ _ _ _ _ _ us hl => match us, hl with | [_], _ => rfl,
    g_is_name := PySem.W.mg_of X G h_is_name,
    F_Bench_init := fun_mk (st := s_Bench_init) l_Bench_init c_Bench_init k_Bench_init,
    B_Bench_init := (fun_mk (st := s_Bench_init) l_Bench_init c_Bench_init k_Bench_init).binds (ps := ["self", "names", "pairs"]) fun _ _ _ _ _ _ us hl => match us, hl with | [_, _, _], _ => rfl,
    M_Bench := ⟨mk_Bench, h_Bench_init, i_Bench_init, kc_Bench⟩,
    F_Bench_speakers := fun_mk (st := s_Bench_speakers) l_Bench_speakers c_Bench_speakers k_Bench_speakers,
    B_Bench_speakers := (fun_mk (st := s_Bench_speakers) l_Bench_speakers c_Bench_speakers k_Bench_speakers).binds (ps := ["self", "name"]) fun _ _ _ _ _ _ us hl => match us, hl with | [_, _], _ => rfl,
    m_Bench_speakers := ⟨h_Bench_speakers, i_Bench_speakers, k_Bench_speakers⟩,
    F_checked_names := fun_mk (st := s_checked_names) l_checked_names c_checked_names k_checked_names,
    B_checked_names := (fun_mk (st := s_checked_names) l_checked_names c_checked_names k_checked_names).binds (ps := ["names"]) fun _ _ _ _ _ _ us hl => match us, hl with | [_], _ => rfl,
    g_checked_names := PySem.W.mg_of X G h_checked_names,
    F_checked_pairs := fun_mk (st := s_checked_pairs) l_checked_pairs c_checked_pairs k_checked_pairs,
    B_checked_pairs := (fun_mk (st := s_checked_pairs) l_checked_pairs c_checked_pairs k_checked_pairs).binds (ps := ["pairs", "names"]) fun _ _ _ _ _ _ us hl => match us, hl with | [_, _], _ => rfl,
    g_checked_pairs := PySem.W.mg_of X G h_checked_pairs,
    F_check_speech := fun_mk (st := s_check_speech) l_check_speech c_check_speech k_check_speech,
    B_check_speech := (fun_mk (st := s_check_speech) l_check_speech c_check_speech k_check_speech).binds (ps := ["names", "name"]) fun _ _ _ _ _ _ us hl => match us, hl with | [_, _], _ => rfl,
    g_check_speech := PySem.W.mg_of X G h_check_speech,
    F_written := fun_mk (st := s_written) l_written c_written k_written,
    B_written := (fun_mk (st := s_written) l_written c_written k_written).binds (ps := ["bench"]) fun _ _ _ _ _ _ us hl => match us, hl with | [_], _ => rfl,
    g_written := PySem.W.mg_of X G h_written,
    F_read := fun_mk (st := s_read) l_read c_read k_read,
    B_read := (fun_mk (st := s_read) l_read c_read k_read).binds (ps := ["text"]) fun _ _ _ _ _ _ us hl => match us, hl with | [_], _ => rfl,
    g_read := PySem.W.mg_of X G h_read,
    F_rows_of := fun_mk (st := s_rows_of) l_rows_of c_rows_of k_rows_of,
    B_rows_of := (fun_mk (st := s_rows_of) l_rows_of c_rows_of k_rows_of).binds (ps := ["text"]) fun _ _ _ _ _ _ us hl => match us, hl with | [_], _ => rfl,
    g_rows_of := PySem.W.mg_of X G h_rows_of,
    F_is_form := fun_mk (st := s_is_form) l_is_form c_is_form k_is_form,
    B_is_form := (fun_mk (st := s_is_form) l_is_form c_is_form k_is_form).binds (ps := ["parts", "first", "many"]) fun _ _ _ _ _ _ us hl => match us, hl with | [_, _, _], _ => rfl,
    g_is_form := PySem.W.mg_of X G h_is_form,
    F_is_word := fun_mk (st := s_is_word) l_is_word c_is_word k_is_word,
    B_is_word := (fun_mk (st := s_is_word) l_is_word c_is_word k_is_word).binds (ps := ["part"]) fun _ _ _ _ _ _ us hl => match us, hl with | [_], _ => rfl,
    g_is_word := PySem.W.mg_of X G h_is_word,
    F_l_cell_at := fun_mk (st := s_l_cell_at) l_l_cell_at c_l_cell_at k_l_cell_at,
    B_l_cell_at := (fun_mk (st := s_l_cell_at) l_l_cell_at c_l_cell_at k_l_cell_at).binds (ps := ["_law_script", "_law_k"]) fun _ _ _ _ _ _ us hl => match us, hl with | [_, _], _ => rfl,
    g_l_cell_at := PySem.W.mg_of X G h_l_cell_at,
    F_l_mixed := fun_mk (st := s_l_mixed) l_l_mixed c_l_mixed k_l_mixed,
    B_l_mixed := (fun_mk (st := s_l_mixed) l_l_mixed c_l_mixed k_l_mixed).binds (ps := ["_law_cell", "_law_k"]) fun _ _ _ _ _ _ us hl => match us, hl with | [_, _], _ => rfl,
    g_l_mixed := PySem.W.mg_of X G h_l_mixed,
    F_l_names := fun_mk (st := s_l_names) l_l_names c_l_names k_l_names,
    B_l_names := (fun_mk (st := s_l_names) l_l_names c_l_names k_l_names).binds (ps := ["_law_cell", "_law_many"]) fun _ _ _ _ _ _ us hl => match us, hl with | [_, _], _ => rfl,
    g_l_names := PySem.W.mg_of X G h_l_names,
    F_l_pairs := fun_mk (st := s_l_pairs) l_l_pairs c_l_pairs k_l_pairs,
    B_l_pairs := (fun_mk (st := s_l_pairs) l_l_pairs c_l_pairs k_l_pairs).binds (ps := ["_law_script", "_law_names_here"]) fun _ _ _ _ _ _ us hl => match us, hl with | [_, _], _ => rfl,
    g_l_pairs := PySem.W.mg_of X G h_l_pairs,
    F_l_drawn := fun_mk (st := s_l_drawn) l_l_drawn c_l_drawn k_l_drawn,
    B_l_drawn := (fun_mk (st := s_l_drawn) l_l_drawn c_l_drawn k_l_drawn).binds (ps := ["_law_script"]) fun _ _ _ _ _ _ us hl => match us, hl with | [_], _ => rfl,
    g_l_drawn := PySem.W.mg_of X G h_l_drawn,
    F_l_kind := fun_mk (st := s_l_kind) l_l_kind c_l_kind k_l_kind,
    B_l_kind := (fun_mk (st := s_l_kind) l_l_kind c_l_kind k_l_kind).binds (ps := ["_law_e"]) fun _ _ _ _ _ _ us hl => match us, hl with | [_], _ => rfl,
    g_l_kind := PySem.W.mg_of X G h_l_kind,
    F_l_read := fun_mk (st := s_l_read) l_l_read c_l_read k_l_read,
    B_l_read := (fun_mk (st := s_l_read) l_l_read c_l_read k_l_read).binds (ps := ["_law_text_here"]) fun _ _ _ _ _ _ us hl => match us, hl with | [_], _ => rfl,
    g_l_read := PySem.W.mg_of X G h_l_read,
    F_l_text := fun_mk (st := s_l_text) l_l_text c_l_text k_l_text,
    B_l_text := (fun_mk (st := s_l_text) l_l_text c_l_text k_l_text).binds (ps := ["_law_names_here", "_law_pairs_here"]) fun _ _ _ _ _ _ us hl => match us, hl with | [_, _], _ => rfl,
    g_l_text := PySem.W.mg_of X G h_l_text,
    F_l_name := fun_mk (st := s_l_name) l_l_name c_l_name k_l_name,
    B_l_name := (fun_mk (st := s_l_name) l_l_name c_l_name k_l_name).binds (ps := ["_law_word"]) fun _ _ _ _ _ _ us hl => match us, hl with | [_], _ => rfl,
    g_l_name := PySem.W.mg_of X G h_l_name,
    F_l_parted := fun_mk (st := s_l_parted) l_l_parted c_l_parted k_l_parted,
    B_l_parted := (fun_mk (st := s_l_parted) l_l_parted c_l_parted k_l_parted).binds (ps := ["_law_text_here"]) fun _ _ _ _ _ _ us hl => match us, hl with | [_], _ => rfl,
    g_l_parted := PySem.W.mg_of X G h_l_parted,
    F_l_due := fun_mk (st := s_l_due) l_l_due c_l_due k_l_due,
    B_l_due := (fun_mk (st := s_l_due) l_l_due c_l_due k_l_due).binds (ps := ["_law_names_here", "_law_pairs_here"]) fun _ _ _ _ _ _ us hl => match us, hl with | [_, _], _ => rfl,
    g_l_due := PySem.W.mg_of X G h_l_due,
    F_l_spoilt := fun_mk (st := s_l_spoilt) l_l_spoilt c_l_spoilt k_l_spoilt,
    B_l_spoilt := (fun_mk (st := s_l_spoilt) l_l_spoilt c_l_spoilt k_l_spoilt).binds (ps := ["_law_text_here", "_law_mix"]) fun _ _ _ _ _ _ us hl => match us, hl with | [_, _], _ => rfl,
    g_l_spoilt := PySem.W.mg_of X G h_l_spoilt,
    F_law := fun_mk (st := s_law) l_law c_law k_law,
    B_law := (fun_mk (st := s_law) l_law c_law k_law).binds (ps := ["_law_script"]) fun _ _ _ _ _ _ us hl => match us, hl with | [_], _ => rfl,
    g_law := PySem.W.mg_of X G h_law,
    a_Bench_names := n_Bench_names,
    a_Bench_pairs := n_Bench_pairs,
    cl_Bench := ⟨pg_Bench, hd_Bench, po_Bench, sa_Bench⟩,
    g_Bench := PySem.W.mg_of X G g_Bench,
    g_BenchError := PySem.W.mg_of X G g_BenchError,
    x_BenchError := x_BenchError,
    kc_BenchError := kc_BenchError,
    b_BenchError := b_BenchError,
    t_BenchError := t_BenchError,
    i_BenchError := i_BenchError,
    g_TooMany := PySem.W.mg_of X G g_TooMany,
    x_TooMany := x_TooMany,
    kc_TooMany := kc_TooMany,
    b_TooMany := b_TooMany,
    t_TooMany := t_TooMany,
    i_TooMany := i_TooMany,
    g_BadName := PySem.W.mg_of X G g_BadName,
    x_BadName := x_BadName,
    kc_BadName := kc_BadName,
    b_BadName := b_BadName,
    t_BadName := t_BadName,
    i_BadName := i_BadName,
    g_NoSpeech := PySem.W.mg_of X G g_NoSpeech,
    x_NoSpeech := x_NoSpeech,
    kc_NoSpeech := kc_NoSpeech,
    b_NoSpeech := b_NoSpeech,
    t_NoSpeech := t_NoSpeech,
    i_NoSpeech := i_NoSpeech,
    g_Twice := PySem.W.mg_of X G g_Twice,
    x_Twice := x_Twice,
    kc_Twice := kc_Twice,
    b_Twice := b_Twice,
    t_Twice := t_Twice,
    i_Twice := i_Twice,
    g_NotHeld := PySem.W.mg_of X G g_NotHeld,
    x_NotHeld := x_NotHeld,
    kc_NotHeld := kc_NotHeld,
    b_NotHeld := b_NotHeld,
    t_NotHeld := t_NotHeld,
    i_NotHeld := i_NotHeld,
    g_NoText := PySem.W.mg_of X G g_NoText,
    x_NoText := x_NoText,
    kc_NoText := kc_NoText,
    b_NoText := b_NoText,
    t_NoText := t_NoText,
    i_NoText := i_NoText,
    io_Bench := ⟨ioa_Bench, ion_Bench, iot_Bench, iom_Bench⟩,
    ec_TooMany := ⟨echg_TooMany, echk_TooMany, b_TooMany, echd_TooMany, echa_TooMany, echn_TooMany, echt_TooMany, echm_TooMany⟩,
    kv_TooMany := kv_TooMany,
    kt_TooMany_TooMany := kt_TooMany_TooMany,
    kt_TooMany_BadName := kt_TooMany_BadName,
    kt_TooMany_NoSpeech := kt_TooMany_NoSpeech,
    kt_TooMany_Twice := kt_TooMany_Twice,
    kt_TooMany_NotHeld := kt_TooMany_NotHeld,
    kt_TooMany_NoText := kt_TooMany_NoText,
    ec_BadName := ⟨echg_BadName, echk_BadName, b_BadName, echd_BadName, echa_BadName, echn_BadName, echt_BadName, echm_BadName⟩,
    kv_BadName := kv_BadName,
    kt_BadName_TooMany := kt_BadName_TooMany,
    kt_BadName_BadName := kt_BadName_BadName,
    kt_BadName_NoSpeech := kt_BadName_NoSpeech,
    kt_BadName_Twice := kt_BadName_Twice,
    kt_BadName_NotHeld := kt_BadName_NotHeld,
    kt_BadName_NoText := kt_BadName_NoText,
    ec_NoSpeech := ⟨echg_NoSpeech, echk_NoSpeech, b_NoSpeech, echd_NoSpeech, echa_NoSpeech, echn_NoSpeech, echt_NoSpeech, echm_NoSpeech⟩,
    kv_NoSpeech := kv_NoSpeech,
    kt_NoSpeech_TooMany := kt_NoSpeech_TooMany,
    kt_NoSpeech_BadName := kt_NoSpeech_BadName,
    kt_NoSpeech_NoSpeech := kt_NoSpeech_NoSpeech,
    kt_NoSpeech_Twice := kt_NoSpeech_Twice,
    kt_NoSpeech_NotHeld := kt_NoSpeech_NotHeld,
    kt_NoSpeech_NoText := kt_NoSpeech_NoText,
    ec_Twice := ⟨echg_Twice, echk_Twice, b_Twice, echd_Twice, echa_Twice, echn_Twice, echt_Twice, echm_Twice⟩,
    kv_Twice := kv_Twice,
    kt_Twice_TooMany := kt_Twice_TooMany,
    kt_Twice_BadName := kt_Twice_BadName,
    kt_Twice_NoSpeech := kt_Twice_NoSpeech,
    kt_Twice_Twice := kt_Twice_Twice,
    kt_Twice_NotHeld := kt_Twice_NotHeld,
    kt_Twice_NoText := kt_Twice_NoText,
    ec_NoText := ⟨echg_NoText, echk_NoText, b_NoText, echd_NoText, echa_NoText, echn_NoText, echt_NoText, echm_NoText⟩,
    kv_NoText := kv_NoText,
    kt_NoText_TooMany := kt_NoText_TooMany,
    kt_NoText_BadName := kt_NoText_BadName,
    kt_NoText_NoSpeech := kt_NoText_NoSpeech,
    kt_NoText_Twice := kt_NoText_Twice,
    kt_NoText_NotHeld := kt_NoText_NotHeld,
    kt_NoText_NoText := kt_NoText_NoText,
    e_NoSpeech_BenchError := exm_same b_BenchError i_BenchError t_BenchError s_NoSpeech_BenchError,
    e_TooMany_BenchError := exm_same b_BenchError i_BenchError t_BenchError s_TooMany_BenchError,
    e_BadName_BenchError := exm_same b_BenchError i_BenchError t_BenchError s_BadName_BenchError,
    e_Twice_BenchError := exm_same b_BenchError i_BenchError t_BenchError s_Twice_BenchError,
    e_NoText_BenchError := exm_same b_BenchError i_BenchError t_BenchError s_NoText_BenchError,
    g_LETTERS := PySem.W.mg_of X G g_LETTERS,
    g_LONGEST_NAME := PySem.W.mg_of X G g_LONGEST_NAME,
    g_MOST_SPEECHES := PySem.W.mg_of X G g_MOST_SPEECHES,
    g_SPEECH := PySem.W.mg_of X G g_SPEECH,
    g_AGAINST := PySem.W.mg_of X G g_AGAINST,
    n_ValueError := PySem.W.mg_none_of X G z_ValueError,
    n_all := PySem.W.mg_none_of X G z_all,
    n_enumerate := PySem.W.mg_none_of X G z_enumerate,
    n_isinstance := PySem.W.mg_none_of X G z_isinstance,
    n_len := PySem.W.mg_none_of X G z_len,
    n_range := PySem.W.mg_none_of X G z_range,
    n_str := PySem.W.mg_none_of X G z_str,
    n_tuple := PySem.W.mg_none_of X G z_tuple }
theorem walk {l : PySem.W.OpenLaw} {q : Program} {loose : List Str} {XP : (Str → Option Value) → Heap → Prop} {YP : World → Heap → Prop} {d : DefRec} {K : Params → PySem.W.Frag} (hn : l.most = some 63) (hdf : d.params.defaults = [])
    (hY : ∀ (w : World) (h : Heap), YP w h → (K w.params).In h)
    (F : ∀ (w : World) (mg : Str → Option Value) (fa : Addr) (h : Heap), (K w.params).In h → h.Ns mainGlobals mg → mg d.name = some (.ref fa) → ∃ A : Ad, Tx (K w.params) mg A ∧ A.f_law = fa) :
    PySem.W.WalkO q loose XP YP l.row.toRowW d [] (fun f vs => PySem.call f vs) := by
  refine L2.walk_of (n := 63) (k := 7) (x := "_law_script") (CX := fun _ => CX0) (sp := fun w => SpD (K w.params) R_law) hn (by decide) hdf ⟨rfl, by decide, by decide⟩ hY (fun w mg fa h kin ns e => ?_) (fun w H a ns hl hO hS => ?_) fun _ _ _ _ _ z => z
  · obtain ⟨A, T, rfl⟩ := F w mg fa h kin ns e
    refine ⟨A.fd_law, fun s u => ?_, fun base _ _ => ok_law T⟩
    obtain ⟨oc, od, kV, doc, pm, an, cdv, ct, osl, e, _, _⟩ := T.F_law.ex
    rw [e]
    exact .of_eq rfl
  · exact ⟨H, [.scr ns], .bl true, Same.refl _, .cons (.scr hS) .nil, ⟨ns, rfl, hl, rfl⟩, fun v Hs H' x r => by cases r; rfl⟩
end Bw
open PySem PySem.W PyProof.Rows
set_option maxRecDepth 100000 in
set_option maxHeartbeats 0 in
theorem PySem.Challenge.cw_benchword_k15_written_and_read_holds : PySem.Challenge.rw_benchword_k15_written_and_read.Holds := by
  w_on; o_law; k_head; (case hw => w_witness2)
  k_fill
  refine Bw.walk (l := PySem.Challenge.rw_benchword_k15_written_and_read) rfl rfl (fun w h Y => PySem.W.kIn_of Y) ?F
  case F =>
    intro w mg fa h KX G hmg
    refine' Bw.all_mk KX G hmg ?g_Bench ?h__wall ?l__wall ?c__wall ?k__wall ?h_is_name ?l_is_name ?c_is_name ?k_is_name ?h_Bench_init ?i_Bench_init ?l_Bench_init ?c_Bench_init ?k_Bench_init ?h_Bench_speakers ?i_Bench_speakers ?l_Bench_speakers ?c_Bench_speakers ?k_Bench_speakers ?h_checked_names ?l_checked_names ?c_checked_names ?k_checked_names ?h_checked_pairs ?l_checked_pairs ?c_checked_pairs ?k_checked_pairs ?h_check_speech ?l_check_speech ?c_check_speech ?k_check_speech ?h_written ?l_written ?c_written ?k_written ?h_read ?l_read ?c_read ?k_read ?h_rows_of ?l_rows_of ?c_rows_of ?k_rows_of ?h_is_form ?l_is_form ?c_is_form ?k_is_form ?h_is_word ?l_is_word ?c_is_word ?k_is_word ?h_l_cell_at ?l_l_cell_at ?c_l_cell_at ?k_l_cell_at ?h_l_mixed ?l_l_mixed ?c_l_mixed ?k_l_mixed ?h_l_names ?l_l_names ?c_l_names ?k_l_names ?h_l_pairs ?l_l_pairs ?c_l_pairs ?k_l_pairs ?h_l_drawn ?l_l_drawn ?c_l_drawn ?k_l_drawn ?h_l_kind ?l_l_kind ?c_l_kind ?k_l_kind ?h_l_read ?l_l_read ?c_l_read ?k_l_read ?h_l_text ?l_l_text ?c_l_text ?k_l_text ?h_l_name ?l_l_name ?c_l_name ?k_l_name ?h_l_parted ?l_l_parted ?c_l_parted ?k_l_parted ?h_l_due ?l_l_due ?c_l_due ?k_l_due ?h_l_spoilt ?l_l_spoilt ?c_l_spoilt ?k_l_spoilt ?h_law ?l_law ?c_law ?k_law ?pg_Bench ?hd_Bench ?po_Bench ?sa_Bench ?mk_Bench ?kc_Bench ?n_Bench_names ?n_Bench_pairs ?g_BenchError ?x_BenchError ?kc_BenchError ?b_BenchError ?t_BenchError ?i_BenchError ?g_TooMany ?x_TooMany ?kc_TooMany ?b_TooMany ?t_TooMany ?i_TooMany ?g_BadName ?x_BadName ?kc_BadName ?b_BadName ?t_BadName ?i_BadName ?g_NoSpeech ?x_NoSpeech ?kc_NoSpeech ?b_NoSpeech ?t_NoSpeech ?i_NoSpeech ?g_Twice ?x_Twice ?kc_Twice ?b_Twice ?t_Twice ?i_Twice ?g_NotHeld ?x_NotHeld ?kc_NotHeld ?b_NotHeld ?t_NotHeld ?i_NotHeld ?g_NoText ?x_NoText ?kc_NoText ?b_NoText ?t_NoText ?i_NoText ?ioa_Bench ?ion_Bench ?iot_Bench ?iom_Bench ?echg_TooMany ?echk_TooMany ?echd_TooMany ?echa_TooMany ?echn_TooMany ?echt_TooMany ?echm_TooMany ?kv_TooMany ?kt_TooMany_TooMany ?kt_TooMany_BadName ?kt_TooMany_NoSpeech ?kt_TooMany_Twice ?kt_TooMany_NotHeld ?kt_TooMany_NoText ?echg_BadName ?echk_BadName ?echd_BadName ?echa_BadName ?echn_BadName ?echt_BadName ?echm_BadName ?kv_BadName ?kt_BadName_TooMany ?kt_BadName_BadName ?kt_BadName_NoSpeech ?kt_BadName_Twice ?kt_BadName_NotHeld ?kt_BadName_NoText ?echg_NoSpeech ?echk_NoSpeech ?echd_NoSpeech ?echa_NoSpeech ?echn_NoSpeech ?echt_NoSpeech ?echm_NoSpeech ?kv_NoSpeech ?kt_NoSpeech_TooMany ?kt_NoSpeech_BadName ?kt_NoSpeech_NoSpeech ?kt_NoSpeech_Twice ?kt_NoSpeech_NotHeld ?kt_NoSpeech_NoText ?echg_Twice ?echk_Twice ?echd_Twice ?echa_Twice ?echn_Twice ?echt_Twice ?echm_Twice ?kv_Twice ?kt_Twice_TooMany ?kt_Twice_BadName ?kt_Twice_NoSpeech ?kt_Twice_Twice ?kt_Twice_NotHeld ?kt_Twice_NoText ?echg_NoText ?echk_NoText ?echd_NoText ?echa_NoText ?echn_NoText ?echt_NoText ?echm_NoText ?kv_NoText ?kt_NoText_TooMany ?kt_NoText_BadName ?kt_NoText_NoSpeech ?kt_NoText_Twice ?kt_NoText_NotHeld ?kt_NoText_NoText ?s_NoSpeech_BenchError ?s_TooMany_BenchError ?s_BadName_BenchError ?s_Twice_BenchError ?s_NoText_BenchError ?g_LETTERS ?g_LONGEST_NAME ?g_MOST_SPEECHES ?g_SPEECH ?g_AGAINST ?z_ValueError ?z_all ?z_enumerate ?z_isinstance ?z_len ?z_range ?z_str ?z_tuple
    (case g_Bench => k_is)
    (case h__wall => k_is)
    (case l__wall => k_is)
    (case c__wall => k_is)
    (case k__wall => k_is)
    (case h_is_name => k_is)
    (case l_is_name => k_is)
    (case c_is_name => k_is)
    (case k_is_name => k_is)
    (case h_Bench_init => k_is)
    (case i_Bench_init => k_is)
    (case l_Bench_init => k_is)
    (case c_Bench_init => k_is)
    (case k_Bench_init => k_is)
    (case h_Bench_speakers => k_is)
    (case i_Bench_speakers => k_is)
    (case l_Bench_speakers => k_is)
    (case c_Bench_speakers => k_is)
    (case k_Bench_speakers => k_is)
    (case h_checked_names => k_is)
    (case l_checked_names => k_is)
    (case c_checked_names => k_is)
    (case k_checked_names => k_is)
    (case h_checked_pairs => k_is)
    (case l_checked_pairs => k_is)
    (case c_checked_pairs => k_is)
    (case k_checked_pairs => k_is)
    (case h_check_speech => k_is)
    (case l_check_speech => k_is)
    (case c_check_speech => k_is)
    (case k_check_speech => k_is)
    (case h_written => k_is)
    (case l_written => k_is)
    (case c_written => k_is)
    (case k_written => k_is)
    (case h_read => k_is)
    (case l_read => k_is)
    (case c_read => k_is)
    (case k_read => k_is)
    (case h_rows_of => k_is)
    (case l_rows_of => k_is)
    (case c_rows_of => k_is)
    (case k_rows_of => k_is)
    (case h_is_form => k_is)
    (case l_is_form => k_is)
    (case c_is_form => k_is)
    (case k_is_form => k_is)
    (case h_is_word => k_is)
    (case l_is_word => k_is)
    (case c_is_word => k_is)
    (case k_is_word => k_is)
    (case h_l_cell_at => k_is)
    (case l_l_cell_at => k_is)
    (case c_l_cell_at => k_is)
    (case k_l_cell_at => k_is)
    (case h_l_mixed => k_is)
    (case l_l_mixed => k_is)
    (case c_l_mixed => k_is)
    (case k_l_mixed => k_is)
    (case h_l_names => k_is)
    (case l_l_names => k_is)
    (case c_l_names => k_is)
    (case k_l_names => k_is)
    (case h_l_pairs => k_is)
    (case l_l_pairs => k_is)
    (case c_l_pairs => k_is)
    (case k_l_pairs => k_is)
    (case h_l_drawn => k_is)
    (case l_l_drawn => k_is)
    (case c_l_drawn => k_is)
    (case k_l_drawn => k_is)
    (case h_l_kind => k_is)
    (case l_l_kind => k_is)
    (case c_l_kind => k_is)
    (case k_l_kind => k_is)
    (case h_l_read => k_is)
    (case l_l_read => k_is)
    (case c_l_read => k_is)
    (case k_l_read => k_is)
    (case h_l_text => k_is)
    (case l_l_text => k_is)
    (case c_l_text => k_is)
    (case k_l_text => k_is)
    (case h_l_name => k_is)
    (case l_l_name => k_is)
    (case c_l_name => k_is)
    (case k_l_name => k_is)
    (case h_l_parted => k_is)
    (case l_l_parted => k_is)
    (case c_l_parted => k_is)
    (case k_l_parted => k_is)
    (case h_l_due => k_is)
    (case l_l_due => k_is)
    (case c_l_due => k_is)
    (case k_l_due => k_is)
    (case h_l_spoilt => k_is)
    (case l_l_spoilt => k_is)
    (case c_l_spoilt => k_is)
    (case k_l_spoilt => k_is)
    (case h_law => k_is)
    (case l_law => k_is)
    (case c_law => k_is)
    (case k_law => k_is)
    (case pg_Bench => k_is)
    (case hd_Bench => k_is)
    (case po_Bench => k_is)
    (case sa_Bench => k_is)
    (case mk_Bench => k_is)
    (case kc_Bench => k_is)
    (case n_Bench_names => k_is)
    (case n_Bench_pairs => k_is)
    (case g_BenchError => k_is)
    (case x_BenchError => k_exc)
    (case kc_BenchError => k_is)
    (case b_BenchError => k_is)
    (case t_BenchError => k_is)
    (case i_BenchError => k_is)
    (case g_TooMany => k_is)
    (case x_TooMany => k_exc)
    (case kc_TooMany => k_is)
    (case b_TooMany => k_is)
    (case t_TooMany => k_is)
    (case i_TooMany => k_is)
    (case g_BadName => k_is)
    (case x_BadName => k_exc)
    (case kc_BadName => k_is)
    (case b_BadName => k_is)
    (case t_BadName => k_is)
    (case i_BadName => k_is)
    (case g_NoSpeech => k_is)
    (case x_NoSpeech => k_exc)
    (case kc_NoSpeech => k_is)
    (case b_NoSpeech => k_is)
    (case t_NoSpeech => k_is)
    (case i_NoSpeech => k_is)
    (case g_Twice => k_is)
    (case x_Twice => k_exc)
    (case kc_Twice => k_is)
    (case b_Twice => k_is)
    (case t_Twice => k_is)
    (case i_Twice => k_is)
    (case g_NotHeld => k_is)
    (case x_NotHeld => k_exc)
    (case kc_NotHeld => k_is)
    (case b_NotHeld => k_is)
    (case t_NotHeld => k_is)
    (case i_NotHeld => k_is)
    (case g_NoText => k_is)
    (case x_NoText => k_exc)
    (case kc_NoText => k_is)
    (case b_NoText => k_is)
    (case t_NoText => k_is)
    (case i_NoText => k_is)
    (case ioa_Bench => k_is)
    (case ion_Bench => k_is)
    (case iot_Bench => k_is)
    (case iom_Bench => k_is)
    (case echg_TooMany => k_is)
    (case echk_TooMany => k_is)
    (case echd_TooMany => k_is)
    (case echa_TooMany => k_is)
    (case echn_TooMany => k_is)
    (case echt_TooMany => k_is)
    (case echm_TooMany => k_is)
    (case kv_TooMany => kit_is)
    (case kt_TooMany_TooMany => kit_is)
    (case kt_TooMany_BadName => kit_is)
    (case kt_TooMany_NoSpeech => kit_is)
    (case kt_TooMany_Twice => kit_is)
    (case kt_TooMany_NotHeld => kit_is)
    (case kt_TooMany_NoText => kit_is)
    (case echg_BadName => k_is)
    (case echk_BadName => k_is)
    (case echd_BadName => k_is)
    (case echa_BadName => k_is)
    (case echn_BadName => k_is)
    (case echt_BadName => k_is)
    (case echm_BadName => k_is)
    (case kv_BadName => kit_is)
    (case kt_BadName_TooMany => kit_is)
    (case kt_BadName_BadName => kit_is)
    (case kt_BadName_NoSpeech => kit_is)
    (case kt_BadName_Twice => kit_is)
    (case kt_BadName_NotHeld => kit_is)
    (case kt_BadName_NoText => kit_is)
    (case echg_NoSpeech => k_is)
    (case echk_NoSpeech => k_is)
    (case echd_NoSpeech => k_is)
    (case echa_NoSpeech => k_is)
    (case echn_NoSpeech => k_is)
    (case echt_NoSpeech => k_is)
    (case echm_NoSpeech => k_is)
    (case kv_NoSpeech => kit_is)
    (case kt_NoSpeech_TooMany => kit_is)
    (case kt_NoSpeech_BadName => kit_is)
    (case kt_NoSpeech_NoSpeech => kit_is)
    (case kt_NoSpeech_Twice => kit_is)
    (case kt_NoSpeech_NotHeld => kit_is)
    (case kt_NoSpeech_NoText => kit_is)
    (case echg_Twice => k_is)
    (case echk_Twice => k_is)
    (case echd_Twice => k_is)
    (case echa_Twice => k_is)
    (case echn_Twice => k_is)
    (case echt_Twice => k_is)
    (case echm_Twice => k_is)
    (case kv_Twice => kit_is)
    (case kt_Twice_TooMany => kit_is)
    (case kt_Twice_BadName => kit_is)
    (case kt_Twice_NoSpeech => kit_is)
    (case kt_Twice_Twice => kit_is)
    (case kt_Twice_NotHeld => kit_is)
    (case kt_Twice_NoText => kit_is)
    (case echg_NoText => k_is)
    (case echk_NoText => k_is)
    (case echd_NoText => k_is)
    (case echa_NoText => k_is)
    (case echn_NoText => k_is)
    (case echt_NoText => k_is)
    (case echm_NoText => k_is)
    (case kv_NoText => kit_is)
    (case kt_NoText_TooMany => kit_is)
    (case kt_NoText_BadName => kit_is)
    (case kt_NoText_NoSpeech => kit_is)
    (case kt_NoText_Twice => kit_is)
    (case kt_NoText_NotHeld => kit_is)
    (case kt_NoText_NoText => kit_is)
    (case s_NoSpeech_BenchError => first | rfl | k_is)
    (case s_TooMany_BenchError => first | rfl | k_is)
    (case s_BadName_BenchError => first | rfl | k_is)
    (case s_Twice_BenchError => first | rfl | k_is)
    (case s_NoText_BenchError => first | rfl | k_is)
    (case g_LETTERS => k_is)
    (case g_LONGEST_NAME => k_is)
    (case g_MOST_SPEECHES => k_is)
    (case g_SPEECH => k_is)
    (case g_AGAINST => k_is)
    (case z_ValueError => k_is)
    (case z_all => k_is)
    (case z_enumerate => k_is)
    (case z_isinstance => k_is)
    (case z_len => k_is)
    (case z_range => k_is)
    (case z_str => k_is)
    (case z_tuple => k_is)
