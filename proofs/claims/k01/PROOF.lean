import PyProof.Rows.All
import Wide.All
import OpenK.AllK
import Wide.FinOn
import HandS.ForMost
import HandS.Defaults
import HandS.MakeKwOnly
import HandS.Conv
import HandS.Style
import HandS.IsInst
import HandS.FStr
import HandS.DictComp
import HandS.ClsMeth
import HandS.Steps
import KE.KExcInit
import KE.KExcIs
import HandS.ForExc
import HandS.ExcInit
import HandS.ExcField
import HandS.ExcIs
import KE.KExcLine
import KE.RegKTryMore
import KE.RegKIsAll
import PySem.Challenge.RW_usescale_k01_cut_numbers
set_option Elab.async false
set_option linter.all false
set_option maxRecDepth 100000
set_option maxHeartbeats 4000000
/-! Rules of my own over the hand layer, for every law of this program. -/
namespace U
open PySem PySem.Spec PyProof.Rows L2

/-! ### tests whose answer is known -/
theorem ifY {c A B : Prop} [Decidable c] (hc : c) (h : A) : if decide c = true then A else B := by
  rw [decide_eq_true hc]; exact iteT h
theorem ifN {c A B : Prop} [Decidable c] (hc : ¬ c) (h : B) : if decide c = true then A else B := by
  rw [decide_eq_false hc]; exact iteF h
theorem nifY {c A B : Prop} [Decidable c] (hc : c) (h : B) : if (!decide c) = true then A else B := by
  rw [decide_eq_true hc]; exact iteF h
theorem nifN {c A B : Prop} [Decidable c] (hc : ¬ c) (h : A) : if (!decide c) = true then A else B := by
  rw [decide_eq_false hc]; exact iteT h
theorem ifD {c A B : Prop} [Decidable c] (h1 : c → A) (h2 : ¬ c → B) : if decide c = true then A else B := by
  by_cases h : c
  · exact ifY h (h1 h)
  · exact ifN h (h2 h)
theorem ifB {b : Bool} {A B : Prop} (h1 : b = true → A) (h2 : b = false → B) : if b = true then A else B := by
  cases b
  · exact iteF (h2 rfl)
  · exact iteT (h1 rfl)
theorem ifT {b : Bool} {A B : Prop} (e : b = true) (h : A) : if b = true then A else B := by
  rw [e]; exact iteT h
theorem ifF {b : Bool} {A B : Prop} (e : b = false) (h : B) : if b = true then A else B := by
  rw [e]; exact iteF h

theorem tYesI {σ : L2.St} {H : Hp} {Q : Bool → Hp → Prop} (h : Q true H) : tYes σ H Q := h
theorem sameNew {H : Hp} {p : Addr} {o : HO} (h : H p = none) : Same H (upd H p o) := fun b u e => by
  rw [upd_ne (ne_of_none e h)]; exact e
theorem at_map {ns : List Int} {i : Nat} {y : V} (hi : (ns.map V.int)[i]? = some y) : ∃ n, y = V.int n ∧ ns[i]? = some n := by
  rw [List.getElem?_map] at hi
  cases e : ns[i]? with
  | none => rw [e] at hi; cases hi
  | some n => rw [e] at hi; exact ⟨n, (Option.some.inj hi).symm, rfl⟩
theorem take_snoc {α : Type} {l : List α} {i : Nat} {x : α} (h : l[i]? = some x) : l.take (i + 1) = l.take i ++ [x] := by
  rw [List.take_succ, h]; rfl

/-- a while: W with its measure, B where it ends by its test or a break -/
theorem whileX {c : TT} {tb : TS} {D : Ends} {σ : L2.St} {H : Hp} (W : Nat → L2.St → Hp → Prop) (B : L2.St → Hp → Prop) (n : Nat) (h0 : W n σ H) (hB : ∀ σ H, B σ H → D.nx σ H)
    (hs : ∀ (nx : L2.St → Hp → Prop), (∀ σ H, B σ H → nx σ H) → ∀ m σ H, W m σ H → c σ H fun b H1 => if b = true then ∃ N : L2.St → Hp → Prop, (∀ σ' H', N σ' H' → ∃ m', m' < m ∧ W m' σ' H') ∧ tb { D with nx := N, ct := N, bk := nx } σ H1 else nx σ H1) :
    tWhile c tb D σ H := ⟨W, ⟨n, h0⟩, hs D.nx hB⟩

/-! ### attributes by position -/
theorem lk : ∀ {ks : List Str} {vs : List V} {f : Str} {i : Nat} {v : V}, ks.findIdx? (fun k => k == f) = some i → vs[i]? = some v → (ks.zip vs).lookup f = some v
  | [], vs, f, i, v, h, _ => by simp at h
  | k :: ks, [], f, i, v, _, hv => by simp at hv
  | k :: ks, x :: vs, f, i, v, h, hv => by
    rw [List.findIdx?_cons] at h
    by_cases e : (k == f) = true
    · rw [if_pos e] at h
      obtain rfl : 0 = i := Option.some.inj h
      have e1 : f = k := (beq_iff_eq.mp e).symm
      subst e1
      obtain rfl : x = v := by simpa using hv
      simp [List.lookup]
    · rw [if_neg e] at h
      cases i with
      | zero => simp at h
      | succ i =>
        have h' : ks.findIdx? (fun k => k == f) = some i := by
          cases q : ks.findIdx? (fun k => k == f) with
          | none => rw [q] at h; simp at h
          | some j => rw [q] at h; simp at h; rw [h]
        have e2 : (f == k) = false := by
          rw [Bool.eq_false_iff]; intro z
          exact e (beq_iff_eq.mpr (beq_iff_eq.mp z).symm)
        show (match f == k with | true => some x | false => (ks.zip vs).lookup f) = some v
        rw [e2]
        exact lk h' (by simpa using hv)
theorem lkn : ∀ {ks : List Str} {vs : List V} {f : Str}, ks.findIdx? (fun k => k == f) = none → (ks.zip vs).lookup f = none
  | [], vs, f, h => by simp
  | k :: ks, [], f, _ => by simp
  | k :: ks, x :: vs, f, h => by
    rw [List.findIdx?_cons] at h
    by_cases e : (k == f) = true
    · rw [if_pos e] at h; simp at h
    · rw [if_neg e] at h
      have h' : ks.findIdx? (fun k => k == f) = none := by
        cases q : ks.findIdx? (fun k => k == f) with
        | none => rfl
        | some j => rw [q] at h; simp at h
      have e2 : (f == k) = false := by
        rw [Bool.eq_false_iff]; intro z
        exact e (beq_iff_eq.mpr (beq_iff_eq.mp z).symm)
      show (match f == k with | true => some x | false => (ks.zip vs).lookup f) = none
      rw [e2]
      exact lkn h'
/-- a new attribute -/
theorem pf : ∀ {ks : List Str} {vs : List V} {f : Str} {v : V}, ks.findIdx? (fun k => k == f) = none → ks.length = vs.length → putF f v (ks.zip vs) = (ks ++ [f]).zip (vs ++ [v])
  | [], [], f, v, _, _ => rfl
  | [], x :: vs, f, v, _, h => by simp at h
  | k :: ks, [], f, v, _, h => by simp at h
  | k :: ks, x :: vs, f, v, h, hl => by
    rw [List.findIdx?_cons] at h
    by_cases e : (k == f) = true
    · rw [if_pos e] at h; simp at h
    · rw [if_neg e] at h
      have h' : ks.findIdx? (fun k => k == f) = none := by
        cases q : ks.findIdx? (fun k => k == f) with
        | none => rfl
        | some j => rw [q] at h; simp at h
      have e2 : ¬ k = f := fun z => e (beq_iff_eq.mpr z)
      show (if k = f then (k, v) :: ks.zip vs else (k, x) :: putF f v (ks.zip vs)) = _
      rw [if_neg e2, pf h' (by simpa using hl)]
      rfl

/-! ### o[i] of a list, for o[i] op= e -/
def rGetL (K : PySem.W.Frag) : V → V → Hp → VK → Prop := fun x y H Q => ∃ p xs i v, x = .ref p ∧ y = .int i ∧ SqL K H p xs ∧ 0 ≤ i ∧ xs[i.toNat]? = some v ∧ Q v H
theorem get_list {X : Cx} : PGet X (rGetL X.K) := by
  intro pins s σ H x y v u Q I rx ry h
  obtain ⟨p, xs, i, z, rfl, rfl, hq, h0, he, q⟩ := h
  cases (show v = Value.ref p from rx)
  obtain ⟨t, rfl⟩ := ry
  obtain ⟨its, r, pl, hz⟩ := I.list hq
  obtain ⟨w, ew, rw'⟩ := r.get he
  have hl := r.length
  have hn := line63
  have hb := (List.getElem?_eq_some_iff.mp he).1
  exact wpAny_getItem_list pl.isList h0 (by omega) (by simpa using ew) ⟨z, H, I, rw', q⟩

/-! ### a[i], a a list or a tuple -/
theorem ix_or {X : Cx} {r r' : R2} (h : IxR X r) (h' : IxR X r') : IxR X (fun x y H Q => r x y H Q ∨ r' x y H Q) := by
  intro value slice pins s σ H x y v u Q I rx ry hq hs
  rcases hq with q | q
  · exact h value slice pins s σ H x y v u Q I rx ry q hs
  · exact h' value slice pins s σ H x y v u Q I rx ry q hs
def rIxLT (K : PySem.W.Frag) : R2 := fun x y H Q => rIxL K x y H Q ∨ rIxT K x y H Q
theorem ix_ls {X : Cx} : IxR X (rIxLT X.K) := ix_or ix_list ix_tup

/-! ### x is True, x is False: x anything -/
def rIsBA : R2 := fun x y H Q => ∃ b : Bool, y = .bl b ∧ Q (.bl (decide (x = .bl b))) H
theorem plain_bl {x : V} {v : Value} (b : Bool) (rx : RelV x v) : plainIs v (.bool b) = true := by
  cases x with
  | non => cases (show v = Value.none from rx); rfl
  | bl c => cases (show v = Value.bool c from rx); rfl
  | int i => obtain ⟨t, rfl⟩ := rx; rfl
  | str i => obtain ⟨t, rfl⟩ := rx; rfl
  | byt i => obtain ⟨t, rfl⟩ := rx; rfl
  | flt i => obtain ⟨t, rfl⟩ := rx; rfl
  | ref a => cases (show v = Value.ref a from rx); rfl
  | ty n => cases (show v = Value.type n from rx); rfl
theorem op_isBA {X : Cx} : OpR X (compareOp .Is) rIsBA := by
  intro pins s σ H x y v u Q I rx ry h
  obtain ⟨b, rfl, q⟩ := h
  cases (show u = Value.bool b from ry)
  by_cases e : x = .bl b
  · subst e
    cases (show v = Value.bool b from rx)
    exact wpAny_is_self rfl ⟨.bl true, H, I, rfl, by simpa using q⟩
  · refine wpAny_is_other (plain_bl b rx) (fun z => ?_) ⟨.bl false, H, I, rfl, by simpa [e] using q⟩
    subst z
    exact e (RelV.inj rx (show RelV (.bl b) (.bool b) from rfl))

/-! ### Base.m(self, ..): a def of an own class read off the class -/
structure CFn (K : PySem.W.Frag) (C : Addr) (mc : Value) (m : Str) (f : Addr) : Prop where
  rd : PySem.W.readsIn K C mc = true
  ga : PySem.W.specialIn K (.ref C) "__getattribute__" = some (some (.builtin "type.__getattribute__"))
  at_ : PySem.W.findCls K (.ref C) mc m = some (.val (.ref f))
  kp : PySem.W.keepIn K (.ref f) = true
def tCFn (C : Addr) (sp : Sp) (E : XK) (ta : TE) (t : TA) : TE := fun σ H Q => ta σ H fun x H1 => x = .ref C ∧ t σ H1 fun vs H2 => sp vs H2 Q E
section
variable {X : Cx} {CX : CXT} {k : Nat} {f C : Addr} {mc : Value} {fd : FuncData} {ps : List Str} {sp : Sp} {E : XK} {m : Str} {pos apos : Pos} {e o : Expr} {es : List Expr} {ta : TE} {t : TA}
theorem pe_cfn {pl : Sem Bool} (he : PE X o ta) (c : CFn X.K C mc m f) (F : FnOk X.prog X.w X.K X.mg X.base CX k f fd ps sp) (hr : Room k X.A) (hb : Binds X.K fd ps []) (hx : Passes CX X E) (ha : PA X (e :: es) t)
    (hst : starEach (e :: es) X.env = (false, eval e X.env) :: starEach es X.env := by rfl) (hpl : (backTo pos (starEach es X.env)).any (·.1) = false := by rfl)
    (ht : eval (.Call (.Attribute o m apos) (e :: es) [] pos) X.env = (do
      let ov ← eval o X.env
      standAt apos.atName
      let (f, first) ← holding [ov] (getMethod ov m pl)
      callWith pos f first (backTo pos (starEach (e :: es) X.env)) (backToKw pos (keywordEach [] X.env))) := by rfl) :
    PE X (.Call (.Attribute o m apos) (e :: es) [] pos) (tCFn C sp E ta t) := by
  refine ⟨fun pins s σ H Q I h => ?_⟩
  refine PySem.W.methodCall_KW (pl := pl) (thn (he.run pins s σ H _ I h) fun u s1 ⟨x, H1, I1, rx, ex, q⟩ => ?_) ht
  subst ex
  obtain rfl : u = Value.ref C := rx
  refine PySem.W.method_cls I1.kIn c.ga (PySem.W.cls_value I1.kIn c.rd c.at_ rfl ?_)
  refine PySem.W.callWith_K (first := []) (h₀ := X.base) I.ok.mod.kin c.kp (thn (ha.run pos pins _ σ H1 _ (I1.tok _) q) fun us s2 ⟨vs, H2, I2, r, q2⟩ => ⟨I2.kIn, ?_⟩) hst hpl
  exact run_fn (us := us) (vs := vs) F hr hb .nil hx I2 r (by rw [List.append_nil]; exact q2)
end
end U
namespace U
open PySem PySem.Spec PyProof.Rows L2
/-! ### calls of what has been proved, by name -/
structure Cal (P : Program) (w : World) (K : PySem.W.Frag) (mg : Str → Option Value) (base : Heap) (CX : CXT) (k : Nat) (x : Str) (sp : Sp) : Prop where
  ex : ∃ (f : Addr) (fd : FuncData) (ps : List Str), FnOk P w K mg base CX k f fd ps sp ∧ mg x = some (.ref f) ∧ PySem.W.keepIn K (.ref f) = true ∧ Binds K fd ps []
structure Met (P : Program) (w : World) (K : PySem.W.Frag) (mg : Str → Option Value) (base : Heap) (CX : CXT) (k : Nat) (C : Addr) (m : Str) (sp : Sp) : Prop where
  ex : ∃ (f : Addr) (fd : FuncData) (ps : List Str), Cls K C ∧ Meth K C m f ∧ FnOk P w K mg base CX k f fd ps sp ∧ Binds K fd ps []
structure Mak (P : Program) (w : World) (K : PySem.W.Frag) (mg : Str → Option Value) (base : Heap) (CX : CXT) (k : Nat) (x : Str) (C : Addr) (sp : Sp) : Prop where
  ex : ∃ (f : Addr) (fd : FuncData) (ps : List Str), Mk K C f ∧ FnOk P w K mg base CX k f fd ps sp ∧ mg x = some (.ref C) ∧ Binds K fd ps []
structure CFB (P : Program) (w : World) (K : PySem.W.Frag) (mg : Str → Option Value) (base : Heap) (CX : CXT) (k : Nat) (x m : Str) (sp : Sp) : Prop where
  ex : ∃ (C : Addr) (mc : Value) (f : Addr) (fd : FuncData) (ps : List Str), mg x = some (.ref C) ∧ CFn K C mc m f ∧ FnOk P w K mg base CX k f fd ps sp ∧ Binds K fd ps []
/-- a promise that asks the impossible is kept by any def -/
theorem cal_false {P : Program} {w : World} {K : PySem.W.Frag} {mg : Str → Option Value} {base : Heap} {CX : CXT} {k : Nat} {f : Addr} {fd : FuncData} {ps : List Str} {x : Str} (hm : mg x = some (.ref f)) (kp : PySem.W.keepIn K (.ref f) = true) (b : Binds K fd ps []) :
    Cal P w K mg base CX k x (fun _ _ _ _ => False) := ⟨f, fd, ps, ⟨fun _ _ _ _ h => h.elim, fun _ _ _ _ _ _ _ _ _ _ _ _ _ h => h.elim⟩, hm, kp, b⟩
section
variable {X : Cx} {k j : Nat} {C : Addr} {x m : Str} {sp : Sp} {p pos apos : Pos} {e o : Expr} {es : List Expr} {ta : TE} {t : TA}
theorem pe_c (c : Cal X.prog X.w X.K X.mg X.base CX0 k x sp) (hr : Room j X.A) (hk : k ≤ j) (hg : Gl X x) (ha : PA X (e :: es) t)
    (hdb : (x == ("__debug__" : Str)) = false := by decide) (he : starEach (e :: es) X.env = (false, eval e X.env) :: starEach es X.env := by rfl) (hpl : (backTo pos (starEach es X.env)).any (·.1) = false := by rfl) :
    PE X (.Call (.Name x p) (e :: es) [] pos) (tCall sp [] E0 t) := by
  obtain ⟨f, fd, ps, F, hm, kp, b⟩ := c.ex
  exact pe_call F (hr.mono hk) hg hm kp b .nil pass0 ha hdb he hpl
theorem pe_c0 (c : Cal X.prog X.w X.K X.mg X.base CX0 k x sp) (hr : Room j X.A) (hk : k ≤ j) (hg : Gl X x)
    (hdb : (x == ("__debug__" : Str)) = false := by decide) :
    PE X (.Call (.Name x p) [] [] pos) (tCall sp [] E0 tNil) := by
  obtain ⟨f, fd, ps, F, hm, kp, b⟩ := c.ex
  exact pe_call0 F (hr.mono hk) hg hm kp b .nil pass0 hdb
theorem pe_mk (c : Mak X.prog X.w X.K X.mg X.base CX0 k x C sp) (hr : Room j X.A) (hk : k + 1 ≤ j) (hg : Gl X x) (ha : PA X (e :: es) t)
    (hdb : (x == ("__debug__" : Str)) = false := by decide) (he : starEach (e :: es) X.env = (false, eval e X.env) :: starEach es X.env := by rfl) (hpl : (backTo pos (starEach es X.env)).any (·.1) = false := by rfl) :
    PE X (.Call (.Name x p) (e :: es) [] pos) (tMake C sp [] E0 t) := by
  obtain ⟨f, fd, ps, M, F, hm, b⟩ := c.ex
  exact pe_make M F (hr.mono hk) hg hm b .nil pass0 ha hdb he hpl
theorem pe_mt {pl : Sem Bool} (c : Met X.prog X.w X.K X.mg X.base CX0 k C m sp) (hr : Room j X.A) (hk : k ≤ j) (he : PE X o ta) (ha : PA X (e :: es) t)
    (hst : starEach (e :: es) X.env = (false, eval e X.env) :: starEach es X.env := by rfl) (hpl : (backTo pos (starEach es X.env)).any (·.1) = false := by rfl)
    (ht : eval (.Call (.Attribute o m apos) (e :: es) [] pos) X.env = (do
      let ov ← eval o X.env
      standAt apos.atName
      let (f, first) ← holding [ov] (getMethod ov m pl)
      callWith pos f first (backTo pos (starEach (e :: es) X.env)) (backToKw pos (keywordEach [] X.env))) := by rfl) :
    PE X (.Call (.Attribute o m apos) (e :: es) [] pos) (tMeth C m sp [] E0 ta t) := by
  obtain ⟨f, fd, ps, hc, hm, F, b⟩ := c.ex
  exact pe_meth (pl := pl) he hc hm F (hr.mono hk) b .nil pass0 ha hst hpl ht
theorem pe_mt0 {pl : Sem Bool} (c : Met X.prog X.w X.K X.mg X.base CX0 k C m sp) (hr : Room j X.A) (hk : k ≤ j) (he : PE X o ta)
    (ht : eval (.Call (.Attribute o m apos) [] [] pos) X.env = (do
      let ov ← eval o X.env
      standAt apos.atName
      let (f, first) ← holding [ov] (getMethod ov m pl)
      callWith pos f first (backTo pos (starEach [] X.env)) (backToKw pos (keywordEach [] X.env))) := by rfl) :
    PE X (.Call (.Attribute o m apos) [] [] pos) (tMeth C m sp [] E0 ta tNil) := by
  obtain ⟨f, fd, ps, hc, hm, F, b⟩ := c.ex
  exact pe_meth0 (pl := pl) he hc hm F (hr.mono hk) b .nil pass0 ht
/-- Base.m(self, ..) -/
def tCF (sp : Sp) (t : TA) : TE := fun σ H Q => t σ H fun vs H1 => sp vs H1 Q E0
theorem pe_cf {pl : Sem Bool} (c : CFB X.prog X.w X.K X.mg X.base CX0 k x m sp) (hr : Room j X.A) (hk : k ≤ j) (hg : Gl X x) (ha : PA X (e :: es) t)
    (hdb : (x == ("__debug__" : Str)) = false := by decide)
    (hst : starEach (e :: es) X.env = (false, eval e X.env) :: starEach es X.env := by rfl) (hpl : (backTo pos (starEach es X.env)).any (·.1) = false := by rfl)
    (ht : eval (.Call (.Attribute (.Name x p) m apos) (e :: es) [] pos) X.env = (do
      let ov ← eval (.Name x p) X.env
      standAt apos.atName
      let (f, first) ← holding [ov] (getMethod ov m pl)
      callWith pos f first (backTo pos (starEach (e :: es) X.env)) (backToKw pos (keywordEach [] X.env))) := by rfl) :
    PE X (.Call (.Attribute (.Name x p) m apos) (e :: es) [] pos) (tCF sp t) := by
  obtain ⟨C, mc, f, fd, ps, hm, cf, F, b⟩ := c.ex
  have z : PE X (.Call (.Attribute (.Name x p) m apos) (e :: es) [] pos) (tCFn C sp E0 (tC (.ref C)) t) := pe_cfn (pl := pl) (pe_glob hg hm rfl hdb) cf F (hr.mono hk) b pass0 ha hst hpl ht
  exact ⟨fun pins s σ H Q I h => z.run pins s σ H Q I ⟨rfl, h⟩⟩
end
end U
namespace U
open PySem PySem.Spec PyProof.Rows L2
/-- a module's constant -/
theorem pe_gx {X : Cx} {x : Str} {v : V} {p : Pos} (hg : Gl X x) (h : ∃ u, X.mg x = some u ∧ RelV v u) (hd : (x == ("__debug__" : Str)) = false := by decide) : PE X (.Name x p) (tC v) := by
  obtain ⟨u, hm, r⟩ := h
  exact pe_glob hg hm r hd
/-- a dict comprehension over a range -/
theorem dc_rng {lo : Int} {n : Nat} {g : TG} {tt : TT} {tk tv : TE} {vs : List Nat} {σ : L2.St} {H1 : Hp} {D : Addr} {Qd : Hp → Prop} (Pv : Nat → Hp → Prop) (h0 : Pv 0 (upd H1 D (.dK [])))
    (hs : ∀ (i : Nat) (H : Hp), i < n → Pv i H → g (.int (lo + i)) (wipe σ vs) H fun σ2 H2 => wipe σ2 vs = wipe σ vs ∧ tt σ2 H2 fun b H3 =>
      if b = true then tk σ2 H3 fun y H4 => tv σ2 H4 fun z H5 => ∃ kvs k, y = kV k ∧ H5 D = some (.dK kvs) ∧ kvs.length < sizeLine ∧ Pv (i + 1) (upd H5 D (.dK (putK kvs k z))) else Pv (i + 1) H3) (hd : ∀ H, Pv n H → Qd H) :
    ∃ W : Nat → Nat → Hp → Prop, (∃ m, W 0 m (upd H1 D (.dK []))) ∧ ∀ i m H, W i m H →
      ((Itr lo n).stop i H ∧ Qd H) ∨ ((Itr lo n).go i H ∧ ∃ Nx : Hp → Prop, (∀ H', Nx H' → ∃ m', m' < m ∧ W (i + 1) m' H') ∧ ∀ x H', (Itr lo n).yld i H x H' → g x (wipe σ vs) H' fun σ2 H2 => wipe σ2 vs = wipe σ vs ∧ tt σ2 H2 fun b H3 =>
        if b = true then tk σ2 H3 fun y H4 => tv σ2 H4 fun z H5 => ∃ kvs k, y = kV k ∧ H5 D = some (.dK kvs) ∧ kvs.length < sizeLine ∧ Nx (upd H5 D (.dK (putK kvs k z))) else Nx H3) := by
  refine ⟨fun i m H => m = n - i ∧ i ≤ n ∧ Pv i H, ⟨n, by omega, Nat.zero_le _, h0⟩, ?_⟩
  rintro i m H ⟨rfl, hi, p⟩
  by_cases hlt : i < n
  · refine .inr ⟨hlt, Pv (i + 1), fun H' p' => ⟨n - (i + 1), by omega, rfl, hlt, p'⟩, fun x H' y => ?_⟩
    obtain ⟨e, y⟩ := y
    subst e y
    exact hs i _ hlt p
  · have e : i = n := by omega
    subst e
    exact .inl ⟨Nat.le_refl _, hd H p⟩
theorem range_at {n i : Nat} (h : i < n) : (List.range n)[i]? = some i := by simp [h]
/-- the heap is as it was, but at p -/
def But (p : Addr) (H H' : Hp) : Prop := ∀ b o, H b = some o → b ≠ p → H' b = some o
theorem But.refl {p : Addr} {H : Hp} : But p H H := fun _ _ h _ => h
theorem But.trans {p : Addr} {H H1 H2 : Hp} (a : But p H H1) (b : But p H1 H2) : But p H H2 := fun c o h n => b c o (a c o h n) n
theorem But.upd {p : Addr} {H H1 : Hp} {o : HO} (a : But p H H1) : But p H (upd H1 p o) := fun c u h n => by rw [upd_ne n]; exact a c u h n
theorem But.new {p q : Addr} {H H1 : Hp} {o : HO} (a : But p H H1) (hq : H1 q = none) : But p H (L2.upd H1 q o) := fun c u h n => by
  have z := a c u h n
  rw [upd_ne (ne_of_none z hq)]; exact z
theorem But.of {p : Addr} {H H1 : Hp} (a : Same H H1) : But p H H1 := fun c u h _ => a c u h
end U
namespace U
open PySem PySem.Spec PyProof.Rows L2
theorem putF_le (f : Str) (v : V) : ∀ fs : List (Str × V), (putF f v fs).length ≤ fs.length + 1
  | [] => Nat.le_refl _
  | (g, x) :: r => by
    show (if g = f then (g, v) :: r else (g, x) :: putF f v r).length ≤ r.length + 1 + 1
    split
    · rw [List.length_cons]; omega
    · rw [List.length_cons]; have := putF_le f v r; omega
theorem putF_n {f : Str} {v : V} {fs : List (Str × V)} {n : Nat} (h : fs.length ≤ n) : (putF f v fs).length ≤ n + 1 := Nat.le_trans (putF_le f v fs) (Nat.succ_le_succ h)
end U
namespace U
open PySem PySem.Spec PyProof.Rows L2
theorem putK_le (kvs : List (Key × V)) (k : Key) (v : V) : (putK kvs k v).length ≤ kvs.length + 1 := by
  unfold putK
  split
  · rw [List.length_map]; omega
  · rw [List.length_append]; exact Nat.le_refl _
/-- the dict of the places of names -/
def foundTo (zs : List Str) : Nat → List (Key × V)
  | 0 => []
  | i + 1 => putK (foundTo zs i) (Sum.inr (zs.getD i Str.empty)) (.int (i : Int))
theorem foundTo_le (zs : List Str) : ∀ i, (foundTo zs i).length ≤ i
  | 0 => Nat.le_refl _
  | i + 1 => Nat.le_trans (putK_le _ _ _) (Nat.succ_le_succ (foundTo_le zs i))
theorem at_mapS {ns : List Str} {i : Nat} (h : i < ns.length) : (ns.map V.str)[i]? = some (.str (ns.getD i Str.empty)) := by
  rw [List.getElem?_map, List.getElem?_eq_getElem h, List.getD_eq_getElem?_getD, List.getElem?_eq_getElem h]
  rfl
end U
namespace U
open PySem PySem.Spec PyProof.Rows L2
/-! ### the same rules with the written part named, for the inside of comprehensions -/
theorem ix_listK {X : Cx} (K : PySem.W.Frag) (h : X.K = K) : IxR X (rIxL K) := by subst h; exact ix_list
theorem ix_tupK {X : Cx} (K : PySem.W.Frag) (h : X.K = K) : IxR X (rIxT K) := by subst h; exact ix_tup
theorem ix_lsK {X : Cx} (K : PySem.W.Frag) (h : X.K = K) : IxR X (rIxLT K) := by subst h; exact ix_ls
theorem pe_fldK {X : Cx} (K : PySem.W.Frag) (h : X.K = K) {e : Expr} {ta : TE} {f : Str} {pos : Pos} (he : PE X e ta) (hb : attributeBase e f X.env (eval e X.env) = eval e X.env) : PE X (.Attribute e f pos) (tFld K ta f) := by
  subst h; exact pe_fld he hb
def rLenLT (K : PySem.W.Frag) : List V → Hp → VK → Prop := fun xs H Q => ∃ p ys, xs = [V.ref p] ∧ (SqL K H p ys ∨ SqT K H p ys) ∧ Q (V.int (ys.length : Int)) H
theorem call_lenK {X : Cx} (K : PySem.W.Frag) (h : X.K = K) : CallR X (.builtin "len") (rLenLT K) := by subst h; exact call_len_seq
theorem op_inK {X : Cx} (K : PySem.W.Frag) (h : X.K = K) : OpR X (compareOp .In) (rIn K false) := by subst h; exact op_in_seq
theorem call_isiKn {X : Cx} (K : PySem.W.Frag) (h : X.K = K) : CallR X (.builtin "isinstance") (rIsi K) := by subst h; exact call_isi
end U
namespace U
open PySem PySem.Spec PyProof.Rows L2
/-! ### comprehensions that change nothing but their own new object: F i is what it holds ahead of turn i -/
theorem dcF_range {lo : Int} {n : Nat} {g : TG} {tt : TT} {tk tv : TE} {vs : List Nat} {σ : L2.St} {HB : Hp} {D : Addr} {Qd : Hp → Prop} (F : Nat → List (Key × V)) (h0 : F 0 = [])
    (hs : ∀ (i : Nat), i < n → g (.int (lo + i)) (wipe σ vs) (upd HB D (.dK (F i))) fun σ2 H2 => wipe σ2 vs = wipe σ vs ∧ tt σ2 H2 fun b H3 =>
      if b = true then tk σ2 H3 fun y H4 => tv σ2 H4 fun z H5 => ∃ kvs k, y = kV k ∧ H5 D = some (.dK kvs) ∧ kvs.length < sizeLine ∧ upd H5 D (.dK (putK kvs k z)) = upd HB D (.dK (F (i + 1))) else H3 = upd HB D (.dK (F (i + 1)))) (hd : Qd (upd HB D (.dK (F n)))) :
    ∃ W : Nat → Nat → Hp → Prop, (∃ m, W 0 m (upd HB D (.dK []))) ∧ ∀ i m H, W i m H →
      ((Itr lo n).stop i H ∧ Qd H) ∨ ((Itr lo n).go i H ∧ ∃ Nx : Hp → Prop, (∀ H', Nx H' → ∃ m', m' < m ∧ W (i + 1) m' H') ∧ ∀ x H', (Itr lo n).yld i H x H' → g x (wipe σ vs) H' fun σ2 H2 => wipe σ2 vs = wipe σ vs ∧ tt σ2 H2 fun b H3 =>
        if b = true then tk σ2 H3 fun y H4 => tv σ2 H4 fun z H5 => ∃ kvs k, y = kV k ∧ H5 D = some (.dK kvs) ∧ kvs.length < sizeLine ∧ Nx (upd H5 D (.dK (putK kvs k z))) else Nx H3) :=
  dc_rng (fun i H => H = upd HB D (.dK (F i))) (by rw [h0]) (fun i H hi e => by subst e; exact hs i hi) (fun H e => by subst e; exact hd)
theorem lcF_range {lo : Int} {n : Nat} {g : TG} {tt : TT} {te : TE} {vs : List Nat} {σ : L2.St} {HB : Hp} {D : Addr} {Qd : Hp → Prop} (F : Nat → List V) (h0 : F 0 = [])
    (hs : ∀ (i : Nat), i < n → g (.int (lo + i)) (wipe σ vs) (upd HB D (.lst (F i))) fun σ2 H2 => wipe σ2 vs = wipe σ vs ∧ tt σ2 H2 fun b H3 =>
      if b = true then te σ2 H3 fun y H4 => ∃ acc, H4 D = some (.lst acc) ∧ acc.length < sizeLine ∧ upd H4 D (.lst (acc ++ [y])) = upd HB D (.lst (F (i + 1))) else H3 = upd HB D (.lst (F (i + 1)))) (hd : Qd (upd HB D (.lst (F n)))) :
    ∃ W : Nat → Nat → Hp → Prop, (∃ m, W 0 m (upd HB D (.lst []))) ∧ ∀ i m H, W i m H →
      ((Itr lo n).stop i H ∧ Qd H) ∨ ((Itr lo n).go i H ∧ ∃ Nx : Hp → Prop, (∀ H', Nx H' → ∃ m', m' < m ∧ W (i + 1) m' H') ∧ ∀ x H', (Itr lo n).yld i H x H' → g x (wipe σ vs) H' fun σ2 H2 => wipe σ2 vs = wipe σ vs ∧ tt σ2 H2 fun b H3 =>
        if b = true then te σ2 H3 fun y H4 => ∃ acc, H4 D = some (.lst acc) ∧ acc.length < sizeLine ∧ Nx (upd H4 D (.lst (acc ++ [y]))) else Nx H3) :=
  lc_range (fun i H => H = upd HB D (.lst (F i))) (by rw [h0]) (fun i H hi e => by subst e; exact hs i hi) (fun H e => by subst e; exact hd)
theorem lcF_list {K : PySem.W.Frag} {a : Addr} {xs : List V} {g : TG} {tt : TT} {te : TE} {vs : List Nat} {σ : L2.St} {HB : Hp} {D : Addr} {Qd : Hp → Prop} (F : Nat → List V) (hD : HB D = none) (hl : SqL K HB a xs) (h0 : F 0 = [])
    (hs : ∀ (i : Nat) (x : V), xs[i]? = some x → g x (wipe σ vs) (upd HB D (.lst (F i))) fun σ2 H2 => wipe σ2 vs = wipe σ vs ∧ tt σ2 H2 fun b H3 =>
      if b = true then te σ2 H3 fun y H4 => ∃ acc, H4 D = some (.lst acc) ∧ acc.length < sizeLine ∧ upd H4 D (.lst (acc ++ [y])) = upd HB D (.lst (F (i + 1))) else H3 = upd HB D (.lst (F (i + 1)))) (hd : Qd (upd HB D (.lst (F xs.length)))) :
    ∃ W : Nat → Nat → Hp → Prop, (∃ m, W 0 m (upd HB D (.lst []))) ∧ ∀ i m H, W i m H →
      ((Itl K a).stop i H ∧ Qd H) ∨ ((Itl K a).go i H ∧ ∃ Nx : Hp → Prop, (∀ H', Nx H' → ∃ m', m' < m ∧ W (i + 1) m' H') ∧ ∀ x H', (Itl K a).yld i H x H' → g x (wipe σ vs) H' fun σ2 H2 => wipe σ2 vs = wipe σ vs ∧ tt σ2 H2 fun b H3 =>
        if b = true then te σ2 H3 fun y H4 => ∃ acc, H4 D = some (.lst acc) ∧ acc.length < sizeLine ∧ Nx (upd H4 D (.lst (acc ++ [y]))) else Nx H3) :=
  lc_list (xs := xs) (fun i H => H = upd HB D (.lst (F i))) (by rw [h0]) (fun i H _ e => by subst e; exact (sameNew hD).seq hl) (fun i x H hx e => by subst e; exact hs i x hx) (fun H e => by subst e; exact hd)
end U
namespace U
open PySem PySem.Spec PyProof.Rows L2
/-- a number in decimal -/
abbrev num (i : Int) : Str := Str.ofString (toString i)
theorem num_short (i : Int) (h0 : 0 ≤ i) (h1 : i < 130) : (num i).length ≤ 3 := by
  have z : ∀ n : Nat, n < 130 → (num (n : Int)).length ≤ 3 := by decide +kernel
  obtain ⟨n, rfl⟩ := Int.eq_ofNat_of_zero_le h0
  exact z n (by omega)
theorem num_log (i : Int) (h0 : 0 ≤ i) (h1 : i < 130) : i.natAbs.log2 < 1920 := by
  have e : i.natAbs < 2 ^ 1920 := Nat.lt_of_lt_of_le (show i.natAbs < 130 by omega) (by decide +kernel)
  by_cases hz : i.natAbs = 0
  · rw [hz]; decide
  · exact (Nat.log2_lt hz).mpr e
theorem len_app (a b : Str) : (a ++ b).length = a.length + b.length := by
  show (a.cps ++ b.cps).size = a.cps.size + b.cps.size
  rw [Array.size_append]
theorem rg_at {n : Int} {i : Nat} (h : (i : Int) < n) : (rgV 0 n)[i]? = some (.int (i : Int)) := by
  unfold rgV
  rw [List.getElem?_map, range_at (by omega)]
  simp
end U
namespace U
open PySem PySem.Spec PyProof.Rows L2
abbrev fld (fs : List (Str × V)) (f : Str) : Option V := fs.lookup f
theorem fld_put (f g : Str) (v : V) (fs : List (Str × V)) : fld (putF f v fs) g = if g = f then some v else fld fs g := lookup_putF f g v fs
end U
namespace U
open PySem PySem.Spec PyProof.Rows L2
theorem tNextI {D : Ends} {σ : L2.St} {H : Hp} (h : D.nx σ H) : tNext D σ H := h
end U
namespace U
open PySem PySem.Spec PyProof.Rows L2
/-- the ways of a statement meet in B -/
theorem join {t : TS} {D : Ends} {σ : L2.St} {H : Hp} (B : L2.St → Hp → Prop) (h : ∀ D' : Ends, (∀ σ H, B σ H → D'.nx σ H) → t D' σ H) (k : ∀ σ H, B σ H → D.nx σ H) : t D σ H := h D k
theorem joinR {t : TS} {D : Ends} {σ : L2.St} {H : Hp} (B : L2.St → Hp → Prop) (h : ∀ D' : Ends, D'.rt = D.rt → (∀ σ H, B σ H → D'.nx σ H) → t D' σ H) (k : ∀ σ H, B σ H → D.nx σ H) : t D σ H := h D rfl k
theorem range_map_snoc {β : Type} (f : Nat → β) (i : Nat) : (List.range (i + 1)).map f = (List.range i).map f ++ [f i] := by
  rw [List.range_succ, List.map_append]; rfl
theorem rg_inv {n : Int} {i : Nat} {x : V} (h : (rgV 0 n)[i]? = some x) : x = .int (i : Int) ∧ (i : Int) < n := by
  have hi : i < (rgV 0 n).length := (List.getElem?_eq_some_iff.mp h).1
  rw [rgV_length] at hi
  have hn : (i : Int) < n := by omega
  rw [rg_at hn] at h
  exact ⟨(Option.some.inj h).symm, hn⟩
end U
namespace U
open PySem PySem.Spec PyProof.Rows L2
theorem gNameI {i : Nat} {v : V} {σ : L2.St} {H : Hp} {Q : L2.St → Hp → Prop} (h : Q (σ.set i (some v)) H) : gName i v σ H Q := h
end U
namespace U
open PySem PySem.Spec PyProof.Rows L2
theorem app_le {a b : Str} {m n : Nat} (ha : a.length ≤ m) (hb : b.length ≤ n) : (a ++ b).length ≤ m + n := by rw [len_app]; omega
theorem sz {n m : Nat} (h : n ≤ m) (hm : m ≤ 1000) : n ≤ sizeLine := Nat.le_trans h (Nat.le_trans hm (by decide))
end U
namespace U
open PySem PySem.Spec PyProof.Rows L2
theorem find_at {α : Type} {p : α → Bool} : ∀ {us : List α} {i : Nat} {x : α}, us[i]? = some x → p x = true → (∀ y ∈ us.take i, p y = false) → us.find? p = some x
  | [], i, x, h, _, _ => by simp at h
  | u :: us, 0, x, h, hp, _ => by
    obtain rfl : u = x := by simpa using h
    rw [List.find?_cons, hp]
  | u :: us, i + 1, x, h, hp, ht => by
    rw [List.find?_cons, ht u (by simp)]
    exact find_at (i := i) (by simpa using h) hp (fun y hy => ht y (by simp [hy]))
theorem find_none {α : Type} {p : α → Bool} {us : List α} (h : ∀ y ∈ us, p y = false) : us.find? p = none := by
  rw [List.find?_eq_none]
  intro y hy
  rw [h y hy]; decide
end U
namespace U
open PySem PySem.Spec PyProof.Rows L2
/-- a class made with keywords -/
structure MakK (P : Program) (w : World) (K : PySem.W.Frag) (mg : Str → Option Value) (base : Heap) (CX : CXT) (k : Nat) (x : Str) (C : Addr) (sp : Sp) (n : Nat) (ks : List Str) (gV : List V → List V → List V) : Prop where
  ex : ∃ (f : Addr) (fd : FuncData) (ps : List Str) (g : List Value → List Value → List Value), Mk K C f ∧ FnOk P w K mg base CX k f fd ps sp ∧ mg x = some (.ref C) ∧ KBn K fd ps (n + 1) ks g gV
theorem pe_mkK {X : Cx} {k j n : Nat} {C : Addr} {x : Str} {sp : Sp} {p pos : Pos} {e : Expr} {es : List Expr} {t tk : TA} {ks : List Str} {kws : List Keyword} {gV : List V → List V → List V}
    (c : MakK X.prog X.w X.K X.mg X.base CX0 k x C sp n ks gV) (hr : Room j X.A) (hk : k + 1 ≤ j) (hg : Gl X x) (ha : PA X (e :: es) t) (hkw : PK X kws tk)
    (hall : (backToKw pos (keywordEach kws X.env)).all (·.1.isSome) = true := by rfl) (hks : (backToKw pos (keywordEach kws X.env)).filterMap (·.1) = ks := by rfl) (hdb : (x == ("__debug__" : Str)) = false := by decide)
    (he : starEach (e :: es) X.env = (false, eval e X.env) :: starEach es X.env := by rfl) (hpl : ((backTo pos (starEach (e :: es) X.env)).any (·.1) || (backToKw pos (keywordEach kws X.env)).any (·.1.isNone)) = false := by rfl) :
    PE X (.Call (.Name x p) (e :: es) kws pos) (tMakeK C n ks.length sp gV E0 t tk) := by
  obtain ⟨f, fd, ps, g, M, F, hm, hb⟩ := c.ex
  exact pe_makeK M F (hr.mono hk) hg hm hb pass0 ha hkw hall hks hdb he hpl
end U
namespace U
open PySem PySem.Spec PyProof.Rows L2
theorem tAsgC {i : Nat} {v : V} {D : Ends} {σ : L2.St} {H : Hp} (h : D.nx (σ.set i (some v)) H) : tAsg (tC v) (gName i) D σ H := h
end U
namespace U
open PySem PySem.Spec PyProof.Rows L2
theorem upd_none {H : Hp} {a b : Addr} {o : HO} (h : upd H a o b = none) : b ≠ a ∧ H b = none := by
  by_cases e : b = a
  · subst e; rw [upd_same] at h; cases h
  · rw [upd_ne e] at h; exact ⟨e, h⟩
/-- a class made by its name, with these defaults behind what is written -/
structure MakD (P : Program) (w : World) (K : PySem.W.Frag) (mg : Str → Option Value) (base : Heap) (CX : CXT) (k : Nat) (x : Str) (C : Addr) (sp : Sp) (dvs : List V) : Prop where
  ex : ∃ (f : Addr) (fd : FuncData) (ps : List Str) (ds : List Value), Mk K C f ∧ FnOk P w K mg base CX k f fd ps sp ∧ mg x = some (.ref C) ∧ Binds K fd ps ds ∧ Vals dvs ds
theorem pe_mkD {X : Cx} {k j : Nat} {C : Addr} {x : Str} {sp : Sp} {dvs : List V} {p pos : Pos} {e : Expr} {es : List Expr} {t : TA} (c : MakD X.prog X.w X.K X.mg X.base CX0 k x C sp dvs) (hr : Room j X.A) (hk : k + 1 ≤ j) (hg : Gl X x) (ha : PA X (e :: es) t)
    (hdb : (x == ("__debug__" : Str)) = false := by decide) (he : starEach (e :: es) X.env = (false, eval e X.env) :: starEach es X.env := by rfl) (hpl : (backTo pos (starEach es X.env)).any (·.1) = false := by rfl) :
    PE X (.Call (.Name x p) (e :: es) [] pos) (tMake C sp dvs E0 t) := by
  obtain ⟨f, fd, ps, ds, M, F, hm, b, d⟩ := c.ex
  exact pe_make M F (hr.mono hk) hg hm b d pass0 ha hdb he hpl
end U
namespace U
open PySem PySem.Spec PyProof.Rows L2
theorem found_get (zs : List Str) (z : Str) : ∀ n, n ≤ zs.length → (∀ i < n, zs.getD i Str.empty ≠ z) → valV (foundTo zs n) (Sum.inr z : Key) = none
  | 0, _, _ => rfl
  | n + 1, h, hne => by
    show valV (putK (foundTo zs n) (Sum.inr (zs.getD n Str.empty)) (.int (n : Int))) (Sum.inr z : Key) = none
    rw [valV_put, if_neg (fun e => hne n (Nat.lt_succ_self n) (Sum.inr.inj e).symm)]
    exact found_get zs z n (by omega) fun i hi => hne i (by omega)
theorem found_at (zs : List Str) (k : Nat) (hd : ∀ i < zs.length, zs.getD i Str.empty = zs.getD k Str.empty → i = k) : ∀ n, n ≤ zs.length → k < n → valV (foundTo zs n) (Sum.inr (zs.getD k Str.empty) : Key) = some (.int (k : Int))
  | 0, _, h => absurd h (by omega)
  | n + 1, h, hk => by
    show valV (putK (foundTo zs n) (Sum.inr (zs.getD n Str.empty)) (.int (n : Int))) (Sum.inr (zs.getD k Str.empty) : Key) = some (.int (k : Int))
    rw [valV_put]
    by_cases e : k = n
    · subst e; rw [if_pos rfl]
    · rw [if_neg (fun q => e (hd n (by omega) (Sum.inr.inj q).symm).symm)]
      exact found_at zs k hd n (by omega) (by omega)
end U
namespace U
open PySem PySem.Spec PyProof.Rows L2
/-- an expression that changes nothing, by its value -/
theorem pe_joinV {X : Cx} {e : Expr} {t : TE} (h : PE X e t) : PE X e (fun σ H Q => ∃ v, (∀ Q' : VK, Q' v H → t σ H Q') ∧ Q v H) :=
  ⟨fun pins s σ H Q I ⟨v, h1, h2⟩ => h.run pins s σ H Q I (h1 Q h2)⟩
theorem num_inj : ∀ i : Nat, i < 65 → ∀ j : Nat, j < 65 → num (i : Int) = num (j : Int) → i = j := by decide +kernel
theorem num_not : ∀ i : Nat, i < 65 → ∀ w ∈ (["many", "-1", "", " 1", "1 ", "+1", "MANY"] : List Str), num (i : Int) ≠ w := by decide +kernel
theorem num_zero : ∀ s : Nat, s < 64 → ∀ i : Nat, i < 64 → num (i : Int) ≠ ("0" : Str) ++ num (s : Int) := by decide +kernel
theorem many_zero : ∀ s : Nat, s < 64 → ("many" : Str) ≠ ("0" : Str) ++ num (s : Int) := by decide +kernel
end U
set_option Elab.async false
set_option linter.all false
set_option maxRecDepth 100000
set_option maxHeartbeats 4000000
/-! Errors of own classes over any base: made with a walked __init__, their attributes, isinstance. -/
namespace UX
open PySem PySem.Spec PyProof.Rows L2 U

/-- what the written part says of an own error class at C over the built-in B -/
structure OexB (K : PySem.W.Frag) (C : Addr) (B newId initId : String) (bt : List Value) : Prop where
  SF : StoreFacts B bt "object.__setattr__" "object"
  FB : ExcBaseFacts B newId initId bt
  ini : PySem.W.excInitIn K C bt newId = true
  ov : PySem.W.excOver K C bt = true
  hd : PySem.W.hasDictIn K C = true
  sa : PySem.W.findIn K (.ref C) "__setattr__" = some (some (.builtin "object.__setattr__"))
  exC : PySem.W.subIn K (.ref C) (.type "BaseException") = some true
  tyC : PySem.W.typeIn K (.ref C) = some (.type "type")
  kC : PySem.W.keepIn K (.ref C) = true
section
variable {X : Cx} {pins : List (Addr × Obj)} {σ : L2.St} {H : Hp} {s : Shared} {a C dx : Addr} {f : Str} {y : V} {u : Value} {fs : List (Str × V)} {E : Value → Shared → Prop} {A : Around} {B newId initId : String} {bt : List Value}
theorem storeB {hp h' : Heap} {g : Array GenState} {d : Drawn} {t t' : Nat} {os : OsState} {t1 : Addr} (I : Inv X pins σ H ⟨hp, g, d, t, os⟩) (e : H a = some (exo a C none)) (old : ∀ b o, b ≠ a → hp.get? b = some o → h'.get? b = some o) (hdx : hp.objs.size ≤ dx) (hne : dx ≠ a)
    (hx : h'.get? a = some ({ cls := .ref C, dict := some dx, data := .fields #[.ref t1, .none, .none, .none, .bool false, .none] } : Obj)) (hn : h'.Ns1 dx (fun y => if y = f then some u else none)) (ry : RelV y u) :
    Inv X pins σ (upd (upd H dx (exd dx [(f, y)])) a (exo a C (some dx))) ⟨h', g, d, t', os⟩ := by
  have hnd : H dx = none := I.hok.fresh hdx
  have lt : ∀ {b : Addr} {o : Obj}, hp.get? b = some o → b ≠ dx := fun q => Nat.ne_of_lt (Nat.lt_of_lt_of_le (Heap.lt_size q) hdx)
  have na : ∀ {b : Addr}, H b = none → b ≠ a := fun n z => by rw [z, e] at n; cases n
  refine I.un (t' := t') ⟨fun b o q n _ _ => old b o (na n) q, fun b o q n _ _ => ⟨o.slots, old b o (na n) q⟩, fun b o q n _ => by rw [upd_ne (na n), upd_ne (lt q)]; exact n, fun b o q _ => ?_,
    fun b xs q => by rw [upd_ne (at_ne e q exo_tup), upd_ne (ne_of_none q hnd)]; exact q, fun b o v q => by rw [upd_ne (at_ne e q exo_frz), upd_ne (ne_of_none q hnd)]; exact q,
    fun b ps q => ⟨#[], by rw [upd_ne (at_ne e q exo_tbl), upd_ne (ne_of_none q hnd), q]; simp⟩⟩ fun b o q => ?_
  · by_cases hb : b = a
    · exact ⟨_, hb ▸ hx⟩
    · exact ⟨o, old b o hb q⟩
  · by_cases hb : b = a
    · subst hb
      rw [upd_same] at q
      cases q
      exact exo_ok hx
    · rw [upd_ne hb] at q
      by_cases hd : b = dx
      · subst hd
        rw [upd_same] at q
        cases q
        exact exd_ok hn (relO_put (fs := []) ry fun _ => True.intro)
      · rw [upd_ne hd] at q
        refine (I.hok b o q).stay (fun c v hc z => old c v ?_ z) (fun c hc => by rw [upd_ne (at_ne e hc exo_own), upd_ne (ne_of_none hc hnd)]; exact hc) fun c xs hc => by rw [upd_ne (at_ne e hc exo_tup), upd_ne (ne_of_none hc hnd)]; exact hc
        rcases hc with rfl | hc
        · exact hb
        · exact at_ne e hc exo_own
theorem ostB_new {Q : Unit → Shared → Prop} (T : OexB X.K C B newId initId bt) (I : Inv X pins σ H s) (e : H a = some (exo a C none)) (hno : NoAttr X.K C f) (ry : RelV y u)
    (h : ∀ dx s', H dx = none → dx ≠ a → Inv X pins σ (upd (upd H dx (exd dx [(f, y)])) a (exo a C (some dx))) s' → Q () s') : wpAny (model X.prog X.w) A (setAttr (.ref a) f u) Q E s := by
  obtain ⟨t1, ho⟩ := exo_at I.hok e
  obtain ⟨cd, hc, hdc⟩ := PySem.W.any_some T.hd
  obtain ⟨hp, g, d, t, os⟩ := s
  refine PySem.W.set_plain I.kIn (ox := { cls := .ref C, dict := none, data := .fields #[.ref t1, .none, .none, .none, .bool false, .none] }) (od := none) ⟨ho, rfl, rfl, trivial⟩ T.sa ?_
  refine PySem.W.osa_openX (od := none) T.SF I.kIn ⟨ho, rfl, rfl, trivial⟩ T.ov hno.taker fun b => ?_
  refine wpAny_bind (wpAny_pure (wpAny_bind (PySem.W.instanceDict_exc (c2 := .none) ho (PySem.W.looks_clsIn I.kIn hc) hdc ?_)))
  have lta : a < hp.objs.size := Heap.lt_size ho
  have nsa : hp.objs.size ≠ a := Nat.ne_of_gt lta
  show wpAny _ _ (Builtin.ObjectAttr.storeInDict hp.objs.size (.str f t) f u) _ _ _
  refine PySem.HandSPX.store_in_new ⟨_, #[], _, (Heap.get?_update_ne _ _ _ _ nsa).trans (Heap.get?_push_at rfl rfl), rfl, fun e he => absurd he (by simp), fun _ => rfl⟩ fun h' tk' hn hs => ?_
  -- the heap behind it
  have old : ∀ b o, b ≠ a → hp.get? b = some o → h'.get? b = some o := fun b o hb q =>
    (hs.2 b (Nat.ne_of_lt (Heap.lt_size q))).trans ((Heap.get?_update_ne _ _ _ _ hb).trans (Heap.get?_push_of_some _ q))
  have hx : h'.get? a = some { cls := .ref C, dict := some hp.objs.size, data := .fields #[.ref t1, .none, .none, .none, .bool false, .none] } :=
    (hs.2 a nsa.symm).trans (Heap.get?_update_self _ (Heap.get?_push_of_some _ ho) rfl)
  have hnd : H hp.objs.size = none := I.hok.fresh (Nat.le_refl _)
  refine h hp.objs.size _ hnd nsa (storeB (t' := tk') I e old (Nat.le_refl _) nsa hx hn ry)
/-- a further attribute -/
theorem ostB_old {Q : Unit → Shared → Prop} (T : OexB X.K C B newId initId bt) (I : Inv X pins σ H s) (e : H a = some (exo a C (some dx))) (ed : H dx = some (exd dx fs)) (hl : fs.length ≤ 900) (hno : NoAttr X.K C f) (ry : RelV y u)
    (h : ∀ s', Inv X pins σ (upd H dx (exd dx ((f, y) :: fs))) s' → Q () s') : wpAny (model X.prog X.w) A (setAttr (.ref a) f u) Q E s := by
  obtain ⟨t1, ho⟩ := exo_at I.hok e
  obtain ⟨mA, hns, rel⟩ := exd_at I.hok ed
  have hw := within_of rel
  obtain ⟨cd, hc, hdc⟩ := PySem.W.any_some T.hd
  obtain ⟨hp, g, d, t, os⟩ := s
  obtain ⟨oD, _, _, hoD, _, _⟩ := hns.count hw
  refine PySem.W.set_plain I.kIn (ox := { cls := .ref C, dict := some dx, data := .fields #[.ref t1, .none, .none, .none, .bool false, .none] }) (od := some oD) ⟨ho, rfl, rfl, hoD⟩ T.sa ?_
  refine PySem.W.osa_openX (od := some oD) T.SF I.kIn ⟨ho, rfl, rfl, hoD⟩ T.ov hno.taker fun b => ?_
  have di : ∀ {R : Option Addr → Shared → Prop} {E' : Value → Shared → Prop} {A' : Around} {t' : Nat}, R (some dx) ⟨hp, g, d, t', os⟩ → wpAny (model X.prog X.w) A' (instanceDict a true) R E' ⟨hp, g, d, t', os⟩ := fun q => by
    unfold instanceDict
    refine wpAny_bind (wpAny_loadPart ho ?_)
    dsimp only
    refine wpAny_bind ((PySem.W.looks_clsIn (M := model X.prog X.w) I.kIn hc).at ?_)
    rw [hdc]
    exact wpAny_pure q
  refine wpAny_bind (wpAny_pure (wpAny_bind (di ?_)))
  show wpAny _ _ (Builtin.ObjectAttr.storeInDict dx (.str f t) f u) _ _ _
  refine PySem.OEX.store_in_old hns hw (by rw [List.length_map]; omega) fun h' tk' hn hs => ?_
  have hd : ∃ o, h'.get? dx = some o := by
    obtain ⟨o, _, _, e', _⟩ := hn
    exact ⟨o, e'⟩
  exact h _ (I.write (t' := tk') (x := dx) (e := dx) (o := exd dx ((f, y) :: fs)) (by rw [ed]; exact True.intro) (.inl rfl) (fun b o hb q => (hs.2 b hb).trans q) hd (exd_ok hn (relO_put ry rel)))
/-- B.__init__(self, ..) through an own class: nothing of it is told -/
theorem oinitB {us : List Value} {Q : Value → Shared → Prop} (T : OexB X.K C B newId initId bt) (I : Inv X pins σ H s) (e : H a = some (exo a C none)) (hl : us.length ≤ sizeLine) (h : ∀ s', Inv X pins σ H s' → Q .none s') :
    wpAny (model X.prog X.w) A (call (.builtin initId) (.ref a :: us)) Q E s := by
  obtain ⟨nm, N, qn, bs, bm, hdct, sn, sub, ab, col, dd, k0, k1, k2, k3, k5, hC, hT⟩ := PySem.W.excInit_of I.kIn T.ini
  obtain ⟨t1, ho⟩ := exo_at I.hok e
  obtain ⟨hp, g, d, t, os⟩ := s
  refine wpAny_call (PySem.HandSPX.init_base T.FB hT hC ho hl fun h' t2 k hx => ?_)
  have J := I.write (t' := t) (x := a) (e := a) (o := exo a C none) (by rw [e]; exact True.intro) (.inl rfl) k ⟨_, hx⟩ (exo_ok hx)
  have eu : upd H a (exo a C none) = H := by
    funext b
    by_cases hb : b = a
    · subst hb; rw [upd_same, e]
    · exact upd_ne hb
  rw [eu] at J
  exact h _ J
end

/-! ### rules -/
/-- D.__init__(self, ..), D an own class without __init__ over the built-in B; nothing of it is told -/
def tBI (K : PySem.W.Frag) (B newId initId : String) (bt : List Value) (ta : TA) : TE := fun σ H Q => ta σ H fun vs H1 => ∃ (a C : Addr) (ws : List V), vs = .ref a :: ws ∧ ws.length ≤ 1000 ∧ OexB K C B newId initId bt ∧ H1 a = some (exo a C none) ∧ Q .non H1
/-- self.f = e, self an error -/
def tOstB (K : PySem.W.Frag) (B newId initId : String) (bt : List Value) (f : Str) (to te : TE) : TS := fun D σ H => te σ H fun y H1 => to σ H1 fun x H2 => ∃ a C : Addr, x = .ref a ∧ OexB K C B newId initId bt ∧ NoAttr K C f ∧
  ((H2 a = some (exo a C none) ∧ ∀ dx, H2 dx = none → dx ≠ a → D.nx σ (upd (upd H2 dx (exd dx [(f, y)])) a (exo a C (some dx)))) ∨
    ∃ (dx : Addr) (fs : List (Str × V)), H2 a = some (exo a C (some dx)) ∧ H2 dx = some (exd dx fs) ∧ fs.length ≤ 900 ∧ D.nx σ (upd H2 dx (exd dx ((f, y) :: fs))))
/-- what is known of the class that is named -/
structure BInit (K : PySem.W.Frag) (mg : Str → Option Value) (x : Str) (initId : String) : Prop where
  ex : ∃ D : Addr, mg x = some (.ref D) ∧ PySem.W.readsIn K D (.type "type") = true ∧ PySem.W.specialIn K (.ref D) "__getattribute__" = some (some (.builtin "type.__getattribute__")) ∧
    PySem.W.findCls K (.ref D) (.type "type") "__init__" = some (.val (.builtin initId)) ∧ PySem.W.handedIn (.builtin initId) = true
section
variable {X : Cx} {o e : Expr} {es : List Expr} {to te : TE} {ta : TA} {f x : Str} {p p' p1 p2 pos : Pos} {B newId initId : String} {bt : List Value}
theorem pe_binit {pl : Sem Bool} (c : BInit X.K X.mg x initId) (hg : Gl X x) (ha : PA X (e :: es) ta) (hdb : (x == ("__debug__" : Str)) = false := by decide)
    (hc : eval (.Call (.Attribute (.Name x p1) "__init__" p2) (e :: es) [] pos) X.env = (do
      let ov ← eval (.Name x p1) X.env
      standAt p2.atName
      let (f, first) ← holding [ov] (getMethod ov "__init__" pl)
      callWith pos f first (backTo pos (starEach (e :: es) X.env)) (backToKw pos (keywordEach [] X.env))) := by rfl)
    (he : starEach (e :: es) X.env = (false, eval e X.env) :: starEach es X.env := by rfl) (hpl : (backTo pos (starEach es X.env)).any (·.1) = false := by rfl) :
    PE X (.Call (.Attribute (.Name x p1) "__init__" p2) (e :: es) [] pos) (tBI X.K B newId initId bt ta) := by
  obtain ⟨D, hm, hrd, hga, hat, hh⟩ := c.ex
  refine ⟨fun pins s σ H Q I h => ?_⟩
  refine PySem.W.methodCall_KW (pl := pl) (ld_glob I hg hm ?_ hdb) hc
  refine PySem.W.method_cls I.kIn hga (PySem.W.cls_value I.kIn hrd hat hh ?_)
  refine PyProof.Rows.callWith_method1 (thn (ha.run pos pins _ σ H _ (I.tok _) h) fun us s1 ⟨vs, H1, I1, r1, a, C, ws, ev, hl, T, ea, q⟩ => ?_) he hpl
  subst ev
  cases r1 with
  | @cons _ u0 _ ur ra rw' =>
    obtain rfl : u0 = Value.ref a := ra
    refine oinitB T I1 ea ?_ fun s' J => ⟨.non, H1, J, rfl, q⟩
    rw [← Paired.length rw', sizeLine_eq]
    omega
theorem ps_ostB (ho : PE X o to) (he : PE X e te) (hs : swapsWith e (some (.Attribute o f p')) pos.line X.env = pure false := by rfl) : PS X (.Assign [.Attribute o f p'] e pos) (tOstB X.K B newId initId bt f to te) := by
  refine ⟨fun pins s σ H D I h => ?_⟩
  refine plainObj_wpAny_Assign_Attribute (thn (he.run pins s σ H _ I h) fun v s1 ⟨y, H1, I1, r1, q1⟩ => thn (ho.run pins s1 σ H1 _ I1 q1) fun u s2 ⟨x, H2, I2, r2, a, C, ex, T, hno, q⟩ => ?_) hs
  subst ex
  obtain rfl : u = Value.ref a := r2
  rcases q with ⟨ea, q⟩ | ⟨dx, fs, ea, ed, hl, q⟩
  · exact ostB_new T I2 ea hno r1 fun dx s' n ne J => ⟨σ, _, J, q dx n ne⟩
  · exact ostB_old T I2 ea ed hl hno r1 fun s' J => ⟨σ, _, J, q⟩
end
/-- C(e, ..), an error of an own class whose __init__ keeps sp, to be raised -/
def tMkB (C : Addr) (sp : Sp) (ta : TA) : L2.St → Hp → XK → Prop := fun σ H Q => ta σ H fun vs H1 => vs.length ≤ 1000 ∧ ∀ a, H1 a = none → sp (.ref a :: vs) (upd H1 a (exo a C none))
  (fun v H2 => v = .non ∧ ∃ (d : Addr) (fs : List (Str × V)), H2 a = some (exo a C (some d)) ∧ H2 d = some (exd d fs) ∧ H1 d = none ∧ Q (.ref C) (some d) (upd (del H2 a) d (.xd fs))) E0
structure ExM (P : Program) (w : World) (K : PySem.W.Frag) (mg : Str → Option Value) (base : Heap) (k : Nat) (x : Str) (C : Addr) (sp : Sp) : Prop where
  ex : ∃ (B newId initId : String) (bt : List Value) (f : Addr) (fd : FuncData) (ps : List Str), OexB K C B newId initId bt ∧ mg x = some (.ref C) ∧ PySem.W.findIn K (.ref C) "__init__" = some (some (.ref f)) ∧ PySem.W.typeIn K (.ref f) = some (.type "function") ∧
    FnOk P w K mg base CX0 k f fd ps sp ∧ Binds K fd ps []
section
variable {X : Cx} {e : Expr} {es : List Expr} {ta : TA} {x : Str} {p pos : Pos} {C : Addr} {sp : Sp} {k j : Nat}
theorem pmk_B (c : ExM X.prog X.w X.K X.mg X.base k x C sp) (hr : Room j X.A) (hk : k + 1 ≤ j) (hg : Gl X x) (ha : PA X (e :: es) ta)
    (hdb : (x == ("__debug__" : Str)) = false := by decide) (he : starEach (e :: es) X.env = (false, eval e X.env) :: starEach es X.env := by rfl) (hpl : (backTo pos (starEach es X.env)).any (·.1) = false := by rfl) :
    PMk X (.Call (.Name x p) (e :: es) [] pos) (tMkB C sp ta) := by
  obtain ⟨B, newId, initId, bt, f, fd, ps, T, hm, iC, tI, F, hb⟩ := c.ex
  have hr' : Room (k + 1) X.A := hr.mono hk
  intro pins s σ H Q I h
  refine wpAny_Call_Name_kw (ld_glob I hg hm ?_ hdb)
  refine PySem.W.callWith_K (h₀ := X.base) I.ok.mod.kin T.kC (thn (ha.run pos pins s σ H _ I h) fun us s1 ⟨vs, H1, I1, r1, hz, q1⟩ => ⟨I1.kIn, ?_⟩) he hpl
  show wpAny _ _ (call (.ref C) us) _ _ _
  obtain ⟨nm, N, qn, bs, bm, hdct, sn, sub, ab, col, dd, k0, k1, k2, k3, k5, hC, hT⟩ := PySem.W.excInit_of I1.kIn T.ini
  obtain ⟨hp, g, dr, tk, os⟩ := s1
  have hsz : hp.objs.size ≤ hp.objs.size + 1 := Nat.le_succ _
  have hq := q1 (hp.objs.size + 1) (I1.hok.fresh hsz)
  have kk : ∀ b o, hp.get? b = some o → ((hp.push (PySem.W.kdv_tup us)).push (PySem.HandSPX.excO C hp.objs.size)).get? b = some o := fun b o q => Heap.get?_push_of_some _ (Heap.get?_push_of_some _ q)
  have hget : ((hp.push (PySem.W.kdv_tup us)).push (PySem.HandSPX.excO C hp.objs.size)).get? (hp.objs.size + 1) = some (PySem.HandSPX.excO C hp.objs.size) := by heap_get
  have I2 : Inv X pins σ (upd H1 (hp.objs.size + 1) (exo (hp.objs.size + 1) C none)) ⟨(hp.push (PySem.W.kdv_tup us)).push (PySem.HandSPX.excO C hp.objs.size), g, dr, tk, os⟩ :=
    I1.laid (t' := tk) (a := hp.objs.size + 1) (o := exo (hp.objs.size + 1) C none) (h' := (hp.push (PySem.W.kdv_tup us)).push (PySem.HandSPX.excO C hp.objs.size)) kk hsz (exo_ok hget)
  have r2 : Vals (V.ref (hp.objs.size + 1) :: vs) (Value.ref (hp.objs.size + 1) :: us) := .cons rfl r1
  have hl : (Value.ref (hp.objs.size + 1) :: us).length = ps.length := by
    have z := F.len _ _ _ _ hq
    rw [r2.length] at z
    exact z
  have hus : us.length ≤ sizeLine := by
    rw [← Paired.length r1, sizeLine_eq]
    omega
  have hbb := hb _ (Value.ref (hp.objs.size + 1) :: us) I2.kIn (by rw [List.append_nil]; exact hl)
  rw [List.append_nil] at hbb
  refine wpAny_call (PySem.HandSPX.call_own T.FB hT hC (PySem.W.looks_findIn I1.kIn iC) (fun self => PySem.W.bind_fn I1.kIn self tI) hus
    (codeAny_mono (F.run _ X.stack _ _ ⟨Value.ref (hp.objs.size + 1) :: us, []⟩ (Value.ref (hp.objs.size + 1) :: us) _ _ E0 (hr'.make C us []) (I2.env0.make C us []) hbb r2 hq) fun r s' hq' => ?_))
  cases r with
  | error er => exact False.elim hq'
  | ok fl =>
    cases fl with
    | ret u =>
      obtain ⟨v, H2, os2, bare2, un2, hok2, rv, ev, d, fs, ea, ed, hd1, q2⟩ := hq'
      subst ev
      obtain ⟨h2, g2, d2, t2, os'⟩ := s'
      exact ⟨rv, mk_end (raises_own T.exC T.tyC) I1 hsz kk un2 hok2 os2 bare2 ea ed hd1 q2⟩
    | next => exact False.elim hq'
    | brk => exact False.elim hq'
    | cont => exact False.elim hq'
end

/-! ### o.m(e, ..) in a try: what is raised is wished for at the caller's slots -/
def tMtS (C : Addr) (m : Str) (sp : Sp) (E : L2.St → XK) (ta : TE) (t : TA) : TE := fun σ H Q => ta σ H fun x H1 => ∃ a dx fs, x = .ref a ∧ H1 a = some (.ins C dx fs) ∧ fld fs m = none ∧ t σ H1 fun vs H2 => sp (.ref a :: vs) H2 Q (E σ)
theorem pe_mtS {X : Cx} {CX : CXT} {k j : Nat} {C : Addr} {m : Str} {sp : Sp} {E : L2.St → XK} {pos apos : Pos} {e o : Expr} {es : List Expr} {ta : TE} {t : TA} {pl : Sem Bool} (c : Met X.prog X.w X.K X.mg X.base CX k C m sp) (hr : Room j X.A) (hk : k ≤ j) (hx : ∀ σ, PassesAt CX X σ (E σ)) (he : PE X o ta) (ha : PA X (e :: es) t)
    (hst : starEach (e :: es) X.env = (false, eval e X.env) :: starEach es X.env := by rfl) (hpl : (backTo pos (starEach es X.env)).any (·.1) = false := by rfl)
    (ht : eval (.Call (.Attribute o m apos) (e :: es) [] pos) X.env = (do
      let ov ← eval o X.env
      standAt apos.atName
      let (f, first) ← holding [ov] (getMethod ov m pl)
      callWith pos f first (backTo pos (starEach (e :: es) X.env)) (backToKw pos (keywordEach [] X.env))) := by rfl) :
    PE X (.Call (.Attribute o m apos) (e :: es) [] pos) (tMtS C m sp E ta t) := by
  obtain ⟨f, fd, ps, hc, hm, F, b⟩ := c.ex
  refine ⟨fun pins s σ H Q I h => ?_⟩
  refine PySem.W.methodCall_KW (pl := pl) (thn (he.run pins s σ H _ I h) fun u s1 ⟨x, H1, I1, rx, a, dx, fs, ex, ea, l, q⟩ => ?_) ht
  subst ex
  obtain rfl : u = Value.ref a := rx
  refine getmeth_ok I1 ea hc hm l ?_
  refine PySem.W.callWith_K (first := [.ref a]) (h₀ := X.base) I.ok.mod.kin hm.kp (thn (ha.run pos pins s1 σ H1 _ I1 q) fun us s2 ⟨vs, H2, I2, r, q2⟩ => ⟨I2.kIn, ?_⟩) hst hpl
  exact run_fnS (us := .ref a :: us) (vs := .ref a :: vs) F (hr.mono hk) b (hx σ) I2 (.cons rfl r) q2

/-! ### isinstance of a caught error that has attributes -/
structure ExcI (K : PySem.W.Frag) (D : Addr) : Prop where
  cl : (PySem.W.clsIn K D).isSome = true
  ga : PySem.W.findIn K (.ref D) "__getattribute__" = some (some (.builtin "BaseException.__getattribute__"))
  gg : PySem.W.findIn K (.ref D) "__getattr__" = some none
  exC : PySem.W.subIn K (.ref D) (.type "BaseException") = some true
  ca : PySem.W.findIn K (.ref D) "__class__" = some (some (.builtin "object.__class__"))
  cg : PySem.W.specialIn K (.builtin "object.__class__") "__get__" = some (some (.builtin "getset_descriptor.__get__"))
  ct : PySem.W.takesIn K (.builtin "object.__class__") = some true
  mo : PySem.W.mroIn K D (.type "object") = some true
def rIsD (K : PySem.W.Frag) (D a : Addr) (cls : Value) (d : Option Addr) : List V → Hp → VK → Prop := fun xs H Q => ∃ (c : V) (cv : Value) (b : Bool) (dd : Addr) (fs : List (Str × V)), xs = [.ref a, c] ∧ ClsV c cv ∧ cls = .ref D ∧ d = some dd ∧ H dd = some (.xd fs) ∧ PySem.W.kitOne K (.ref D) cv = some b ∧ Q (.bl b) H
theorem call_isD {X : Cx} {a D : Addr} {cls : Value} {d : Option Addr} {oe : Obj} {pn : List (Addr × Obj)} (C : ExcI X.K D) (hz : Zc cls d oe) (hf : ∃ vs, oe.data = .fields vs) : CallR (X.suite a ((a, oe) :: pn)) (.builtin "isinstance") (rIsD X.K D a cls d) := by
  intro pins s σ H xs us Q I r h
  obtain ⟨c, cv, b, dd, fs, rfl, hcv, rfl, rfl, hdd, e, q⟩ := h
  cases r with
  | cons rx rr =>
    cases rr with
    | cons rt rr =>
      cases rr
      cases rx
      have ec := hcv.eq rt
      subst ec
      obtain ⟨hget, _⟩ := I.pin (a, oe) (List.mem_append_left _ List.mem_cons_self)
      obtain ⟨mA, ⟨od, es, ep, hod, _⟩, _⟩ := (show ObjOk X.prog X.w H s.heap dd (.xd fs) from I.hok dd _ hdd)
      obtain ⟨vs, hv⟩ := hf
      have J : PySem.W.InstAt s.heap a oe D (some od) := ⟨hget, hz.1, by unfold PySem.W.notCls; rw [hv] <;> rfl, by rw [hz.2]; exact hod⟩
      exact PySem.W.kia_one (PySem.W.kitx_exc C.cl C.ga C.gg C.exC C.ca C.cg C.ct C.mo) I.kIn J e (fun z => nomatch z) fun tk => ⟨.bl b, H, I.kept (t' := tk) fun _ _ z => z, rfl, q⟩
end UX
namespace UX
open PySem PySem.Spec PyProof.Rows L2 U
/-- a def that lets nothing out, calling defs that may raise where they don't -/
theorem okN {P : Program} {w : World} {K : PySem.W.Frag} {mg : Str → Option Value} {base : Heap} {x qual : Str} {st : Stmt} {f : Addr} {fd : FuncData} {N ps : List Str} {k : Nat} {sp : Sp} (F : Fun K x qual st f fd) (S : FnScope N ps (defScope st)) (len : ∀ vs H Q E, sp vs H Q E → vs.length = ps.length)
    (hbody : ∀ (cdv : Value) (A : Around) (outer : List Env) (s : Shared) (H : Hp) (vs : List V) (Q : VK) (E : XK), Room k (A.deeper (envOfC qual (defScope st) s.heap.objs.size f cdv)) → sp vs H Q E →
      ∃ t, PSs (cxOf (L2.CX P w) P w K mg base N qual (defScope st) f cdv A outer s H E).nox (defBody st) t ∧ t { nx := fun _ H' => Q .non H', rt := Q } (start N vs) H) : FnOk P w K mg base (L2.CX P w) (k + 1) f fd ps sp := by
  obtain ⟨oc, od, kV, doc, pm, an, cdv, ct, osl, rfl, lk, hcd⟩ := F.ex
  refine fn_of lk hcd S len fun A outer s H vs Q E hr hsp => ?_
  obtain ⟨t, h, q⟩ := hbody cdv A outer s H vs Q E hr hsp
  exact ⟨t, h.nox, q⟩
section
variable {X : Cx} {k j : Nat} {C : Addr} {x m : Str} {sp : Sp} {p pos apos : Pos} {e o : Expr} {es : List Expr} {ta : TE} {t : TA}
theorem pe_cL (c : Cal X.prog X.w X.K X.mg X.base (L2.CX X.prog X.w) k x sp) (hr : Room j X.A) (hk : k ≤ j) (hg : Gl X x) (ha : PA X (e :: es) t)
    (hdb : (x == ("__debug__" : Str)) = false := by decide) (he : starEach (e :: es) X.env = (false, eval e X.env) :: starEach es X.env := by rfl) (hpl : (backTo pos (starEach es X.env)).any (·.1) = false := by rfl) :
    PE X (.Call (.Name x p) (e :: es) [] pos) (tCall sp [] L2.E0 t) := by
  obtain ⟨f, fd, ps, F, hm, kp, b⟩ := c.ex
  exact pe_call F (hr.mono hk) hg hm kp b .nil passL ha hdb he hpl
theorem pe_mtL {pl : Sem Bool} (c : Met X.prog X.w X.K X.mg X.base (L2.CX X.prog X.w) k C m sp) (hr : Room j X.A) (hk : k ≤ j) (he : PE X o ta) (ha : PA X (e :: es) t)
    (hst : starEach (e :: es) X.env = (false, eval e X.env) :: starEach es X.env := by rfl) (hpl : (backTo pos (starEach es X.env)).any (·.1) = false := by rfl)
    (ht : eval (.Call (.Attribute o m apos) (e :: es) [] pos) X.env = (do
      let ov ← eval o X.env
      standAt apos.atName
      let (f, first) ← holding [ov] (getMethod ov m pl)
      callWith pos f first (backTo pos (starEach (e :: es) X.env)) (backToKw pos (keywordEach [] X.env))) := by rfl) :
    PE X (.Call (.Attribute o m apos) (e :: es) [] pos) (tMeth C m sp [] L2.E0 ta t) := by
  obtain ⟨f, fd, ps, hc, hm, F, b⟩ := c.ex
  exact pe_meth (pl := pl) he hc hm F (hr.mono hk) b .nil passL ha hst hpl ht
end
end UX
namespace UX
open PySem PySem.Spec PyProof.Rows L2 U
theorem cxF {P : Program} {w : World} {H : Hp} {s : Shared} {e : Value} {s' : Shared} (h : L2.CX P w [] H s (fun _ _ _ => False) e s') : False := by
  obtain ⟨_, _, _, _, _, _, _, _, _, _, _, _, z⟩ := h
  exact z.elim
end UX
namespace Q
open PySem L2 U UX
/-! ### the law's draws -/
def top (i : Nat) : Stmt := PySem.Challenge.pw_usescale_k01_cut_numbers.main.body.getD i (.Pass ⟨0, 0, 0, 0⟩)

/-- the state of the draws: a list at S, the cells at L -/
def StA (H : Hp) (S L : Addr) : Prop := S ≠ L ∧ ∃ (ns : List Int) (a b c : Int), ns.length ≤ 63 ∧ H S = some (.lst [.ref L, .int a, .int b, .int c]) ∧ H L = some (.lst (ns.map V.int))
/-- what is not of the state stands -/
def Keeps (S L : Addr) (H H' : Hp) : Prop := ∀ b o, H b = some o → b ≠ S → b ≠ L → H' b = some o
theorem Keeps.trans {S L : Addr} {H H1 H2 : Hp} (a : Keeps S L H H1) (b : Keeps S L H1 H2) : Keeps S L H H2 := fun c o h n1 n2 => b c o (a c o h n1 n2) n1 n2
def spDraws (K : PySem.W.Frag) : Sp := fun vs H Q _ => ∃ (a : Addr) (ns : List Int), vs = [.ref a] ∧ SqL K H a (ns.map V.int) ∧ ns.length ≤ 63 ∧
  ∀ S L H', H S = none → H L = none → StA H' S L → Same H H' → Q (.ref S) H'
def spDraw : Sp := fun vs H Q _ => ∃ (S L : Addr) (m : Int), vs = [.ref S, .int m] ∧ StA H S L ∧ m.natAbs < 1073741824 ∧
  ∀ r H', 0 ≤ r → (0 < m → r < m) → StA H' S L → Keeps S L H H' → Q (.int r) H'
structure TxL (K : PySem.W.Frag) (mg : Str → Option Value) : Prop where
  int : mg "int" = none
  len : mg "len" = none
  range : mg "range" = none
  isinstance : mg "isinstance" = none
  bool : mg "bool" = none
  str : mg "str" = none
  tuple : mg "tuple" = none
  list : mg "list" = none

section
variable {P : Program} {w : World} {K : PySem.W.Frag} {mg : Str → Option Value} {base : Heap}
theorem sc__law_draws : FnScope ["_law_script", "_law_seed", "_law_cell"] ["_law_script"] (defScope (top 18)) := ⟨rfl, rfl, rfl, by decide +kernel, rfl, by decide +kernel, by decide +kernel⟩
theorem ok_draws {f : Addr} {fd : FuncData} (F : Fun K "_law_draws" "_law_draws" (top 18) f fd) (T : TxL K mg) : FnOk P w K mg base CX0 1 f fd ["_law_script"] (spDraws K) := by
  refine F.ok sc__law_draws (fun vs H Q E h => ?_) (fun cdv A outer s H vs Q E hr h => ?_)
  · obtain ⟨a, ns, rfl, _⟩ := h
    rfl
  · obtain ⟨a, ns, rfl, hS, hlen, k⟩ := h
    refine ⟨_, (pss_cons (ps_set (i := 1) sc__law_draws.nd rfl (Or.inl rfl) pe_int)
      (pss_cons (ps_for PassesOwn.never rfl (pi_list (pv 0)) (pg_name (i := 2) sc__law_draws.nd rfl (Or.inl rfl)) (pss_one (ps_set (i := 1) sc__law_draws.nd rfl (Or.inl rfl) (pe_op op_mod (pe_callTy call_int1 (by rfl) T.int (by decide +kernel) (pa_cons (pe_op op_add (pe_op op_add (pe_op op_mul (pv 1) pe_int) (pe_op op_mul (pv 2) pe_int)) pe_int) pa_nil)) pe_int))))
      (pss_one (ps_ret (pe_lst (pa_cons (pe_lc (own := [("_law_cell", 2)]) (g := (gName 2)) (by rfl) sc__law_draws.nd (pi_list (pv 0)) (blkOk_by (own := [("_law_cell", 2)]) (N := ["_law_script", "_law_seed", "_law_cell"]) (sc := defScope (top 18)) (by decide +kernel)) (fun _ _ _ _ _ => (pg_name (i := 2) sc__law_draws.nd rfl (Or.inl rfl))) (fun _ _ _ _ _ => pts_nil) (fun _ _ _ _ _ => (pe_callTy call_int1 (by rfl) T.int (by decide +kernel) (pa_cons (pv 2) pa_nil)))) (pa_cons pe_int (pa_cons (pv 1) (pa_cons pe_int pa_nil))))))))), ?_⟩
    refine ⟨_, rfl, a, rfl, ⟨_, hS⟩, for_list (K := K) (a := a) (xs := ns.map V.int) (fun i σ H2 => ∃ (z : Int) (v : Option V), σ = [some (.ref a), some (.int z), v] ∧ H2 = H)
      ⟨7, none, rfl, rfl⟩ (fun i σ H2 _ ⟨_, _, _, e⟩ => by rw [e]; exact hS) ?_ ?_⟩
    · rintro i y σ H2 hi ⟨z, v, rfl, rfl⟩
      obtain ⟨n, rfl, hn⟩ := at_map hi
      refine ⟨_, rfl, _, _, rfl, rfl, .inr ⟨by decide, by decide⟩, _, rfl, _, _, rfl, rfl, .inr ⟨by decide, by decide⟩, _, _, rfl, rfl, _, _, rfl, rfl, .inl ⟨_, rfl, ?_⟩⟩
      refine ⟨_, _, rfl, rfl, (by show (0 : Int) < 998244353; decide), ?_⟩
      exact ⟨_, _, rfl, rfl⟩
    · rintro σ H2 ⟨z, v, rfl, rfl⟩
      refine ⟨_, rfl, a, rfl, ⟨_, hS⟩, fun D hD => lc_list (K := K) (a := a) (xs := ns.map V.int) (fun i H3 => H3 = upd H2 D (.lst ((ns.take i).map V.int))) ?_ ?_ ?_ ?_⟩
      · simp
      · rintro i H3 _ rfl
        exact (sameNew hD).seq hS
      · rintro i y H3 hi rfl
        obtain ⟨n, rfl, hn⟩ := at_map hi
        refine ⟨rfl, ?_⟩
        refine tYesI (iteT ?_)
        refine ⟨_, rfl, .inl ⟨_, rfl, _, upd_same, ?_, ?_⟩⟩
        · rw [List.length_map, List.length_take]
          exact small1000 (by omega)
        · rw [upd_upd, take_snoc hn, List.map_append]
          rfl
      · rintro H3 rfl
        refine ⟨_, rfl, (by show 4 ≤ sizeLine; decide), fun S hS' => ?_⟩
        have hDS : D ≠ S := ne_of_none upd_same hS'
        refine k S D _ ((sameNew hD).free hS') hD ⟨hDS.symm, ns, 0, z, 0, hlen, upd_same, ?_⟩ ((sameNew hD).trans (sameNew hS'))
        rw [upd_ne hDS, upd_same]
        simp [List.take_of_length_le]
theorem sc__law_draw : FnScope ["_law_state", "_law_many", "_law_cell", "_law_digit", "_law_value"] ["_law_state", "_law_many"] (defScope (top 19)) := ⟨rfl, rfl, rfl, by decide +kernel, rfl, by decide +kernel, by decide +kernel⟩
theorem ok_draw {f : Addr} {fd : FuncData} (F : Fun K "_law_draw" "_law_draw" (top 19) f fd) (T : TxL K mg) : FnOk P w K mg base CX0 1 f fd ["_law_state", "_law_many"] spDraw := by
  refine F.ok sc__law_draw (fun vs H Q E h => ?_) (fun cdv A outer s H vs Q E hr h => ?_)
  · obtain ⟨S, L, m, rfl, _⟩ := h
    rfl
  · obtain ⟨S, L, m, rfl, hst, hm, k⟩ := h
    refine ⟨_, (pss_cons (ps_if (pt_cmpR op_lt (pv 1) pe_int (nomark _)) (pss_one (ps_ret pe_int)) pss_nil)
      (pss_cons (ps_while PassesOwn.never (PW.pt (pw_and (pt_cmpR op_lt (pe_ix ix_list (pv 0) pe_int (fun _ _ => rfl)) pe_int (nomark _)) (pw_and1 (pt_cmpR op_gt (pe_callB call_len_seq (by rfl) T.len (by decide +kernel) (pa_cons (pe_ix ix_list (pv 0) pe_int (fun _ _ => rfl)) pa_nil)) pe_int (nomark _))))) (pss_cons (ps_set (i := 2) sc__law_draw.nd rfl (Or.inl rfl) (pe_bm PySem.F.plainAttrs_list PySem.F.slot_list_pop PySem.F.type_list_pop mt_popAt (pe_ix ix_list (pv 0) pe_int (fun _ _ => rfl)) (pa_cons pe_int pa_nil)))
      (pss_one (ps_asg (pe_ifExp (pt_cmpR op_gt (pv 2) pe_int (nomark _)) (pv 2) (pe_un un_neg (pv 2))) (pg_sub (pv 0) pe_int set_list)))))
      (pss_cons (ps_if (pt_cmpR op_gt (pe_ix ix_list (pv 0) pe_int (fun _ _ => rfl)) pe_int (nomark _)) (pss_cons (ps_set (i := 3) sc__law_draw.nd rfl (Or.inl rfl) (pe_op op_mod (pe_callTy call_int1 (by rfl) T.int (by decide +kernel) (pa_cons (pe_ix ix_list (pv 0) pe_int (fun _ _ => rfl)) pa_nil)) (pv 1)))
      (pss_cons (ps_asg (pe_op op_fdivN (pe_ix ix_list (pv 0) pe_int (fun _ _ => rfl)) (pv 1)) (pg_sub (pv 0) pe_int set_list))
      (pss_one (ps_ret (pv 3))))) pss_nil)
      (pss_cons (ps_augS (pv 0) pe_int get_list pe_int ip_add set_list)
      (pss_cons (ps_set (i := 4) sc__law_draw.nd rfl (Or.inl rfl) (pe_op op_mod (pe_callTy call_int1 (by rfl) T.int (by decide +kernel) (pa_cons (pe_op op_add (pe_ix ix_list (pv 0) pe_int (fun _ _ => rfl)) (pe_op op_mul (pe_ix ix_list (pv 0) pe_int (fun _ _ => rfl)) pe_int)) pa_nil)) pe_int))
      (pss_cons (ps_set (i := 4) sc__law_draw.nd rfl (Or.inl rfl) (pe_op op_mod (pe_callTy call_int1 (by rfl) T.int (by decide +kernel) (pa_cons (pe_op op_mul (pv 4) (pv 4)) pa_nil)) pe_int))
      (pss_cons (ps_set (i := 4) sc__law_draw.nd rfl (Or.inl rfl) (pe_op op_mod (pe_callTy call_int1 (by rfl) T.int (by decide +kernel) (pa_cons (pe_op op_add (pe_op op_mul (pv 4) pe_int) (pe_op op_mul (pe_ix ix_list (pv 0) pe_int (fun _ _ => rfl)) pe_int)) pa_nil)) pe_int))
      (pss_one (ps_ret (pe_op op_mod (pe_callTy call_int1 (by rfl) T.int (by decide +kernel) (pa_cons (pe_op op_fdiv (pv 4) pe_int) pa_nil)) (pv 1))))))))))), ?_⟩
    obtain ⟨nSL, ns, a, b, c, hl, h1, h2⟩ := hst
    refine ⟨_, rfl, _, _, rfl, rfl, _, rfl, ?_⟩
    refine ifD (fun hm2 => ?_) (fun hm2 => ?_)
    · exact k 0 H (Int.le_refl 0) id ⟨nSL, ns, a, b, c, hl, h1, h2⟩ (fun _ _ e _ _ => e)
    refine whileX (fun M σ H2 => ∃ (v : Option V) (ns : List Int) (a : Int), M = ns.length ∧ σ = [some (.ref S), some (.int m), v, none, none] ∧ ns.length ≤ 63 ∧ H2 S = some (.lst [.ref L, .int a, .int b, .int c]) ∧ H2 L = some (.lst (ns.map V.int)) ∧ Keeps S L H H2)
      (fun σ H2 => ∃ (v : Option V) (ns : List Int) (a : Int), σ = [some (.ref S), some (.int m), v, none, none] ∧ ns.length ≤ 63 ∧ H2 S = some (.lst [.ref L, .int a, .int b, .int c]) ∧ H2 L = some (.lst (ns.map V.int)) ∧ Keeps S L H H2)
      _ ⟨none, ns, a, rfl, rfl, hl, h1, h2, fun _ _ e _ _ => e⟩ ?_ ?_
    · rintro σ H2 ⟨v, ns, a, rfl, hl, h1, h2, kp⟩
      refine ⟨_, rfl, S, _, _, _, rfl, rfl, SqL.of h1, rfl, _, _, rfl, rfl, _, rfl, ?_⟩
      refine ifD (fun ha => ?_) (fun ha => ?_)
      · refine ⟨_, rfl, S, _, _, _, rfl, rfl, SqL.of h1, rfl, .inl ⟨_, rfl, ?_⟩⟩
        refine ⟨_, rfl, _, _, rfl, rfl, (by show (0 : Int) < m; omega), ?_⟩
        refine ⟨_, rfl, S, _, _, _, rfl, rfl, SqL.of h1, rfl, ?_⟩
        refine ⟨_, rfl, _, _, rfl, rfl, ⟨by omega, by omega⟩, ?_⟩
        refine ⟨_, rfl, S, _, _, _, rfl, rfl, h1, rfl, ?_⟩
        refine ⟨_, rfl, ?_⟩
        refine k _ _ (Int.emod_nonneg _ (by omega)) (fun h0 => Int.emod_lt_of_pos _ h0) ⟨nSL, ns, _, b, c, hl, upd_same, (by rw [upd_ne nSL.symm]; exact h2)⟩ ?_
        intro d o e n1 n2
        rw [upd_ne n1]
        exact kp d o e n1 n2
      · refine ⟨_, rfl, S, _, _, _, rfl, rfl, SqL.of h1, by decide, rfl, ?_⟩
        refine ⟨_, _, rfl, rfl, ?_⟩
        refine ⟨S, _, _, _, rfl, rfl, h1, rfl, ?_⟩
        have g1 : ∀ o, (upd H2 S o) L = some (.lst (ns.map V.int)) := fun o => by rw [upd_ne nSL.symm]; exact h2
        refine ⟨_, rfl, S, _, _, _, rfl, rfl, SqL.of upd_same, rfl, ?_⟩
        refine ⟨_, rfl, S, _, _, _, rfl, rfl, SqL.of upd_same, rfl, ?_⟩
        refine ⟨_, _, rfl, rfl, .inr ⟨by decide, by decide⟩, _, _, rfl, rfl, .inl ⟨_, rfl, ?_⟩⟩
        refine ⟨_, _, rfl, rfl, (by show (0 : Int) < 998244353; decide), ?_⟩
        have e1 : 0 ≤ (b + (c + 1) * 7919) % 998244353 := Int.emod_nonneg _ (by decide)
        have e2 : (b + (c + 1) * 7919) % 998244353 < 998244353 := Int.emod_lt_of_pos _ (by decide)
        refine ⟨_, rfl, _, rfl, _, _, rfl, rfl, .inl ⟨by show -(2 ^ 64) < (b + (c + 1) * 7919) % 998244353; omega, by show (b + (c + 1) * 7919) % 998244353 < 2 ^ 64; omega⟩, .inl ⟨_, rfl, ?_⟩⟩
        refine ⟨_, _, rfl, rfl, (by show (0 : Int) < 1000000007; decide), ?_⟩
        refine ⟨_, rfl, _, _, rfl, rfl, .inr ⟨by decide, by decide⟩, ?_⟩
        refine ⟨_, rfl, S, _, _, _, rfl, rfl, SqL.of upd_same, rfl, _, _, rfl, rfl, .inr ⟨by decide, by decide⟩, _, _, rfl, rfl, .inl ⟨_, rfl, ?_⟩⟩
        refine ⟨_, _, rfl, rfl, (by show (0 : Int) < 2147483647; decide), ?_⟩
        refine ⟨_, rfl, _, _, rfl, rfl, ⟨by decide, by decide⟩, .inl ⟨_, rfl, ?_⟩⟩
        refine ⟨_, rfl, _, _, rfl, rfl, (by show (0 : Int) < m; omega), ?_⟩
        refine k _ _ (Int.emod_nonneg _ (by omega)) (fun h0 => Int.emod_lt_of_pos _ h0) ⟨nSL, ns, a, b, _, hl, upd_same, g1 _⟩ ?_
        intro d o e n1 n2
        rw [upd_ne n1]
        exact kp d o e n1 n2
    · intro nx hnx M σ H2
      rintro ⟨v, ns, a, rfl, rfl, hl, h1, h2, kp⟩
      refine ⟨_, rfl, S, _, _, _, rfl, rfl, SqL.of h1, rfl, _, _, rfl, rfl, _, rfl, ?_⟩
      refine ifD (fun ha => ?_) (fun ha => ?_)
      · refine ⟨_, rfl, S, _, _, _, rfl, rfl, SqL.of h1, rfl, ?_⟩
        refine ⟨_, _, rfl, .inl (SqL.of h2), _, _, rfl, rfl, _, rfl, ?_⟩
        refine ifD (fun hn => ?_) (fun hn => ?_)
        · refine ⟨_, fun _ _ h => h, ?_⟩
          refine ⟨_, rfl, S, _, _, _, rfl, rfl, SqL.of h1, rfl, .inl ⟨rfl, _, SqL.of h2⟩, ?_⟩
          obtain ⟨n, ns, rfl⟩ : ∃ n ns', ns = n :: ns' := by
            cases ns with
            | nil => exact absurd hn (by decide)
            | cons n ns' => exact ⟨n, ns', rfl⟩
          have hl' : ns.length + 1 ≤ 63 := hl
          refine ⟨L, _, _, 0, _, rfl, rfl, h2, by decide, by decide, ?_, rfl, ?_⟩
          · exact seqIndex_of (k := 0) (n := ((n :: ns).map V.int).length) (by decide) (by rw [List.length_map, List.length_cons]; omega)
          have g1 : ∀ o, (upd H2 L o) S = some (.lst [.ref L, .int a, .int b, .int c]) := fun o => by rw [upd_ne nSL]; exact h1
          have fin : ∀ z : Int, ∃ m', m' < (n :: ns).length ∧ ∃ (v : Option V) (ns_1 : List Int) (a : Int), m' = ns_1.length ∧ [some (V.ref S), some (V.int m), some (V.int n), none, none] = [some (.ref S), some (.int m), v, none, none] ∧ ns_1.length ≤ 63 ∧
              (upd (upd H2 L (.lst (ns.map V.int))) S (.lst [.ref L, .int z, .int b, .int c])) S = some (.lst [.ref L, .int a, .int b, .int c]) ∧ (upd (upd H2 L (.lst (ns.map V.int))) S (.lst [.ref L, .int z, .int b, .int c])) L = some (.lst (ns_1.map V.int)) ∧
              Keeps S L H (upd (upd H2 L (.lst (ns.map V.int))) S (.lst [.ref L, .int z, .int b, .int c])) := fun z =>
            ⟨ns.length, Nat.lt_succ_self _, _, ns, z, rfl, rfl, by omega, upd_same, by rw [upd_ne nSL.symm, upd_same], fun d o e n1 n2 => by rw [upd_ne n1, upd_ne n2]; exact kp d o e n1 n2⟩
          refine ⟨_, rfl, _, _, rfl, rfl, _, rfl, ?_⟩
          refine ifD (fun hc => ?_) (fun hc => ?_)
          · refine ⟨_, rfl, _, rfl, S, _, _, _, rfl, rfl, g1 _, rfl, ?_⟩
            exact fin n
          · refine ⟨_, rfl, _, rfl, _, rfl, S, _, _, _, rfl, rfl, g1 _, rfl, ?_⟩
            exact fin (-n)
        · exact hnx _ _ ⟨v, ns, a, rfl, hl, h1, h2, kp⟩
      · exact hnx _ _ ⟨v, ns, a, rfl, hl, h1, h2, kp⟩
end
/-! ### the law's same: the same data on both sides gives True -/
inductive Da (H : Hp) : Nat → V → V → Prop
  | non {n : Nat} : Da H n .non .non
  | bl {n : Nat} (b : Bool) : Da H n (.bl b) (.bl b)
  | int {n : Nat} (i : Int) : Da H n (.int i) (.int i)
  | str {n : Nat} (x : Str) : Da H n (.str x) (.str x)
  | lst {n : Nat} {a b : Addr} {xs ys : List V} (ha : H a = some (.lst xs)) (hb : H b = some (.lst ys)) (hl : xs.length = ys.length) (hz : ys.length ≤ 1000) (hi : ∀ (i : Nat) (x y : V), xs[i]? = some x → ys[i]? = some y → Da H n x y) : Da H (n + 1) (.ref a) (.ref b)
  | tup {n : Nat} {a b : Addr} {xs ys : List V} (ha : H a = some (.tup xs)) (hb : H b = some (.tup ys)) (hl : xs.length = ys.length) (hz : ys.length ≤ 1000) (hi : ∀ (i : Nat) (x y : V), xs[i]? = some x → ys[i]? = some y → Da H n x y) : Da H (n + 1) (.ref a) (.ref b)
def spSame (n : Nat) : Sp := fun vs H Q _ => ∃ x y, vs = [x, y] ∧ Da H n x y ∧ Q (.bl true) H
/-- what its own calls ask -/
def spSameR : Nat → Sp
  | 0 => fun _ _ _ _ => False
  | n + 1 => spSame n
section
variable {P : Program} {w : World} {K : PySem.W.Frag} {mg : Str → Option Value} {base : Heap}
theorem sc__law_same : FnScope ["_law_found", "_law_due", "_law_k"] ["_law_found", "_law_due"] (defScope (top 20)) := ⟨rfl, rfl, rfl, by decide +kernel, rfl, by decide +kernel, by decide +kernel⟩
theorem ok_same1 {f : Addr} {fd : FuncData} (F : Fun K "_law_same" "_law_same" (top 20) f fd) (T : TxL K mg) (n : Nat) (c__law_same : Cal P w K mg base CX0 n "_law_same" (spSameR n)) : FnOk P w K mg base CX0 (n + 1) f fd ["_law_found", "_law_due"] (spSame n) := by
  refine F.ok sc__law_same (fun vs H Q E h => ?_) (fun cdv A outer s H vs Q E hr h => ?_)
  · obtain ⟨x, y, rfl, _⟩ := h
    rfl
  · obtain ⟨x, y, rfl, hd, k⟩ := h
    refine ⟨_, (pss_cons (ps_if (pt_cmpR op_isN (pv 1) pe_non (nomark _)) (pss_one (ps_ret (pe_cmpR op_isN (pv 0) pe_non (nomark _)))) pss_nil)
      (pss_cons (ps_if (pt_cmpR op_isBA (pv 1) pe_bl (nomark _)) (pss_one (ps_ret (pe_cmpR op_isBA (pv 0) pe_bl (nomark _)))) pss_nil)
      (pss_cons (ps_if (pt_cmpR op_isBA (pv 1) pe_bl (nomark _)) (pss_one (ps_ret (pe_cmpR op_isBA (pv 0) pe_bl (nomark _)))) pss_nil)
      (pss_cons (ps_if (pt_val (pe_callB call_isi (by rfl) T.isinstance (by decide +kernel) (pa_cons (pv 1) (pa_cons (pe_bltn (v := .ty "int") (by rfl) T.int (by decide +kernel) rfl) pa_nil)))) (pss_one (ps_ret (pe_and (pe_callB call_isi (by rfl) T.isinstance (by decide +kernel) (pa_cons (pv 0) (pa_cons (pe_bltn (v := .ty "int") (by rfl) T.int (by decide +kernel) rfl) pa_nil))) (pe_and (pe_not (pe_callB call_isi (by rfl) T.isinstance (by decide +kernel) (pa_cons (pv 0) (pa_cons (pe_bltn (v := .ty "bool") (by rfl) T.bool (by decide +kernel) rfl) pa_nil)))) (pe_one (pe_cmpR op_eq (pv 0) (pv 1) (nomark _))))))) pss_nil)
      (pss_cons (ps_if (pt_val (pe_callB call_isi (by rfl) T.isinstance (by decide +kernel) (pa_cons (pv 1) (pa_cons (pe_bltn (v := .ty "str") (by rfl) T.str (by decide +kernel) rfl) pa_nil)))) (pss_one (ps_ret (pe_and (pe_callB call_isi (by rfl) T.isinstance (by decide +kernel) (pa_cons (pv 0) (pa_cons (pe_bltn (v := .ty "str") (by rfl) T.str (by decide +kernel) rfl) pa_nil))) (pe_one (pe_cmpR op_eq (pv 0) (pv 1) (nomark _)))))) pss_nil)
      (pss_cons (ps_if (PW.pt (pw_and (pt_val (pe_callB call_isi (by rfl) T.isinstance (by decide +kernel) (pa_cons (pv 1) (pa_cons (pe_bltn (v := .ty "tuple") (by rfl) T.tuple (by decide +kernel) rfl) pa_nil)))) (pw_and1 (pt_not (pt_val (pe_callB call_isi (by rfl) T.isinstance (by decide +kernel) (pa_cons (pv 0) (pa_cons (pe_bltn (v := .ty "tuple") (by rfl) T.tuple (by decide +kernel) rfl) pa_nil)))))))) (pss_one (ps_ret pe_bl)) pss_nil)
      (pss_cons (ps_if (PW.pt (pw_and (pt_val (pe_callB call_isi (by rfl) T.isinstance (by decide +kernel) (pa_cons (pv 1) (pa_cons (pe_bltn (v := .ty "list") (by rfl) T.list (by decide +kernel) rfl) pa_nil)))) (pw_and1 (pt_not (pt_val (pe_callB call_isi (by rfl) T.isinstance (by decide +kernel) (pa_cons (pv 0) (pa_cons (pe_bltn (v := .ty "list") (by rfl) T.list (by decide +kernel) rfl) pa_nil)))))))) (pss_one (ps_ret pe_bl)) pss_nil)
      (pss_cons (ps_if (pt_cmpR op_ne (pe_callB call_len_seq (by rfl) T.len (by decide +kernel) (pa_cons (pv 0) pa_nil)) (pe_callB call_len_seq (by rfl) T.len (by decide +kernel) (pa_cons (pv 1) pa_nil)) (nomark _)) (pss_one (ps_ret pe_bl)) pss_nil)
      (pss_cons (ps_for PassesOwn.never rfl (pi_range1 (by rfl) T.range (pa_cons (pe_callB call_len_seq (by rfl) T.len (by decide +kernel) (pa_cons (pv 1) pa_nil)) pa_nil)) (pg_name (i := 2) sc__law_same.nd rfl (Or.inl rfl)) (pss_one (ps_if (pt_not (pt_val (pe_c c__law_same hr (Nat.le_refl n) (by rfl) (pa_cons (pe_ix ix_ls (pv 0) (pv 2) (fun _ _ => rfl)) (pa_cons (pe_ix ix_ls (pv 1) (pv 2) (fun _ _ => rfl)) pa_nil))))) (pss_one (ps_ret pe_bl)) pss_nil)))
      (pss_one (ps_ret pe_bl))))))))))), ?_⟩
    cases hd with
    | non =>
      refine ⟨_, rfl, rfl, _, rfl, ?_⟩
      refine ifY rfl ?_
      exact ⟨_, rfl, rfl, k⟩
    | bl b =>
      refine ⟨_, rfl, rfl, _, rfl, ?_⟩
      refine ifN (fun z => nomatch z) ?_
      refine ⟨_, rfl, _, rfl, _, rfl, ?_⟩
      cases b with
      | true =>
        refine ifY rfl ?_
        exact ⟨_, rfl, _, rfl, k⟩
      | false =>
        refine ifN (by decide) ?_
        refine ⟨_, rfl, _, rfl, _, rfl, ?_⟩
        refine ifY rfl ?_
        exact ⟨_, rfl, _, rfl, k⟩
    | int i =>
      refine ⟨_, rfl, rfl, _, rfl, ?_⟩
      refine ifN (fun z => nomatch z) ?_
      refine ⟨_, rfl, _, rfl, _, rfl, ?_⟩
      refine ifN (fun z => nomatch z) ?_
      refine ⟨_, rfl, _, rfl, _, rfl, ?_⟩
      refine ifN (fun z => nomatch z) ?_
      refine ⟨_, rfl, _, _, _, _, true, rfl, .ty _, .base (.int i), kit_ty (by decide +kernel), _, rfl, ?_⟩
      refine iteT ?_
      refine ⟨_, rfl, _, _, _, _, true, rfl, .ty _, .base (.int i), kit_ty (by decide +kernel), _, rfl, ?_⟩
      refine iteT ?_
      refine ⟨_, rfl, _, _, _, _, false, rfl, .ty _, .base (.int i), kit_ty (by decide +kernel), _, rfl, _, rfl, ?_⟩
      refine iteT ?_
      refine ⟨_, rfl, _, rfl, rfl, ?_⟩
      rw [decide_eq_true rfl]
      exact k
    | str i =>
      refine ⟨_, rfl, rfl, _, rfl, ?_⟩
      refine ifN (fun z => nomatch z) ?_
      refine ⟨_, rfl, _, rfl, _, rfl, ?_⟩
      refine ifN (fun z => nomatch z) ?_
      refine ⟨_, rfl, _, rfl, _, rfl, ?_⟩
      refine ifN (fun z => nomatch z) ?_
      refine ⟨_, rfl, _, _, _, _, false, rfl, .ty _, .base (.str i), kit_ty (by decide +kernel), _, rfl, ?_⟩
      refine iteF ?_
      refine ⟨_, rfl, _, _, _, _, true, rfl, .ty _, .base (.str i), kit_ty (by decide +kernel), _, rfl, ?_⟩
      refine iteT ?_
      refine ⟨_, rfl, _, _, _, _, true, rfl, .ty _, .base (.str i), kit_ty (by decide +kernel), _, rfl, ?_⟩
      refine iteT ?_
      refine ⟨_, rfl, _, rfl, rfl, ?_⟩
      rw [decide_eq_true rfl]
      exact k
    | @lst n a b xs ys ha hb hl hz hi =>
      refine ⟨_, rfl, rfl, _, rfl, ?_⟩
      refine ifN (fun z => nomatch z) ?_
      refine ⟨_, rfl, _, rfl, _, rfl, ?_⟩
      refine ifN (fun z => nomatch z) ?_
      refine ⟨_, rfl, _, rfl, _, rfl, ?_⟩
      refine ifN (fun z => nomatch z) ?_
      refine ⟨_, rfl, _, _, _, _, false, rfl, .ty _, .base (.lst hb), kit_ty (by decide +kernel), _, rfl, ?_⟩
      refine iteF ?_
      refine ⟨_, rfl, _, _, _, _, false, rfl, .ty _, .base (.lst hb), kit_ty (by decide +kernel), _, rfl, ?_⟩
      refine iteF ?_
      refine ⟨_, rfl, _, _, _, _, false, rfl, .ty _, .base (.lst hb), kit_ty (by decide +kernel), _, rfl, ?_⟩
      refine iteF (iteF ?_)
      refine ⟨_, rfl, _, _, _, _, true, rfl, .ty _, .base (.lst hb), kit_ty (by decide +kernel), _, rfl, ?_⟩
      refine iteT ?_
      refine ⟨_, rfl, _, _, _, _, true, rfl, .ty _, .base (.lst ha), kit_ty (by decide +kernel), _, rfl, ?_⟩
      refine iteF ?_
      refine ⟨_, rfl, _, _, rfl, .inl (SqL.of ha), _, rfl, _, _, rfl, .inl (SqL.of hb), rfl, _, rfl, ?_⟩
      refine nifY (by rw [hl]) ?_
      refine ⟨_, rfl, _, _, rfl, .inl (SqL.of hb), _, rfl, by omega, by omega, for_range (lo := 0) (n := ys.length) (fun i σ H2 => ∃ v, σ = [some (.ref a), some (.ref b), v] ∧ H2 = H) ⟨none, rfl, rfl⟩ ?_ ?_⟩
      · rintro i σ H2 hin ⟨v, rfl, rfl⟩
        have hx : xs[i]? = some xs[i] := List.getElem?_eq_getElem (by omega)
        have hy : ys[i]? = some ys[i] := List.getElem?_eq_getElem hin
        refine ⟨_, rfl, _, rfl, .inl ⟨_, _, _, _, rfl, rfl, SqL.of ha, at_of (Int.zero_add _) hx, ?_⟩⟩
        refine ⟨_, rfl, _, rfl, .inl ⟨_, _, _, _, rfl, rfl, SqL.of hb, at_of (Int.zero_add _) hy, ?_⟩⟩
        refine ⟨_, _, rfl, hi i _ _ hx hy, _, rfl, ?_⟩
        refine iteF ?_
        exact ⟨_, rfl, rfl⟩
      · rintro σ H2 ⟨v, rfl, rfl⟩
        exact k
    | @tup n a b xs ys ha hb hl hz hi =>
      refine ⟨_, rfl, rfl, _, rfl, ?_⟩
      refine ifN (fun z => nomatch z) ?_
      refine ⟨_, rfl, _, rfl, _, rfl, ?_⟩
      refine ifN (fun z => nomatch z) ?_
      refine ⟨_, rfl, _, rfl, _, rfl, ?_⟩
      refine ifN (fun z => nomatch z) ?_
      refine ⟨_, rfl, _, _, _, _, false, rfl, .ty _, .base (.tup hb), kit_ty (by decide +kernel), _, rfl, ?_⟩
      refine iteF ?_
      refine ⟨_, rfl, _, _, _, _, false, rfl, .ty _, .base (.tup hb), kit_ty (by decide +kernel), _, rfl, ?_⟩
      refine iteF ?_
      refine ⟨_, rfl, _, _, _, _, true, rfl, .ty _, .base (.tup hb), kit_ty (by decide +kernel), _, rfl, ?_⟩
      refine iteT ?_
      refine ⟨_, rfl, _, _, _, _, true, rfl, .ty _, .base (.tup ha), kit_ty (by decide +kernel), _, rfl, ?_⟩
      refine iteF ?_
      refine ⟨_, rfl, _, _, _, _, false, rfl, .ty _, .base (.tup hb), kit_ty (by decide +kernel), _, rfl, ?_⟩
      refine iteF (iteF ?_)
      refine ⟨_, rfl, _, _, rfl, .inr (SqT.of ha), _, rfl, _, _, rfl, .inr (SqT.of hb), rfl, _, rfl, ?_⟩
      refine nifY (by rw [hl]) ?_
      refine ⟨_, rfl, _, _, rfl, .inr (SqT.of hb), _, rfl, by omega, by omega, for_range (lo := 0) (n := ys.length) (fun i σ H2 => ∃ v, σ = [some (.ref a), some (.ref b), v] ∧ H2 = H) ⟨none, rfl, rfl⟩ ?_ ?_⟩
      · rintro i σ H2 hin ⟨v, rfl, rfl⟩
        have hx : xs[i]? = some xs[i] := List.getElem?_eq_getElem (by omega)
        have hy : ys[i]? = some ys[i] := List.getElem?_eq_getElem hin
        refine ⟨_, rfl, _, rfl, .inr ⟨_, _, _, _, rfl, rfl, SqT.of ha, at_of (Int.zero_add _) hx, ?_⟩⟩
        refine ⟨_, rfl, _, rfl, .inr ⟨_, _, _, _, rfl, rfl, SqT.of hb, at_of (Int.zero_add _) hy, ?_⟩⟩
        refine ⟨_, _, rfl, hi i _ _ hx hy, _, rfl, ?_⟩
        refine iteF ?_
        exact ⟨_, rfl, rfl⟩
      · rintro σ H2 ⟨v, rfl, rfl⟩
        exact k
/-- what it keeps at every depth -/
theorem ok_same {f : Addr} {fd : FuncData} (F : Fun K "_law_same" "_law_same" (top 20) f fd) (T : TxL K mg) (hm : mg "_law_same" = some (.ref f)) (b : Binds K fd ["_law_found", "_law_due"] []) : ∀ n, FnOk P w K mg base CX0 (n + 1) f fd ["_law_found", "_law_due"] (spSame n)
  | 0 => ok_same1 F T 0 (cal_false hm F.kp b)
  | n + 1 => ok_same1 F T (n + 1) ⟨f, fd, _, ok_same F T hm b n, hm, F.kp, b⟩
end
/-! ### the scales of integers brought back -/
structure TxC (K : PySem.W.Frag) (mg : Str → Option Value) : Prop extends TxL K mg where
  g_MOST_DEPTH : ∃ u, mg "MOST_DEPTH" = some u ∧ RelV (.int 20) u
  g_MOST_GRADES : ∃ u, mg "MOST_GRADES" = some u ∧ RelV (.int 64) u
/-- a class of scales: its objects' attributes may be stored and read -/
structure SCls (K : PySem.W.Frag) (C : Addr) : Prop where
  cl : Cls K C
  label : NoAttr K C "label"
  size : NoAttr K C "size"
  zero_at : NoAttr K C "zero_at"
  one_at : NoAttr K C "one_at"
  depth : NoAttr K C "depth"
/-- the index of an endless run that comes back -/
def runIx (n : Nat) (b i : Int) : Nat := if i < (n : Int) then i.toNat else (b + (i - b) % ((n : Int) - b)).toNat
def spItem (K : PySem.W.Frag) : Sp := fun vs H Q _ => ∃ (a : Addr) (xs : List V) (b i : Int) (v : V), vs = [.ref a, .int b, .int i] ∧ SqL K H a xs ∧ 0 ≤ b ∧ b < (xs.length : Int) ∧ 0 ≤ i ∧ xs[runIx xs.length b i]? = some v ∧ Q v H
def spScaleInit (K : PySem.W.Frag) : Sp := fun vs H Q _ => ∃ (p C dx : Addr) (fs : List (Str × V)) (lb : Str) (sz z o : V) (d : Int), vs = [.ref p, .str lb, sz, z, o, .int d] ∧ d ≤ 20 ∧ SCls K C ∧ H p = some (.ins C dx fs) ∧ fs.length ≤ 900 ∧
  Q .non (upd H p (.ins C dx (putF "depth" (.int d) (putF "one_at" o (putF "zero_at" z (putF "size" sz (putF "label" (.str lb) fs)))))))
section
variable {P : Program} {w : World} {K : PySem.W.Frag} {mg : Str → Option Value} {base : Heap}
theorem sc_item_of_run : FnScope ["trail", "back", "index"] ["trail", "back", "index"] (defScope (top 2)) := ⟨rfl, rfl, rfl, by decide +kernel, rfl, by decide +kernel, by decide +kernel⟩
theorem ok_item {f : Addr} {fd : FuncData} (F : Fun K "item_of_run" "item_of_run" (top 2) f fd) (T : TxC K mg) : FnOk P w K mg base CX0 1 f fd ["trail", "back", "index"] (spItem K) := by
  refine F.ok sc_item_of_run (fun vs H Q E h => ?_) (fun cdv A outer s H vs Q E hr h => ?_)
  · obtain ⟨a, xs, b, i, v, rfl, _⟩ := h
    rfl
  · obtain ⟨a, xs, b, i, v, rfl, hS, hb, hbl, hi, hv, k⟩ := h
    refine ⟨_, (pss_cons (ps_if (pt_cmpR op_lt (pv 2) (pe_callB call_len_seq (by rfl) T.len (by decide +kernel) (pa_cons (pv 0) pa_nil)) (nomark _)) (pss_one (ps_ret (pe_ix ix_list (pv 0) (pv 2) (fun _ _ => rfl)))) pss_nil)
      (pss_one (ps_ret (pe_ix ix_list (pv 0) (pe_op op_add (pv 1) (pe_op op_mod (pe_op op_sub (pv 2) (pv 1)) (pe_op op_sub (pe_callB call_len_seq (by rfl) T.len (by decide +kernel) (pa_cons (pv 0) pa_nil)) (pv 1)))) (fun _ _ => rfl))))), ?_⟩
    refine ⟨_, rfl, _, rfl, a, _, rfl, .inl hS, _, _, rfl, rfl, _, rfl, ?_⟩
    unfold runIx at hv
    refine ifD (fun hlt => ?_) (fun hlt => ?_)
    · rw [if_pos hlt] at hv
      exact ⟨_, rfl, _, rfl, a, _, _, _, rfl, rfl, hS, at_of (Int.toNat_of_nonneg hi).symm hv, k⟩
    · rw [if_neg hlt] at hv
      refine ⟨_, rfl, _, rfl, _, rfl, _, rfl, _, _, rfl, rfl, _, rfl, a, _, rfl, .inl hS, _, rfl, _, _, rfl, rfl, _, _, rfl, rfl, (by show 0 < (xs.length : Int) - b; omega), _, _, rfl, rfl, ?_⟩
      have e0 : 0 ≤ (i - b) % ((xs.length : Int) - b) := Int.emod_nonneg _ (by omega)
      exact ⟨a, _, _, _, rfl, rfl, hS, at_of (Int.toNat_of_nonneg (by omega)).symm hv, k⟩
theorem sc_Scale___init__ : FnScope ["self", "label", "size", "zero_at", "one_at", "depth"] ["self", "label", "size", "zero_at", "one_at", "depth"] (defScope (inClass (top 12) 0)) := ⟨rfl, rfl, rfl, by decide +kernel, rfl, by decide +kernel, by decide +kernel⟩
theorem ok_scale_init {f : Addr} {fd : FuncData} (F : Fun K "__init__" "Scale.__init__" (inClass (top 12) 0) f fd) (T : TxC K mg) : FnOk P w K mg base CX0 1 f fd ["self", "label", "size", "zero_at", "one_at", "depth"] (spScaleInit K) := by
  refine F.ok sc_Scale___init__ (fun vs H Q E h => ?_) (fun cdv A outer s H vs Q E hr h => ?_)
  · obtain ⟨p, C, dx, fs, lb, sz, z, o, d, rfl, _⟩ := h
    rfl
  · obtain ⟨p, C, dx, fs, lb, sz, z, o, d, rfl, hd, SC, hp, hk, k⟩ := h
    refine ⟨_, (pss_cons (ps_if (pt_cmpR op_gt (pv 5) (pe_gx (by rfl) T.g_MOST_DEPTH) (nomark _)) (pss_one ps_never) pss_nil)
      (pss_cons (ps_fld (pv 0) (pv 1) rfl)
      (pss_cons (ps_fld (pv 0) (pv 2) rfl)
      (pss_cons (ps_fld (pv 0) (pv 3) rfl)
      (pss_cons (ps_fld (pv 0) (pv 4) rfl)
      (pss_one (ps_fld (pv 0) (pv 5) rfl))))))), ?_⟩
    refine ⟨_, rfl, _, _, rfl, rfl, _, rfl, ?_⟩
    refine ifN (by omega) ?_
    have l1 := putF_n (f := "label") (v := .str lb) hk
    have l2 := putF_n (f := "size") (v := sz) l1
    have l3 := putF_n (f := "zero_at") (v := z) l2
    have l4 := putF_n (f := "one_at") (v := o) l3
    refine ⟨_, rfl, _, rfl, p, C, dx, _, rfl, hp, SC.cl, SC.label, by omega, ?_⟩
    refine ⟨_, rfl, _, rfl, p, C, dx, _, rfl, upd_same, SC.cl, SC.size, by omega, ?_⟩
    refine ⟨_, rfl, _, rfl, p, C, dx, _, rfl, upd_same, SC.cl, SC.zero_at, by omega, ?_⟩
    refine ⟨_, rfl, _, rfl, p, C, dx, _, rfl, upd_same, SC.cl, SC.one_at, by omega, ?_⟩
    refine ⟨_, rfl, _, rfl, p, C, dx, _, rfl, upd_same, SC.cl, SC.depth, by omega, ?_⟩
    rw [upd_upd, upd_upd, upd_upd, upd_upd]
    exact k
end
structure LCls (K : PySem.W.Frag) (C : Addr) : Prop extends SCls K C where
  _names : NoAttr K C "_names"
  _found : NoAttr K C "_found"
/-- the attributes that a listed scale gets, behind those that it has -/
def listedFs (fs : List (Str × V)) (lb : Str) (n : Nat) (z o : V) (l d : Addr) : List (Str × V) :=
  putF "_found" (.ref d) (putF "_names" (.ref l) (putF "depth" (.int 1) (putF "one_at" o (putF "zero_at" z (putF "size" (.int (n : Int)) (putF "label" (.str lb) fs))))))
def spListedInit (K : PySem.W.Frag) : Sp := fun vs H Q _ => ∃ (p C dx a : Addr) (fs : List (Str × V)) (lb : Str) (zs : List Str) (z o : V), vs = [.ref p, .str lb, .ref a, z, o] ∧ LCls K C ∧ H p = some (.ins C dx fs) ∧ fs.length ≤ 800 ∧
  H a = some (.lst (zs.map V.str)) ∧ zs.length ≤ 1000 ∧
  ∀ l d H', H l = none → H d = none → But p H H' → H' l = some (.lst (zs.map V.str)) → H' d = some (.dK (foundTo zs zs.length)) → H' p = some (.ins C dx (listedFs fs lb zs.length z o l d)) → Q .non H'
section
variable {P : Program} {w : World} {K : PySem.W.Frag} {mg : Str → Option Value} {base : Heap}
theorem sc_ListedScale___init__ : FnScope ["self", "label", "names", "zero_at", "one_at", "place"] ["self", "label", "names", "zero_at", "one_at"] (defScope (inClass (top 13) 0)) := ⟨rfl, rfl, rfl, by decide +kernel, rfl, by decide +kernel, by decide +kernel⟩
theorem ok_listed_init {f : Addr} {fd : FuncData} (F : Fun K "__init__" "ListedScale.__init__" (inClass (top 13) 0) f fd) (T : TxC K mg) (cf_Scale___init__ : CFB P w K mg base CX0 1 "Scale" "__init__" (spScaleInit K)) : FnOk P w K mg base CX0 2 f fd ["self", "label", "names", "zero_at", "one_at"] (spListedInit K) := by
  refine F.ok sc_ListedScale___init__ (fun vs H Q E h => ?_) (fun cdv A outer s H vs Q E hr h => ?_)
  · obtain ⟨p, C, dx, a, fs, lb, zs, z, o, rfl, _⟩ := h
    rfl
  · obtain ⟨p, C, dx, a, fs, lb, zs, z, o, rfl, LC, hp, hk, ha, hz, k⟩ := h
    have nap : a ≠ p := ne_of ha hp (by intro z; cases z)
    refine ⟨_, (pss_cons (ps_expr (pe_cf cf_Scale___init__ hr (by decide) (by rfl) (pa_cons (pv 0) (pa_cons (pv 1) (pa_cons (pe_callB call_len_seq (by rfl) T.len (by decide +kernel) (pa_cons (pv 2) pa_nil)) (pa_cons (pv 3) (pa_cons (pv 4) (pa_cons pe_int pa_nil))))))))
      (pss_cons (ps_fld (pv 0) (pe_callTy call_list_of (by rfl) T.list (by decide +kernel) (pa_cons (pv 2) pa_nil)) rfl)
      (pss_one (ps_fld (pv 0) (pe_dc (own := [("place", 5)]) (g := (gName 5)) (by rfl) sc_ListedScale___init__.nd (pi_range1 (by rfl) T.range (pa_cons (pe_callB call_len_seq (by rfl) T.len (by decide +kernel) (pa_cons (pv 2) pa_nil)) pa_nil)) (blkOk_by (own := [("place", 5)]) (N := ["self", "label", "names", "zero_at", "one_at", "place"]) (sc := defScope (inClass (top 13) 0)) (by decide +kernel)) (fun _ _ _ _ _ => (pg_name (i := 5) sc_ListedScale___init__.nd rfl (Or.inl rfl))) (fun _ _ _ _ _ => pts_nil) (fun _ _ _ _ _ => (pe_ix (ix_listK K rfl) (pv 2) (pv 5) (fun _ _ => rfl))) (fun _ _ _ _ _ => (pv 5))) rfl)))), ?_⟩
    refine ⟨_, rfl, _, rfl, _, rfl, a, _, rfl, .inl (SqL.of ha), _, rfl, _, rfl, ?_⟩
    refine ⟨p, C, dx, fs, lb, _, z, o, 1, rfl, by decide, LC.toSCls, hp, by omega, ?_⟩
    have l1 := putF_n (f := "label") (v := .str lb) hk
    have l2 := putF_n (f := "size") (v := .int (((zs.map V.str).length : Nat) : Int)) l1
    have l3 := putF_n (f := "zero_at") (v := z) l2
    have l4 := putF_n (f := "one_at") (v := o) l3
    have l5 := putF_n (f := "depth") (v := .int 1) l4
    -- self._names = list(names)
    refine ⟨_, rfl, a, _, rfl, .inl (SqL.of (by rw [upd_ne nap]; exact ha)), fun l hl => ?_⟩
    have npl : p ≠ l := ne_of_none upd_same hl
    have nal : a ≠ l := ne_of_none (by rw [upd_ne nap]; exact ha) hl
    refine ⟨_, rfl, p, C, dx, _, rfl, (by rw [upd_ne npl]; exact upd_same), LC.cl, LC._names, by omega, ?_⟩
    have l6 := putF_n (f := "_names") (v := .ref l) l5
    -- self._found = {..}
    have ha2 : ∀ u v w, (upd (upd (upd H p u) l v) p w) a = some (.lst (zs.map V.str)) := fun u v w => by rw [upd_ne nap, upd_ne nal, upd_ne nap]; exact ha
    refine ⟨_, rfl, a, _, rfl, .inl (SqL.of (ha2 _ _ _)), _, rfl, (by rw [List.length_map]; omega), (by rw [List.length_map]; omega), fun D hD => dcF_range (lo := 0) (n := (zs.map V.str).length) (foundTo zs) rfl ?_ ?_⟩
    · intro i hi
      rw [List.length_map] at hi
      have naD : a ≠ D := ne_of_none (ha2 _ _ _) hD
      refine ⟨rfl, ?_⟩
      refine tYesI (iteT ?_)
      refine ⟨_, rfl, _, rfl, a, _, _, _, rfl, rfl, SqL.of (by rw [upd_ne naD]; exact ha2 _ _ _), at_of (Int.zero_add _) (at_mapS hi), ?_⟩
      refine ⟨_, rfl, _, Sum.inr _, rfl, upd_same, small1000 (Nat.le_trans (foundTo_le zs i) (by omega)), ?_⟩
      rw [upd_upd, Int.zero_add]
      rfl
    · have npD : p ≠ D := ne_of_none upd_same hD
      have nlD : l ≠ D := ne_of_none (by rw [upd_ne npl.symm, upd_same]) hD
      refine ⟨_, rfl, p, C, dx, _, rfl, (by rw [upd_ne npD]; exact upd_same), LC.cl, LC._found, by omega, ?_⟩
      have hl0 : H l = none := by rw [upd_ne npl.symm] at hl; exact hl
      have hD0 : H D = none := by rw [upd_ne npD.symm, upd_ne nlD.symm, upd_ne npD.symm] at hD; exact hD
      have b3 : ∀ u v w x y, But p H (upd (upd (upd (upd (upd H p u) l v) p w) D x) p y) := fun u v w x y b o e nb => by
        have nl : b ≠ l := ne_of_none e hl0
        have nd : b ≠ D := ne_of_none e hD0
        rw [upd_ne nb, upd_ne nd, upd_ne nb, upd_ne nl, upd_ne nb]; exact e
      refine k l D _ hl0 hD0 (b3 _ _ _ _ _) ?_ ?_ ?_
      · rw [upd_ne npl.symm, upd_ne nlD, upd_ne npl.symm, upd_same]
      · rw [upd_ne npD.symm, upd_same, List.length_map]
      · rw [upd_same, List.length_map]; rfl
end
/-- the word of an order -/
inductive Ord
  | same | up | down
  deriving DecidableEq
def Ord.txt : Ord → Str
  | .same => "same"
  | .up => "up"
  | .down => "down"
structure TxF (K : PySem.W.Frag) (mg : Str → Option Value) (aO : Addr) : Prop extends TxC K mg where
  g_ORDERS : ∃ u, mg "ORDERS" = some u ∧ RelV (.ref aO) u
  orders : ∀ H, SqT K H aO [.str "same", .str "up", .str "down"]
structure CCls (K : PySem.W.Frag) (C : Addr) : Prop extends LCls K C where
  _numbers : NoAttr K C "_numbers"
  _start : NoAttr K C "_start"
  _order : NoAttr K C "_order"
/-- an integer brought back -/
def backI (s q z : Int) : Int := if z < s + q then z else s + (z - s) % q
def cutName (s q : Int) (i : Nat) : Str := if q = 1 ∧ (i : Int) = s then "many" else num (i : Int)
def cutNames (s q : Int) : List Str := (List.range (s + q).toNat).map (cutName s q)
/-- the attributes ahead of ListedScale.__init__ -/
def cutFs0 (s : Int) (o : Ord) (nm : Addr) : List (Str × V) := putF "_order" (.str o.txt) (putF "_start" (.int s) (putF "_numbers" (.ref nm) []))
def cutLabel (s q : Int) (o : Ord) : Str := Str.empty ++ "(cut " ++ num s ++ " " ++ num q ++ " " ++ o.txt ++ ")"
def cutFs (s q : Int) (o : Ord) (nm l d : Addr) : List (Str × V) := listedFs (cutFs0 s o nm) (cutLabel s q o) (s + q).toNat (.int 0) (.int (backI s q 1)) l d
/-- a CutScale stands at p -/
structure CutIs (C : Addr) (H : Hp) (p dx nm l d : Addr) (s q : Int) (o : Ord) : Prop where
  ob : H p = some (.ins C dx (cutFs s q o nm l d))
  nm : H nm = some (.lst (rgV 0 (s + q)))
  nl : H l = some (.lst ((cutNames s q).map V.str))
  fd : H d = some (.dK (foundTo (cutNames s q) (s + q).toNat))
def spBack (K : PySem.W.Frag) (C : Addr) : Sp := fun vs H Q _ => ∃ (p dx nm : Addr) (fs : List (Str × V)) (s q z : Int), vs = [.ref p, .int z] ∧ H p = some (.ins C dx fs) ∧ fld fs "_numbers" = some (.ref nm) ∧ fld fs "_start" = some (.int s) ∧
  H nm = some (.lst (rgV 0 (s + q))) ∧ 0 ≤ s ∧ 1 ≤ q ∧ 0 ≤ z ∧ Q (.int (backI s q z)) H
def spCutInit (C : Addr) : Sp := fun vs H Q _ => ∃ (p dx : Addr) (s q : Int) (o : Ord), vs = [.ref p, .int s, .int q, .str o.txt] ∧ 0 ≤ s ∧ 1 ≤ q ∧ s + q ≤ 64 ∧ (o ≠ .same → q = 1) ∧ H p = some (.ins C dx []) ∧
  ∀ dx nm l d H', H nm = none → H l = none → H d = none → But p H H' → CutIs C H' p dx nm l d s q o → Q .non H'
theorem run_back {s q z : Int} (hs : 0 ≤ s) (hq : 1 ≤ q) (hz : 0 ≤ z) : (rgV 0 (s + q))[runIx (rgV 0 (s + q)).length s z]? = some (.int (backI s q z)) := by
  rw [rgV_length]
  unfold runIx backI
  have e : (((s + q - 0).toNat : Nat) : Int) = s + q := by omega
  rw [e]
  by_cases h : z < s + q
  · rw [if_pos h, if_pos h, rg_at (by omega)]
    congr 2; omega
  · rw [if_neg h, if_neg h]
    have e1 : s + q - s = q := by omega
    rw [e1]
    have h0 : 0 ≤ (z - s) % q := Int.emod_nonneg _ (by omega)
    have h1 : (z - s) % q < q := Int.emod_lt_of_pos _ (by omega)
    rw [rg_at (by omega)]
    congr 2; omega
section
variable {P : Program} {w : World} {K : PySem.W.Frag} {mg : Str → Option Value} {base : Heap} {aO C : Addr}
theorem sc_CutScale_brought_back : FnScope ["self", "number"] ["self", "number"] (defScope (inClass (top 16) 1)) := ⟨rfl, rfl, rfl, by decide +kernel, rfl, by decide +kernel, by decide +kernel⟩
theorem ok_back {f : Addr} {fd : FuncData} (F : Fun K "brought_back" "CutScale.brought_back" (inClass (top 16) 1) f fd) (T : TxC K mg) (CC : CCls K C) (c_item_of_run : Cal P w K mg base CX0 1 "item_of_run" (spItem K)) : FnOk P w K mg base CX0 2 f fd ["self", "number"] (spBack K C) := by
  refine F.ok sc_CutScale_brought_back (fun vs H Q E h => ?_) (fun cdv A outer s H vs Q E hr h => ?_)
  · obtain ⟨p, dx, nm, fs, s, q, z, rfl, _⟩ := h
    rfl
  · obtain ⟨p, dx, nm, fs, s, q, z, rfl, hp, l1, l2, hn, hs, hq, hz, k⟩ := h
    refine ⟨_, (pss_one (ps_ret (pe_c c_item_of_run hr (by decide) (by rfl) (pa_cons (pe_fld (pv 0) rfl) (pa_cons (pe_fld (pv 0) rfl) (pa_cons (pv 1) pa_nil)))))), ?_⟩
    refine ⟨_, rfl, p, C, dx, _, _, rfl, hp, CC.cl, CC._numbers, l1, ?_⟩
    refine ⟨_, rfl, p, C, dx, _, _, rfl, hp, CC.cl, CC._start, l2, ?_⟩
    refine ⟨_, rfl, ?_⟩
    exact ⟨nm, _, s, z, _, rfl, SqL.of hn, hs, (by rw [rgV_length]; omega), hz, run_back hs hq hz, k⟩
theorem sc_CutScale___init__ : FnScope ["self", "start", "period", "order", "names", "number"] ["self", "start", "period", "order"] (defScope (inClass (top 16) 0)) := ⟨rfl, rfl, rfl, by decide +kernel, rfl, by decide +kernel, by decide +kernel⟩
theorem ok_cut_init {f : Addr} {fd : FuncData} (F : Fun K "__init__" "CutScale.__init__" (inClass (top 16) 0) f fd) (T : TxF K mg aO) (CC : CCls K C) (cf_ListedScale___init__ : CFB P w K mg base CX0 2 "ListedScale" "__init__" (spListedInit K))
    (m_brought_back : Met P w K mg base CX0 2 C "brought_back" (spBack K C)) : FnOk P w K mg base CX0 3 f fd ["self", "start", "period", "order"] (spCutInit C) := by
  refine F.ok sc_CutScale___init__ (fun vs H Q E h => ?_) (fun cdv A outer s H vs Q E hr h => ?_)
  · obtain ⟨p, dx, s, q, o, rfl, _⟩ := h
    rfl
  · obtain ⟨p, dx, s, q, o, rfl, hs, hq, hsq, ho, hp, k⟩ := h
    refine ⟨_, (pss_cons (ps_if (PW.pt (pw_or (pt_cmpR op_lt (pv 1) pe_int (nomark _)) (pw_or (pt_cmpR op_lt (pv 2) pe_int (nomark _)) (pw_or (pt_cmpR op_gt (pe_op op_add (pv 1) (pv 2)) (pe_gx (by rfl) T.g_MOST_GRADES) (nomark _)) (pw_or1 (pt_cmpR op_notIn_seq (pv 3) (pe_gx (by rfl) T.g_ORDERS) (by rfl))))))) (pss_one ps_never) pss_nil)
      (pss_cons (ps_if (PW.pt (pw_and (pt_cmpR op_ne (pv 3) pe_str (nomark _)) (pw_and1 (pt_cmpR op_ne (pv 2) pe_int (nomark _))))) (pss_one ps_never) pss_nil)
      (pss_cons (ps_fld (pv 0) (pe_listRg (by rfl) (by rfl) T.list (prg_1 (by rfl) T.range (pe_op op_add (pv 1) (pv 2)))) rfl)
      (pss_cons (ps_fld (pv 0) (pv 1) rfl)
      (pss_cons (ps_fld (pv 0) (pv 3) rfl)
      (pss_cons (ps_setLc (i := 4) (own := [("number", 5)]) (g := (gName 5)) (by rfl) sc_CutScale___init__.nd rfl rfl (sw_true rfl rfl rfl (by decide +kernel)) (pi_list (pe_fld (pv 0) rfl)) (blkOk_by (own := [("number", 5)]) (N := ["self", "start", "period", "order", "names", "number"]) (sc := defScope (inClass (top 16) 0)) (by decide +kernel)) (fun _ _ _ _ _ => (pg_name (i := 5) sc_CutScale___init__.nd rfl (Or.inl rfl))) (fun _ _ _ _ _ => pts_nil) (fun _ _ _ _ _ => (pe_callTy call_str_int (by rfl) T.str (by decide +kernel) (pa_cons (pv 5) pa_nil))))
      (pss_cons (ps_if (pt_cmpR op_eq (pv 2) pe_int (nomark _)) (pss_one (ps_asg pe_str (pg_sub (pv 4) (pv 1) set_list))) pss_nil)
      (pss_one (ps_expr (pe_cf cf_ListedScale___init__ hr (by decide) (by rfl) (pa_cons (pv 0) (pa_cons (pe_joined (PJ.cons pe_str (PJ.cons (pe_fmt (pv 1)) (PJ.cons pe_str (PJ.cons (pe_fmt (pv 2)) (PJ.cons pe_str (PJ.cons (pe_fmt (pv 3)) (PJ.cons pe_str PJ.nil)))))))) (pa_cons (pv 4) (pa_cons pe_int (pa_cons (pe_mt m_brought_back hr (by decide) (pv 0) (pa_cons pe_int pa_nil)) pa_nil))))))))))))))), ?_⟩
    refine ⟨_, rfl, _, _, rfl, rfl, _, rfl, ?_⟩
    refine ifN (by omega) ?_
    refine ⟨_, rfl, _, _, rfl, rfl, _, rfl, ?_⟩
    refine ifN (by omega) ?_
    refine ⟨_, rfl, _, rfl, _, _, rfl, rfl, _, _, rfl, rfl, _, rfl, ?_⟩
    refine ifN (by omega) ?_
    refine ⟨_, rfl, aO, _, rfl, .inr (T.orders H), rfl, rfl, _, rfl, ?_⟩
    refine ifF (by cases o <;> decide +kernel) ?_
    refine tNextI ?_
    dsimp only
    refine st_seq (st_no ?_ ?_)
    · intro Q q'
      refine ⟨_, rfl, rfl, _, rfl, ?_⟩
      by_cases e : o = .same
      · subst e
        exact nifY rfl q'
      · refine nifN (fun z => ?_) ?_
        · cases o
          · exact e rfl
          · exact absurd (V.str.inj z) (by decide +kernel)
          · exact absurd (V.str.inj z) (by decide +kernel)
        · refine ⟨_, rfl, rfl, _, rfl, ?_⟩
          rw [decide_eq_true (show V.int q = V.int 1 by rw [ho e])]
          exact q'
    refine ⟨_, rfl, _, rfl, _, _, rfl, rfl, _, rfl, RgOk.of_le (by decide) (by omega) (by decide) (by omega), fun nm hnm => ?_⟩
    have npn : p ≠ nm := ne_of_none hp hnm
    refine ⟨_, rfl, p, C, dx, _, rfl, (by rw [upd_ne npn]; exact hp), CC.cl, CC._numbers, by decide, ?_⟩
    refine ⟨_, rfl, _, rfl, p, C, dx, _, rfl, upd_same, CC.cl, CC._start, (Nat.lt_of_le_of_lt (putF_n (Nat.zero_le 0)) (by decide)), ?_⟩
    refine ⟨_, rfl, _, rfl, p, C, dx, _, rfl, upd_same, CC.cl, CC._order, (Nat.lt_of_le_of_lt (putF_n (putF_n (Nat.zero_le 0))) (by decide)), ?_⟩
    rw [upd_upd, upd_upd]
    dsimp only
    have k1 : fld (cutFs0 s o nm) "_numbers" = some (.ref nm) := by
      unfold cutFs0; rw [fld_put, if_neg (by decide +kernel), fld_put, if_neg (by decide +kernel), fld_put, if_pos rfl]
    have k2 : fld (cutFs0 s o nm) "_start" = some (.int s) := by
      unfold cutFs0; rw [fld_put, if_neg (by decide +kernel), fld_put, if_pos rfl]
    have k3 : fld (cutFs0 s o nm) "brought_back" = none := by
      unfold cutFs0; rw [fld_put, if_neg (by decide +kernel), fld_put, if_neg (by decide +kernel), fld_put, if_neg (by decide +kernel)]; rfl
    have bn : ∀ u, (upd (upd H nm (.lst (rgV 0 (s + q)))) p u) nm = some (.lst (rgV 0 (s + q))) := fun u => by rw [upd_ne npn.symm, upd_same]
    refine ⟨_, rfl, p, C, dx, _, _, rfl, upd_same, CC.cl, CC._numbers, k1, nm, rfl, ⟨_, SqL.of (bn _)⟩, fun N hN => lcF_list (xs := rgV 0 (s + q)) (fun i => (List.range i).map fun (j : Nat) => V.str (num (j : Int))) hN (SqL.of (bn _)) rfl ?_ ?_⟩
    · intro i x hx
      obtain ⟨rfl, hi⟩ := rg_inv hx
      refine ⟨rfl, ?_⟩
      refine tYesI (iteT ?_)
      refine ⟨_, rfl, _, rfl, num_log _ (by omega) (by omega), _, upd_same, (by rw [List.length_map, List.length_range]; exact small1000 (by omega)), ?_⟩
      rw [upd_upd, range_map_snoc]
    have npN : p ≠ N := ne_of_none upd_same hN
    have nnN : nm ≠ N := ne_of_none (bn _) hN
    have eN : (rgV 0 (s + q)).length = (s + q).toNat := by rw [rgV_length]; congr 1; omega
    rw [eN]
    refine gNameI ?_
    dsimp only
    refine st_seq (join (fun σ' H' => σ' = [some (.ref p), some (.int s), some (.int q), some (.str o.txt), some (.ref N), none] ∧ H' = upd (upd (upd H nm (.lst (rgV 0 (s + q)))) p (.ins C dx (cutFs0 s o nm))) N (.lst ((cutNames s q).map V.str))) ?_ ?_)
    · intro D' hD'
      refine ⟨_, rfl, rfl, _, rfl, ?_⟩
      refine ifD (fun e => ?_) (fun e => ?_)
      · obtain rfl : q = 1 := V.int.inj e
        refine ⟨_, rfl, _, rfl, N, _, s, s.toNat, rfl, rfl, upd_same, ?_, ?_⟩
        · unfold ixN
          rw [if_pos hs, if_pos (by rw [List.length_map, List.length_range]; omega)]
        · refine hD' _ _ ⟨rfl, ?_⟩
          rw [upd_upd]
          congr 2
          apply List.ext_getElem?
          intro i
          unfold cutNames
          rw [List.map_map, List.getElem?_set, List.length_map, List.length_range]
          by_cases hi : s.toNat = i
          · subst hi
            rw [if_pos rfl, if_pos (by omega), List.getElem?_map, range_at (by omega)]
            show some (V.str "many") = some (V.str (cutName s 1 s.toNat))
            unfold cutName
            rw [if_pos ⟨rfl, by omega⟩]
          · rw [if_neg hi, List.getElem?_map, List.getElem?_map]
            by_cases hlt : i < (s + 1).toNat
            · rw [range_at hlt]
              show some (V.str (num (i : Int))) = some (V.str (cutName s 1 i))
              unfold cutName
              rw [if_neg (by omega)]
            · rw [List.getElem?_eq_none (by rw [List.length_range]; omega)]; rfl
      · refine hD' _ _ ⟨rfl, ?_⟩
        congr 2
        unfold cutNames
        rw [List.map_map]
        apply List.map_congr_left
        intro i _
        show V.str (num (i : Int)) = V.str (cutName s q i)
        unfold cutName
        rw [if_neg (fun z => e (by rw [z.1]))]
    · rintro σ' H' ⟨rfl, rfl⟩
      have c1 : (Str.empty ++ ("(cut " : Str)).length ≤ 5 := by decide +kernel
      have c2 := app_le c1 (num_short s hs (by omega))
      have c3 := app_le c2 (show (" " : Str).length ≤ 1 by decide +kernel)
      have c4 := app_le c3 (num_short q (by omega) (by omega))
      have c5 := app_le c4 (show (" " : Str).length ≤ 1 by decide +kernel)
      have c6 := app_le c5 (show o.txt.length ≤ 4 by cases o <;> decide +kernel)
      have c7 := app_le c6 (show (")" : Str).length ≤ 1 by decide +kernel)
      have gp : ∀ u, (upd (upd (upd H nm (.lst (rgV 0 (s + q)))) p (.ins C dx (cutFs0 s o nm))) N u) p = some (.ins C dx (cutFs0 s o nm)) := fun u => by rw [upd_ne npN, upd_same]
      have gn : ∀ u, (upd (upd (upd H nm (.lst (rgV 0 (s + q)))) p (.ins C dx (cutFs0 s o nm))) N u) nm = some (.lst (rgV 0 (s + q))) := fun u => by rw [upd_ne nnN, bn]
      refine ⟨_, rfl, ?_⟩
      refine ⟨_, rfl, sz c1 (by decide), ?_⟩
      refine ⟨_, rfl, .inr ⟨_, rfl, num_log s hs (by omega), _, rfl, sz c2 (by decide), ?_⟩⟩
      refine ⟨_, rfl, sz c3 (by decide), ?_⟩
      refine ⟨_, rfl, .inr ⟨_, rfl, num_log q (by omega) (by omega), _, rfl, sz c4 (by decide), ?_⟩⟩
      refine ⟨_, rfl, sz c5 (by decide), ?_⟩
      refine ⟨_, rfl, .inl ⟨_, rfl, (by cases o <;> decide +kernel), _, rfl, sz c6 (by decide), ?_⟩⟩
      refine ⟨_, rfl, sz c7 (by decide), ?_⟩
      refine ⟨_, rfl, _, rfl, p, dx, _, rfl, gp _, k3, ?_⟩
      refine ⟨p, dx, nm, _, s, q, 1, rfl, gp _, k1, k2, gn _, hs, hq, by decide, ?_⟩
      have lN : (cutNames s q).length = (s + q).toNat := by unfold cutNames; rw [List.length_map, List.length_range]
      refine ⟨p, C, dx, N, _, _, cutNames s q, .int 0, _, rfl, CC.toLCls, gp _, Nat.le_trans (putF_n (putF_n (putF_n (Nat.zero_le 0)))) (by decide), upd_same, by omega, fun l d H' hl hd b e1 e2 e3 => ?_⟩
      refine k dx nm l d H' hnm (upd_none (upd_none (upd_none hl).2).2).2 (upd_none (upd_none (upd_none hd).2).2).2 (fun b' o' e nb => ?_) ⟨?_, ?_, e1, ?_⟩
      · refine b _ _ ?_ nb
        have x1 : b' ≠ nm := ne_of_none e hnm
        have x2 : b' ≠ N := ne_of_none (show (upd (upd H nm (.lst (rgV 0 (s + q)))) p (.ins C dx (cutFs0 s o nm))) b' = some o' by rw [upd_ne nb, upd_ne x1]; exact e) hN
        rw [upd_ne x2, upd_ne nb, upd_ne x1]; exact e
      · rw [e3, lN]; rfl
      · exact b _ _ (gn _) npn.symm
      · rw [e2, lN]
end
/-! ### at_name, and what is no name -/
structure TxU (K : PySem.W.Frag) (mg : Str → Option Value) (CU CN CE : Addr) : Prop extends TxL K mg where
  gx_UnknownGrade : mg "UnknownGrade" = some (.ref CU)
  g_NameMissing : ∃ u, mg "NameMissing" = some u ∧ RelV (.ref CN) u
  g_UsescaleError : ∃ u, mg "UsescaleError" = some u ∧ RelV (.ref CE) u
  LookupError : mg "LookupError" = none
  ValueError : mg "ValueError" = none
  te : PySem.W.exmOne K (.ref CU) (.ref CU) = some true
  xf : XfC K CU
  nn : PySem.W.findIn K (.ref CU) "name" = some none
  ei : ExcI K CU
  isN : PySem.W.kitOne K (.ref CU) (.ref CN) = some true
  isE : PySem.W.kitOne K (.ref CU) (.ref CE) = some false
  isL : PySem.W.kitOne K (.ref CU) (.type "LookupError") = some true
  isV : PySem.W.kitOne K (.ref CU) (.type "ValueError") = some false
/-- UnknownGrade.__init__ on a new error -/
def spUgInit (K : PySem.W.Frag) (CU : Addr) : Sp := fun vs H Q _ => ∃ (a : Addr) (nm : Str), vs = [.ref a, .str nm] ∧ H a = some (exo a CU none) ∧ nm.length ≤ 100000 ∧
  ∀ dx, H dx = none → dx ≠ a → Q .non (upd (upd H dx (exd dx [("name", .str nm)])) a (exo a CU (some dx)))
/-- a scale at p that finds its names in the dict at d -/
def FindOb (C : Addr) (H : Hp) (p d : Addr) (kvs : List (Key × V)) : Prop := ∃ dx fs, H p = some (.ins C dx fs) ∧ fld fs "_found" = some (.ref d) ∧ fld fs "find_at" = none ∧ fld fs "at_name" = none ∧ H d = some (.dK kvs)
def spFindAt (C : Addr) : Sp := fun vs H Q _ => ∃ (p d : Addr) (kvs : List (Key × V)) (nm : Str), vs = [.ref p, .str nm] ∧ FindOb C H p d kvs ∧ Q ((valV kvs (Sum.inr nm)).getD .non) H
def spAtName (C CU : Addr) : Sp := fun vs H Q E => ∃ (p d : Addr) (kvs : List (Key × V)) (nm : Str), vs = [.ref p, .str nm] ∧ FindOb C H p d kvs ∧ nm.length ≤ 100000 ∧
  ((∃ i, valV kvs (Sum.inr nm) = some (.int i) ∧ Q (.int i) H) ∨ (valV kvs (Sum.inr nm) = none ∧ ∀ d', H d' = none → E (.ref CU) (some d') (upd H d' (.xd [("name", .str nm)]))))
def spLUnknown (C CU : Addr) : Sp := fun vs H Q _ => ∃ (p d : Addr) (kvs : List (Key × V)) (nm : Str), vs = [.ref p, .str nm] ∧ FindOb C H p d kvs ∧ nm.length ≤ 100000 ∧ valV kvs (Sum.inr nm) = none ∧ ∀ H', Same H H' → Q (.bl true) H'
section
variable {P : Program} {w : World} {K : PySem.W.Frag} {mg : Str → Option Value} {base : Heap} {C CU CN CE : Addr}
theorem sc_UnknownGrade___init__ : FnScope ["self", "name"] ["self", "name"] (defScope (inClass (top 8) 0)) := ⟨rfl, rfl, rfl, by decide +kernel, rfl, by decide +kernel, by decide +kernel⟩
theorem ok_ug_init {f : Addr} {fd : FuncData} {B newId initId : String} {bt : List Value} (F : Fun K "__init__" "UnknownGrade.__init__" (inClass (top 8) 0) f fd) (T : OexB K CU B newId initId bt) (hn : NoAttr K CU "name") (b_NameMissing : BInit K mg "NameMissing" initId) : FnOk P w K mg base CX0 1 f fd ["self", "name"] (spUgInit K CU) := by
  refine F.ok sc_UnknownGrade___init__ (fun vs H Q E h => ?_) (fun cdv A outer s H vs Q E hr h => ?_)
  · obtain ⟨a, nm, rfl, _⟩ := h
    rfl
  · obtain ⟨a, nm, rfl, ha, hl, k⟩ := h
    refine ⟨_, (pss_cons (ps_expr (pe_binit (B := B) (newId := newId) (bt := bt) b_NameMissing (by rfl) (pa_cons (pv 0) (pa_cons (pe_joined (PJ.cons pe_str (PJ.cons (pe_fmt (pv 1)) PJ.nil))) pa_nil))))
      (pss_one (ps_ostB (B := B) (newId := newId) (initId := initId) (bt := bt) (pv 0) (pv 1)))), ?_⟩
    have z1 : (Str.empty ++ ("no grade is called " : Str)).length ≤ 19 := by decide +kernel
    have z2 := app_le z1 hl
    have z3 : 19 + 100000 ≤ sizeLine := by decide
    refine ⟨_, rfl, ?_⟩
    refine ⟨_, rfl, Nat.le_trans z1 (by decide), ?_⟩
    refine ⟨_, rfl, .inl ⟨_, rfl, Nat.le_trans hl (by decide), _, rfl, Nat.le_trans z2 z3, ?_⟩⟩
    refine ⟨a, CU, _, rfl, (by show 1 ≤ 1000; decide), T, ha, ?_⟩
    refine ⟨_, rfl, _, rfl, a, CU, rfl, T, hn, .inl ⟨ha, fun dx n1 n2 => ?_⟩⟩
    exact k dx n1 n2
theorem sc_ListedScale_find_at : FnScope ["self", "name"] ["self", "name"] (defScope (inClass (top 13) 2)) := ⟨rfl, rfl, rfl, by decide +kernel, rfl, by decide +kernel, by decide +kernel⟩
theorem ok_find_at {f : Addr} {fd : FuncData} (F : Fun K "find_at" "ListedScale.find_at" (inClass (top 13) 2) f fd) (LC : LCls K C) : FnOk P w K mg base CX0 1 f fd ["self", "name"] (spFindAt C) := by
  refine F.ok sc_ListedScale_find_at (fun vs H Q E h => ?_) (fun cdv A outer s H vs Q E hr h => ?_)
  · obtain ⟨p, d, kvs, nm, rfl, _⟩ := h
    rfl
  · obtain ⟨p, d, kvs, nm, rfl, ⟨dx, fs, hp, h1, _, _, hd⟩, k⟩ := h
    have hu := hu_of hr
    refine ⟨_, (pss_one (ps_ret (pe_dget1 hu (pe_fld (pv 0) rfl) (pv 1) ⟨rfl, rfl, rfl, rfl⟩))), ?_⟩
    exact ⟨_, rfl, p, C, dx, _, _, rfl, hp, LC.cl, LC._found, h1, d, rfl, .inl ⟨kvs, .inl hd⟩, _, rfl, _, DGet.k (k := Sum.inr nm) hd, k⟩
theorem sc_Scale_at_name : FnScope ["self", "name", "place"] ["self", "name"] (defScope (inClass (top 12) 9)) := ⟨rfl, rfl, rfl, by decide +kernel, rfl, by decide +kernel, by decide +kernel⟩
theorem ok_at_name {f : Addr} {fd : FuncData} (F : Fun K "at_name" "Scale.at_name" (inClass (top 12) 9) f fd) (m_find_at : Met P w K mg base CX0 1 C "find_at" (spFindAt C)) (xm_UnknownGrade : ExM P w K mg base 1 "UnknownGrade" CU (spUgInit K CU)) :
    FnOk P w K mg base (L2.CX P w) 3 f fd ["self", "name"] (spAtName C CU) := by
  refine F.okX sc_Scale_at_name (fun vs H Q E h => ?_) (fun cdv A outer s H vs Q E hr h => ?_)
  · obtain ⟨p, d, kvs, nm, rfl, _⟩ := h
    rfl
  · obtain ⟨p, d, kvs, nm, rfl, fo, hl, k⟩ := h
    obtain ⟨dx, fs, hp, h1, h2, h3, hd⟩ := id fo
    refine ⟨_, (pss_cons (ps_set (i := 2) sc_Scale_at_name.nd rfl (Or.inl rfl) (pe_mt m_find_at hr (by decide) (pv 0) (pa_cons (pv 1) pa_nil)))
      (pss_cons (ps_if (pt_cmpR op_isN (pv 2) pe_non (nomark _)) (pss_one (ps_raise rfl (takes_of rfl rfl rfl rfl) (pmk_B xm_UnknownGrade hr (by decide) (by rfl) (pa_cons (pv 1) pa_nil)))) pss_nil)
      (pss_one (ps_ret (pv 2))))), ?_⟩
    refine ⟨_, rfl, p, dx, fs, rfl, hp, h2, _, rfl, p, d, kvs, nm, rfl, fo, ?_⟩
    rcases k with ⟨i, e, k⟩ | ⟨e, k⟩
    · rw [e]
      refine ⟨_, rfl, rfl, _, rfl, ?_⟩
      refine ifN (fun z => nomatch z) ?_
      exact ⟨_, rfl, k⟩
    · rw [e]
      refine ⟨_, rfl, rfl, _, rfl, ?_⟩
      refine ifY rfl ?_
      refine ⟨_, rfl, (by show 1 ≤ 1000; decide), fun a ha => ?_⟩
      refine ⟨a, nm, rfl, upd_same, hl, fun dx' n1 n2 => ⟨rfl, dx', [("name", .str nm)], upd_same, ?_, ?_, ?_⟩⟩
      · rw [upd_ne n2, upd_same]
      · rw [upd_ne n2] at n1; exact n1
      · rw [upd_ne n2] at n1
        have z : upd (del (upd (upd (upd H a (exo a CU none)) dx' (exd dx' [("name", V.str nm)])) a (exo a CU (some dx'))) a) dx' (HO.xd [("name", V.str nm)]) = upd H dx' (.xd [("name", .str nm)]) := by
          funext b
          by_cases h1 : b = dx'
          · subst h1; rw [upd_same, upd_same]
          · rw [upd_ne h1, upd_ne h1]
            by_cases h2 : b = a
            · subst h2; rw [del_same, ha]
            · rw [del_ne h2, upd_ne h2, upd_ne h1, upd_ne h2]
        rw [z]
        exact k dx' n1
theorem at_same5 {P5 : V → V → Prop} {x0 x1 x2 x3 x4 y0 y1 y2 y3 y4 : V} (h0 : P5 x0 y0) (h1 : P5 x1 y1) (h2 : P5 x2 y2) (h3 : P5 x3 y3) (h4 : P5 x4 y4) : ∀ (i : Nat) (x y : V), [x0, x1, x2, x3, x4][i]? = some x → [y0, y1, y2, y3, y4][i]? = some y → P5 x y
  | 0, _, _, rfl, rfl => h0
  | 1, _, _, rfl, rfl => h1
  | 2, _, _, rfl, rfl => h2
  | 3, _, _, rfl, rfl => h3
  | 4, _, _, rfl, rfl => h4
theorem sc__law_unknown : FnScope ["_law_scale", "_law_word", "_law_caught", "e"] ["_law_scale", "_law_word"] (defScope (top 23)) := ⟨rfl, rfl, rfl, by decide +kernel, rfl, by decide +kernel, by decide +kernel⟩
theorem ok_lunknown {f : Addr} {fd : FuncData} (F : Fun K "_law_unknown" "_law_unknown" (top 23) f fd) (T : TxU K mg CU CN CE) (m_at_name : Met P w K mg base (L2.CX P w) 3 C "at_name" (spAtName C CU)) (c__law_same : Cal P w K mg base CX0 2 "_law_same" (spSame 1)) :
    FnOk P w K mg base (L2.CX P w) 4 f fd ["_law_scale", "_law_word"] (spLUnknown C CU) := by
  refine F.okX sc__law_unknown (fun vs H Q E h => ?_) (fun cdv A outer s H vs Q E hr h => ?_)
  · obtain ⟨p, d, kvs, nm, rfl, _⟩ := h
    rfl
  · obtain ⟨p, d, kvs, nm, rfl, fo, hl, hv, k⟩ := h
    obtain ⟨dx, fs, hp, h1, h2, h3, hd⟩ := id fo
    refine ⟨_, (pss_cons (ps_set (i := 2) sc__law_unknown.nd rfl (Or.inl rfl) (pe_lst pa_nil))
      (pss_cons (ps_try_as (i := 3) rfl rfl sc__law_unknown.nd rfl rfl ⟨rfl, by decide, (.inl T.gx_UnknownGrade)⟩ takes0 (fun W pn xe tk _ => (pss_one (ps_expr (pe_mtS m_at_name hr (by decide) (fun σ => passAt tk σ) (pv 0) (pa_cons (pv 1) pa_nil))))) (fun a oe cls d pn hz hf => (pss_one (ps_set (i := 2) sc__law_unknown.nd rfl (Or.inl rfl) (pe_lst (pa_cons (pe_xf T.xf T.nn hz hf (pv 3)) (pa_cons (pe_callB (call_isD T.ei hz hf) (by rfl) T.isinstance (by decide +kernel) (pa_cons (pv 3) (pa_cons (pe_gx (by rfl) T.g_NameMissing) pa_nil))) (pa_cons (pe_callB (call_isD T.ei hz hf) (by rfl) T.isinstance (by decide +kernel) (pa_cons (pv 3) (pa_cons (pe_bltn (v := .ty "LookupError") (by rfl) T.LookupError (by decide +kernel) rfl) pa_nil))) (pa_cons (pe_callB (call_isD T.ei hz hf) (by rfl) T.isinstance (by decide +kernel) (pa_cons (pv 3) (pa_cons (pe_gx (by rfl) T.g_UsescaleError) pa_nil))) (pa_cons (pe_callB (call_isD T.ei hz hf) (by rfl) T.isinstance (by decide +kernel) (pa_cons (pv 3) (pa_cons (pe_bltn (v := .ty "ValueError") (by rfl) T.ValueError (by decide +kernel) rfl) pa_nil))) pa_nil))))))))))
      (pss_one (ps_ret (pe_c c__law_same hr (by decide) (by rfl) (pa_cons (pv 2) (pa_cons (pe_lst (pa_cons (pv 1) (pa_cons pe_bl (pa_cons pe_bl (pa_cons pe_bl (pa_cons pe_bl pa_nil)))))) pa_nil))))))), ?_⟩
    refine ⟨(by show 0 ≤ sizeLine; decide), fun c0 hc0 => ?_⟩
    have s0 : Same H (upd H c0 (.lst [])) := sameNew hc0
    refine ⟨_, rfl, p, dx, fs, rfl, s0 _ _ hp, h3, _, rfl, p, d, kvs, nm, rfl, ⟨dx, fs, s0 _ _ hp, h1, h2, h3, s0 _ _ hd⟩, hl, .inr ⟨hv, fun d' hd' => ?_⟩⟩
    have s1 := s0.trans (sameNew (o := .xd [("name", .str nm)]) hd')
    refine ⟨true, T.te, fun _ a ha => ?_, fun q => nomatch q⟩
    refine ⟨_, rfl, rfl, rfl, d', _, _, rfl, upd_same, rfl, ?_⟩
    refine ⟨_, rfl, _, _, _, _, _, rfl, .own _, rfl, rfl, upd_same, T.isN, ?_⟩
    refine ⟨_, rfl, _, _, _, _, _, rfl, .ty _, rfl, rfl, upd_same, T.isL, ?_⟩
    refine ⟨_, rfl, _, _, _, _, _, rfl, .own _, rfl, rfl, upd_same, T.isE, ?_⟩
    refine ⟨_, rfl, _, _, _, _, _, rfl, .ty _, rfl, rfl, upd_same, T.isV, ?_⟩
    refine ⟨(by show 5 ≤ sizeLine; decide), fun c1 hc1 => ?_⟩
    refine ⟨_, rfl, _, rfl, (by show 5 ≤ sizeLine; decide), fun c2 hc2 => ?_⟩
    have n12 : c1 ≠ c2 := ne_of_none upd_same hc2
    refine ⟨_, _, rfl, .lst (by rw [upd_ne n12]; exact upd_same) upd_same rfl (by show 5 ≤ 1000; decide) (at_same5 (.str _) (.bl _) (.bl _) (.bl _) (.bl _)), ?_⟩
    exact k _ ((s1.trans (sameNew hc1)).trans (sameNew hc2))
end
/-! ### what a cut scale is read by -/
section
variable {s q : Int} {o : Ord} {nm l d : Addr}
theorem cut_none {m : Str} (h : ["_numbers", "_start", "_order", "label", "size", "zero_at", "one_at", "depth", "_names", "_found"].all (fun f => decide (m ≠ Str.ofString f)) = true) : fld (cutFs s q o nm l d) m = none := by
  simp only [List.all_cons, List.all_nil, Bool.and_eq_true, decide_eq_true_eq] at h
  obtain ⟨h1, h2, h3, h4, h5, h6, h7, h8, h9, h10, _⟩ := h
  unfold cutFs listedFs cutFs0
  rw [fld_put, if_neg h10, fld_put, if_neg h9, fld_put, if_neg h8, fld_put, if_neg h7, fld_put, if_neg h6, fld_put, if_neg h5, fld_put, if_neg h4, fld_put, if_neg h3, fld_put, if_neg h2, fld_put, if_neg h1]
  rfl
theorem cut_order : fld (cutFs s q o nm l d) "_order" = some (.str o.txt) := by
  unfold cutFs listedFs cutFs0
  repeat (first | rw [fld_put, if_pos rfl] | rw [fld_put, if_neg (by decide +kernel)])
theorem cut_size : fld (cutFs s q o nm l d) "size" = some (.int ((s + q).toNat : Int)) := by
  unfold cutFs listedFs cutFs0
  repeat (first | rw [fld_put, if_pos rfl] | rw [fld_put, if_neg (by decide +kernel)])
theorem cut_zero : fld (cutFs s q o nm l d) "zero_at" = some (.int 0) := by
  unfold cutFs listedFs cutFs0
  repeat (first | rw [fld_put, if_pos rfl] | rw [fld_put, if_neg (by decide +kernel)])
theorem cut_one : fld (cutFs s q o nm l d) "one_at" = some (.int (backI s q 1)) := by
  unfold cutFs listedFs cutFs0
  repeat (first | rw [fld_put, if_pos rfl] | rw [fld_put, if_neg (by decide +kernel)])
theorem cut_numbers : fld (cutFs s q o nm l d) "_numbers" = some (.ref nm) := by
  unfold cutFs listedFs cutFs0
  repeat (first | rw [fld_put, if_pos rfl] | rw [fld_put, if_neg (by decide +kernel)])
theorem cut_start : fld (cutFs s q o nm l d) "_start" = some (.int s) := by
  unfold cutFs listedFs cutFs0
  repeat (first | rw [fld_put, if_pos rfl] | rw [fld_put, if_neg (by decide +kernel)])
theorem cut_namesF : fld (cutFs s q o nm l d) "_names" = some (.ref l) := by
  unfold cutFs listedFs cutFs0
  repeat (first | rw [fld_put, if_pos rfl] | rw [fld_put, if_neg (by decide +kernel)])
theorem cut_found : fld (cutFs s q o nm l d) "_found" = some (.ref d) := by
  unfold cutFs listedFs cutFs0
  repeat (first | rw [fld_put, if_pos rfl] | rw [fld_put, if_neg (by decide +kernel)])
end
theorem CutIs.same {C : Addr} {H H' : Hp} {p dx nm l d : Addr} {s q : Int} {o : Ord} (c : CutIs C H p dx nm l d s q o) (e : Same H H') : CutIs C H' p dx nm l d s q o := ⟨e _ _ c.ob, e _ _ c.nm, e _ _ c.nl, e _ _ c.fd⟩
/-- the scale's objects are not the state's -/
structure Apart (S L p nm l d : Addr) : Prop where
  p : p ≠ S ∧ p ≠ L
  nm : nm ≠ S ∧ nm ≠ L
  l : l ≠ S ∧ l ≠ L
  d : d ≠ S ∧ d ≠ L
theorem CutIs.keeps {C S L : Addr} {H H' : Hp} {p dx nm l d : Addr} {s q : Int} {o : Ord} (c : CutIs C H p dx nm l d s q o) (a : Apart S L p nm l d) (e : Keeps S L H H') : CutIs C H' p dx nm l d s q o :=
  ⟨e _ _ c.ob a.p.1 a.p.2, e _ _ c.nm a.nm.1 a.nm.2, e _ _ c.nl a.l.1 a.l.2, e _ _ c.fd a.d.1 a.d.2⟩
/-! ### places() -/
def spPlaces (C : Addr) : Sp := fun vs H Q _ => ∃ (p dx : Addr) (fs : List (Str × V)) (n : Nat), vs = [.ref p] ∧ H p = some (.ins C dx fs) ∧ fld fs "size" = some (.int (n : Int)) ∧ n ≤ 64 ∧ ∀ l, H l = none → Q (.ref l) (upd H l (.lst (rgV 0 (n : Int))))
section
variable {P : Program} {w : World} {K : PySem.W.Frag} {mg : Str → Option Value} {base : Heap} {C : Addr}
theorem sc_Scale_places : FnScope ["self"] ["self"] (defScope (inClass (top 12) 1)) := ⟨rfl, rfl, rfl, by decide +kernel, rfl, by decide +kernel, by decide +kernel⟩
theorem ok_places {f : Addr} {fd : FuncData} (F : Fun K "places" "Scale.places" (inClass (top 12) 1) f fd) (T : TxC K mg) (SC : SCls K C) : FnOk P w K mg base CX0 1 f fd ["self"] (spPlaces C) := by
  refine F.ok sc_Scale_places (fun vs H Q E h => ?_) (fun cdv A outer s H vs Q E hr h => ?_)
  · obtain ⟨p, dx, fs, n, rfl, _⟩ := h
    rfl
  · obtain ⟨p, dx, fs, n, rfl, hp, hs, hn, k⟩ := h
    refine ⟨_, (pss_cons (ps_if (pt_cmpR op_isN (pe_fld (pv 0) rfl) pe_non (nomark _)) (pss_one ps_never) pss_nil)
      (pss_one (ps_ret (pe_listRg (by rfl) (by rfl) T.list (prg_1 (by rfl) T.range (pe_fld (pv 0) rfl)))))), ?_⟩
    refine ⟨_, rfl, p, C, dx, _, _, rfl, hp, SC.cl, SC.size, hs, rfl, _, rfl, ?_⟩
    refine ifN (fun z => nomatch z) ?_
    refine ⟨_, rfl, p, C, dx, _, _, rfl, hp, SC.cl, SC.size, hs, _, rfl, RgOk.of_le (by decide) (by omega) (by decide) (by omega), fun l hl => ?_⟩
    exact k l hl
end
def spBin (C : Addr) (g : Int → Int → Int) : Sp := fun vs H Q _ => ∃ (p dx nm l d : Addr) (s q : Int) (o : Ord) (a b : Int), vs = [.ref p, .int a, .int b] ∧ CutIs C H p dx nm l d s q o ∧ 0 ≤ s ∧ 1 ≤ q ∧ 0 ≤ a ∧ a < s + q ∧ s + q ≤ 64 ∧ 0 ≤ b ∧ Q (.int (backI s q (g a b))) H
/-- name_at of a scale whose names stand in the list at l -/
def spNameAt (C : Addr) : Sp := fun vs H Q _ => ∃ (p dx l : Addr) (fs : List (Str × V)) (zs : List Str) (i : Int), vs = [.ref p, .int i] ∧ H p = some (.ins C dx fs) ∧ fld fs "_names" = some (.ref l) ∧ H l = some (.lst (zs.map V.str)) ∧ 0 ≤ i ∧ i < (zs.length : Int) ∧ Q (.str (zs.getD i.toNat Str.empty)) H
section
variable {P : Program} {w : World} {K : PySem.W.Frag} {mg : Str → Option Value} {base : Heap} {C : Addr}
theorem sc_CutScale_sum_at : FnScope ["self", "first", "second"] ["self", "first", "second"] (defScope (inClass (top 16) 2)) := ⟨rfl, rfl, rfl, by decide +kernel, rfl, by decide +kernel, by decide +kernel⟩
theorem ok_cut_sum {f : Addr} {fd : FuncData} (F : Fun K "sum_at" "CutScale.sum_at" (inClass (top 16) 2) f fd) (m_brought_back : Met P w K mg base CX0 2 C "brought_back" (spBack K C)) : FnOk P w K mg base CX0 3 f fd ["self", "first", "second"] (spBin C fun a b => a + b) := by
  refine F.ok sc_CutScale_sum_at (fun vs H Q E h => ?_) (fun cdv A outer s H vs Q E hr h => ?_)
  · obtain ⟨p, dx, nm, l, d, s, q, o, a, b, rfl, _⟩ := h
    rfl
  · obtain ⟨p, dx, nm, l, d, s, q, o, a, b, rfl, c, hs, hq, ha, _, _, hb, k⟩ := h
    refine ⟨_, (pss_one (ps_ret (pe_mt m_brought_back hr (by decide) (pv 0) (pa_cons (pe_op op_add (pv 1) (pv 2)) pa_nil)))), ?_⟩
    refine ⟨_, rfl, p, dx, _, rfl, c.ob, cut_none (by decide +kernel), _, rfl, _, rfl, _, _, rfl, rfl, ?_⟩
    exact ⟨p, dx, nm, _, s, q, a + b, rfl, c.ob, cut_numbers, cut_start, c.nm, hs, hq, by omega, k⟩
theorem sc_CutScale_product_at : FnScope ["self", "first", "second"] ["self", "first", "second"] (defScope (inClass (top 16) 3)) := ⟨rfl, rfl, rfl, by decide +kernel, rfl, by decide +kernel, by decide +kernel⟩
theorem ok_cut_product {f : Addr} {fd : FuncData} (F : Fun K "product_at" "CutScale.product_at" (inClass (top 16) 3) f fd) (m_brought_back : Met P w K mg base CX0 2 C "brought_back" (spBack K C)) : FnOk P w K mg base CX0 3 f fd ["self", "first", "second"] (spBin C fun a b => a * b) := by
  refine F.ok sc_CutScale_product_at (fun vs H Q E h => ?_) (fun cdv A outer s H vs Q E hr h => ?_)
  · obtain ⟨p, dx, nm, l, d, s, q, o, a, b, rfl, _⟩ := h
    rfl
  · obtain ⟨p, dx, nm, l, d, s, q, o, a, b, rfl, c, hs, hq, ha, ha2, hsq, hb, k⟩ := h
    refine ⟨_, (pss_one (ps_ret (pe_mt m_brought_back hr (by decide) (pv 0) (pa_cons (pe_op op_mul (pv 1) (pv 2)) pa_nil)))), ?_⟩
    refine ⟨_, rfl, p, dx, _, rfl, c.ob, cut_none (by decide +kernel), _, rfl, _, rfl, _, _, rfl, rfl, .inl ⟨by omega, by omega⟩, ?_⟩
    exact ⟨p, dx, nm, _, s, q, a * b, rfl, c.ob, cut_numbers, cut_start, c.nm, hs, hq, Int.mul_nonneg ha hb, k⟩
theorem sc_ListedScale_name_at : FnScope ["self", "place"] ["self", "place"] (defScope (inClass (top 13) 1)) := ⟨rfl, rfl, rfl, by decide +kernel, rfl, by decide +kernel, by decide +kernel⟩
theorem ok_name_at {f : Addr} {fd : FuncData} (F : Fun K "name_at" "ListedScale.name_at" (inClass (top 13) 1) f fd) (LC : LCls K C) : FnOk P w K mg base CX0 1 f fd ["self", "place"] (spNameAt C) := by
  refine F.ok sc_ListedScale_name_at (fun vs H Q E h => ?_) (fun cdv A outer s H vs Q E hr h => ?_)
  · obtain ⟨p, dx, l, fs, zs, i, rfl, _⟩ := h
    rfl
  · obtain ⟨p, dx, l, fs, zs, i, rfl, hp, h1, hl, hi, hz, k⟩ := h
    refine ⟨_, (pss_one (ps_ret (pe_ix ix_list (pe_fld (pv 0) rfl) (pv 1) (fun _ _ => rfl)))), ?_⟩
    exact ⟨_, rfl, p, C, dx, _, _, rfl, hp, LC.cl, LC._names, h1, _, rfl, l, _, i, _, rfl, rfl, SqL.of hl, at_of (Int.toNat_of_nonneg hi).symm (at_mapS (by omega)), k⟩
end
/-! ### law k01: its own helpers -/
def swap2 {α : Type} : List α → List α
  | [a, b] => [b, a]
  | l => l
def spLCut (C : Addr) : Sp := fun vs H Q _ => ∃ (s q t : Int) (o : Ord), vs = [.int s, .int q, .str o.txt, .int t] ∧ 0 ≤ s ∧ 1 ≤ q ∧ s + q ≤ 64 ∧ (o ≠ .same → q = 1) ∧
  ∀ p dx nm l d H', H p = none → H nm = none → H l = none → H d = none → Same H H' → CutIs C H' p dx nm l d s q o → Q (.ref p) H'
def spLReduced : Sp := fun vs H Q _ => ∃ (s q z : Int), vs = [.int s, .int q, .int z] ∧ 0 ≤ s ∧ 1 ≤ q ∧ Q (.int (backI s q z)) H
section
variable {P : Program} {w : World} {K : PySem.W.Frag} {mg : Str → Option Value} {base : Heap} {C : Addr}
theorem sc__law_reduced : FnScope ["_law_start", "_law_length", "_law_number"] ["_law_start", "_law_length", "_law_number"] (defScope (top 22)) := ⟨rfl, rfl, rfl, by decide +kernel, rfl, by decide +kernel, by decide +kernel⟩
theorem ok_lreduced {f : Addr} {fd : FuncData} (F : Fun K "_law_reduced" "_law_reduced" (top 22) f fd) (T : TxL K mg) : FnOk P w K mg base CX0 1 f fd ["_law_start", "_law_length", "_law_number"] spLReduced := by
  refine F.ok sc__law_reduced (fun vs H Q E h => ?_) (fun cdv A outer s H vs Q E hr h => ?_)
  · obtain ⟨s, q, z, rfl, _⟩ := h
    rfl
  · obtain ⟨s, q, z, rfl, hs, hq, k⟩ := h
    refine ⟨_, (pss_cons (ps_if (pt_cmpR op_lt (pv 2) (pe_op op_add (pv 0) (pv 1)) (nomark _)) (pss_one (ps_ret (pv 2))) pss_nil)
      (pss_one (ps_ret (pe_op op_add (pv 0) (pe_op op_mod (pe_callTy call_int1 (by rfl) T.int (by decide +kernel) (pa_cons (pe_op op_sub (pv 2) (pv 0)) pa_nil)) (pv 1)))))), ?_⟩
    unfold backI at k
    refine ⟨_, rfl, _, rfl, _, rfl, _, _, rfl, rfl, _, _, rfl, rfl, _, rfl, ?_⟩
    refine ifD (fun e => ?_) (fun e => ?_)
    · rw [if_pos e] at k
      exact ⟨_, rfl, k⟩
    · rw [if_neg e] at k
      exact ⟨_, rfl, _, rfl, _, rfl, _, _, rfl, rfl, .inl ⟨_, rfl, _, rfl, _, _, rfl, rfl, (by show 0 < q; omega), _, _, rfl, rfl, k⟩⟩
theorem sc__law_cut : FnScope ["_law_start", "_law_length", "_law_sort", "_law_short"] ["_law_start", "_law_length", "_law_sort", "_law_short"] (defScope (top 21)) := ⟨rfl, rfl, rfl, by decide +kernel, rfl, by decide +kernel, by decide +kernel⟩
theorem ok_lcut {f : Addr} {fd : FuncData} (F : Fun K "_law_cut" "_law_cut" (top 21) f fd) (mkD : MakD P w K mg base CX0 3 "CutScale" C (spCutInit C) [.int 1, .str "same"])
    (mkO : MakK P w K mg base CX0 3 "CutScale" C (spCutInit C) 1 ["order"] (fun vs zs => vs ++ [.int 1] ++ zs)) (mkP : MakK P w K mg base CX0 3 "CutScale" C (spCutInit C) 1 ["period"] (fun vs zs => vs ++ zs ++ [.str "same"]))
    (mkOP : MakK P w K mg base CX0 3 "CutScale" C (spCutInit C) 1 ["order", "period"] (fun vs zs => vs ++ swap2 zs)) : FnOk P w K mg base CX0 5 f fd ["_law_start", "_law_length", "_law_sort", "_law_short"] (spLCut C) := by
  refine F.ok sc__law_cut (fun vs H Q E h => ?_) (fun cdv A outer s H vs Q E hr h => ?_)
  · obtain ⟨s, q, t, o, rfl, _⟩ := h
    rfl
  · obtain ⟨s, q, t, o, rfl, hs, hq, hsq, ho, k⟩ := h
    have fin : ∀ (x dx : Addr) (E' : XK), H x = none → H dx = none → dx ≠ x → spCutInit C [.ref x, .int s, .int q, .str o.txt] (upd (upd H dx (.own x)) x (.ins C dx [])) (fun v H2 => v = .non ∧ Q (.ref x) H2) E' := by
      intro x dx E' hx hdx hne
      refine ⟨x, dx, s, q, o, rfl, hs, hq, hsq, ho, upd_same, fun dx' nm l d H' n1 n2 n3 b c => ⟨rfl, ?_⟩⟩
      refine k x dx' nm l d H' hx (upd_none (upd_none n1).2).2 (upd_none (upd_none n2).2).2 (upd_none (upd_none n3).2).2 (fun b' o' e => ?_) c
      have x1 := ne_of_none e hx
      have x2 := ne_of_none e hdx
      exact b _ _ (by rw [upd_ne x1, upd_ne x2]; exact e) x1
    refine ⟨_, (pss_cons (ps_if (PW.pt (pw_and (pt_cmpR op_eq (pv 3) pe_int (nomark _)) (pw_and (pt_cmpR op_eq (pv 1) pe_int (nomark _)) (pw_and1 (pt_cmpR op_eq (pv 2) pe_str (nomark _)))))) (pss_one (ps_ret (pe_mkD mkD hr (by decide) (by rfl) (pa_cons (pv 0) pa_nil)))) pss_nil)
      (pss_cons (ps_if (PW.pt (pw_and (pt_cmpR op_eq (pv 3) pe_int (nomark _)) (pw_and1 (pt_cmpR op_eq (pv 1) pe_int (nomark _))))) (pss_one (ps_ret (pe_mkK mkO hr (by decide) (by rfl) (pa_cons (pv 0) pa_nil) (pk_cons (pv 2) pk_nil)))) pss_nil)
      (pss_cons (ps_if (pt_cmpR op_eq (pv 3) pe_int (nomark _)) (pss_one (ps_ret (pe_mkK mkP hr (by decide) (by rfl) (pa_cons (pv 0) pa_nil) (pk_cons (pv 1) pk_nil)))) pss_nil)
      (pss_one (ps_ret (pe_mkK mkOP hr (by decide) (by rfl) (pa_cons (pv 0) pa_nil) (pk_cons (pv 2) (pk_cons (pv 1) pk_nil)))))))), ?_⟩
    refine ⟨_, rfl, rfl, _, rfl, ?_⟩
    refine ifD (fun et => ?_) (fun et => ?_)
    · refine ⟨_, rfl, rfl, _, rfl, ?_⟩
      refine ifD (fun eq => ?_) (fun eq => ?_)
      · obtain rfl : q = 1 := V.int.inj eq
        refine ⟨_, rfl, rfl, _, rfl, ?_⟩
        refine ifD (fun eo => ?_) (fun eo => ?_)
        · obtain rfl : o = .same := by
            cases o
            · rfl
            · exact absurd (V.str.inj eo) (by decide +kernel)
            · exact absurd (V.str.inj eo) (by decide +kernel)
          exact ⟨_, rfl, fun x dx a b c => fin x dx _ a b c⟩
        · refine ⟨_, rfl, rfl, _, rfl, ?_⟩
          refine ifY et ?_
          refine ⟨_, rfl, rfl, _, rfl, ?_⟩
          refine ifY rfl ?_
          exact ⟨_, rfl, _, rfl, rfl, rfl, fun x dx a b c => fin x dx _ a b c⟩
      · refine iteF ?_
        refine ⟨_, rfl, rfl, _, rfl, ?_⟩
        refine ifY et ?_
        refine ⟨_, rfl, rfl, _, rfl, ?_⟩
        refine ifN eq ?_
        refine ⟨_, rfl, rfl, _, rfl, ?_⟩
        refine ifY et ?_
        have eo : o = .same := by
          by_cases z : o = .same
          · exact z
          · exact absurd (congrArg V.int (ho z)) eq
        subst eo
        exact ⟨_, rfl, _, rfl, rfl, rfl, fun x dx a b c => fin x dx _ a b c⟩
    · refine iteF ?_
      refine ⟨_, rfl, rfl, _, rfl, ?_⟩
      refine ifN et ?_
      refine iteF ?_
      refine ⟨_, rfl, rfl, _, rfl, ?_⟩
      refine ifN et ?_
      exact ⟨_, rfl, _, rfl, _, rfl, rfl, rfl, fun x dx a b c => fin x dx _ a b c⟩
end
/-! ### the state of the draws, kept -/
def spLaw (K : PySem.W.Frag) : Sp := fun vs H Q _ => ∃ (a : Addr) (ns : List Int), vs = [.ref a] ∧ SqL K H a (ns.map V.int) ∧ ns.length ≤ 63 ∧ ∀ H', Q (.bl true) H'
/-- what the state's two lists are told from -/
theorem StA.ne {H : Hp} {S L p : Addr} {o : HO} (h : StA H S L) (hp : H p = some o) (hn : ∀ xs, o ≠ .lst xs) : p ≠ S ∧ p ≠ L := by
  obtain ⟨_, ns, a, b, c, _, h1, h2⟩ := h
  exact ⟨ne_of hp h1 (fun z => hn _ z), ne_of hp h2 (fun z => hn _ z)⟩
theorem StA.same {H H' : Hp} {S L : Addr} (h : StA H S L) (e : Same H H') : StA H' S L := by
  obtain ⟨n, ns, a, b, c, l, h1, h2⟩ := h
  exact ⟨n, ns, a, b, c, l, e _ _ h1, e _ _ h2⟩
theorem StA.but {H H' : Hp} {S L p : Addr} (h : StA H S L) (e : But p H H') (h1 : p ≠ S) (h2 : p ≠ L) : StA H' S L := by
  obtain ⟨n, ns, a, b, c, l, g1, g2⟩ := h
  exact ⟨n, ns, a, b, c, l, e _ _ g1 h1.symm, e _ _ g2 h2.symm⟩
theorem StA.new {H : Hp} {S L p : Addr} (h : StA H S L) (hp : H p = none) : S ≠ p ∧ L ≠ p := by
  obtain ⟨n, ns, a, b, c, l, g1, g2⟩ := h
  exact ⟨ne_of_none g1 hp, ne_of_none g2 hp⟩
theorem Da.ints {H : Hp} {n : Nat} {a b : Addr} {xs : List V} (ha : H a = some (.lst xs)) (hb : H b = some (.lst xs)) (hz : xs.length ≤ 1000) (hf : ∀ x ∈ xs, Da H n x x) : Da H (n + 1) (.ref a) (.ref b) :=
  .lst ha hb rfl hz fun i x y h1 h2 => by
    rw [h1] at h2
    obtain rfl : x = y := Option.some.inj h2
    exact hf x (List.mem_of_getElem? h1)
theorem rg_mem {n : Int} {x : V} (h : x ∈ rgV 0 n) : ∃ i, x = .int i ∧ 0 ≤ i ∧ i < n := by
  obtain ⟨i, hi⟩ := List.getElem?_of_mem h
  obtain ⟨rfl, hn⟩ := rg_inv hi
  exact ⟨_, rfl, by omega, hn⟩
theorem rg_succ (i : Nat) : rgV 0 ((i : Int) + 1) = rgV 0 (i : Int) ++ [.int (i : Int)] := by
  unfold rgV
  have e1 : ((i : Int) + 1 - 0).toNat = i + 1 := by omega
  have e2 : ((i : Int) - 0).toNat = i := by omega
  rw [e1, e2, range_map_snoc, Int.zero_add]
theorem ord_at (r : Int) (h0 : 0 ≤ r) (h1 : r < 3) : ∃ o : Ord, atI [V.str "same", V.str "up", V.str "down"] r = some (.str o.txt) := by
  have z : r = 0 ∨ r = 1 ∨ r = 2 := by omega
  rcases z with rfl | rfl | rfl
  · exact ⟨.same, rfl⟩
  · exact ⟨.up, rfl⟩
  · exact ⟨.down, rfl⟩
/-! ### a cut scale beside the state of the draws -/
structure Wd (C S L p dx nm l d : Addr) (s q : Int) (o : Ord) (H : Hp) : Prop where
  st : StA H S L
  cut : CutIs C H p dx nm l d s q o
  ap : Apart S L p nm l d
structure Off (S L p nm l d x : Addr) : Prop where
  S : x ≠ S
  L : x ≠ L
  p : x ≠ p
  nm : x ≠ nm
  l : x ≠ l
  d : x ≠ d
section
variable {C S L p dx nm l d : Addr} {s q : Int} {o : Ord} {H H' : Hp}
theorem Wd.same (w : Wd C S L p dx nm l d s q o H) (e : Same H H') : Wd C S L p dx nm l d s q o H' := ⟨w.st.same e, w.cut.same e, w.ap⟩
theorem Wd.keeps (w : Wd C S L p dx nm l d s q o H) (h : StA H' S L) (e : Keeps S L H H') : Wd C S L p dx nm l d s q o H' := ⟨h, w.cut.keeps w.ap e, w.ap⟩
theorem Wd.off {x : Addr} (w : Wd C S L p dx nm l d s q o H) (h : H x = none) : Off S L p nm l d x :=
  ⟨(w.st.new h).1.symm, (w.st.new h).2.symm, (ne_of_none w.cut.ob h).symm, (ne_of_none w.cut.nm h).symm, (ne_of_none w.cut.nl h).symm, (ne_of_none w.cut.fd h).symm⟩
theorem Wd.upd {x : Addr} {u : HO} (w : Wd C S L p dx nm l d s q o H) (f : Off S L p nm l d x) : Wd C S L p dx nm l d s q o (upd H x u) := by
  obtain ⟨⟨n, ns, a, b, c, hl, g1, g2⟩, cut, ap⟩ := w
  exact ⟨⟨n, ns, a, b, c, hl, by rw [upd_ne f.S.symm]; exact g1, by rw [upd_ne f.L.symm]; exact g2⟩,
    ⟨by rw [upd_ne f.p.symm]; exact cut.ob, by rw [upd_ne f.nm.symm]; exact cut.nm, by rw [upd_ne f.l.symm]; exact cut.nl, by rw [upd_ne f.d.symm]; exact cut.fd⟩, ap⟩
theorem Wd.new {x : Addr} {u : HO} (w : Wd C S L p dx nm l d s q o H) (h : H x = none) : Wd C S L p dx nm l d s q o (L2.upd H x u) := w.same (sameNew h)
theorem Wd.find (w : Wd C S L p dx nm l d s q o H) : FindOb C H p d (foundTo (cutNames s q) (s + q).toNat) := ⟨dx, _, w.cut.ob, cut_found, cut_none (by decide +kernel), cut_none (by decide +kernel), w.cut.fd⟩
end
/-! ### the names of a cut scale -/
theorem cutNames_len (s q : Int) : (cutNames s q).length = (s + q).toNat := by unfold cutNames; rw [List.length_map, List.length_range]
theorem cutNames_at {s q : Int} {i : Nat} (h : i < (s + q).toNat) : (cutNames s q).getD i Str.empty = cutName s q i := by
  unfold cutNames
  rw [List.getD_eq_getElem?_getD, List.getElem?_map, range_at h]; rfl
theorem cutName_short (s q : Int) (i : Nat) (h : i < 65) : (cutName s q i).length ≤ 4 := by
  unfold cutName
  split
  · decide +kernel
  · exact Nat.le_trans (num_short _ (by omega) (by omega)) (by decide)
theorem cutName_inj {s q : Int} (hs : 0 ≤ s) (hsq : s + q ≤ 64) {i j : Nat} (hi : i < (s + q).toNat) (hj : j < (s + q).toNat) (e : cutName s q i = cutName s q j) : i = j := by
  unfold cutName at e
  split at e
  · split at e
    · omega
    · exact absurd e.symm (num_not j (by omega) "many" (by simp))
  · split at e
    · exact absurd e (num_not i (by omega) "many" (by simp))
    · exact num_inj i (by omega) j (by omega) e
theorem cut_find {s q : Int} (hs : 0 ≤ s) (hsq : s + q ≤ 64) {i : Nat} (hi : i < (s + q).toNat) : valV (foundTo (cutNames s q) (s + q).toNat) (Sum.inr (cutName s q i) : Key) = some (.int (i : Int)) := by
  rw [← cutNames_at hi, ← cutNames_len]
  refine found_at _ i (fun j hj e => ?_) _ (Nat.le_refl _) (by rw [cutNames_len]; exact hi)
  rw [cutNames_len] at hj
  rw [cutNames_at hj, cutNames_at hi] at e
  exact cutName_inj hs hsq hj hi e
theorem cut_miss {s q : Int} {w : Str} (h : ∀ i, i < (s + q).toNat → cutName s q i ≠ w) : valV (foundTo (cutNames s q) (s + q).toNat) (Sum.inr w : Key) = none := by
  rw [← cutNames_len]
  refine found_get _ w _ (Nat.le_refl _) fun i hi => ?_
  rw [cutNames_len] at hi
  rw [cutNames_at hi]
  exact h i hi
/-! ### the law itself -/
/-- the last word: "many" where it is no name, else the number that "many" stands for -/
def lastW (s q : Int) : Str := if 1 < q then "many" else num s
theorem words_miss {s q : Int} (hs : 0 ≤ s) (hq : 1 ≤ q) (hsq : s + q ≤ 64) (r : Int) (r0 : 0 ≤ r) (r1 : r < 9) :
    ∃ w : Str, atI [V.str (num (s + q)), .str "-1", .str "", .str " 1", .str "1 ", .str "+1", .str "MANY", .str ("0" ++ num s), .str (lastW s q)] r = some (.str w) ∧ w.length ≤ 100000 ∧ valV (foundTo (cutNames s q) (s + q).toNat) (Sum.inr w : Key) = none := by
  have fixed : ∀ w ∈ (["-1", "", " 1", "1 ", "+1", "MANY"] : List Str), valV (foundTo (cutNames s q) (s + q).toNat) (Sum.inr w : Key) = none := by
    intro w hw
    refine cut_miss fun i hi => ?_
    unfold cutName
    split
    · intro e; subst e; exact absurd hw (by decide +kernel)
    · exact num_not i (by omega) w (by simp only [List.mem_cons] at hw ⊢; exact .inr hw)
  have z : r = 0 ∨ r = 1 ∨ r = 2 ∨ r = 3 ∨ r = 4 ∨ r = 5 ∨ r = 6 ∨ r = 7 ∨ r = 8 := by omega
  rcases z with rfl | rfl | rfl | rfl | rfl | rfl | rfl | rfl | rfl
  · refine ⟨_, rfl, Nat.le_trans (num_short _ (by omega) (by omega)) (by decide), cut_miss fun i hi => ?_⟩
    obtain ⟨n, hn⟩ := Int.eq_ofNat_of_zero_le (show 0 ≤ s + q by omega)
    rw [hn]
    unfold cutName
    split
    · exact (num_not n (by omega) "many" (by simp)).symm
    · intro e
      have := num_inj i (by omega) n (by omega) e
      omega
  · exact ⟨_, rfl, by decide +kernel, fixed _ (by simp)⟩
  · exact ⟨_, rfl, by decide +kernel, fixed _ (by simp)⟩
  · exact ⟨_, rfl, by decide +kernel, fixed _ (by simp)⟩
  · exact ⟨_, rfl, by decide +kernel, fixed _ (by simp)⟩
  · exact ⟨_, rfl, by decide +kernel, fixed _ (by simp)⟩
  · exact ⟨_, rfl, by decide +kernel, fixed _ (by simp)⟩
  · have c := app_le (show ("0" : Str).length ≤ 1 by decide +kernel) (num_short s hs (by omega))
    refine ⟨_, rfl, Nat.le_trans c (by decide), cut_miss fun i hi => ?_⟩
    obtain ⟨n, rfl⟩ := Int.eq_ofNat_of_zero_le hs
    unfold cutName
    split
    · exact many_zero n (by omega)
    · exact num_zero n (by omega) i (by omega)
  · refine ⟨_, rfl, ?_, cut_miss fun i hi => ?_⟩
    · unfold lastW
      split
      · decide +kernel
      · exact Nat.le_trans (num_short s hs (by omega)) (by decide)
    · unfold lastW cutName
      by_cases e : 1 < q
      · rw [if_pos e, if_neg (by omega)]
        exact num_not i (by omega) "many" (by simp)
      · rw [if_neg e]
        obtain ⟨n, rfl⟩ := Int.eq_ofNat_of_zero_le hs
        split
        · exact (num_not n (by omega) "many" (by simp)).symm
        · intro z
          have := num_inj i (by omega) n (by omega) z
          omega
section
variable {P : Program} {w : World} {K : PySem.W.Frag} {mg : Str → Option Value} {base : Heap} {C CU : Addr}
theorem sc_law : FnScope ["_law_script", "_law_state", "_law_start", "_law_length", "_law_sort", "_law_scale", "_law_size", "_law_places", "_law_ends", "_law_k", "_law_a", "_law_b", "_law_place", "_law_name", "_law_words"] ["_law_script"] (defScope (top 24)) := ⟨rfl, rfl, rfl, by decide +kernel, rfl, by decide +kernel, by decide +kernel⟩
theorem ok_law {f : Addr} {fd : FuncData} (F : Fun K "law" "law" (top 24) f fd) (T : TxL K mg) (CC : CCls K C) (c__law_draws : Cal P w K mg base CX0 1 "_law_draws" (spDraws K)) (c__law_draw : Cal P w K mg base CX0 1 "_law_draw" spDraw)
    (c__law_cut : Cal P w K mg base CX0 5 "_law_cut" (spLCut C)) (c__law_reduced : Cal P w K mg base CX0 1 "_law_reduced" spLReduced) (c__law_same : Cal P w K mg base CX0 2 "_law_same" (spSame 1)) (m_places : Met P w K mg base CX0 1 C "places" (spPlaces C))
    (m_sum_at : Met P w K mg base CX0 3 C "sum_at" (spBin C fun a b => a + b)) (m_product_at : Met P w K mg base CX0 3 C "product_at" (spBin C fun a b => a * b)) (m_name_at : Met P w K mg base CX0 1 C "name_at" (spNameAt C))
    (m_at_name : Met P w K mg base (L2.CX P w) 3 C "at_name" (spAtName C CU)) (c__law_unknown : Cal P w K mg base (L2.CX P w) 4 "_law_unknown" (spLUnknown C CU)) : FnOk P w K mg base (L2.CX P w) 6 f fd ["_law_script"] (spLaw K) := by
  refine okN F sc_law (fun vs H Q E h => ?_) (fun cdv A outer s H vs Q E hr h => ?_)
  · obtain ⟨a, ns, rfl, _⟩ := h
    rfl
  · obtain ⟨a, ns, rfl, hS, hlen, k⟩ := h
    refine ⟨_, (pss_cons (ps_set (i := 1) sc_law.nd rfl (Or.inl rfl) (pe_c c__law_draws hr (by decide) (by rfl) (pa_cons (pv 0) pa_nil)))
      (pss_cons (ps_set (i := 2) sc_law.nd rfl (Or.inl rfl) (pe_c c__law_draw hr (by decide) (by rfl) (pa_cons (pv 1) (pa_cons pe_int pa_nil))))
      (pss_cons (ps_set (i := 3) sc_law.nd rfl (Or.inl rfl) (pe_op op_add pe_int (pe_c c__law_draw hr (by decide) (by rfl) (pa_cons (pv 1) (pa_cons (pe_op op_sub pe_int (pv 2)) pa_nil)))))
      (pss_cons (ps_set (i := 4) sc_law.nd rfl (Or.inl rfl) pe_str)
      (pss_cons (ps_if (pt_cmpR op_eq (pe_c c__law_draw hr (by decide) (by rfl) (pa_cons (pv 1) (pa_cons pe_int pa_nil))) pe_int (nomark _)) (pss_cons (ps_set (i := 3) sc_law.nd rfl (Or.inl rfl) pe_int)
      (pss_one (ps_set (i := 4) sc_law.nd rfl (Or.inl rfl) (pe_ix ix_list (pe_lst (pa_cons pe_str (pa_cons pe_str (pa_cons pe_str pa_nil)))) (pe_c c__law_draw hr (by decide) (by rfl) (pa_cons (pv 1) (pa_cons pe_int pa_nil))) (fun _ _ => rfl))))) pss_nil)
      (pss_cons (ps_set (i := 5) sc_law.nd rfl (Or.inl rfl) (pe_c c__law_cut hr (by decide) (by rfl) (pa_cons (pv 2) (pa_cons (pv 3) (pa_cons (pv 4) (pa_cons (pe_c c__law_draw hr (by decide) (by rfl) (pa_cons (pv 1) (pa_cons pe_int pa_nil))) pa_nil))))))
      (pss_cons (ps_set (i := 6) sc_law.nd rfl (Or.inl rfl) (pe_op op_add (pv 2) (pv 3)))
      (pss_cons (ps_set (i := 7) sc_law.nd rfl (Or.inl rfl) (pe_mt0 m_places hr (by decide) (pv 5)))
      (pss_cons (ps_if (pt_not (pt_val (pe_c c__law_same hr (by decide) (by rfl) (pa_cons (pv 7) (pa_cons (pe_lc (own := [("_law_k", 9)]) (g := (gName 9)) (by rfl) sc_law.nd (pi_range1 (by rfl) T.range (pa_cons (pv 6) pa_nil)) (blkOk_by (own := [("_law_k", 9)]) (N := ["_law_script", "_law_state", "_law_start", "_law_length", "_law_sort", "_law_scale", "_law_size", "_law_places", "_law_ends", "_law_k", "_law_a", "_law_b", "_law_place", "_law_name", "_law_words"]) (sc := defScope (top 24)) (by decide +kernel)) (fun _ _ _ _ _ => (pg_name (i := 9) sc_law.nd rfl (Or.inl rfl))) (fun _ _ _ _ _ => pts_nil) (fun _ _ _ _ _ => (pv 9))) pa_nil))))) (pss_one (ps_ret pe_bl)) pss_nil)
      (pss_cons (ps_expr (pe_bm PySem.F.plainAttrs_list PySem.F.slot_list_append PySem.F.type_list_append mt_append (pv 7) (pa_cons (pv 6) pa_nil)))
      (pss_cons (ps_if (pt_not (pt_val (pe_c c__law_same hr (by decide) (by rfl) (pa_cons (pe_mt0 m_places hr (by decide) (pv 5)) (pa_cons (pe_lc (own := [("_law_k", 9)]) (g := (gName 9)) (by rfl) sc_law.nd (pi_range1 (by rfl) T.range (pa_cons (pv 6) pa_nil)) (blkOk_by (own := [("_law_k", 9)]) (N := ["_law_script", "_law_state", "_law_start", "_law_length", "_law_sort", "_law_scale", "_law_size", "_law_places", "_law_ends", "_law_k", "_law_a", "_law_b", "_law_place", "_law_name", "_law_words"]) (sc := defScope (top 24)) (by decide +kernel)) (fun _ _ _ _ _ => (pg_name (i := 9) sc_law.nd rfl (Or.inl rfl))) (fun _ _ _ _ _ => pts_nil) (fun _ _ _ _ _ => (pv 9))) pa_nil))))) (pss_one (ps_ret pe_bl)) pss_nil)
      (pss_cons (ps_set (i := 8) sc_law.nd rfl (Or.inl rfl) (pe_lst (pa_cons (pe_fld (pv 5) rfl) (pa_cons (pe_fld (pv 5) rfl) (pa_cons (pe_fld (pv 5) rfl) pa_nil)))))
      (pss_cons (ps_if (pt_not (pt_val (pe_c c__law_same hr (by decide) (by rfl) (pa_cons (pv 8) (pa_cons (pe_lst (pa_cons (pv 6) (pa_cons pe_int (pa_cons (pe_c c__law_reduced hr (by decide) (by rfl) (pa_cons (pv 2) (pa_cons (pv 3) (pa_cons pe_int pa_nil)))) pa_nil)))) pa_nil))))) (pss_one (ps_ret pe_bl)) pss_nil)
      (pss_cons (ps_for PassesOwn.never rfl (pi_range1 (by rfl) T.range (pa_cons (pe_op op_add pe_int (pe_c c__law_draw hr (by decide) (by rfl) (pa_cons (pv 1) (pa_cons pe_int pa_nil)))) pa_nil)) (pg_name (i := 9) sc_law.nd rfl (Or.inl rfl)) (pss_cons (ps_set (i := 10) sc_law.nd rfl (Or.inl rfl) (pe_c c__law_draw hr (by decide) (by rfl) (pa_cons (pv 1) (pa_cons (pv 6) pa_nil))))
      (pss_cons (ps_set (i := 11) sc_law.nd rfl (Or.inl rfl) (pe_c c__law_draw hr (by decide) (by rfl) (pa_cons (pv 1) (pa_cons (pv 6) pa_nil))))
      (pss_cons (ps_if (pt_not (pt_val (pe_c c__law_same hr (by decide) (by rfl) (pa_cons (pe_mt m_sum_at hr (by decide) (pv 5) (pa_cons (pv 10) (pa_cons (pv 11) pa_nil))) (pa_cons (pe_c c__law_reduced hr (by decide) (by rfl) (pa_cons (pv 2) (pa_cons (pv 3) (pa_cons (pe_op op_add (pv 10) (pv 11)) pa_nil)))) pa_nil))))) (pss_one (ps_ret pe_bl)) pss_nil)
      (pss_one (ps_if (pt_not (pt_val (pe_c c__law_same hr (by decide) (by rfl) (pa_cons (pe_mt m_product_at hr (by decide) (pv 5) (pa_cons (pv 10) (pa_cons (pv 11) pa_nil))) (pa_cons (pe_c c__law_reduced hr (by decide) (by rfl) (pa_cons (pv 2) (pa_cons (pv 3) (pa_cons (pe_op op_mul (pv 10) (pv 11)) pa_nil)))) pa_nil))))) (pss_one (ps_ret pe_bl)) pss_nil))))))
      (pss_cons (ps_for PassesOwn.never rfl (pi_range1 (by rfl) T.range (pa_cons (pv 6) pa_nil)) (pg_name (i := 12) sc_law.nd rfl (Or.inl rfl)) (pss_cons (ps_set (i := 13) sc_law.nd rfl (Or.inl rfl) (pe_callTy call_str_int (by rfl) T.str (by decide +kernel) (pa_cons (pv 12) pa_nil)))
      (pss_cons (ps_if (PW.pt (pw_and (pt_cmpR op_eq (pv 3) pe_int (nomark _)) (pw_and1 (pt_cmpR op_eq (pv 12) (pv 2) (nomark _))))) (pss_one (ps_set (i := 13) sc_law.nd rfl (Or.inl rfl) pe_str)) pss_nil)
      (pss_one (ps_if (pt_not (pt_val (pe_c c__law_same hr (by decide) (by rfl) (pa_cons (pe_mt m_name_at hr (by decide) (pv 5) (pa_cons (pv 12) pa_nil)) (pa_cons (pv 13) pa_nil))))) (pss_one (ps_ret pe_bl)) pss_nil)))))
      (pss_cons (ps_set (i := 12) sc_law.nd rfl (Or.inl rfl) (pe_c c__law_draw hr (by decide) (by rfl) (pa_cons (pv 1) (pa_cons (pv 6) pa_nil))))
      (pss_cons (ps_if (pt_not (pt_val (pe_c c__law_same hr (by decide) (by rfl) (pa_cons (pe_mtL m_at_name hr (by decide) (pv 5) (pa_cons (pe_mt m_name_at hr (by decide) (pv 5) (pa_cons (pv 12) pa_nil)) pa_nil)) (pa_cons (pv 12) pa_nil))))) (pss_one (ps_ret pe_bl)) pss_nil)
      (pss_cons (ps_set (i := 14) sc_law.nd rfl (Or.inl rfl) (pe_lst (pa_cons (pe_callTy call_str_int (by rfl) T.str (by decide +kernel) (pa_cons (pv 6) pa_nil)) (pa_cons pe_str (pa_cons pe_str (pa_cons pe_str (pa_cons pe_str (pa_cons pe_str (pa_cons pe_str (pa_cons (pe_op op_add_str pe_str (pe_callTy call_str_int (by rfl) T.str (by decide +kernel) (pa_cons (pv 2) pa_nil))) (pa_cons (pe_joinV (pe_ifExp (pt_cmpR op_gt (pv 3) pe_int (nomark _)) pe_str (pe_callTy call_str_int (by rfl) T.str (by decide +kernel) (pa_cons (pv 2) pa_nil)))) pa_nil)))))))))))
      (pss_cons (ps_if (pt_not (pt_val (pe_cL c__law_unknown hr (by decide) (by rfl) (pa_cons (pv 5) (pa_cons (pe_ix ix_list (pv 14) (pe_c c__law_draw hr (by decide) (by rfl) (pa_cons (pv 1) (pa_cons pe_int pa_nil))) (fun _ _ => rfl)) pa_nil))))) (pss_one (ps_ret pe_bl)) pss_nil)
      (pss_one (ps_ret (pe_cL c__law_unknown hr (by decide) (by rfl) (pa_cons (pv 5) (pa_cons (pe_ix ix_list (pv 14) (pe_c c__law_draw hr (by decide) (by rfl) (pa_cons (pv 1) (pa_cons pe_int pa_nil))) (fun _ _ => rfl)) pa_nil)))))))))))))))))))))))), ?_⟩
    -- the draws
    refine ⟨_, rfl, a, ns, rfl, hS, hlen, fun S L H1 _ _ st1 _ => ?_⟩
    refine ⟨_, rfl, S, L, 64, rfl, st1, by decide, fun r1 H2 r10 r11 st2 kp2 => ?_⟩
    have r12 := r11 (by decide)
    refine ⟨_, rfl, _, rfl, _, _, rfl, rfl, ?_⟩
    refine ⟨S, L, 64 - r1, rfl, st2, by omega, fun r3 H4 r30 r31 st4 _ => ?_⟩
    have r32 := r31 (by omega)
    refine ⟨_, _, rfl, rfl, ?_⟩
    refine gNameI ?_
    dsimp only
    refine st_seq (tAsgC ?_)
    dsimp only
    refine st_seq (join (fun σ' H' => ∃ (q : Int) (o : Ord), σ' = [some (.ref a), some (.ref S), some (.int r1), some (.int q), some (.str o.txt), none, none, none, none, none, none, none, none, none, none] ∧ StA H' S L ∧ 1 ≤ q ∧ r1 + q ≤ 64 ∧ (o ≠ .same → q = 1)) ?_ ?_)
    · intro D' hD'
      refine ⟨_, rfl, S, L, 3, rfl, st4, by decide, fun z H5 z0 z1 st5 kp5 => ?_⟩
      refine ⟨rfl, _, rfl, ?_⟩
      refine ifD (fun e => ?_) (fun e => ?_)
      · refine ⟨(by show 3 ≤ sizeLine; decide), fun lo hlo => ?_⟩
        refine ⟨_, rfl, S, L, 3, rfl, st5.same (sameNew hlo), by decide, fun r2 H6 r20 r21 st6 kp6 => ?_⟩
        obtain ⟨o, ho⟩ := ord_at r2 r20 (r21 (by decide))
        have nlo := st5.new hlo
        refine ⟨lo, _, r2, _, rfl, rfl, SqL.of (kp6 _ _ upd_same nlo.1.symm nlo.2.symm), ho, ?_⟩
        exact hD' _ _ ⟨1, o, rfl, st6, by decide, by omega, fun _ => rfl⟩
      · exact hD' _ _ ⟨1 + r3, .same, rfl, st5, by omega, by omega, fun z => absurd rfl z⟩
    rintro σ' H5 ⟨q, o, rfl, st5, hq, hsq, ho⟩
    -- the scale
    refine ⟨_, rfl, _, rfl, _, rfl, _, rfl, S, L, 2, rfl, st5, by decide, fun t H6 _ _ st6 _ => ?_⟩
    refine ⟨r1, q, t, o, rfl, r10, hq, hsq, ho, fun p dx nm l d H7 np nnm nl nd sm cut => ?_⟩
    have W7 : Wd C S L p dx nm l d r1 q o H7 := ⟨st6.same sm, cut, ⟨⟨(st6.new np).1.symm, (st6.new np).2.symm⟩, ⟨(st6.new nnm).1.symm, (st6.new nnm).2.symm⟩, ⟨(st6.new nl).1.symm, (st6.new nl).2.symm⟩, ⟨(st6.new nd).1.symm, (st6.new nd).2.symm⟩⟩⟩
    have eN : (((r1 + q).toNat : Nat) : Int) = r1 + q := by omega
    have np1 : fld (cutFs r1 q o nm l d) "places" = none := cut_none (by decide +kernel)
    have np2 : fld (cutFs r1 q o nm l d) "sum_at" = none := cut_none (by decide +kernel)
    have np3 : fld (cutFs r1 q o nm l d) "product_at" = none := cut_none (by decide +kernel)
    have np4 : fld (cutFs r1 q o nm l d) "name_at" = none := cut_none (by decide +kernel)
    have np5 : fld (cutFs r1 q o nm l d) "at_name" = none := cut_none (by decide +kernel)
    clear cut sm st6 np nnm nl nd
    refine ⟨_, rfl, _, rfl, _, _, rfl, rfl, ?_⟩
    -- places
    refine ⟨_, rfl, p, dx, _, rfl, W7.cut.ob, np1, p, dx, _, (r1 + q).toNat, rfl, W7.cut.ob, cut_size, by omega, fun Pl hPl => ?_⟩
    have offP := W7.off hPl
    have W8 := W7.new (u := .lst (rgV 0 (((r1 + q).toNat : Nat) : Int))) hPl
    have lenR : (rgV 0 (((r1 + q).toNat : Nat) : Int)).length = (r1 + q).toNat := by rw [rgV_length]; omega
    have intsR : ∀ x ∈ rgV 0 (((r1 + q).toNat : Nat) : Int), ∀ H, Da H 0 x x := fun x hx H => by
      obtain ⟨i, rfl, _⟩ := rg_mem hx
      exact .int i
    refine ⟨_, rfl, _, rfl, _, rfl, by omega, by omega, fun D1 hD1 => lcF_range (lo := 0) (n := (r1 + q).toNat) (fun i => rgV 0 (i : Int)) rfl ?_ ?_⟩
    · intro i hi
      refine ⟨rfl, tYesI (iteT ⟨_, rfl, _, upd_same, ?_, ?_⟩)⟩
      · rw [rgV_length]; exact small1000 (by omega)
      · rw [upd_upd, Int.zero_add]
        show _ = upd _ _ (HO.lst (rgV 0 (((i + 1 : Nat) : Int))))
        rw [show ((i + 1 : Nat) : Int) = (i : Int) + 1 from by omega, rg_succ]
    have nPD : Pl ≠ D1 := ne_of_none upd_same hD1
    have W9 := W8.new (u := .lst (rgV 0 (((r1 + q).toNat : Nat) : Int))) hD1
    refine ⟨_, _, rfl, Da.ints (by rw [upd_ne nPD]; exact upd_same) upd_same (by omega) (fun x hx => intsR x hx _), _, rfl, ?_⟩
    refine iteF ?_
    -- places.append(size)
    refine ⟨_, rfl, .inl ⟨rfl, _, SqL.of (by rw [upd_ne nPD]; exact upd_same)⟩, _, rfl, Pl, _, _, rfl, rfl, (by rw [upd_ne nPD]; exact upd_same), small1000 (by omega), ?_⟩
    have W10 := W9.upd (u := .lst (rgV 0 (((r1 + q).toNat : Nat) : Int) ++ [.int (r1 + q)])) offP
    refine ⟨_, rfl, p, dx, _, rfl, W10.cut.ob, np1, p, dx, _, (r1 + q).toNat, rfl, W10.cut.ob, cut_size, by omega, fun P2 hP2 => ?_⟩
    have W11 := W10.new (u := .lst (rgV 0 (((r1 + q).toNat : Nat) : Int))) hP2
    refine ⟨_, rfl, _, rfl, by omega, by omega, fun D2 hD2 => lcF_range (lo := 0) (n := (r1 + q).toNat) (fun i => rgV 0 (i : Int)) rfl ?_ ?_⟩
    · intro i hi
      refine ⟨rfl, tYesI (iteT ⟨_, rfl, _, upd_same, ?_, ?_⟩)⟩
      · rw [rgV_length]; exact small1000 (by omega)
      · rw [upd_upd, Int.zero_add]
        show _ = upd _ _ (HO.lst (rgV 0 (((i + 1 : Nat) : Int))))
        rw [show ((i + 1 : Nat) : Int) = (i : Int) + 1 from by omega, rg_succ]
    have nPD2 : P2 ≠ D2 := ne_of_none upd_same hD2
    have W12 := W11.new (u := .lst (rgV 0 (((r1 + q).toNat : Nat) : Int))) hD2
    refine ⟨_, _, rfl, Da.ints (by rw [upd_ne nPD2]; exact upd_same) upd_same (by omega) (fun x hx => intsR x hx _), _, rfl, ?_⟩
    refine iteF ?_
    -- ends
    refine ⟨_, rfl, p, C, dx, _, _, rfl, W12.cut.ob, CC.cl, CC.size, cut_size, ?_⟩
    refine ⟨_, rfl, p, C, dx, _, _, rfl, W12.cut.ob, CC.cl, CC.zero_at, cut_zero, ?_⟩
    refine ⟨_, rfl, p, C, dx, _, _, rfl, W12.cut.ob, CC.cl, CC.one_at, cut_one, ?_⟩
    refine ⟨(by show 3 ≤ sizeLine; decide), fun E1 hE1 => ?_⟩
    have W13 := W12.new (u := .lst [.int (((r1 + q).toNat : Nat) : Int), .int 0, .int (backI r1 q 1)]) hE1
    refine ⟨_, rfl, _, rfl, _, rfl, _, rfl, r1, q, 1, rfl, r10, hq, ?_⟩
    refine ⟨(by show 3 ≤ sizeLine; decide), fun E2 hE2 => ?_⟩
    have nE : E1 ≠ E2 := ne_of_none upd_same hE2
    have W14 := W13.new (u := .lst [.int (r1 + q), .int 0, .int (backI r1 q 1)]) hE2
    refine ⟨_, _, rfl, Da.ints (xs := [.int (r1 + q), .int 0, .int (backI r1 q 1)]) (by rw [upd_ne nE, upd_same, eN]) upd_same (by show 3 ≤ 1000; decide) (fun x hx => ?_), _, rfl, ?_⟩
    · simp only [List.mem_cons, List.mem_nil_iff, or_false] at hx
      rcases hx with rfl | rfl | rfl <;> exact .int _
    refine iteF ?_
    -- the sums and products
    refine ⟨_, rfl, S, L, 24, rfl, W14.st, by decide, fun r4 H15 r40 r41 st15 kp15 => ?_⟩
    have r42 := r41 (by decide)
    have W15 := W14.keeps st15 kp15
    refine ⟨_, _, rfl, rfl, _, rfl, by omega, by omega, for_range (lo := 0) (n := (1 + r4).toNat) (fun i σ H16 => ∃ vk va vb, σ = [some (.ref a), some (.ref S), some (.int r1), some (.int q), some (.str o.txt), some (.ref p), some (.int (r1 + q)), some (.ref Pl), some (.ref E1), vk, va, vb, none, none, none] ∧ Wd C S L p dx nm l d r1 q o H16)
      ⟨none, none, none, rfl, W15⟩ ?_ ?_⟩
    · rintro i σ H16 hi ⟨vk, va, vb, rfl, W16⟩
      refine ⟨_, rfl, _, rfl, S, L, r1 + q, rfl, W16.st, by omega, fun x H17 x0 x1 st17 kp17 => ?_⟩
      have W17 := W16.keeps st17 kp17
      have x2 := x1 (by omega)
      refine ⟨_, rfl, _, rfl, S, L, r1 + q, rfl, W17.st, by omega, fun y H18 y0 y1 st18 kp18 => ?_⟩
      have W18 := W17.keeps st18 kp18
      have y2 := y1 (by omega)
      refine ⟨_, rfl, p, dx, _, rfl, W18.cut.ob, np2, _, rfl, _, rfl, p, dx, nm, l, d, r1, q, o, x, y, rfl, W18.cut, r10, hq, x0, x2, hsq, y0, ?_⟩
      refine ⟨_, rfl, _, rfl, _, rfl, _, rfl, _, _, rfl, rfl, r1, q, x + y, rfl, r10, hq, ?_⟩
      refine ⟨_, _, rfl, .int _, _, rfl, ?_⟩
      refine iteF ?_
      refine ⟨_, rfl, p, dx, _, rfl, W18.cut.ob, np3, _, rfl, _, rfl, p, dx, nm, l, d, r1, q, o, x, y, rfl, W18.cut, r10, hq, x0, x2, hsq, y0, ?_⟩
      refine ⟨_, rfl, _, rfl, _, rfl, _, rfl, _, _, rfl, rfl, .inl ⟨by omega, by omega⟩, r1, q, x * y, rfl, r10, hq, ?_⟩
      refine ⟨_, _, rfl, .int _, _, rfl, ?_⟩
      refine iteF ?_
      exact ⟨_, _, _, rfl, W18⟩
    rintro σ H16 ⟨vk, va, vb, rfl, W16⟩
    -- the names
    refine ⟨_, rfl, _, rfl, by omega, by omega, for_range (lo := 0) (n := (r1 + q).toNat) (fun i σ H17 => ∃ vp vn, σ = [some (.ref a), some (.ref S), some (.int r1), some (.int q), some (.str o.txt), some (.ref p), some (.int (r1 + q)), some (.ref Pl), some (.ref E1), vk, va, vb, vp, vn, none] ∧ Wd C S L p dx nm l d r1 q o H17)
      ⟨none, none, rfl, W16⟩ ?_ ?_⟩
    · rintro i σ H17 hi ⟨vp, vn, rfl, W17⟩
      refine ⟨_, rfl, _, rfl, num_log _ (by omega) (by omega), ?_⟩
      refine gNameI ?_
      dsimp only
      refine st_seq (join (fun σ' H' => σ' = [some (.ref a), some (.ref S), some (.int r1), some (.int q), some (.str o.txt), some (.ref p), some (.int (r1 + q)), some (.ref Pl), some (.ref E1), vk, va, vb, some (.int (0 + (i : Int))), some (.str (cutName r1 q i)), none] ∧ Wd C S L p dx nm l d r1 q o H') ?_ ?_)
      · intro D' hD'
        refine ⟨_, rfl, rfl, _, rfl, ?_⟩
        refine ifD (fun e1 => ?_) (fun e1 => ?_)
        · refine ⟨_, rfl, _, rfl, rfl, _, rfl, ?_⟩
          refine ifD (fun e2 => ?_) (fun e2 => ?_)
          · refine hD' _ _ ⟨?_, W17⟩
            have z1 := V.int.inj e1
            have z2 := V.int.inj e2
            unfold cutName
            rw [if_pos ⟨z1, by omega⟩]; rfl
          · refine hD' _ _ ⟨?_, W17⟩
            unfold cutName
            rw [if_neg (fun z => e2 (congrArg V.int (by omega)))]
            rw [Int.zero_add]; rfl
        · refine iteF ?_
          refine hD' _ _ ⟨?_, W17⟩
          unfold cutName
          rw [if_neg (fun z => e1 (congrArg V.int z.1))]
          rw [Int.zero_add]; rfl
      rintro σ' H18 ⟨rfl, W18⟩
      have e0 : (0 + (i : Int)).toNat = i := by omega
      refine ⟨_, rfl, p, dx, _, rfl, W18.cut.ob, np4, _, rfl, p, dx, l, _, cutNames r1 q, 0 + (i : Int), rfl, W18.cut.ob, cut_namesF, W18.cut.nl, by omega, (by rw [cutNames_len]; omega), ?_⟩
      rw [e0, cutNames_at hi]
      refine ⟨_, rfl, _, _, rfl, .str _, _, rfl, ?_⟩
      refine iteF ?_
      exact ⟨_, _, rfl, W18⟩
    rintro σ H17 ⟨vp, vn, rfl, W17⟩
    -- a name and its way back
    refine ⟨_, rfl, _, rfl, S, L, r1 + q, rfl, W17.st, by omega, fun x H18 x0 x1 st18 kp18 => ?_⟩
    have W18 := W17.keeps st18 kp18
    have x2 := x1 (by omega)
    have xN : x.toNat < (r1 + q).toNat := by omega
    refine ⟨_, rfl, p, dx, _, rfl, W18.cut.ob, np5, _, rfl, p, dx, _, rfl, W18.cut.ob, np4, _, rfl, p, dx, l, _, cutNames r1 q, x, rfl, W18.cut.ob, cut_namesF, W18.cut.nl, x0, (by rw [cutNames_len]; omega), ?_⟩
    rw [cutNames_at xN]
    refine ⟨p, d, _, cutName r1 q x.toNat, rfl, W18.find, Nat.le_trans (cutName_short r1 q _ (by omega)) (by decide), .inl ⟨_, cut_find r10 hsq xN, ?_⟩⟩
    rw [Int.toNat_of_nonneg x0]
    refine ⟨_, rfl, _, _, rfl, .int _, _, rfl, ?_⟩
    refine iteF ?_
    -- the words
    refine ⟨_, rfl, _, rfl, num_log _ (by omega) (by omega), ?_⟩
    refine ⟨_, rfl, _, rfl, num_log _ r10 (by omega), _, _, rfl, rfl, ?_, ?_⟩
    · have c1 : ("0" : Str).length ≤ 1 := by decide +kernel
      have c2 := num_short r1 r10 (by omega)
      exact sz (Nat.add_le_add c1 c2) (by decide)
    refine ⟨.str (lastW r1 q), fun Q' hq' => ?_, ?_⟩
    · refine ⟨_, rfl, _, _, rfl, rfl, _, rfl, ?_⟩
      unfold lastW at hq'
      refine ifD (fun e => ?_) (fun e => ?_)
      · rw [if_pos e] at hq'
        exact hq'
      · rw [if_neg e] at hq'
        exact ⟨_, rfl, _, rfl, num_log _ r10 (by omega), hq'⟩
    refine ⟨(by show 9 ≤ sizeLine; decide), fun Wl hWl => ?_⟩
    have offW := W18.off hWl
    have W19 := W18.new (u := .lst [.str (num (r1 + q)), .str "-1", .str "", .str " 1", .str "1 ", .str "+1", .str "MANY", .str ("0" ++ num r1), .str (lastW r1 q)]) hWl
    refine ⟨_, rfl, _, rfl, _, rfl, S, L, 9, rfl, W19.st, by decide, fun z H20 z0 z1 st20 kp20 => ?_⟩
    have W20 := W19.keeps st20 kp20
    have hw20 := kp20 _ _ upd_same offW.S offW.L
    obtain ⟨wd, hw1, hw2, hw3⟩ := words_miss r10 hq hsq z z0 (z1 (by decide))
    refine ⟨Wl, _, z, _, rfl, rfl, SqL.of hw20, hw1, ?_⟩
    refine ⟨p, d, _, wd, rfl, W20.find, hw2, hw3, fun H21 sm21 => ?_⟩
    have W21 := W20.same sm21
    refine ⟨_, rfl, ?_⟩
    refine iteF ?_
    refine ⟨_, rfl, _, rfl, _, rfl, S, L, 9, rfl, W21.st, by decide, fun z' H22 z0' z1' st22 kp22 => ?_⟩
    have W22 := W21.keeps st22 kp22
    have hw22 := kp22 _ _ (sm21 _ _ hw20) offW.S offW.L
    obtain ⟨wd', hw1', hw2', hw3'⟩ := words_miss r10 hq hsq z' z0' (z1' (by decide))
    refine ⟨Wl, _, z', _, rfl, rfl, SqL.of hw22, hw1', ?_⟩
    exact ⟨p, d, _, wd', rfl, W22.find, hw2', hw3', fun H23 _ => k H23⟩
end
theorem all_mk {l : PySem.W.OpenLaw} {w : World} {K : PySem.W.Frag} {h : Heap} {mg : Str → Option Value} {fa : Addr} (X : K.In h) (G : h.Ns mainGlobals mg) (hfa : mg "law" = some (.ref fa))
    {C_CutScale : Addr}
    {C_Scale : Addr}
    {C_ListedScale : Addr}
    {C_NameMissing : Addr}
    {C_UsescaleError : Addr}
    {C_UnknownGrade : Addr}
    {f_ei_UnknownGrade_init : Addr} {oc_ei_UnknownGrade_init kV_ei_UnknownGrade_init dc_ei_UnknownGrade_init pm_ei_UnknownGrade_init cd_ei_UnknownGrade_init ct_ei_UnknownGrade_init : Value} {od_ei_UnknownGrade_init an_ei_UnknownGrade_init : Option Addr} {sl_ei_UnknownGrade_init : Array (Option Value)}
    {f_item_of_run : Addr} {oc_item_of_run kV_item_of_run dc_item_of_run pm_item_of_run cd_item_of_run ct_item_of_run : Value} {od_item_of_run an_item_of_run : Option Addr} {sl_item_of_run : Array (Option Value)}
    {f__law_draws : Addr} {oc__law_draws kV__law_draws dc__law_draws pm__law_draws cd__law_draws ct__law_draws : Value} {od__law_draws an__law_draws : Option Addr} {sl__law_draws : Array (Option Value)}
    {f__law_draw : Addr} {oc__law_draw kV__law_draw dc__law_draw pm__law_draw cd__law_draw ct__law_draw : Value} {od__law_draw an__law_draw : Option Addr} {sl__law_draw : Array (Option Value)}
    {f__law_same : Addr} {oc__law_same kV__law_same dc__law_same pm__law_same cd__law_same ct__law_same : Value} {od__law_same an__law_same : Option Addr} {sl__law_same : Array (Option Value)}
    {f__law_reduced : Addr} {oc__law_reduced kV__law_reduced dc__law_reduced pm__law_reduced cd__law_reduced ct__law_reduced : Value} {od__law_reduced an__law_reduced : Option Addr} {sl__law_reduced : Array (Option Value)}
    {f__law_cut : Addr} {oc__law_cut kV__law_cut dc__law_cut pm__law_cut cd__law_cut ct__law_cut : Value} {od__law_cut an__law_cut : Option Addr} {sl__law_cut : Array (Option Value)}
    {f__law_unknown : Addr} {oc__law_unknown kV__law_unknown dc__law_unknown pm__law_unknown cd__law_unknown ct__law_unknown : Value} {od__law_unknown an__law_unknown : Option Addr} {sl__law_unknown : Array (Option Value)}
    {f_law : Addr} {oc_law kV_law dc_law pm_law cd_law ct_law : Value} {od_law an_law : Option Addr} {sl_law : Array (Option Value)}
    {f_CutScale___init__ D_CutScale___init__ : Addr} {oc_CutScale___init__ dc_CutScale___init__ pm_CutScale___init__ cd_CutScale___init__ ct_CutScale___init__ : Value} {od_CutScale___init__ an_CutScale___init__ : Option Addr} {sl_CutScale___init__ : Array (Option Value)}
    {tk_CutScale___init___period : Tok}
    {tk_CutScale___init___order : Tok}
    {f_CutScale_brought_back : Addr} {oc_CutScale_brought_back kV_CutScale_brought_back dc_CutScale_brought_back pm_CutScale_brought_back cd_CutScale_brought_back ct_CutScale_brought_back : Value} {od_CutScale_brought_back an_CutScale_brought_back : Option Addr} {sl_CutScale_brought_back : Array (Option Value)}
    {f_CutScale_sum_at : Addr} {oc_CutScale_sum_at kV_CutScale_sum_at dc_CutScale_sum_at pm_CutScale_sum_at cd_CutScale_sum_at ct_CutScale_sum_at : Value} {od_CutScale_sum_at an_CutScale_sum_at : Option Addr} {sl_CutScale_sum_at : Array (Option Value)}
    {f_CutScale_product_at : Addr} {oc_CutScale_product_at kV_CutScale_product_at dc_CutScale_product_at pm_CutScale_product_at cd_CutScale_product_at ct_CutScale_product_at : Value} {od_CutScale_product_at an_CutScale_product_at : Option Addr} {sl_CutScale_product_at : Array (Option Value)}
    {f_CutScale_places : Addr} {oc_CutScale_places kV_CutScale_places dc_CutScale_places pm_CutScale_places cd_CutScale_places ct_CutScale_places : Value} {od_CutScale_places an_CutScale_places : Option Addr} {sl_CutScale_places : Array (Option Value)}
    {f_CutScale_at_name : Addr} {oc_CutScale_at_name kV_CutScale_at_name dc_CutScale_at_name pm_CutScale_at_name cd_CutScale_at_name ct_CutScale_at_name : Value} {od_CutScale_at_name an_CutScale_at_name : Option Addr} {sl_CutScale_at_name : Array (Option Value)}
    {f_CutScale_find_at : Addr} {oc_CutScale_find_at kV_CutScale_find_at dc_CutScale_find_at pm_CutScale_find_at cd_CutScale_find_at ct_CutScale_find_at : Value} {od_CutScale_find_at an_CutScale_find_at : Option Addr} {sl_CutScale_find_at : Array (Option Value)}
    {f_CutScale_name_at : Addr} {oc_CutScale_name_at kV_CutScale_name_at dc_CutScale_name_at pm_CutScale_name_at cd_CutScale_name_at ct_CutScale_name_at : Value} {od_CutScale_name_at an_CutScale_name_at : Option Addr} {sl_CutScale_name_at : Array (Option Value)}
    {f_cf_Scale___init__ : Addr} {oc_cf_Scale___init__ kV_cf_Scale___init__ dc_cf_Scale___init__ pm_cf_Scale___init__ cd_cf_Scale___init__ ct_cf_Scale___init__ : Value} {od_cf_Scale___init__ an_cf_Scale___init__ : Option Addr} {sl_cf_Scale___init__ : Array (Option Value)}
    {f_cf_ListedScale___init__ : Addr} {oc_cf_ListedScale___init__ kV_cf_ListedScale___init__ dc_cf_ListedScale___init__ pm_cf_ListedScale___init__ cd_cf_ListedScale___init__ ct_cf_ListedScale___init__ : Value} {od_cf_ListedScale___init__ an_cf_ListedScale___init__ : Option Addr} {sl_cf_ListedScale___init__ : Array (Option Value)}
    {t_MOST_DEPTH : Tok}
    {t_MOST_GRADES : Tok}
    {aO : Addr}
    {dO : Option Addr} {nO : Nat} {t1 t2 t3 : Tok} {slO : Array (Option Value)}
    (aC_CutScale : PySem.W.nsIn K mainGlobals "CutScale" = some (some (.ref C_CutScale)))
    (pg_CutScale : PySem.W.plainGet K C_CutScale Str.empty = true)
    (hd_CutScale : PySem.W.hasDictIn K C_CutScale = true)
    (po_CutScale : PySem.W.plainOver K C_CutScale = true)
    (sa_CutScale : PySem.W.findIn K (.ref C_CutScale) "__setattr__" = some (some (.builtin "object.__setattr__")))
    (mk_CutScale : PySem.W.makesIn K C_CutScale = true)
    (kc_CutScale : PySem.W.keepIn K (.ref C_CutScale) = true)
    (aC_Scale : PySem.W.nsIn K mainGlobals "Scale" = some (some (.ref C_Scale)))
    (aC_ListedScale : PySem.W.nsIn K mainGlobals "ListedScale" = some (some (.ref C_ListedScale)))
    (aC_NameMissing : PySem.W.nsIn K mainGlobals "NameMissing" = some (some (.ref C_NameMissing)))
    (aC_UsescaleError : PySem.W.nsIn K mainGlobals "UsescaleError" = some (some (.ref C_UsescaleError)))
    (x_cg : PySem.W.specialIn K (.builtin "object.__class__") "__get__" = some (some (.builtin "getset_descriptor.__get__")))
    (x_ct : PySem.W.takesIn K (.builtin "object.__class__") = some true)
    (aC_UnknownGrade : PySem.W.nsIn K mainGlobals "UnknownGrade" = some (some (.ref C_UnknownGrade)))
    (xi_UnknownGrade : PySem.W.excInitIn K C_UnknownGrade [.type "LookupError", .type "Exception", .type "BaseException", .type "object"] "LookupError.__new__" = true)
    (xo_UnknownGrade : PySem.W.excOver K C_UnknownGrade [.type "LookupError", .type "Exception", .type "BaseException", .type "object"] = true)
    (xh_UnknownGrade : PySem.W.hasDictIn K C_UnknownGrade = true)
    (xs_UnknownGrade : PySem.W.findIn K (.ref C_UnknownGrade) "__setattr__" = some (some (.builtin "object.__setattr__")))
    (xe_UnknownGrade : PySem.W.subIn K (.ref C_UnknownGrade) (.type "BaseException") = some true)
    (xt_UnknownGrade : PySem.W.typeIn K (.ref C_UnknownGrade) = some (.type "type"))
    (xk_UnknownGrade : PySem.W.keepIn K (.ref C_UnknownGrade) = true)
    (xga_UnknownGrade : PySem.W.findIn K (.ref C_UnknownGrade) "__getattribute__" = some (some (.builtin "BaseException.__getattribute__")))
    (xgg_UnknownGrade : PySem.W.findIn K (.ref C_UnknownGrade) "__getattr__" = some none)
    (xca_UnknownGrade : PySem.W.findIn K (.ref C_UnknownGrade) "__class__" = some (some (.builtin "object.__class__")))
    (xmo_UnknownGrade : PySem.W.mroIn K C_UnknownGrade (.type "object") = some true)
    (a_ei_UnknownGrade_init : PySem.W.findIn K (.ref C_UnknownGrade) "__init__" = some (some (.ref f_ei_UnknownGrade_init)))
    (l_ei_UnknownGrade_init : K.lookup f_ei_UnknownGrade_init = some ⟨oc_ei_UnknownGrade_init, od_ei_UnknownGrade_init, .func (PySem.W.fnOf "__init__" "UnknownGrade.__init__" (defArgs (inClass (top 8) 0)) (defBody (inClass (top 8) 0)) (defScope (inClass (top 8) 0)) .none kV_ei_UnknownGrade_init dc_ei_UnknownGrade_init pm_ei_UnknownGrade_init an_ei_UnknownGrade_init cd_ei_UnknownGrade_init ct_ei_UnknownGrade_init), sl_ei_UnknownGrade_init⟩)
    (c_ei_UnknownGrade_init : PySem.W.codeIn K cd_ei_UnknownGrade_init "UnknownGrade.__init__" = true)
    (k_ei_UnknownGrade_init : PySem.W.keepIn K (.ref f_ei_UnknownGrade_init) = true)
    (ty_ei_UnknownGrade_init : PySem.W.typeIn K (.ref f_ei_UnknownGrade_init) = some (.type "function"))
    (rd_bi_NameMissing : PySem.W.readsIn K C_NameMissing (.type "type") = true)
    (ga_bi_NameMissing : PySem.W.specialIn K (.ref C_NameMissing) "__getattribute__" = some (some (.builtin "type.__getattribute__")))
    (a_bi_NameMissing : PySem.W.findCls K (.ref C_NameMissing) (.type "type") "__init__" = some (.val (.builtin "LookupError.__init__")))
    (a_item_of_run : PySem.W.nsIn K mainGlobals "item_of_run" = some (some (.ref f_item_of_run)))
    (l_item_of_run : K.lookup f_item_of_run = some ⟨oc_item_of_run, od_item_of_run, .func (PySem.W.fnOf "item_of_run" "item_of_run" (defArgs (top 2)) (defBody (top 2)) (defScope (top 2)) .none kV_item_of_run dc_item_of_run pm_item_of_run an_item_of_run cd_item_of_run ct_item_of_run), sl_item_of_run⟩)
    (c_item_of_run : PySem.W.codeIn K cd_item_of_run "item_of_run" = true)
    (k_item_of_run : PySem.W.keepIn K (.ref f_item_of_run) = true)
    (a__law_draws : PySem.W.nsIn K mainGlobals "_law_draws" = some (some (.ref f__law_draws)))
    (l__law_draws : K.lookup f__law_draws = some ⟨oc__law_draws, od__law_draws, .func (PySem.W.fnOf "_law_draws" "_law_draws" (defArgs (top 18)) (defBody (top 18)) (defScope (top 18)) .none kV__law_draws dc__law_draws pm__law_draws an__law_draws cd__law_draws ct__law_draws), sl__law_draws⟩)
    (c__law_draws : PySem.W.codeIn K cd__law_draws "_law_draws" = true)
    (k__law_draws : PySem.W.keepIn K (.ref f__law_draws) = true)
    (a__law_draw : PySem.W.nsIn K mainGlobals "_law_draw" = some (some (.ref f__law_draw)))
    (l__law_draw : K.lookup f__law_draw = some ⟨oc__law_draw, od__law_draw, .func (PySem.W.fnOf "_law_draw" "_law_draw" (defArgs (top 19)) (defBody (top 19)) (defScope (top 19)) .none kV__law_draw dc__law_draw pm__law_draw an__law_draw cd__law_draw ct__law_draw), sl__law_draw⟩)
    (c__law_draw : PySem.W.codeIn K cd__law_draw "_law_draw" = true)
    (k__law_draw : PySem.W.keepIn K (.ref f__law_draw) = true)
    (a__law_same : PySem.W.nsIn K mainGlobals "_law_same" = some (some (.ref f__law_same)))
    (l__law_same : K.lookup f__law_same = some ⟨oc__law_same, od__law_same, .func (PySem.W.fnOf "_law_same" "_law_same" (defArgs (top 20)) (defBody (top 20)) (defScope (top 20)) .none kV__law_same dc__law_same pm__law_same an__law_same cd__law_same ct__law_same), sl__law_same⟩)
    (c__law_same : PySem.W.codeIn K cd__law_same "_law_same" = true)
    (k__law_same : PySem.W.keepIn K (.ref f__law_same) = true)
    (a__law_reduced : PySem.W.nsIn K mainGlobals "_law_reduced" = some (some (.ref f__law_reduced)))
    (l__law_reduced : K.lookup f__law_reduced = some ⟨oc__law_reduced, od__law_reduced, .func (PySem.W.fnOf "_law_reduced" "_law_reduced" (defArgs (top 22)) (defBody (top 22)) (defScope (top 22)) .none kV__law_reduced dc__law_reduced pm__law_reduced an__law_reduced cd__law_reduced ct__law_reduced), sl__law_reduced⟩)
    (c__law_reduced : PySem.W.codeIn K cd__law_reduced "_law_reduced" = true)
    (k__law_reduced : PySem.W.keepIn K (.ref f__law_reduced) = true)
    (a__law_cut : PySem.W.nsIn K mainGlobals "_law_cut" = some (some (.ref f__law_cut)))
    (l__law_cut : K.lookup f__law_cut = some ⟨oc__law_cut, od__law_cut, .func (PySem.W.fnOf "_law_cut" "_law_cut" (defArgs (top 21)) (defBody (top 21)) (defScope (top 21)) .none kV__law_cut dc__law_cut pm__law_cut an__law_cut cd__law_cut ct__law_cut), sl__law_cut⟩)
    (c__law_cut : PySem.W.codeIn K cd__law_cut "_law_cut" = true)
    (k__law_cut : PySem.W.keepIn K (.ref f__law_cut) = true)
    (a__law_unknown : PySem.W.nsIn K mainGlobals "_law_unknown" = some (some (.ref f__law_unknown)))
    (l__law_unknown : K.lookup f__law_unknown = some ⟨oc__law_unknown, od__law_unknown, .func (PySem.W.fnOf "_law_unknown" "_law_unknown" (defArgs (top 23)) (defBody (top 23)) (defScope (top 23)) .none kV__law_unknown dc__law_unknown pm__law_unknown an__law_unknown cd__law_unknown ct__law_unknown), sl__law_unknown⟩)
    (c__law_unknown : PySem.W.codeIn K cd__law_unknown "_law_unknown" = true)
    (k__law_unknown : PySem.W.keepIn K (.ref f__law_unknown) = true)
    (a_law : PySem.W.nsIn K mainGlobals "law" = some (some (.ref f_law)))
    (l_law : K.lookup f_law = some ⟨oc_law, od_law, .func (PySem.W.fnOf "law" "law" (defArgs (top 24)) (defBody (top 24)) (defScope (top 24)) .none kV_law dc_law pm_law an_law cd_law ct_law), sl_law⟩)
    (c_law : PySem.W.codeIn K cd_law "law" = true)
    (k_law : PySem.W.keepIn K (.ref f_law) = true)
    (a_CutScale___init__ : PySem.W.findIn K (.ref C_CutScale) "__init__" = some (some (.ref f_CutScale___init__)))
    (i_CutScale___init__ : PySem.W.isFn K (.ref f_CutScale___init__) = true)
    (l_CutScale___init__ : K.lookup f_CutScale___init__ = some ⟨oc_CutScale___init__, od_CutScale___init__, .func (PySem.W.fnOf "__init__" "CutScale.__init__" (defArgs (inClass (top 16) 0)) (defBody (inClass (top 16) 0)) (defScope (inClass (top 16) 0)) .none (.ref D_CutScale___init__) dc_CutScale___init__ pm_CutScale___init__ an_CutScale___init__ cd_CutScale___init__ ct_CutScale___init__), sl_CutScale___init__⟩)
    (c_CutScale___init__ : PySem.W.codeIn K cd_CutScale___init__ "CutScale.__init__" = true)
    (k_CutScale___init__ : PySem.W.keepIn K (.ref f_CutScale___init__) = true)
    (kw_CutScale___init___period : PySem.W.nsIn K D_CutScale___init__ "period" = some (some (.int 1 tk_CutScale___init___period)))
    (kw_CutScale___init___order : PySem.W.nsIn K D_CutScale___init__ "order" = some (some (.str "same" tk_CutScale___init___order)))
    (a_CutScale_brought_back : PySem.W.findIn K (.ref C_CutScale) "brought_back" = some (some (.ref f_CutScale_brought_back)))
    (i_CutScale_brought_back : PySem.W.isFn K (.ref f_CutScale_brought_back) = true)
    (l_CutScale_brought_back : K.lookup f_CutScale_brought_back = some ⟨oc_CutScale_brought_back, od_CutScale_brought_back, .func (PySem.W.fnOf "brought_back" "CutScale.brought_back" (defArgs (inClass (top 16) 1)) (defBody (inClass (top 16) 1)) (defScope (inClass (top 16) 1)) .none kV_CutScale_brought_back dc_CutScale_brought_back pm_CutScale_brought_back an_CutScale_brought_back cd_CutScale_brought_back ct_CutScale_brought_back), sl_CutScale_brought_back⟩)
    (c_CutScale_brought_back : PySem.W.codeIn K cd_CutScale_brought_back "CutScale.brought_back" = true)
    (k_CutScale_brought_back : PySem.W.keepIn K (.ref f_CutScale_brought_back) = true)
    (a_CutScale_sum_at : PySem.W.findIn K (.ref C_CutScale) "sum_at" = some (some (.ref f_CutScale_sum_at)))
    (i_CutScale_sum_at : PySem.W.isFn K (.ref f_CutScale_sum_at) = true)
    (l_CutScale_sum_at : K.lookup f_CutScale_sum_at = some ⟨oc_CutScale_sum_at, od_CutScale_sum_at, .func (PySem.W.fnOf "sum_at" "CutScale.sum_at" (defArgs (inClass (top 16) 2)) (defBody (inClass (top 16) 2)) (defScope (inClass (top 16) 2)) .none kV_CutScale_sum_at dc_CutScale_sum_at pm_CutScale_sum_at an_CutScale_sum_at cd_CutScale_sum_at ct_CutScale_sum_at), sl_CutScale_sum_at⟩)
    (c_CutScale_sum_at : PySem.W.codeIn K cd_CutScale_sum_at "CutScale.sum_at" = true)
    (k_CutScale_sum_at : PySem.W.keepIn K (.ref f_CutScale_sum_at) = true)
    (a_CutScale_product_at : PySem.W.findIn K (.ref C_CutScale) "product_at" = some (some (.ref f_CutScale_product_at)))
    (i_CutScale_product_at : PySem.W.isFn K (.ref f_CutScale_product_at) = true)
    (l_CutScale_product_at : K.lookup f_CutScale_product_at = some ⟨oc_CutScale_product_at, od_CutScale_product_at, .func (PySem.W.fnOf "product_at" "CutScale.product_at" (defArgs (inClass (top 16) 3)) (defBody (inClass (top 16) 3)) (defScope (inClass (top 16) 3)) .none kV_CutScale_product_at dc_CutScale_product_at pm_CutScale_product_at an_CutScale_product_at cd_CutScale_product_at ct_CutScale_product_at), sl_CutScale_product_at⟩)
    (c_CutScale_product_at : PySem.W.codeIn K cd_CutScale_product_at "CutScale.product_at" = true)
    (k_CutScale_product_at : PySem.W.keepIn K (.ref f_CutScale_product_at) = true)
    (a_CutScale_places : PySem.W.findIn K (.ref C_CutScale) "places" = some (some (.ref f_CutScale_places)))
    (i_CutScale_places : PySem.W.isFn K (.ref f_CutScale_places) = true)
    (l_CutScale_places : K.lookup f_CutScale_places = some ⟨oc_CutScale_places, od_CutScale_places, .func (PySem.W.fnOf "places" "Scale.places" (defArgs (inClass (top 12) 1)) (defBody (inClass (top 12) 1)) (defScope (inClass (top 12) 1)) .none kV_CutScale_places dc_CutScale_places pm_CutScale_places an_CutScale_places cd_CutScale_places ct_CutScale_places), sl_CutScale_places⟩)
    (c_CutScale_places : PySem.W.codeIn K cd_CutScale_places "Scale.places" = true)
    (k_CutScale_places : PySem.W.keepIn K (.ref f_CutScale_places) = true)
    (a_CutScale_at_name : PySem.W.findIn K (.ref C_CutScale) "at_name" = some (some (.ref f_CutScale_at_name)))
    (i_CutScale_at_name : PySem.W.isFn K (.ref f_CutScale_at_name) = true)
    (l_CutScale_at_name : K.lookup f_CutScale_at_name = some ⟨oc_CutScale_at_name, od_CutScale_at_name, .func (PySem.W.fnOf "at_name" "Scale.at_name" (defArgs (inClass (top 12) 9)) (defBody (inClass (top 12) 9)) (defScope (inClass (top 12) 9)) .none kV_CutScale_at_name dc_CutScale_at_name pm_CutScale_at_name an_CutScale_at_name cd_CutScale_at_name ct_CutScale_at_name), sl_CutScale_at_name⟩)
    (c_CutScale_at_name : PySem.W.codeIn K cd_CutScale_at_name "Scale.at_name" = true)
    (k_CutScale_at_name : PySem.W.keepIn K (.ref f_CutScale_at_name) = true)
    (a_CutScale_find_at : PySem.W.findIn K (.ref C_CutScale) "find_at" = some (some (.ref f_CutScale_find_at)))
    (i_CutScale_find_at : PySem.W.isFn K (.ref f_CutScale_find_at) = true)
    (l_CutScale_find_at : K.lookup f_CutScale_find_at = some ⟨oc_CutScale_find_at, od_CutScale_find_at, .func (PySem.W.fnOf "find_at" "ListedScale.find_at" (defArgs (inClass (top 13) 2)) (defBody (inClass (top 13) 2)) (defScope (inClass (top 13) 2)) .none kV_CutScale_find_at dc_CutScale_find_at pm_CutScale_find_at an_CutScale_find_at cd_CutScale_find_at ct_CutScale_find_at), sl_CutScale_find_at⟩)
    (c_CutScale_find_at : PySem.W.codeIn K cd_CutScale_find_at "ListedScale.find_at" = true)
    (k_CutScale_find_at : PySem.W.keepIn K (.ref f_CutScale_find_at) = true)
    (a_CutScale_name_at : PySem.W.findIn K (.ref C_CutScale) "name_at" = some (some (.ref f_CutScale_name_at)))
    (i_CutScale_name_at : PySem.W.isFn K (.ref f_CutScale_name_at) = true)
    (l_CutScale_name_at : K.lookup f_CutScale_name_at = some ⟨oc_CutScale_name_at, od_CutScale_name_at, .func (PySem.W.fnOf "name_at" "ListedScale.name_at" (defArgs (inClass (top 13) 1)) (defBody (inClass (top 13) 1)) (defScope (inClass (top 13) 1)) .none kV_CutScale_name_at dc_CutScale_name_at pm_CutScale_name_at an_CutScale_name_at cd_CutScale_name_at ct_CutScale_name_at), sl_CutScale_name_at⟩)
    (c_CutScale_name_at : PySem.W.codeIn K cd_CutScale_name_at "ListedScale.name_at" = true)
    (k_CutScale_name_at : PySem.W.keepIn K (.ref f_CutScale_name_at) = true)
    (a_cf_Scale___init__ : PySem.W.findCls K (.ref C_Scale) (.type "type") "__init__" = some (.val (.ref f_cf_Scale___init__)))
    (l_cf_Scale___init__ : K.lookup f_cf_Scale___init__ = some ⟨oc_cf_Scale___init__, od_cf_Scale___init__, .func (PySem.W.fnOf "__init__" "Scale.__init__" (defArgs (inClass (top 12) 0)) (defBody (inClass (top 12) 0)) (defScope (inClass (top 12) 0)) .none kV_cf_Scale___init__ dc_cf_Scale___init__ pm_cf_Scale___init__ an_cf_Scale___init__ cd_cf_Scale___init__ ct_cf_Scale___init__), sl_cf_Scale___init__⟩)
    (c_cf_Scale___init__ : PySem.W.codeIn K cd_cf_Scale___init__ "Scale.__init__" = true)
    (k_cf_Scale___init__ : PySem.W.keepIn K (.ref f_cf_Scale___init__) = true)
    (rd_cf_Scale___init__ : PySem.W.readsIn K C_Scale (.type "type") = true)
    (ga_cf_Scale___init__ : PySem.W.specialIn K (.ref C_Scale) "__getattribute__" = some (some (.builtin "type.__getattribute__")))
    (a_cf_ListedScale___init__ : PySem.W.findCls K (.ref C_ListedScale) (.type "type") "__init__" = some (.val (.ref f_cf_ListedScale___init__)))
    (l_cf_ListedScale___init__ : K.lookup f_cf_ListedScale___init__ = some ⟨oc_cf_ListedScale___init__, od_cf_ListedScale___init__, .func (PySem.W.fnOf "__init__" "ListedScale.__init__" (defArgs (inClass (top 13) 0)) (defBody (inClass (top 13) 0)) (defScope (inClass (top 13) 0)) .none kV_cf_ListedScale___init__ dc_cf_ListedScale___init__ pm_cf_ListedScale___init__ an_cf_ListedScale___init__ cd_cf_ListedScale___init__ ct_cf_ListedScale___init__), sl_cf_ListedScale___init__⟩)
    (c_cf_ListedScale___init__ : PySem.W.codeIn K cd_cf_ListedScale___init__ "ListedScale.__init__" = true)
    (k_cf_ListedScale___init__ : PySem.W.keepIn K (.ref f_cf_ListedScale___init__) = true)
    (rd_cf_ListedScale___init__ : PySem.W.readsIn K C_ListedScale (.type "type") = true)
    (ga_cf_ListedScale___init__ : PySem.W.specialIn K (.ref C_ListedScale) "__getattribute__" = some (some (.builtin "type.__getattribute__")))
    (n_CutScale_label : PySem.W.findIn K (.ref C_CutScale) "label" = some none)
    (n_CutScale_size : PySem.W.findIn K (.ref C_CutScale) "size" = some none)
    (n_CutScale_zero_at : PySem.W.findIn K (.ref C_CutScale) "zero_at" = some none)
    (n_CutScale_one_at : PySem.W.findIn K (.ref C_CutScale) "one_at" = some none)
    (n_CutScale_depth : PySem.W.findIn K (.ref C_CutScale) "depth" = some none)
    (n_CutScale__names : PySem.W.findIn K (.ref C_CutScale) "_names" = some none)
    (n_CutScale__found : PySem.W.findIn K (.ref C_CutScale) "_found" = some none)
    (n_CutScale__numbers : PySem.W.findIn K (.ref C_CutScale) "_numbers" = some none)
    (n_CutScale__start : PySem.W.findIn K (.ref C_CutScale) "_start" = some none)
    (n_CutScale__order : PySem.W.findIn K (.ref C_CutScale) "_order" = some none)
    (n_UnknownGrade_name : PySem.W.findIn K (.ref C_UnknownGrade) "name" = some none)
    (te : PySem.W.exmOne K (.ref C_UnknownGrade) (.ref C_UnknownGrade) = some true)
    (isN : PySem.W.kitOne K (.ref C_UnknownGrade) (.ref C_NameMissing) = some true)
    (isE : PySem.W.kitOne K (.ref C_UnknownGrade) (.ref C_UsescaleError) = some false)
    (isL : PySem.W.kitOne K (.ref C_UnknownGrade) (.type "LookupError") = some true)
    (isV : PySem.W.kitOne K (.ref C_UnknownGrade) (.type "ValueError") = some false)
    (z_int : PySem.W.nsIn K mainGlobals "int" = some none)
    (z_len : PySem.W.nsIn K mainGlobals "len" = some none)
    (z_range : PySem.W.nsIn K mainGlobals "range" = some none)
    (z_isinstance : PySem.W.nsIn K mainGlobals "isinstance" = some none)
    (z_bool : PySem.W.nsIn K mainGlobals "bool" = some none)
    (z_str : PySem.W.nsIn K mainGlobals "str" = some none)
    (z_tuple : PySem.W.nsIn K mainGlobals "tuple" = some none)
    (z_list : PySem.W.nsIn K mainGlobals "list" = some none)
    (z_LookupError : PySem.W.nsIn K mainGlobals "LookupError" = some none)
    (z_ValueError : PySem.W.nsIn K mainGlobals "ValueError" = some none)
    (g_MOST_DEPTH : PySem.W.nsIn K mainGlobals "MOST_DEPTH" = some (some (.int 20 t_MOST_DEPTH)))
    (g_MOST_GRADES : PySem.W.nsIn K mainGlobals "MOST_GRADES" = some (some (.int 64 t_MOST_GRADES)))
    (g_ORDERS : PySem.W.nsIn K mainGlobals "ORDERS" = some (some (.ref aO)))
    (l_ORDERS : K.lookup aO = some ⟨.type "tuple", dO, .seq #[.str "same" t1, .str "up" t2, .str "down" t3] nO, slO⟩)
    : ∃ fd : FuncData, (∀ (s : Shared) (v : Value), BindsTo s fd ⟨[v], []⟩ [("_law_script", v)]) ∧ ∀ base : Heap, K.In base → base.Ns mainGlobals mg → FnOk l.prog w K mg base (L2.CX l.prog w) 6 fa fd ["_law_script"] (spLaw K) := by
  have e := hfa.symm.trans (PySem.W.mg_of X G a_law)
  cases e
  have g_CutScale := PySem.W.mg_of X G aC_CutScale
  have cl_CutScale : Cls K C_CutScale := ⟨pg_CutScale, hd_CutScale, po_CutScale, sa_CutScale⟩
  have g_Scale := PySem.W.mg_of X G aC_Scale
  have g_ListedScale := PySem.W.mg_of X G aC_ListedScale
  have g_NameMissing := PySem.W.mg_of X G aC_NameMissing
  have g_UsescaleError := PySem.W.mg_of X G aC_UsescaleError
  have g_UnknownGrade := PySem.W.mg_of X G aC_UnknownGrade
  have ox_UnknownGrade : OexB K C_UnknownGrade "LookupError" "LookupError.__new__" "LookupError.__init__" [.type "LookupError", .type "Exception", .type "BaseException", .type "object"] := ⟨PySem.F.store_LookupError, PySem.F.excBase_LookupError, xi_UnknownGrade, xo_UnknownGrade, xh_UnknownGrade, xs_UnknownGrade, xe_UnknownGrade, xt_UnknownGrade, xk_UnknownGrade⟩
  have ei_UnknownGrade : ExcI K C_UnknownGrade := ⟨(by obtain ⟨cd, hc, _⟩ := PySem.W.any_some xh_UnknownGrade; rw [hc]; rfl), xga_UnknownGrade, xgg_UnknownGrade, xe_UnknownGrade, xca_UnknownGrade, x_cg, x_ct, xmo_UnknownGrade⟩
  have xf_UnknownGrade : XfC K C_UnknownGrade := ⟨xga_UnknownGrade, xgg_UnknownGrade, xe_UnknownGrade, xh_UnknownGrade⟩
  have F_ei_UnknownGrade_init := fun_mk (st := (inClass (top 8) 0)) l_ei_UnknownGrade_init c_ei_UnknownGrade_init k_ei_UnknownGrade_init
  have b_ei_UnknownGrade_init := F_ei_UnknownGrade_init.binds (ps := ["self", "name"]) fun _ _ _ _ _ _ us hl => match us, hl with | [_, _], _ => rfl
  have bi_NameMissing : BInit K mg "NameMissing" "LookupError.__init__" := ⟨_, g_NameMissing, rd_bi_NameMissing, ga_bi_NameMissing, a_bi_NameMissing, by decide +kernel⟩
  have F_item_of_run := fun_mk (st := (top 2)) l_item_of_run c_item_of_run k_item_of_run
  have g_item_of_run := PySem.W.mg_of X G a_item_of_run
  have b_item_of_run := F_item_of_run.binds (ps := ["trail", "back", "index"]) fun _ _ _ _ _ _ us hl => match us, hl with | [_, _, _], _ => rfl
  have F__law_draws := fun_mk (st := (top 18)) l__law_draws c__law_draws k__law_draws
  have g__law_draws := PySem.W.mg_of X G a__law_draws
  have b__law_draws := F__law_draws.binds (ps := ["_law_script"]) fun _ _ _ _ _ _ us hl => match us, hl with | [_], _ => rfl
  have F__law_draw := fun_mk (st := (top 19)) l__law_draw c__law_draw k__law_draw
  have g__law_draw := PySem.W.mg_of X G a__law_draw
  have b__law_draw := F__law_draw.binds (ps := ["_law_state", "_law_many"]) fun _ _ _ _ _ _ us hl => match us, hl with | [_, _], _ => rfl
  have F__law_same := fun_mk (st := (top 20)) l__law_same c__law_same k__law_same
  have g__law_same := PySem.W.mg_of X G a__law_same
  have b__law_same := F__law_same.binds (ps := ["_law_found", "_law_due"]) fun _ _ _ _ _ _ us hl => match us, hl with | [_, _], _ => rfl
  have F__law_reduced := fun_mk (st := (top 22)) l__law_reduced c__law_reduced k__law_reduced
  have g__law_reduced := PySem.W.mg_of X G a__law_reduced
  have b__law_reduced := F__law_reduced.binds (ps := ["_law_start", "_law_length", "_law_number"]) fun _ _ _ _ _ _ us hl => match us, hl with | [_, _, _], _ => rfl
  have F__law_cut := fun_mk (st := (top 21)) l__law_cut c__law_cut k__law_cut
  have g__law_cut := PySem.W.mg_of X G a__law_cut
  have b__law_cut := F__law_cut.binds (ps := ["_law_start", "_law_length", "_law_sort", "_law_short"]) fun _ _ _ _ _ _ us hl => match us, hl with | [_, _, _, _], _ => rfl
  have F__law_unknown := fun_mk (st := (top 23)) l__law_unknown c__law_unknown k__law_unknown
  have g__law_unknown := PySem.W.mg_of X G a__law_unknown
  have b__law_unknown := F__law_unknown.binds (ps := ["_law_scale", "_law_word"]) fun _ _ _ _ _ _ us hl => match us, hl with | [_, _], _ => rfl
  have F_law := fun_mk (st := (top 24)) l_law c_law k_law
  have g_law := PySem.W.mg_of X G a_law
  have F_CutScale___init__ := fun_mk (st := (inClass (top 16) 0)) l_CutScale___init__ c_CutScale___init__ k_CutScale___init__
  have FD_CutScale___init__ : FunD K "__init__" "CutScale.__init__" (defArgs (inClass (top 16) 0)) (defBody (inClass (top 16) 0)) (defScope (inClass (top 16) 0)) [] [("period", .int 1), ("order", .str "same")] f_CutScale___init__ _ := ⟨⟨_, _, _, _, _, _, _, _, _, _, rfl, l_CutScale___init__, c_CutScale___init__, .inl ⟨rfl, rfl⟩, .inr ⟨_, rfl, (List.forall_mem_cons.mpr ⟨⟨_, kw_CutScale___init___period, ⟨_, rfl⟩⟩, (List.forall_mem_cons.mpr ⟨⟨_, kw_CutScale___init___order, ⟨_, rfl⟩⟩, List.forall_mem_nil _⟩)⟩)⟩⟩, k_CutScale___init__⟩
  have me_CutScale___init__ : Meth K C_CutScale "__init__" f_CutScale___init__ := ⟨a_CutScale___init__, i_CutScale___init__, k_CutScale___init__⟩
  have F_CutScale_brought_back := fun_mk (st := (inClass (top 16) 1)) l_CutScale_brought_back c_CutScale_brought_back k_CutScale_brought_back
  have me_CutScale_brought_back : Meth K C_CutScale "brought_back" f_CutScale_brought_back := ⟨a_CutScale_brought_back, i_CutScale_brought_back, k_CutScale_brought_back⟩
  have b_CutScale_brought_back := F_CutScale_brought_back.binds (ps := ["self", "number"]) fun _ _ _ _ _ _ us hl => match us, hl with | [_, _], _ => rfl
  have F_CutScale_sum_at := fun_mk (st := (inClass (top 16) 2)) l_CutScale_sum_at c_CutScale_sum_at k_CutScale_sum_at
  have me_CutScale_sum_at : Meth K C_CutScale "sum_at" f_CutScale_sum_at := ⟨a_CutScale_sum_at, i_CutScale_sum_at, k_CutScale_sum_at⟩
  have b_CutScale_sum_at := F_CutScale_sum_at.binds (ps := ["self", "first", "second"]) fun _ _ _ _ _ _ us hl => match us, hl with | [_, _, _], _ => rfl
  have F_CutScale_product_at := fun_mk (st := (inClass (top 16) 3)) l_CutScale_product_at c_CutScale_product_at k_CutScale_product_at
  have me_CutScale_product_at : Meth K C_CutScale "product_at" f_CutScale_product_at := ⟨a_CutScale_product_at, i_CutScale_product_at, k_CutScale_product_at⟩
  have b_CutScale_product_at := F_CutScale_product_at.binds (ps := ["self", "first", "second"]) fun _ _ _ _ _ _ us hl => match us, hl with | [_, _, _], _ => rfl
  have F_CutScale_places := fun_mk (st := (inClass (top 12) 1)) l_CutScale_places c_CutScale_places k_CutScale_places
  have me_CutScale_places : Meth K C_CutScale "places" f_CutScale_places := ⟨a_CutScale_places, i_CutScale_places, k_CutScale_places⟩
  have b_CutScale_places := F_CutScale_places.binds (ps := ["self"]) fun _ _ _ _ _ _ us hl => match us, hl with | [_], _ => rfl
  have F_CutScale_at_name := fun_mk (st := (inClass (top 12) 9)) l_CutScale_at_name c_CutScale_at_name k_CutScale_at_name
  have me_CutScale_at_name : Meth K C_CutScale "at_name" f_CutScale_at_name := ⟨a_CutScale_at_name, i_CutScale_at_name, k_CutScale_at_name⟩
  have b_CutScale_at_name := F_CutScale_at_name.binds (ps := ["self", "name"]) fun _ _ _ _ _ _ us hl => match us, hl with | [_, _], _ => rfl
  have F_CutScale_find_at := fun_mk (st := (inClass (top 13) 2)) l_CutScale_find_at c_CutScale_find_at k_CutScale_find_at
  have me_CutScale_find_at : Meth K C_CutScale "find_at" f_CutScale_find_at := ⟨a_CutScale_find_at, i_CutScale_find_at, k_CutScale_find_at⟩
  have b_CutScale_find_at := F_CutScale_find_at.binds (ps := ["self", "name"]) fun _ _ _ _ _ _ us hl => match us, hl with | [_, _], _ => rfl
  have F_CutScale_name_at := fun_mk (st := (inClass (top 13) 1)) l_CutScale_name_at c_CutScale_name_at k_CutScale_name_at
  have me_CutScale_name_at : Meth K C_CutScale "name_at" f_CutScale_name_at := ⟨a_CutScale_name_at, i_CutScale_name_at, k_CutScale_name_at⟩
  have b_CutScale_name_at := F_CutScale_name_at.binds (ps := ["self", "place"]) fun _ _ _ _ _ _ us hl => match us, hl with | [_, _], _ => rfl
  have F_cf_Scale___init__ := fun_mk (st := (inClass (top 12) 0)) l_cf_Scale___init__ c_cf_Scale___init__ k_cf_Scale___init__
  have cfn_cf_Scale___init__ : CFn K C_Scale (.type "type") "__init__" f_cf_Scale___init__ := ⟨rd_cf_Scale___init__, ga_cf_Scale___init__, a_cf_Scale___init__, k_cf_Scale___init__⟩
  have b_cf_Scale___init__ := F_cf_Scale___init__.binds (ps := ["self", "label", "size", "zero_at", "one_at", "depth"]) fun _ _ _ _ _ _ us hl => match us, hl with | [_, _, _, _, _, _], _ => rfl
  have F_cf_ListedScale___init__ := fun_mk (st := (inClass (top 13) 0)) l_cf_ListedScale___init__ c_cf_ListedScale___init__ k_cf_ListedScale___init__
  have cfn_cf_ListedScale___init__ : CFn K C_ListedScale (.type "type") "__init__" f_cf_ListedScale___init__ := ⟨rd_cf_ListedScale___init__, ga_cf_ListedScale___init__, a_cf_ListedScale___init__, k_cf_ListedScale___init__⟩
  have b_cf_ListedScale___init__ := F_cf_ListedScale___init__.binds (ps := ["self", "label", "names", "zero_at", "one_at"]) fun _ _ _ _ _ _ us hl => match us, hl with | [_, _, _, _, _], _ => rfl
  have zn_int := PySem.W.mg_none_of X G z_int
  have zn_len := PySem.W.mg_none_of X G z_len
  have zn_range := PySem.W.mg_none_of X G z_range
  have zn_isinstance := PySem.W.mg_none_of X G z_isinstance
  have zn_bool := PySem.W.mg_none_of X G z_bool
  have zn_str := PySem.W.mg_none_of X G z_str
  have zn_tuple := PySem.W.mg_none_of X G z_tuple
  have zn_list := PySem.W.mg_none_of X G z_list
  have zn_LookupError := PySem.W.mg_none_of X G z_LookupError
  have zn_ValueError := PySem.W.mg_none_of X G z_ValueError
  have gi_MOST_DEPTH : ∃ u, mg "MOST_DEPTH" = some u ∧ RelV (.int 20) u := ⟨_, PySem.W.mg_of X G g_MOST_DEPTH, ⟨_, rfl⟩⟩
  have gi_MOST_GRADES : ∃ u, mg "MOST_GRADES" = some u ∧ RelV (.int 64) u := ⟨_, PySem.W.mg_of X G g_MOST_GRADES, ⟨_, rfl⟩⟩
  have go_ORDERS := PySem.W.mg_of X G g_ORDERS
  refine ⟨PySem.W.fnOf "law" "law" (defArgs (top 24)) (defBody (top 24)) (defScope (top 24)) .none kV_law dc_law pm_law an_law cd_law ct_law, fun s v => .of_eq rfl, fun base _ _ => ?_⟩
  have TL : TxL K mg := ⟨zn_int, zn_len, zn_range, zn_isinstance, zn_bool, zn_str, zn_tuple, zn_list⟩
  have TC : TxC K mg := ⟨TL, gi_MOST_DEPTH, gi_MOST_GRADES⟩
  have TF : TxF K mg aO := ⟨TC, ⟨_, go_ORDERS, rfl⟩, fun H => .inr ⟨_, _, _, l_ORDERS, rfl, rfl, (by show 3 ≤ sizeLine; decide), .cons ⟨_, rfl⟩ (.cons ⟨_, rfl⟩ (.cons ⟨_, rfl⟩ .nil))⟩⟩
  have TU : TxU K mg C_UnknownGrade C_NameMissing C_UsescaleError := ⟨TL, g_UnknownGrade, ⟨_, g_NameMissing, rfl⟩, ⟨_, g_UsescaleError, rfl⟩, zn_LookupError, zn_ValueError, te, xf_UnknownGrade, n_UnknownGrade_name, ei_UnknownGrade, isN, isE, isL, isV⟩
  have CC : CCls K C_CutScale := ⟨⟨⟨cl_CutScale, n_CutScale_label, n_CutScale_size, n_CutScale_zero_at, n_CutScale_one_at, n_CutScale_depth⟩, n_CutScale__names, n_CutScale__found⟩, n_CutScale__numbers, n_CutScale__start, n_CutScale__order⟩
  have cal_item : Cal l.prog w K mg base CX0 1 "item_of_run" (spItem K) := ⟨_, _, _, ok_item F_item_of_run TC, g_item_of_run, k_item_of_run, b_item_of_run⟩
  have cf_scale : CFB l.prog w K mg base CX0 1 "Scale" "__init__" (spScaleInit K) := ⟨_, _, _, _, _, g_Scale, cfn_cf_Scale___init__, ok_scale_init F_cf_Scale___init__ TC, b_cf_Scale___init__⟩
  have cf_listed : CFB l.prog w K mg base CX0 2 "ListedScale" "__init__" (spListedInit K) := ⟨_, _, _, _, _, g_ListedScale, cfn_cf_ListedScale___init__, ok_listed_init F_cf_ListedScale___init__ TC cf_scale, b_cf_ListedScale___init__⟩
  have m_back : Met l.prog w K mg base CX0 2 C_CutScale "brought_back" (spBack K C_CutScale) := ⟨_, _, _, cl_CutScale, me_CutScale_brought_back, ok_back F_CutScale_brought_back TC CC cal_item, b_CutScale_brought_back⟩
  have Fi := ok_cut_init F_CutScale___init__ TF CC cf_listed m_back (P := l.prog) (w := w) (base := base)
  have M : Mk K C_CutScale f_CutScale___init__ := ⟨mk_CutScale, a_CutScale___init__, i_CutScale___init__, kc_CutScale⟩
  have mkOP : MakK l.prog w K mg base CX0 3 "CutScale" C_CutScale (spCutInit C_CutScale) 1 ["order", "period"] (fun vs zs => vs ++ swap2 zs) :=
    ⟨_, _, _, fun us ws => us ++ swap2 ws, M, Fi, g_CutScale,
      ⟨fun s us ws _ l1 l2 => match us, l1, ws, l2 with | [_, _], _, [_, _], _ => .of_eq rfl, fun r1 r2 => r1.append (by cases r2 with | nil => exact .nil | cons a b => cases b with | nil => exact .cons a .nil | cons c d => cases d with | nil => exact .cons c (.cons a .nil) | cons e f => exact .cons a (.cons c (.cons e f)))⟩⟩
  have mkO : MakK l.prog w K mg base CX0 3 "CutScale" C_CutScale (spCutInit C_CutScale) 1 ["order"] (fun vs zs => vs ++ [.int 1] ++ zs) := by
    obtain ⟨mv, hb⟩ := FD_CutScale___init__.kbinds0 (ps := ["self", "start", "period", "order"]) 2 ["order"] [("period", .int 1)] (fun us mv ws => us ++ mv ++ ws) (by simp) (by simp) (fun a b c => (a.append b).append c)
      (fun D doc pm an cdv ct us mv ws l1 l2 l3 => match us, l1, mv, l2, ws, l3 with | [_, _], _, [_], _, [_], _ => ⟨_, _, _, _, _, _, rfl, rfl, rfl⟩)
    exact ⟨_, _, _, _, M, Fi, g_CutScale, hb⟩
  have mkP : MakK l.prog w K mg base CX0 3 "CutScale" C_CutScale (spCutInit C_CutScale) 1 ["period"] (fun vs zs => vs ++ zs ++ [.str "same"]) := by
    obtain ⟨mv, hb⟩ := FD_CutScale___init__.kbinds0 (ps := ["self", "start", "period", "order"]) 2 ["period"] [("order", .str "same")] (fun us mv ws => us ++ ws ++ mv) (by simp) (by simp) (fun a b c => (a.append c).append b)
      (fun D doc pm an cdv ct us mv ws l1 l2 l3 => match us, l1, mv, l2, ws, l3 with | [_, _], _, [_], _, [_], _ => ⟨_, _, _, _, _, _, rfl, rfl, rfl⟩)
    exact ⟨_, _, _, _, M, Fi, g_CutScale, hb⟩
  have mkD : MakD l.prog w K mg base CX0 3 "CutScale" C_CutScale (spCutInit C_CutScale) [.int 1, .str "same"] := by
    obtain ⟨ds, hd, hb⟩ := FD_CutScale___init__.binds0 (ps := ["self", "start", "period", "order"]) 2 (by simp) rfl
      (fun D doc pm an cdv ct us ks l1 l2 => match us, l1, ks, l2 with | [_, _], _, [_, _], _ => ⟨_, _, _, _, _, _, rfl, rfl, ⟨_, _, _, _, _, _, rfl, rfl, rfl⟩⟩)
    exact ⟨_, _, _, _, M, Fi, g_CutScale, hb, hd⟩
  have m_places : Met l.prog w K mg base CX0 1 C_CutScale "places" (spPlaces C_CutScale) := ⟨_, _, _, cl_CutScale, me_CutScale_places, ok_places F_CutScale_places TC CC.toSCls, b_CutScale_places⟩
  have m_sum : Met l.prog w K mg base CX0 3 C_CutScale "sum_at" (spBin C_CutScale fun a b => a + b) := ⟨_, _, _, cl_CutScale, me_CutScale_sum_at, ok_cut_sum F_CutScale_sum_at m_back, b_CutScale_sum_at⟩
  have m_product : Met l.prog w K mg base CX0 3 C_CutScale "product_at" (spBin C_CutScale fun a b => a * b) := ⟨_, _, _, cl_CutScale, me_CutScale_product_at, ok_cut_product F_CutScale_product_at m_back, b_CutScale_product_at⟩
  have m_name : Met l.prog w K mg base CX0 1 C_CutScale "name_at" (spNameAt C_CutScale) := ⟨_, _, _, cl_CutScale, me_CutScale_name_at, ok_name_at F_CutScale_name_at CC.toLCls, b_CutScale_name_at⟩
  have m_find : Met l.prog w K mg base CX0 1 C_CutScale "find_at" (spFindAt C_CutScale) := ⟨_, _, _, cl_CutScale, me_CutScale_find_at, ok_find_at F_CutScale_find_at CC.toLCls, b_CutScale_find_at⟩
  have xm : ExM l.prog w K mg base 1 "UnknownGrade" C_UnknownGrade (spUgInit K C_UnknownGrade) := ⟨_, _, _, _, _, _, _, ox_UnknownGrade, g_UnknownGrade, a_ei_UnknownGrade_init, ty_ei_UnknownGrade_init, ok_ug_init F_ei_UnknownGrade_init ox_UnknownGrade n_UnknownGrade_name bi_NameMissing, b_ei_UnknownGrade_init⟩
  have m_at_name : Met l.prog w K mg base (L2.CX l.prog w) 3 C_CutScale "at_name" (spAtName C_CutScale C_UnknownGrade) := ⟨_, _, _, cl_CutScale, me_CutScale_at_name, ok_at_name F_CutScale_at_name m_find xm, b_CutScale_at_name⟩
  have cal_draws : Cal l.prog w K mg base CX0 1 "_law_draws" (spDraws K) := ⟨_, _, _, ok_draws F__law_draws TL, g__law_draws, k__law_draws, b__law_draws⟩
  have cal_draw : Cal l.prog w K mg base CX0 1 "_law_draw" spDraw := ⟨_, _, _, ok_draw F__law_draw TL, g__law_draw, k__law_draw, b__law_draw⟩
  have cal_same : Cal l.prog w K mg base CX0 2 "_law_same" (spSame 1) := ⟨_, _, _, ok_same F__law_same TL g__law_same b__law_same 1, g__law_same, k__law_same, b__law_same⟩
  have cal_red : Cal l.prog w K mg base CX0 1 "_law_reduced" spLReduced := ⟨_, _, _, ok_lreduced F__law_reduced TL, g__law_reduced, k__law_reduced, b__law_reduced⟩
  have cal_cut : Cal l.prog w K mg base CX0 5 "_law_cut" (spLCut C_CutScale) := ⟨_, _, _, ok_lcut F__law_cut mkD mkO mkP mkOP, g__law_cut, k__law_cut, b__law_cut⟩
  have cal_unk : Cal l.prog w K mg base (L2.CX l.prog w) 4 "_law_unknown" (spLUnknown C_CutScale C_UnknownGrade) := ⟨_, _, _, ok_lunknown F__law_unknown TU m_at_name cal_same, g__law_unknown, k__law_unknown, b__law_unknown⟩
  exact ok_law F_law TL CC cal_draws cal_draw cal_cut cal_red cal_same m_places m_sum m_product m_name m_at_name cal_unk
theorem walk {l : PySem.W.OpenLaw} {q : Program} {loose : List Str} {XP : (Str → Option Value) → Heap → Prop} {YP : World → Heap → Prop} {d : DefRec} {K : Params → PySem.W.Frag} (hn : l.most = some 63) (hdf : d.params.defaults = [])
    (hY : ∀ (w : World) (h : Heap), YP w h → (K w.params).In h)
    (F : ∀ (w : World) (mg : Str → Option Value) (fa : Addr) (h : Heap), (K w.params).In h → h.Ns mainGlobals mg → mg d.name = some (.ref fa) →
      ∃ fd : FuncData, (∀ (s : Shared) (u : Value), BindsTo s fd ⟨[u], []⟩ [("_law_script", u)]) ∧ ∀ base : Heap, (K w.params).In base → base.Ns mainGlobals mg → FnOk l.prog w (K w.params) mg base (L2.CX l.prog w) 6 fa fd ["_law_script"] (spLaw (K w.params))) :
    PySem.W.WalkO q loose XP YP l.row.toRowW d [] (fun f vs => PySem.call f vs) :=
  L2.walk_of (n := 63) (k := 6) (x := "_law_script") (CX := fun w => (L2.CX l.prog w)) (sp := fun w => spLaw (K w.params)) hn (by decide) hdf ⟨rfl, by decide, by decide⟩ hY F (fun _ _ a ns hl _ hS => ⟨a, ns, rfl, hS, hl, fun _ => rfl⟩) fun _ _ _ _ _ z => UX.cxF z
end Q
open PySem PySem.W PyProof.Rows
set_option maxRecDepth 100000 in
set_option maxHeartbeats 0 in
theorem PySem.Challenge.cw_usescale_k01_cut_numbers_holds : PySem.Challenge.rw_usescale_k01_cut_numbers.Holds := by
  w_on; o_law; k_head; (case hw => w_witness2)
  k_fill
  refine Q.walk (l := PySem.Challenge.rw_usescale_k01_cut_numbers) rfl rfl (fun w h Y => PySem.W.kIn_of Y) ?F
  case F =>
    intro w mg fa h KX G hmg
    refine' Q.all_mk KX G hmg ?aC_CutScale ?pg_CutScale ?hd_CutScale ?po_CutScale ?sa_CutScale ?mk_CutScale ?kc_CutScale ?aC_Scale ?aC_ListedScale ?aC_NameMissing ?aC_UsescaleError ?x_cg ?x_ct ?aC_UnknownGrade ?xi_UnknownGrade ?xo_UnknownGrade ?xh_UnknownGrade ?xs_UnknownGrade ?xe_UnknownGrade ?xt_UnknownGrade ?xk_UnknownGrade ?xga_UnknownGrade ?xgg_UnknownGrade ?xca_UnknownGrade ?xmo_UnknownGrade ?a_ei_UnknownGrade_init ?l_ei_UnknownGrade_init ?c_ei_UnknownGrade_init ?k_ei_UnknownGrade_init ?ty_ei_UnknownGrade_init ?rd_bi_NameMissing ?ga_bi_NameMissing ?a_bi_NameMissing ?a_item_of_run ?l_item_of_run ?c_item_of_run ?k_item_of_run ?a__law_draws ?l__law_draws ?c__law_draws ?k__law_draws ?a__law_draw ?l__law_draw ?c__law_draw ?k__law_draw ?a__law_same ?l__law_same ?c__law_same ?k__law_same ?a__law_reduced ?l__law_reduced ?c__law_reduced ?k__law_reduced ?a__law_cut ?l__law_cut ?c__law_cut ?k__law_cut ?a__law_unknown ?l__law_unknown ?c__law_unknown ?k__law_unknown ?a_law ?l_law ?c_law ?k_law ?a_CutScale___init__ ?i_CutScale___init__ ?l_CutScale___init__ ?c_CutScale___init__ ?k_CutScale___init__ ?kw_CutScale___init___period ?kw_CutScale___init___order ?a_CutScale_brought_back ?i_CutScale_brought_back ?l_CutScale_brought_back ?c_CutScale_brought_back ?k_CutScale_brought_back ?a_CutScale_sum_at ?i_CutScale_sum_at ?l_CutScale_sum_at ?c_CutScale_sum_at ?k_CutScale_sum_at ?a_CutScale_product_at ?i_CutScale_product_at ?l_CutScale_product_at ?c_CutScale_product_at ?k_CutScale_product_at ?a_CutScale_places ?i_CutScale_places ?l_CutScale_places ?c_CutScale_places ?k_CutScale_places ?a_CutScale_at_name ?i_CutScale_at_name ?l_CutScale_at_name ?c_CutScale_at_name ?k_CutScale_at_name ?a_CutScale_find_at ?i_CutScale_find_at ?l_CutScale_find_at ?c_CutScale_find_at ?k_CutScale_find_at ?a_CutScale_name_at ?i_CutScale_name_at ?l_CutScale_name_at ?c_CutScale_name_at ?k_CutScale_name_at ?a_cf_Scale___init__ ?l_cf_Scale___init__ ?c_cf_Scale___init__ ?k_cf_Scale___init__ ?rd_cf_Scale___init__ ?ga_cf_Scale___init__ ?a_cf_ListedScale___init__ ?l_cf_ListedScale___init__ ?c_cf_ListedScale___init__ ?k_cf_ListedScale___init__ ?rd_cf_ListedScale___init__ ?ga_cf_ListedScale___init__ ?n_CutScale_label ?n_CutScale_size ?n_CutScale_zero_at ?n_CutScale_one_at ?n_CutScale_depth ?n_CutScale__names ?n_CutScale__found ?n_CutScale__numbers ?n_CutScale__start ?n_CutScale__order ?n_UnknownGrade_name ?te ?isN ?isE ?isL ?isV ?z_int ?z_len ?z_range ?z_isinstance ?z_bool ?z_str ?z_tuple ?z_list ?z_LookupError ?z_ValueError ?g_MOST_DEPTH ?g_MOST_GRADES ?g_ORDERS ?l_ORDERS
    (case aC_CutScale => k_is)
    (case pg_CutScale => k_is)
    (case hd_CutScale => k_is)
    (case po_CutScale => k_is)
    (case sa_CutScale => k_is)
    (case mk_CutScale => k_is)
    (case kc_CutScale => k_is)
    (case aC_Scale => k_is)
    (case aC_ListedScale => k_is)
    (case aC_NameMissing => k_is)
    (case aC_UsescaleError => k_is)
    (case x_cg => k_is)
    (case x_ct => k_is)
    (case aC_UnknownGrade => k_is)
    (case xi_UnknownGrade => kx_is)
    (case xo_UnknownGrade => kx_is)
    (case xh_UnknownGrade => k_is)
    (case xs_UnknownGrade => k_is)
    (case xe_UnknownGrade => k_is)
    (case xt_UnknownGrade => k_is)
    (case xk_UnknownGrade => k_is)
    (case xga_UnknownGrade => k_is)
    (case xgg_UnknownGrade => k_is)
    (case xca_UnknownGrade => k_is)
    (case xmo_UnknownGrade => k_is)
    (case a_ei_UnknownGrade_init => k_is)
    (case l_ei_UnknownGrade_init => k_is)
    (case c_ei_UnknownGrade_init => k_is)
    (case k_ei_UnknownGrade_init => k_is)
    (case ty_ei_UnknownGrade_init => k_is)
    (case rd_bi_NameMissing => k_is)
    (case ga_bi_NameMissing => k_is)
    (case a_bi_NameMissing => k_is)
    (case a_item_of_run => k_is)
    (case l_item_of_run => k_is)
    (case c_item_of_run => k_is)
    (case k_item_of_run => k_is)
    (case a__law_draws => k_is)
    (case l__law_draws => k_is)
    (case c__law_draws => k_is)
    (case k__law_draws => k_is)
    (case a__law_draw => k_is)
    (case l__law_draw => k_is)
    (case c__law_draw => k_is)
    (case k__law_draw => k_is)
    (case a__law_same => k_is)
    (case l__law_same => k_is)
    (case c__law_same => k_is)
    (case k__law_same => k_is)
    (case a__law_reduced => k_is)
    (case l__law_reduced => k_is)
    (case c__law_reduced => k_is)
    (case k__law_reduced => k_is)
    (case a__law_cut => k_is)
    (case l__law_cut => k_is)
    (case c__law_cut => k_is)
    (case k__law_cut => k_is)
    (case a__law_unknown => k_is)
    (case l__law_unknown => k_is)
    (case c__law_unknown => k_is)
    (case k__law_unknown => k_is)
    (case a_law => k_is)
    (case l_law => k_is)
    (case c_law => k_is)
    (case k_law => k_is)
    (case a_CutScale___init__ => k_is)
    (case i_CutScale___init__ => k_is)
    (case l_CutScale___init__ => k_is)
    (case c_CutScale___init__ => k_is)
    (case k_CutScale___init__ => k_is)
    (case kw_CutScale___init___period => k_is)
    (case kw_CutScale___init___order => k_is)
    (case a_CutScale_brought_back => k_is)
    (case i_CutScale_brought_back => k_is)
    (case l_CutScale_brought_back => k_is)
    (case c_CutScale_brought_back => k_is)
    (case k_CutScale_brought_back => k_is)
    (case a_CutScale_sum_at => k_is)
    (case i_CutScale_sum_at => k_is)
    (case l_CutScale_sum_at => k_is)
    (case c_CutScale_sum_at => k_is)
    (case k_CutScale_sum_at => k_is)
    (case a_CutScale_product_at => k_is)
    (case i_CutScale_product_at => k_is)
    (case l_CutScale_product_at => k_is)
    (case c_CutScale_product_at => k_is)
    (case k_CutScale_product_at => k_is)
    (case a_CutScale_places => k_is)
    (case i_CutScale_places => k_is)
    (case l_CutScale_places => k_is)
    (case c_CutScale_places => k_is)
    (case k_CutScale_places => k_is)
    (case a_CutScale_at_name => k_is)
    (case i_CutScale_at_name => k_is)
    (case l_CutScale_at_name => k_is)
    (case c_CutScale_at_name => k_is)
    (case k_CutScale_at_name => k_is)
    (case a_CutScale_find_at => k_is)
    (case i_CutScale_find_at => k_is)
    (case l_CutScale_find_at => k_is)
    (case c_CutScale_find_at => k_is)
    (case k_CutScale_find_at => k_is)
    (case a_CutScale_name_at => k_is)
    (case i_CutScale_name_at => k_is)
    (case l_CutScale_name_at => k_is)
    (case c_CutScale_name_at => k_is)
    (case k_CutScale_name_at => k_is)
    (case a_cf_Scale___init__ => k_is)
    (case l_cf_Scale___init__ => k_is)
    (case c_cf_Scale___init__ => k_is)
    (case k_cf_Scale___init__ => k_is)
    (case rd_cf_Scale___init__ => k_is)
    (case ga_cf_Scale___init__ => k_is)
    (case a_cf_ListedScale___init__ => k_is)
    (case l_cf_ListedScale___init__ => k_is)
    (case c_cf_ListedScale___init__ => k_is)
    (case k_cf_ListedScale___init__ => k_is)
    (case rd_cf_ListedScale___init__ => k_is)
    (case ga_cf_ListedScale___init__ => k_is)
    (case n_CutScale_label => k_is)
    (case n_CutScale_size => k_is)
    (case n_CutScale_zero_at => k_is)
    (case n_CutScale_one_at => k_is)
    (case n_CutScale_depth => k_is)
    (case n_CutScale__names => k_is)
    (case n_CutScale__found => k_is)
    (case n_CutScale__numbers => k_is)
    (case n_CutScale__start => k_is)
    (case n_CutScale__order => k_is)
    (case n_UnknownGrade_name => k_is)
    (case te => kts_exm)
    (case isN => kit_is)
    (case isE => kit_is)
    (case isL => kit_is)
    (case isV => kit_is)
    (case z_int => k_is)
    (case z_len => k_is)
    (case z_range => k_is)
    (case z_isinstance => k_is)
    (case z_bool => k_is)
    (case z_str => k_is)
    (case z_tuple => k_is)
    (case z_list => k_is)
    (case z_LookupError => k_is)
    (case z_ValueError => k_is)
    (case g_MOST_DEPTH => k_is)
    (case g_MOST_GRADES => k_is)
    (case g_ORDERS => k_is)
    (case l_ORDERS => k_is)
