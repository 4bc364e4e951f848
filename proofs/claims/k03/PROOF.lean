import PyProof.Rows.All
import Wide.All
import OpenK.AllK
import Wide.FinOn
import HandS.ForMost
import HandS.Defaults
import HandS.MakeKwOnly
import HandS.Conv
import HandS.Style
import HandS.IsInst
import HandS.FStr
import HandS.DictComp
import HandS.ClsMeth
import HandS.Steps
import KE.KExcInit
import KE.KExcIs
import HandS.ForExc
import HandS.ExcInit
import HandS.ExcField
import HandS.ExcIs
import KE.KExcLine
import KE.RegKTryMore
import KE.RegKIsAll
import KE.KxField
import KE.KEqSeq
import HandS.StrMore
import PySem.Challenge.RW_usescale_k03_levels_and_subsets
set_option Elab.async false
set_option linter.all false
set_option maxRecDepth 100000
set_option maxHeartbeats 4000000
/-! Rules of my own over the hand layer, for every law of this program. -/
namespace U
open PySem PySem.Spec PyProof.Rows L2

/-! ### tests whose answer is known -/
theorem ifY {c A B : Prop} [Decidable c] (hc : c) (h : A) : if decide c = true then A else B := by
  rw [decide_eq_true hc]; exact iteT h
theorem ifN {c A B : Prop} [Decidable c] (hc : ¬ c) (h : B) : if decide c = true then A else B := by
  rw [decide_eq_false hc]; exact iteF h
theorem nifY {c A B : Prop} [Decidable c] (hc : c) (h : B) : if (!decide c) = true then A else B := by
  rw [decide_eq_true hc]; exact iteF h
theorem nifN {c A B : Prop} [Decidable c] (hc : ¬ c) (h : A) : if (!decide c) = true then A else B := by
  rw [decide_eq_false hc]; exact iteT h
theorem ifD {c A B : Prop} [Decidable c] (h1 : c → A) (h2 : ¬ c → B) : if decide c = true then A else B := by
  by_cases h : c
  · exact ifY h (h1 h)
  · exact ifN h (h2 h)
theorem ifB {b : Bool} {A B : Prop} (h1 : b = true → A) (h2 : b = false → B) : if b = true then A else B := by
  cases b
  · exact iteF (h2 rfl)
  · exact iteT (h1 rfl)
theorem ifT {b : Bool} {A B : Prop} (e : b = true) (h : A) : if b = true then A else B := by
  rw [e]; exact iteT h
theorem ifF {b : Bool} {A B : Prop} (e : b = false) (h : B) : if b = true then A else B := by
  rw [e]; exact iteF h

theorem tYesI {σ : L2.St} {H : Hp} {Q : Bool → Hp → Prop} (h : Q true H) : tYes σ H Q := h
theorem sameNew {H : Hp} {p : Addr} {o : HO} (h : H p = none) : Same H (upd H p o) := fun b u e => by
  rw [upd_ne (ne_of_none e h)]; exact e
theorem at_map {ns : List Int} {i : Nat} {y : V} (hi : (ns.map V.int)[i]? = some y) : ∃ n, y = V.int n ∧ ns[i]? = some n := by
  rw [List.getElem?_map] at hi
  cases e : ns[i]? with
  | none => rw [e] at hi; cases hi
  | some n => rw [e] at hi; exact ⟨n, (Option.some.inj hi).symm, rfl⟩
theorem take_snoc {α : Type} {l : List α} {i : Nat} {x : α} (h : l[i]? = some x) : l.take (i + 1) = l.take i ++ [x] := by
  rw [List.take_succ, h]; rfl

/-- a while: W with its measure, B where it ends by its test or a break -/
theorem whileX {c : TT} {tb : TS} {D : Ends} {σ : L2.St} {H : Hp} (W : Nat → L2.St → Hp → Prop) (B : L2.St → Hp → Prop) (n : Nat) (h0 : W n σ H) (hB : ∀ σ H, B σ H → D.nx σ H)
    (hs : ∀ (nx : L2.St → Hp → Prop), (∀ σ H, B σ H → nx σ H) → ∀ m σ H, W m σ H → c σ H fun b H1 => if b = true then ∃ N : L2.St → Hp → Prop, (∀ σ' H', N σ' H' → ∃ m', m' < m ∧ W m' σ' H') ∧ tb { D with nx := N, ct := N, bk := nx } σ H1 else nx σ H1) :
    tWhile c tb D σ H := ⟨W, ⟨n, h0⟩, hs D.nx hB⟩

/-! ### attributes by position -/
theorem lk : ∀ {ks : List Str} {vs : List V} {f : Str} {i : Nat} {v : V}, ks.findIdx? (fun k => k == f) = some i → vs[i]? = some v → (ks.zip vs).lookup f = some v
  | [], vs, f, i, v, h, _ => by simp at h
  | k :: ks, [], f, i, v, _, hv => by simp at hv
  | k :: ks, x :: vs, f, i, v, h, hv => by
    rw [List.findIdx?_cons] at h
    by_cases e : (k == f) = true
    · rw [if_pos e] at h
      obtain rfl : 0 = i := Option.some.inj h
      have e1 : f = k := (beq_iff_eq.mp e).symm
      subst e1
      obtain rfl : x = v := by simpa using hv
      simp [List.lookup]
    · rw [if_neg e] at h
      cases i with
      | zero => simp at h
      | succ i =>
        have h' : ks.findIdx? (fun k => k == f) = some i := by
          cases q : ks.findIdx? (fun k => k == f) with
          | none => rw [q] at h; simp at h
          | some j => rw [q] at h; simp at h; rw [h]
        have e2 : (f == k) = false := by
          rw [Bool.eq_false_iff]; intro z
          exact e (beq_iff_eq.mpr (beq_iff_eq.mp z).symm)
        show (match f == k with | true => some x | false => (ks.zip vs).lookup f) = some v
        rw [e2]
        exact lk h' (by simpa using hv)
theorem lkn : ∀ {ks : List Str} {vs : List V} {f : Str}, ks.findIdx? (fun k => k == f) = none → (ks.zip vs).lookup f = none
  | [], vs, f, h => by simp
  | k :: ks, [], f, _ => by simp
  | k :: ks, x :: vs, f, h => by
    rw [List.findIdx?_cons] at h
    by_cases e : (k == f) = true
    · rw [if_pos e] at h; simp at h
    · rw [if_neg e] at h
      have h' : ks.findIdx? (fun k => k == f) = none := by
        cases q : ks.findIdx? (fun k => k == f) with
        | none => rfl
        | some j => rw [q] at h; simp at h
      have e2 : (f == k) = false := by
        rw [Bool.eq_false_iff]; intro z
        exact e (beq_iff_eq.mpr (beq_iff_eq.mp z).symm)
      show (match f == k with | true => some x | false => (ks.zip vs).lookup f) = none
      rw [e2]
      exact lkn h'
/-- a new attribute -/
theorem pf : ∀ {ks : List Str} {vs : List V} {f : Str} {v : V}, ks.findIdx? (fun k => k == f) = none → ks.length = vs.length → putF f v (ks.zip vs) = (ks ++ [f]).zip (vs ++ [v])
  | [], [], f, v, _, _ => rfl
  | [], x :: vs, f, v, _, h => by simp at h
  | k :: ks, [], f, v, _, h => by simp at h
  | k :: ks, x :: vs, f, v, h, hl => by
    rw [List.findIdx?_cons] at h
    by_cases e : (k == f) = true
    · rw [if_pos e] at h; simp at h
    · rw [if_neg e] at h
      have h' : ks.findIdx? (fun k => k == f) = none := by
        cases q : ks.findIdx? (fun k => k == f) with
        | none => rfl
        | some j => rw [q] at h; simp at h
      have e2 : ¬ k = f := fun z => e (beq_iff_eq.mpr z)
      show (if k = f then (k, v) :: ks.zip vs else (k, x) :: putF f v (ks.zip vs)) = _
      rw [if_neg e2, pf h' (by simpa using hl)]
      rfl

/-! ### o[i] of a list, for o[i] op= e -/
def rGetL (K : PySem.W.Frag) : V → V → Hp → VK → Prop := fun x y H Q => ∃ p xs i v, x = .ref p ∧ y = .int i ∧ SqL K H p xs ∧ 0 ≤ i ∧ xs[i.toNat]? = some v ∧ Q v H
theorem get_list {X : Cx} : PGet X (rGetL X.K) := by
  intro pins s σ H x y v u Q I rx ry h
  obtain ⟨p, xs, i, z, rfl, rfl, hq, h0, he, q⟩ := h
  cases (show v = Value.ref p from rx)
  obtain ⟨t, rfl⟩ := ry
  obtain ⟨its, r, pl, hz⟩ := I.list hq
  obtain ⟨w, ew, rw'⟩ := r.get he
  have hl := r.length
  have hn := line63
  have hb := (List.getElem?_eq_some_iff.mp he).1
  exact wpAny_getItem_list pl.isList h0 (by omega) (by simpa using ew) ⟨z, H, I, rw', q⟩

/-! ### a[i], a a list or a tuple -/
theorem ix_or {X : Cx} {r r' : R2} (h : IxR X r) (h' : IxR X r') : IxR X (fun x y H Q => r x y H Q ∨ r' x y H Q) := by
  intro value slice pins s σ H x y v u Q I rx ry hq hs
  rcases hq with q | q
  · exact h value slice pins s σ H x y v u Q I rx ry q hs
  · exact h' value slice pins s σ H x y v u Q I rx ry q hs
def rIxLT (K : PySem.W.Frag) : R2 := fun x y H Q => rIxL K x y H Q ∨ rIxT K x y H Q
theorem ix_ls {X : Cx} : IxR X (rIxLT X.K) := ix_or ix_list ix_tup

/-! ### x is True, x is False: x anything -/
def rIsBA : R2 := fun x y H Q => ∃ b : Bool, y = .bl b ∧ Q (.bl (decide (x = .bl b))) H
theorem plain_bl {x : V} {v : Value} (b : Bool) (rx : RelV x v) : plainIs v (.bool b) = true := by
  cases x with
  | non => cases (show v = Value.none from rx); rfl
  | bl c => cases (show v = Value.bool c from rx); rfl
  | int i => obtain ⟨t, rfl⟩ := rx; rfl
  | str i => obtain ⟨t, rfl⟩ := rx; rfl
  | byt i => obtain ⟨t, rfl⟩ := rx; rfl
  | flt i => obtain ⟨t, rfl⟩ := rx; rfl
  | ref a => cases (show v = Value.ref a from rx); rfl
  | ty n => cases (show v = Value.type n from rx); rfl
theorem op_isBA {X : Cx} : OpR X (compareOp .Is) rIsBA := by
  intro pins s σ H x y v u Q I rx ry h
  obtain ⟨b, rfl, q⟩ := h
  cases (show u = Value.bool b from ry)
  by_cases e : x = .bl b
  · subst e
    cases (show v = Value.bool b from rx)
    exact wpAny_is_self rfl ⟨.bl true, H, I, rfl, by simpa using q⟩
  · refine wpAny_is_other (plain_bl b rx) (fun z => ?_) ⟨.bl false, H, I, rfl, by simpa [e] using q⟩
    subst z
    exact e (RelV.inj rx (show RelV (.bl b) (.bool b) from rfl))

/-! ### Base.m(self, ..): a def of an own class read off the class -/
structure CFn (K : PySem.W.Frag) (C : Addr) (mc : Value) (m : Str) (f : Addr) : Prop where
  rd : PySem.W.readsIn K C mc = true
  ga : PySem.W.specialIn K (.ref C) "__getattribute__" = some (some (.builtin "type.__getattribute__"))
  at_ : PySem.W.findCls K (.ref C) mc m = some (.val (.ref f))
  kp : PySem.W.keepIn K (.ref f) = true
def tCFn (C : Addr) (sp : Sp) (E : XK) (ta : TE) (t : TA) : TE := fun σ H Q => ta σ H fun x H1 => x = .ref C ∧ t σ H1 fun vs H2 => sp vs H2 Q E
section
variable {X : Cx} {CX : CXT} {k : Nat} {f C : Addr} {mc : Value} {fd : FuncData} {ps : List Str} {sp : Sp} {E : XK} {m : Str} {pos apos : Pos} {e o : Expr} {es : List Expr} {ta : TE} {t : TA}
theorem pe_cfn {pl : Sem Bool} (he : PE X o ta) (c : CFn X.K C mc m f) (F : FnOk X.prog X.w X.K X.mg X.base CX k f fd ps sp) (hr : Room k X.A) (hb : Binds X.K fd ps []) (hx : Passes CX X E) (ha : PA X (e :: es) t)
    (hst : starEach (e :: es) X.env = (false, eval e X.env) :: starEach es X.env := by rfl) (hpl : (backTo pos (starEach es X.env)).any (·.1) = false := by rfl)
    (ht : eval (.Call (.Attribute o m apos) (e :: es) [] pos) X.env = (do
      let ov ← eval o X.env
      standAt apos.atName
      let (f, first) ← holding [ov] (getMethod ov m pl)
      callWith pos f first (backTo pos (starEach (e :: es) X.env)) (backToKw pos (keywordEach [] X.env))) := by rfl) :
    PE X (.Call (.Attribute o m apos) (e :: es) [] pos) (tCFn C sp E ta t) := by
  refine ⟨fun pins s σ H Q I h => ?_⟩
  refine PySem.W.methodCall_KW (pl := pl) (thn (he.run pins s σ H _ I h) fun u s1 ⟨x, H1, I1, rx, ex, q⟩ => ?_) ht
  subst ex
  obtain rfl : u = Value.ref C := rx
  refine PySem.W.method_cls I1.kIn c.ga (PySem.W.cls_value I1.kIn c.rd c.at_ rfl ?_)
  refine PySem.W.callWith_K (first := []) (h₀ := X.base) I.ok.mod.kin c.kp (thn (ha.run pos pins _ σ H1 _ (I1.tok _) q) fun us s2 ⟨vs, H2, I2, r, q2⟩ => ⟨I2.kIn, ?_⟩) hst hpl
  exact run_fn (us := us) (vs := vs) F hr hb .nil hx I2 r (by rw [List.append_nil]; exact q2)
end
end U
namespace U
open PySem PySem.Spec PyProof.Rows L2
/-! ### calls of what has been proved, by name -/
structure Cal (P : Program) (w : World) (K : PySem.W.Frag) (mg : Str → Option Value) (base : Heap) (CX : CXT) (k : Nat) (x : Str) (sp : Sp) : Prop where
  ex : ∃ (f : Addr) (fd : FuncData) (ps : List Str), FnOk P w K mg base CX k f fd ps sp ∧ mg x = some (.ref f) ∧ PySem.W.keepIn K (.ref f) = true ∧ Binds K fd ps []
structure Met (P : Program) (w : World) (K : PySem.W.Frag) (mg : Str → Option Value) (base : Heap) (CX : CXT) (k : Nat) (C : Addr) (m : Str) (sp : Sp) : Prop where
  ex : ∃ (f : Addr) (fd : FuncData) (ps : List Str), Cls K C ∧ Meth K C m f ∧ FnOk P w K mg base CX k f fd ps sp ∧ Binds K fd ps []
structure Mak (P : Program) (w : World) (K : PySem.W.Frag) (mg : Str → Option Value) (base : Heap) (CX : CXT) (k : Nat) (x : Str) (C : Addr) (sp : Sp) : Prop where
  ex : ∃ (f : Addr) (fd : FuncData) (ps : List Str), Mk K C f ∧ FnOk P w K mg base CX k f fd ps sp ∧ mg x = some (.ref C) ∧ Binds K fd ps []
structure CFB (P : Program) (w : World) (K : PySem.W.Frag) (mg : Str → Option Value) (base : Heap) (CX : CXT) (k : Nat) (x m : Str) (sp : Sp) : Prop where
  ex : ∃ (C : Addr) (mc : Value) (f : Addr) (fd : FuncData) (ps : List Str), mg x = some (.ref C) ∧ CFn K C mc m f ∧ FnOk P w K mg base CX k f fd ps sp ∧ Binds K fd ps []
/-- a promise that asks the impossible is kept by any def -/
theorem cal_false {P : Program} {w : World} {K : PySem.W.Frag} {mg : Str → Option Value} {base : Heap} {CX : CXT} {k : Nat} {f : Addr} {fd : FuncData} {ps : List Str} {x : Str} (hm : mg x = some (.ref f)) (kp : PySem.W.keepIn K (.ref f) = true) (b : Binds K fd ps []) :
    Cal P w K mg base CX k x (fun _ _ _ _ => False) := ⟨f, fd, ps, ⟨fun _ _ _ _ h => h.elim, fun _ _ _ _ _ _ _ _ _ _ _ _ _ h => h.elim⟩, hm, kp, b⟩
section
variable {X : Cx} {k j : Nat} {C : Addr} {x m : Str} {sp : Sp} {p pos apos : Pos} {e o : Expr} {es : List Expr} {ta : TE} {t : TA}
theorem pe_c (c : Cal X.prog X.w X.K X.mg X.base CX0 k x sp) (hr : Room j X.A) (hk : k ≤ j) (hg : Gl X x) (ha : PA X (e :: es) t)
    (hdb : (x == ("__debug__" : Str)) = false := by decide) (he : starEach (e :: es) X.env = (false, eval e X.env) :: starEach es X.env := by rfl) (hpl : (backTo pos (starEach es X.env)).any (·.1) = false := by rfl) :
    PE X (.Call (.Name x p) (e :: es) [] pos) (tCall sp [] E0 t) := by
  obtain ⟨f, fd, ps, F, hm, kp, b⟩ := c.ex
  exact pe_call F (hr.mono hk) hg hm kp b .nil pass0 ha hdb he hpl
theorem pe_c0 (c : Cal X.prog X.w X.K X.mg X.base CX0 k x sp) (hr : Room j X.A) (hk : k ≤ j) (hg : Gl X x)
    (hdb : (x == ("__debug__" : Str)) = false := by decide) :
    PE X (.Call (.Name x p) [] [] pos) (tCall sp [] E0 tNil) := by
  obtain ⟨f, fd, ps, F, hm, kp, b⟩ := c.ex
  exact pe_call0 F (hr.mono hk) hg hm kp b .nil pass0 hdb
theorem pe_mk (c : Mak X.prog X.w X.K X.mg X.base CX0 k x C sp) (hr : Room j X.A) (hk : k + 1 ≤ j) (hg : Gl X x) (ha : PA X (e :: es) t)
    (hdb : (x == ("__debug__" : Str)) = false := by decide) (he : starEach (e :: es) X.env = (false, eval e X.env) :: starEach es X.env := by rfl) (hpl : (backTo pos (starEach es X.env)).any (·.1) = false := by rfl) :
    PE X (.Call (.Name x p) (e :: es) [] pos) (tMake C sp [] E0 t) := by
  obtain ⟨f, fd, ps, M, F, hm, b⟩ := c.ex
  exact pe_make M F (hr.mono hk) hg hm b .nil pass0 ha hdb he hpl
theorem pe_mt {pl : Sem Bool} (c : Met X.prog X.w X.K X.mg X.base CX0 k C m sp) (hr : Room j X.A) (hk : k ≤ j) (he : PE X o ta) (ha : PA X (e :: es) t)
    (hst : starEach (e :: es) X.env = (false, eval e X.env) :: starEach es X.env := by rfl) (hpl : (backTo pos (starEach es X.env)).any (·.1) = false := by rfl)
    (ht : eval (.Call (.Attribute o m apos) (e :: es) [] pos) X.env = (do
      let ov ← eval o X.env
      standAt apos.atName
      let (f, first) ← holding [ov] (getMethod ov m pl)
      callWith pos f first (backTo pos (starEach (e :: es) X.env)) (backToKw pos (keywordEach [] X.env))) := by rfl) :
    PE X (.Call (.Attribute o m apos) (e :: es) [] pos) (tMeth C m sp [] E0 ta t) := by
  obtain ⟨f, fd, ps, hc, hm, F, b⟩ := c.ex
  exact pe_meth (pl := pl) he hc hm F (hr.mono hk) b .nil pass0 ha hst hpl ht
theorem pe_mt0 {pl : Sem Bool} (c : Met X.prog X.w X.K X.mg X.base CX0 k C m sp) (hr : Room j X.A) (hk : k ≤ j) (he : PE X o ta)
    (ht : eval (.Call (.Attribute o m apos) [] [] pos) X.env = (do
      let ov ← eval o X.env
      standAt apos.atName
      let (f, first) ← holding [ov] (getMethod ov m pl)
      callWith pos f first (backTo pos (starEach [] X.env)) (backToKw pos (keywordEach [] X.env))) := by rfl) :
    PE X (.Call (.Attribute o m apos) [] [] pos) (tMeth C m sp [] E0 ta tNil) := by
  obtain ⟨f, fd, ps, hc, hm, F, b⟩ := c.ex
  exact pe_meth0 (pl := pl) he hc hm F (hr.mono hk) b .nil pass0 ht
/-- Base.m(self, ..) -/
def tCF (sp : Sp) (t : TA) : TE := fun σ H Q => t σ H fun vs H1 => sp vs H1 Q E0
theorem pe_cf {pl : Sem Bool} (c : CFB X.prog X.w X.K X.mg X.base CX0 k x m sp) (hr : Room j X.A) (hk : k ≤ j) (hg : Gl X x) (ha : PA X (e :: es) t)
    (hdb : (x == ("__debug__" : Str)) = false := by decide)
    (hst : starEach (e :: es) X.env = (false, eval e X.env) :: starEach es X.env := by rfl) (hpl : (backTo pos (starEach es X.env)).any (·.1) = false := by rfl)
    (ht : eval (.Call (.Attribute (.Name x p) m apos) (e :: es) [] pos) X.env = (do
      let ov ← eval (.Name x p) X.env
      standAt apos.atName
      let (f, first) ← holding [ov] (getMethod ov m pl)
      callWith pos f first (backTo pos (starEach (e :: es) X.env)) (backToKw pos (keywordEach [] X.env))) := by rfl) :
    PE X (.Call (.Attribute (.Name x p) m apos) (e :: es) [] pos) (tCF sp t) := by
  obtain ⟨C, mc, f, fd, ps, hm, cf, F, b⟩ := c.ex
  have z : PE X (.Call (.Attribute (.Name x p) m apos) (e :: es) [] pos) (tCFn C sp E0 (tC (.ref C)) t) := pe_cfn (pl := pl) (pe_glob hg hm rfl hdb) cf F (hr.mono hk) b pass0 ha hst hpl ht
  exact ⟨fun pins s σ H Q I h => z.run pins s σ H Q I ⟨rfl, h⟩⟩
end
end U
namespace U
open PySem PySem.Spec PyProof.Rows L2
/-- a module's constant -/
theorem pe_gx {X : Cx} {x : Str} {v : V} {p : Pos} (hg : Gl X x) (h : ∃ u, X.mg x = some u ∧ RelV v u) (hd : (x == ("__debug__" : Str)) = false := by decide) : PE X (.Name x p) (tC v) := by
  obtain ⟨u, hm, r⟩ := h
  exact pe_glob hg hm r hd
/-- a dict comprehension over a range -/
theorem dc_rng {lo : Int} {n : Nat} {g : TG} {tt : TT} {tk tv : TE} {vs : List Nat} {σ : L2.St} {H1 : Hp} {D : Addr} {Qd : Hp → Prop} (Pv : Nat → Hp → Prop) (h0 : Pv 0 (upd H1 D (.dK [])))
    (hs : ∀ (i : Nat) (H : Hp), i < n → Pv i H → g (.int (lo + i)) (wipe σ vs) H fun σ2 H2 => wipe σ2 vs = wipe σ vs ∧ tt σ2 H2 fun b H3 =>
      if b = true then tk σ2 H3 fun y H4 => tv σ2 H4 fun z H5 => ∃ kvs k, y = kV k ∧ H5 D = some (.dK kvs) ∧ kvs.length < sizeLine ∧ Pv (i + 1) (upd H5 D (.dK (putK kvs k z))) else Pv (i + 1) H3) (hd : ∀ H, Pv n H → Qd H) :
    ∃ W : Nat → Nat → Hp → Prop, (∃ m, W 0 m (upd H1 D (.dK []))) ∧ ∀ i m H, W i m H →
      ((Itr lo n).stop i H ∧ Qd H) ∨ ((Itr lo n).go i H ∧ ∃ Nx : Hp → Prop, (∀ H', Nx H' → ∃ m', m' < m ∧ W (i + 1) m' H') ∧ ∀ x H', (Itr lo n).yld i H x H' → g x (wipe σ vs) H' fun σ2 H2 => wipe σ2 vs = wipe σ vs ∧ tt σ2 H2 fun b H3 =>
        if b = true then tk σ2 H3 fun y H4 => tv σ2 H4 fun z H5 => ∃ kvs k, y = kV k ∧ H5 D = some (.dK kvs) ∧ kvs.length < sizeLine ∧ Nx (upd H5 D (.dK (putK kvs k z))) else Nx H3) := by
  refine ⟨fun i m H => m = n - i ∧ i ≤ n ∧ Pv i H, ⟨n, by omega, Nat.zero_le _, h0⟩, ?_⟩
  rintro i m H ⟨rfl, hi, p⟩
  by_cases hlt : i < n
  · refine .inr ⟨hlt, Pv (i + 1), fun H' p' => ⟨n - (i + 1), by omega, rfl, hlt, p'⟩, fun x H' y => ?_⟩
    obtain ⟨e, y⟩ := y
    subst e y
    exact hs i _ hlt p
  · have e : i = n := by omega
    subst e
    exact .inl ⟨Nat.le_refl _, hd H p⟩
theorem range_at {n i : Nat} (h : i < n) : (List.range n)[i]? = some i := by simp [h]
/-- the heap is as it was, but at p -/
def But (p : Addr) (H H' : Hp) : Prop := ∀ b o, H b = some o → b ≠ p → H' b = some o
theorem But.refl {p : Addr} {H : Hp} : But p H H := fun _ _ h _ => h
theorem But.trans {p : Addr} {H H1 H2 : Hp} (a : But p H H1) (b : But p H1 H2) : But p H H2 := fun c o h n => b c o (a c o h n) n
theorem But.upd {p : Addr} {H H1 : Hp} {o : HO} (a : But p H H1) : But p H (upd H1 p o) := fun c u h n => by rw [upd_ne n]; exact a c u h n
theorem But.new {p q : Addr} {H H1 : Hp} {o : HO} (a : But p H H1) (hq : H1 q = none) : But p H (L2.upd H1 q o) := fun c u h n => by
  have z := a c u h n
  rw [upd_ne (ne_of_none z hq)]; exact z
theorem But.of {p : Addr} {H H1 : Hp} (a : Same H H1) : But p H H1 := fun c u h _ => a c u h
end U
namespace U
open PySem PySem.Spec PyProof.Rows L2
theorem putF_le (f : Str) (v : V) : ∀ fs : List (Str × V), (putF f v fs).length ≤ fs.length + 1
  | [] => Nat.le_refl _
  | (g, x) :: r => by
    show (if g = f then (g, v) :: r else (g, x) :: putF f v r).length ≤ r.length + 1 + 1
    split
    · rw [List.length_cons]; omega
    · rw [List.length_cons]; have := putF_le f v r; omega
theorem putF_n {f : Str} {v : V} {fs : List (Str × V)} {n : Nat} (h : fs.length ≤ n) : (putF f v fs).length ≤ n + 1 := Nat.le_trans (putF_le f v fs) (Nat.succ_le_succ h)
end U
namespace U
open PySem PySem.Spec PyProof.Rows L2
theorem putK_le (kvs : List (Key × V)) (k : Key) (v : V) : (putK kvs k v).length ≤ kvs.length + 1 := by
  unfold putK
  split
  · rw [List.length_map]; omega
  · rw [List.length_append]; exact Nat.le_refl _
/-- the dict of the places of names -/
def foundTo (zs : List Str) : Nat → List (Key × V)
  | 0 => []
  | i + 1 => putK (foundTo zs i) (Sum.inr (zs.getD i Str.empty)) (.int (i : Int))
theorem foundTo_le (zs : List Str) : ∀ i, (foundTo zs i).length ≤ i
  | 0 => Nat.le_refl _
  | i + 1 => Nat.le_trans (putK_le _ _ _) (Nat.succ_le_succ (foundTo_le zs i))
theorem at_mapS {ns : List Str} {i : Nat} (h : i < ns.length) : (ns.map V.str)[i]? = some (.str (ns.getD i Str.empty)) := by
  rw [List.getElem?_map, List.getElem?_eq_getElem h, List.getD_eq_getElem?_getD, List.getElem?_eq_getElem h]
  rfl
end U
namespace U
open PySem PySem.Spec PyProof.Rows L2
/-! ### the same rules with the written part named, for the inside of comprehensions -/
theorem ix_listK {X : Cx} (K : PySem.W.Frag) (h : X.K = K) : IxR X (rIxL K) := by subst h; exact ix_list
theorem ix_tupK {X : Cx} (K : PySem.W.Frag) (h : X.K = K) : IxR X (rIxT K) := by subst h; exact ix_tup
theorem ix_lsK {X : Cx} (K : PySem.W.Frag) (h : X.K = K) : IxR X (rIxLT K) := by subst h; exact ix_ls
theorem pe_fldK {X : Cx} (K : PySem.W.Frag) (h : X.K = K) {e : Expr} {ta : TE} {f : Str} {pos : Pos} (he : PE X e ta) (hb : attributeBase e f X.env (eval e X.env) = eval e X.env) : PE X (.Attribute e f pos) (tFld K ta f) := by
  subst h; exact pe_fld he hb
def rLenLT (K : PySem.W.Frag) : List V → Hp → VK → Prop := fun xs H Q => ∃ p ys, xs = [V.ref p] ∧ (SqL K H p ys ∨ SqT K H p ys) ∧ Q (V.int (ys.length : Int)) H
theorem call_lenK {X : Cx} (K : PySem.W.Frag) (h : X.K = K) : CallR X (.builtin "len") (rLenLT K) := by subst h; exact call_len_seq
theorem op_inK {X : Cx} (K : PySem.W.Frag) (h : X.K = K) : OpR X (compareOp .In) (rIn K false) := by subst h; exact op_in_seq
theorem call_isiKn {X : Cx} (K : PySem.W.Frag) (h : X.K = K) : CallR X (.builtin "isinstance") (rIsi K) := by subst h; exact call_isi
end U
namespace U
open PySem PySem.Spec PyProof.Rows L2
/-! ### comprehensions that change nothing but their own new object: F i is what it holds ahead of turn i -/
theorem dcF_range {lo : Int} {n : Nat} {g : TG} {tt : TT} {tk tv : TE} {vs : List Nat} {σ : L2.St} {HB : Hp} {D : Addr} {Qd : Hp → Prop} (F : Nat → List (Key × V)) (h0 : F 0 = [])
    (hs : ∀ (i : Nat), i < n → g (.int (lo + i)) (wipe σ vs) (upd HB D (.dK (F i))) fun σ2 H2 => wipe σ2 vs = wipe σ vs ∧ tt σ2 H2 fun b H3 =>
      if b = true then tk σ2 H3 fun y H4 => tv σ2 H4 fun z H5 => ∃ kvs k, y = kV k ∧ H5 D = some (.dK kvs) ∧ kvs.length < sizeLine ∧ upd H5 D (.dK (putK kvs k z)) = upd HB D (.dK (F (i + 1))) else H3 = upd HB D (.dK (F (i + 1)))) (hd : Qd (upd HB D (.dK (F n)))) :
    ∃ W : Nat → Nat → Hp → Prop, (∃ m, W 0 m (upd HB D (.dK []))) ∧ ∀ i m H, W i m H →
      ((Itr lo n).stop i H ∧ Qd H) ∨ ((Itr lo n).go i H ∧ ∃ Nx : Hp → Prop, (∀ H', Nx H' → ∃ m', m' < m ∧ W (i + 1) m' H') ∧ ∀ x H', (Itr lo n).yld i H x H' → g x (wipe σ vs) H' fun σ2 H2 => wipe σ2 vs = wipe σ vs ∧ tt σ2 H2 fun b H3 =>
        if b = true then tk σ2 H3 fun y H4 => tv σ2 H4 fun z H5 => ∃ kvs k, y = kV k ∧ H5 D = some (.dK kvs) ∧ kvs.length < sizeLine ∧ Nx (upd H5 D (.dK (putK kvs k z))) else Nx H3) :=
  dc_rng (fun i H => H = upd HB D (.dK (F i))) (by rw [h0]) (fun i H hi e => by subst e; exact hs i hi) (fun H e => by subst e; exact hd)
theorem lcF_range {lo : Int} {n : Nat} {g : TG} {tt : TT} {te : TE} {vs : List Nat} {σ : L2.St} {HB : Hp} {D : Addr} {Qd : Hp → Prop} (F : Nat → List V) (h0 : F 0 = [])
    (hs : ∀ (i : Nat), i < n → g (.int (lo + i)) (wipe σ vs) (upd HB D (.lst (F i))) fun σ2 H2 => wipe σ2 vs = wipe σ vs ∧ tt σ2 H2 fun b H3 =>
      if b = true then te σ2 H3 fun y H4 => ∃ acc, H4 D = some (.lst acc) ∧ acc.length < sizeLine ∧ upd H4 D (.lst (acc ++ [y])) = upd HB D (.lst (F (i + 1))) else H3 = upd HB D (.lst (F (i + 1)))) (hd : Qd (upd HB D (.lst (F n)))) :
    ∃ W : Nat → Nat → Hp → Prop, (∃ m, W 0 m (upd HB D (.lst []))) ∧ ∀ i m H, W i m H →
      ((Itr lo n).stop i H ∧ Qd H) ∨ ((Itr lo n).go i H ∧ ∃ Nx : Hp → Prop, (∀ H', Nx H' → ∃ m', m' < m ∧ W (i + 1) m' H') ∧ ∀ x H', (Itr lo n).yld i H x H' → g x (wipe σ vs) H' fun σ2 H2 => wipe σ2 vs = wipe σ vs ∧ tt σ2 H2 fun b H3 =>
        if b = true then te σ2 H3 fun y H4 => ∃ acc, H4 D = some (.lst acc) ∧ acc.length < sizeLine ∧ Nx (upd H4 D (.lst (acc ++ [y]))) else Nx H3) :=
  lc_range (fun i H => H = upd HB D (.lst (F i))) (by rw [h0]) (fun i H hi e => by subst e; exact hs i hi) (fun H e => by subst e; exact hd)
theorem lcF_list {K : PySem.W.Frag} {a : Addr} {xs : List V} {g : TG} {tt : TT} {te : TE} {vs : List Nat} {σ : L2.St} {HB : Hp} {D : Addr} {Qd : Hp → Prop} (F : Nat → List V) (hD : HB D = none) (hl : SqL K HB a xs) (h0 : F 0 = [])
    (hs : ∀ (i : Nat) (x : V), xs[i]? = some x → g x (wipe σ vs) (upd HB D (.lst (F i))) fun σ2 H2 => wipe σ2 vs = wipe σ vs ∧ tt σ2 H2 fun b H3 =>
      if b = true then te σ2 H3 fun y H4 => ∃ acc, H4 D = some (.lst acc) ∧ acc.length < sizeLine ∧ upd H4 D (.lst (acc ++ [y])) = upd HB D (.lst (F (i + 1))) else H3 = upd HB D (.lst (F (i + 1)))) (hd : Qd (upd HB D (.lst (F xs.length)))) :
    ∃ W : Nat → Nat → Hp → Prop, (∃ m, W 0 m (upd HB D (.lst []))) ∧ ∀ i m H, W i m H →
      ((Itl K a).stop i H ∧ Qd H) ∨ ((Itl K a).go i H ∧ ∃ Nx : Hp → Prop, (∀ H', Nx H' → ∃ m', m' < m ∧ W (i + 1) m' H') ∧ ∀ x H', (Itl K a).yld i H x H' → g x (wipe σ vs) H' fun σ2 H2 => wipe σ2 vs = wipe σ vs ∧ tt σ2 H2 fun b H3 =>
        if b = true then te σ2 H3 fun y H4 => ∃ acc, H4 D = some (.lst acc) ∧ acc.length < sizeLine ∧ Nx (upd H4 D (.lst (acc ++ [y]))) else Nx H3) :=
  lc_list (xs := xs) (fun i H => H = upd HB D (.lst (F i))) (by rw [h0]) (fun i H _ e => by subst e; exact (sameNew hD).seq hl) (fun i x H hx e => by subst e; exact hs i x hx) (fun H e => by subst e; exact hd)
end U
namespace U
open PySem PySem.Spec PyProof.Rows L2
/-- a number in decimal -/
abbrev num (i : Int) : Str := Str.ofString (toString i)
theorem num_short (i : Int) (h0 : 0 ≤ i) (h1 : i < 130) : (num i).length ≤ 3 := by
  have z : ∀ n : Nat, n < 130 → (num (n : Int)).length ≤ 3 := by decide +kernel
  obtain ⟨n, rfl⟩ := Int.eq_ofNat_of_zero_le h0
  exact z n (by omega)
theorem num_log (i : Int) (h0 : 0 ≤ i) (h1 : i < 130) : i.natAbs.log2 < 1920 := by
  have e : i.natAbs < 2 ^ 1920 := Nat.lt_of_lt_of_le (show i.natAbs < 130 by omega) (by decide +kernel)
  by_cases hz : i.natAbs = 0
  · rw [hz]; decide
  · exact (Nat.log2_lt hz).mpr e
theorem len_app (a b : Str) : (a ++ b).length = a.length + b.length := by
  show (a.cps ++ b.cps).size = a.cps.size + b.cps.size
  rw [Array.size_append]
theorem rg_at {n : Int} {i : Nat} (h : (i : Int) < n) : (rgV 0 n)[i]? = some (.int (i : Int)) := by
  unfold rgV
  rw [List.getElem?_map, range_at (by omega)]
  simp
end U
namespace U
open PySem PySem.Spec PyProof.Rows L2
abbrev fld (fs : List (Str × V)) (f : Str) : Option V := fs.lookup f
theorem fld_put (f g : Str) (v : V) (fs : List (Str × V)) : fld (putF f v fs) g = if g = f then some v else fld fs g := lookup_putF f g v fs
end U
namespace U
open PySem PySem.Spec PyProof.Rows L2
theorem tNextI {D : Ends} {σ : L2.St} {H : Hp} (h : D.nx σ H) : tNext D σ H := h
end U
namespace U
open PySem PySem.Spec PyProof.Rows L2
/-- the ways of a statement meet in B -/
theorem join {t : TS} {D : Ends} {σ : L2.St} {H : Hp} (B : L2.St → Hp → Prop) (h : ∀ D' : Ends, (∀ σ H, B σ H → D'.nx σ H) → t D' σ H) (k : ∀ σ H, B σ H → D.nx σ H) : t D σ H := h D k
theorem joinR {t : TS} {D : Ends} {σ : L2.St} {H : Hp} (B : L2.St → Hp → Prop) (h : ∀ D' : Ends, D'.rt = D.rt → (∀ σ H, B σ H → D'.nx σ H) → t D' σ H) (k : ∀ σ H, B σ H → D.nx σ H) : t D σ H := h D rfl k
theorem range_map_snoc {β : Type} (f : Nat → β) (i : Nat) : (List.range (i + 1)).map f = (List.range i).map f ++ [f i] := by
  rw [List.range_succ, List.map_append]; rfl
theorem rg_inv {n : Int} {i : Nat} {x : V} (h : (rgV 0 n)[i]? = some x) : x = .int (i : Int) ∧ (i : Int) < n := by
  have hi : i < (rgV 0 n).length := (List.getElem?_eq_some_iff.mp h).1
  rw [rgV_length] at hi
  have hn : (i : Int) < n := by omega
  rw [rg_at hn] at h
  exact ⟨(Option.some.inj h).symm, hn⟩
end U
namespace U
open PySem PySem.Spec PyProof.Rows L2
theorem gNameI {i : Nat} {v : V} {σ : L2.St} {H : Hp} {Q : L2.St → Hp → Prop} (h : Q (σ.set i (some v)) H) : gName i v σ H Q := h
end U
namespace U
open PySem PySem.Spec PyProof.Rows L2
theorem app_le {a b : Str} {m n : Nat} (ha : a.length ≤ m) (hb : b.length ≤ n) : (a ++ b).length ≤ m + n := by rw [len_app]; omega
theorem sz {n m : Nat} (h : n ≤ m) (hm : m ≤ 1000) : n ≤ sizeLine := Nat.le_trans h (Nat.le_trans hm (by decide))
end U
namespace U
open PySem PySem.Spec PyProof.Rows L2
theorem find_at {α : Type} {p : α → Bool} : ∀ {us : List α} {i : Nat} {x : α}, us[i]? = some x → p x = true → (∀ y ∈ us.take i, p y = false) → us.find? p = some x
  | [], i, x, h, _, _ => by simp at h
  | u :: us, 0, x, h, hp, _ => by
    obtain rfl : u = x := by simpa using h
    rw [List.find?_cons, hp]
  | u :: us, i + 1, x, h, hp, ht => by
    rw [List.find?_cons, ht u (by simp)]
    exact find_at (i := i) (by simpa using h) hp (fun y hy => ht y (by simp [hy]))
theorem find_none {α : Type} {p : α → Bool} {us : List α} (h : ∀ y ∈ us, p y = false) : us.find? p = none := by
  rw [List.find?_eq_none]
  intro y hy
  rw [h y hy]; decide
end U
namespace U
open PySem PySem.Spec PyProof.Rows L2
/-- a class made with keywords -/
structure MakK (P : Program) (w : World) (K : PySem.W.Frag) (mg : Str → Option Value) (base : Heap) (CX : CXT) (k : Nat) (x : Str) (C : Addr) (sp : Sp) (n : Nat) (ks : List Str) (gV : List V → List V → List V) : Prop where
  ex : ∃ (f : Addr) (fd : FuncData) (ps : List Str) (g : List Value → List Value → List Value), Mk K C f ∧ FnOk P w K mg base CX k f fd ps sp ∧ mg x = some (.ref C) ∧ KBn K fd ps (n + 1) ks g gV
theorem pe_mkK {X : Cx} {k j n : Nat} {C : Addr} {x : Str} {sp : Sp} {p pos : Pos} {e : Expr} {es : List Expr} {t tk : TA} {ks : List Str} {kws : List Keyword} {gV : List V → List V → List V}
    (c : MakK X.prog X.w X.K X.mg X.base CX0 k x C sp n ks gV) (hr : Room j X.A) (hk : k + 1 ≤ j) (hg : Gl X x) (ha : PA X (e :: es) t) (hkw : PK X kws tk)
    (hall : (backToKw pos (keywordEach kws X.env)).all (·.1.isSome) = true := by rfl) (hks : (backToKw pos (keywordEach kws X.env)).filterMap (·.1) = ks := by rfl) (hdb : (x == ("__debug__" : Str)) = false := by decide)
    (he : starEach (e :: es) X.env = (false, eval e X.env) :: starEach es X.env := by rfl) (hpl : ((backTo pos (starEach (e :: es) X.env)).any (·.1) || (backToKw pos (keywordEach kws X.env)).any (·.1.isNone)) = false := by rfl) :
    PE X (.Call (.Name x p) (e :: es) kws pos) (tMakeK C n ks.length sp gV E0 t tk) := by
  obtain ⟨f, fd, ps, g, M, F, hm, hb⟩ := c.ex
  exact pe_makeK M F (hr.mono hk) hg hm hb pass0 ha hkw hall hks hdb he hpl
end U
namespace U
open PySem PySem.Spec PyProof.Rows L2
theorem tAsgC {i : Nat} {v : V} {D : Ends} {σ : L2.St} {H : Hp} (h : D.nx (σ.set i (some v)) H) : tAsg (tC v) (gName i) D σ H := h
end U
namespace U
open PySem PySem.Spec PyProof.Rows L2
theorem upd_none {H : Hp} {a b : Addr} {o : HO} (h : upd H a o b = none) : b ≠ a ∧ H b = none := by
  by_cases e : b = a
  · subst e; rw [upd_same] at h; cases h
  · rw [upd_ne e] at h; exact ⟨e, h⟩
/-- a class made by its name, with these defaults behind what is written -/
structure MakD (P : Program) (w : World) (K : PySem.W.Frag) (mg : Str → Option Value) (base : Heap) (CX : CXT) (k : Nat) (x : Str) (C : Addr) (sp : Sp) (dvs : List V) : Prop where
  ex : ∃ (f : Addr) (fd : FuncData) (ps : List Str) (ds : List Value), Mk K C f ∧ FnOk P w K mg base CX k f fd ps sp ∧ mg x = some (.ref C) ∧ Binds K fd ps ds ∧ Vals dvs ds
theorem pe_mkD {X : Cx} {k j : Nat} {C : Addr} {x : Str} {sp : Sp} {dvs : List V} {p pos : Pos} {e : Expr} {es : List Expr} {t : TA} (c : MakD X.prog X.w X.K X.mg X.base CX0 k x C sp dvs) (hr : Room j X.A) (hk : k + 1 ≤ j) (hg : Gl X x) (ha : PA X (e :: es) t)
    (hdb : (x == ("__debug__" : Str)) = false := by decide) (he : starEach (e :: es) X.env = (false, eval e X.env) :: starEach es X.env := by rfl) (hpl : (backTo pos (starEach es X.env)).any (·.1) = false := by rfl) :
    PE X (.Call (.Name x p) (e :: es) [] pos) (tMake C sp dvs E0 t) := by
  obtain ⟨f, fd, ps, ds, M, F, hm, b, d⟩ := c.ex
  exact pe_make M F (hr.mono hk) hg hm b d pass0 ha hdb he hpl
end U
namespace U
open PySem PySem.Spec PyProof.Rows L2
theorem found_get (zs : List Str) (z : Str) : ∀ n, n ≤ zs.length → (∀ i < n, zs.getD i Str.empty ≠ z) → valV (foundTo zs n) (Sum.inr z : Key) = none
  | 0, _, _ => rfl
  | n + 1, h, hne => by
    show valV (putK (foundTo zs n) (Sum.inr (zs.getD n Str.empty)) (.int (n : Int))) (Sum.inr z : Key) = none
    rw [valV_put, if_neg (fun e => hne n (Nat.lt_succ_self n) (Sum.inr.inj e).symm)]
    exact found_get zs z n (by omega) fun i hi => hne i (by omega)
theorem found_at (zs : List Str) (k : Nat) (hd : ∀ i < zs.length, zs.getD i Str.empty = zs.getD k Str.empty → i = k) : ∀ n, n ≤ zs.length → k < n → valV (foundTo zs n) (Sum.inr (zs.getD k Str.empty) : Key) = some (.int (k : Int))
  | 0, _, h => absurd h (by omega)
  | n + 1, h, hk => by
    show valV (putK (foundTo zs n) (Sum.inr (zs.getD n Str.empty)) (.int (n : Int))) (Sum.inr (zs.getD k Str.empty) : Key) = some (.int (k : Int))
    rw [valV_put]
    by_cases e : k = n
    · subst e; rw [if_pos rfl]
    · rw [if_neg (fun q => e (hd n (by omega) (Sum.inr.inj q).symm).symm)]
      exact found_at zs k hd n (by omega) (by omega)
end U
namespace U
open PySem PySem.Spec PyProof.Rows L2
/-- an expression that changes nothing, by its value -/
theorem pe_joinV {X : Cx} {e : Expr} {t : TE} (h : PE X e t) : PE X e (fun σ H Q => ∃ v, (∀ Q' : VK, Q' v H → t σ H Q') ∧ Q v H) :=
  ⟨fun pins s σ H Q I ⟨v, h1, h2⟩ => h.run pins s σ H Q I (h1 Q h2)⟩
theorem num_inj : ∀ i : Nat, i < 65 → ∀ j : Nat, j < 65 → num (i : Int) = num (j : Int) → i = j := by decide +kernel
theorem num_not : ∀ i : Nat, i < 65 → ∀ w ∈ (["many", "-1", "", " 1", "1 ", "+1", "MANY"] : List Str), num (i : Int) ≠ w := by decide +kernel
theorem num_zero : ∀ s : Nat, s < 64 → ∀ i : Nat, i < 64 → num (i : Int) ≠ ("0" : Str) ++ num (s : Int) := by decide +kernel
theorem many_zero : ∀ s : Nat, s < 64 → ("many" : Str) ≠ ("0" : Str) ++ num (s : Int) := by decide +kernel
end U
set_option Elab.async false
set_option linter.all false
set_option maxRecDepth 100000
set_option maxHeartbeats 4000000
/-! Errors of own classes over any base: made with a walked __init__, their attributes, isinstance. -/
namespace UX
open PySem PySem.Spec PyProof.Rows L2 U

/-- what the written part says of an own error class at C over the built-in B -/
structure OexB (K : PySem.W.Frag) (C : Addr) (B newId initId : String) (bt : List Value) : Prop where
  SF : StoreFacts B bt "object.__setattr__" "object"
  FB : ExcBaseFacts B newId initId bt
  ini : PySem.W.excInitIn K C bt newId = true
  ov : PySem.W.excOver K C bt = true
  hd : PySem.W.hasDictIn K C = true
  sa : PySem.W.findIn K (.ref C) "__setattr__" = some (some (.builtin "object.__setattr__"))
  exC : PySem.W.subIn K (.ref C) (.type "BaseException") = some true
  tyC : PySem.W.typeIn K (.ref C) = some (.type "type")
  kC : PySem.W.keepIn K (.ref C) = true
section
variable {X : Cx} {pins : List (Addr × Obj)} {σ : L2.St} {H : Hp} {s : Shared} {a C dx : Addr} {f : Str} {y : V} {u : Value} {fs : List (Str × V)} {E : Value → Shared → Prop} {A : Around} {B newId initId : String} {bt : List Value}
theorem storeB {hp h' : Heap} {g : Array GenState} {d : Drawn} {t t' : Nat} {os : OsState} {t1 : Addr} (I : Inv X pins σ H ⟨hp, g, d, t, os⟩) (e : H a = some (exo a C none)) (old : ∀ b o, b ≠ a → hp.get? b = some o → h'.get? b = some o) (hdx : hp.objs.size ≤ dx) (hne : dx ≠ a)
    (hx : h'.get? a = some ({ cls := .ref C, dict := some dx, data := .fields #[.ref t1, .none, .none, .none, .bool false, .none] } : Obj)) (hn : h'.Ns1 dx (fun y => if y = f then some u else none)) (ry : RelV y u) :
    Inv X pins σ (upd (upd H dx (exd dx [(f, y)])) a (exo a C (some dx))) ⟨h', g, d, t', os⟩ := by
  have hnd : H dx = none := I.hok.fresh hdx
  have lt : ∀ {b : Addr} {o : Obj}, hp.get? b = some o → b ≠ dx := fun q => Nat.ne_of_lt (Nat.lt_of_lt_of_le (Heap.lt_size q) hdx)
  have na : ∀ {b : Addr}, H b = none → b ≠ a := fun n z => by rw [z, e] at n; cases n
  refine I.un (t' := t') ⟨fun b o q n _ _ => old b o (na n) q, fun b o q n _ _ => ⟨o.slots, old b o (na n) q⟩, fun b o q n _ => by rw [upd_ne (na n), upd_ne (lt q)]; exact n, fun b o q _ => ?_,
    fun b xs q => by rw [upd_ne (at_ne e q exo_tup), upd_ne (ne_of_none q hnd)]; exact q, fun b o v q => by rw [upd_ne (at_ne e q exo_frz), upd_ne (ne_of_none q hnd)]; exact q,
    fun b ps q => ⟨#[], by rw [upd_ne (at_ne e q exo_tbl), upd_ne (ne_of_none q hnd), q]; simp⟩⟩ fun b o q => ?_
  · by_cases hb : b = a
    · exact ⟨_, hb ▸ hx⟩
    · exact ⟨o, old b o hb q⟩
  · by_cases hb : b = a
    · subst hb
      rw [upd_same] at q
      cases q
      exact exo_ok hx
    · rw [upd_ne hb] at q
      by_cases hd : b = dx
      · subst hd
        rw [upd_same] at q
        cases q
        exact exd_ok hn (relO_put (fs := []) ry fun _ => True.intro)
      · rw [upd_ne hd] at q
        refine (I.hok b o q).stay (fun c v hc z => old c v ?_ z) (fun c hc => by rw [upd_ne (at_ne e hc exo_own), upd_ne (ne_of_none hc hnd)]; exact hc) fun c xs hc => by rw [upd_ne (at_ne e hc exo_tup), upd_ne (ne_of_none hc hnd)]; exact hc
        rcases hc with rfl | hc
        · exact hb
        · exact at_ne e hc exo_own
theorem ostB_new {Q : Unit → Shared → Prop} (T : OexB X.K C B newId initId bt) (I : Inv X pins σ H s) (e : H a = some (exo a C none)) (hno : NoAttr X.K C f) (ry : RelV y u)
    (h : ∀ dx s', H dx = none → dx ≠ a → Inv X pins σ (upd (upd H dx (exd dx [(f, y)])) a (exo a C (some dx))) s' → Q () s') : wpAny (model X.prog X.w) A (setAttr (.ref a) f u) Q E s := by
  obtain ⟨t1, ho⟩ := exo_at I.hok e
  obtain ⟨cd, hc, hdc⟩ := PySem.W.any_some T.hd
  obtain ⟨hp, g, d, t, os⟩ := s
  refine PySem.W.set_plain I.kIn (ox := { cls := .ref C, dict := none, data := .fields #[.ref t1, .none, .none, .none, .bool false, .none] }) (od := none) ⟨ho, rfl, rfl, trivial⟩ T.sa ?_
  refine PySem.W.osa_openX (od := none) T.SF I.kIn ⟨ho, rfl, rfl, trivial⟩ T.ov hno.taker fun b => ?_
  refine wpAny_bind (wpAny_pure (wpAny_bind (PySem.W.instanceDict_exc (c2 := .none) ho (PySem.W.looks_clsIn I.kIn hc) hdc ?_)))
  have lta : a < hp.objs.size := Heap.lt_size ho
  have nsa : hp.objs.size ≠ a := Nat.ne_of_gt lta
  show wpAny _ _ (Builtin.ObjectAttr.storeInDict hp.objs.size (.str f t) f u) _ _ _
  refine PySem.HandSPX.store_in_new ⟨_, #[], _, (Heap.get?_update_ne _ _ _ _ nsa).trans (Heap.get?_push_at rfl rfl), rfl, fun e he => absurd he (by simp), fun _ => rfl⟩ fun h' tk' hn hs => ?_
  -- the heap behind it
  have old : ∀ b o, b ≠ a → hp.get? b = some o → h'.get? b = some o := fun b o hb q =>
    (hs.2 b (Nat.ne_of_lt (Heap.lt_size q))).trans ((Heap.get?_update_ne _ _ _ _ hb).trans (Heap.get?_push_of_some _ q))
  have hx : h'.get? a = some { cls := .ref C, dict := some hp.objs.size, data := .fields #[.ref t1, .none, .none, .none, .bool false, .none] } :=
    (hs.2 a nsa.symm).trans (Heap.get?_update_self _ (Heap.get?_push_of_some _ ho) rfl)
  have hnd : H hp.objs.size = none := I.hok.fresh (Nat.le_refl _)
  refine h hp.objs.size _ hnd nsa (storeB (t' := tk') I e old (Nat.le_refl _) nsa hx hn ry)
/-- a further attribute -/
theorem ostB_old {Q : Unit → Shared → Prop} (T : OexB X.K C B newId initId bt) (I : Inv X pins σ H s) (e : H a = some (exo a C (some dx))) (ed : H dx = some (exd dx fs)) (hl : fs.length ≤ 900) (hno : NoAttr X.K C f) (ry : RelV y u)
    (h : ∀ s', Inv X pins σ (upd H dx (exd dx ((f, y) :: fs))) s' → Q () s') : wpAny (model X.prog X.w) A (setAttr (.ref a) f u) Q E s := by
  obtain ⟨t1, ho⟩ := exo_at I.hok e
  obtain ⟨mA, hns, rel⟩ := exd_at I.hok ed
  have hw := within_of rel
  obtain ⟨cd, hc, hdc⟩ := PySem.W.any_some T.hd
  obtain ⟨hp, g, d, t, os⟩ := s
  obtain ⟨oD, _, _, hoD, _, _⟩ := hns.count hw
  refine PySem.W.set_plain I.kIn (ox := { cls := .ref C, dict := some dx, data := .fields #[.ref t1, .none, .none, .none, .bool false, .none] }) (od := some oD) ⟨ho, rfl, rfl, hoD⟩ T.sa ?_
  refine PySem.W.osa_openX (od := some oD) T.SF I.kIn ⟨ho, rfl, rfl, hoD⟩ T.ov hno.taker fun b => ?_
  have di : ∀ {R : Option Addr → Shared → Prop} {E' : Value → Shared → Prop} {A' : Around} {t' : Nat}, R (some dx) ⟨hp, g, d, t', os⟩ → wpAny (model X.prog X.w) A' (instanceDict a true) R E' ⟨hp, g, d, t', os⟩ := fun q => by
    unfold instanceDict
    refine wpAny_bind (wpAny_loadPart ho ?_)
    dsimp only
    refine wpAny_bind ((PySem.W.looks_clsIn (M := model X.prog X.w) I.kIn hc).at ?_)
    rw [hdc]
    exact wpAny_pure q
  refine wpAny_bind (wpAny_pure (wpAny_bind (di ?_)))
  show wpAny _ _ (Builtin.ObjectAttr.storeInDict dx (.str f t) f u) _ _ _
  refine PySem.OEX.store_in_old hns hw (by rw [List.length_map]; omega) fun h' tk' hn hs => ?_
  have hd : ∃ o, h'.get? dx = some o := by
    obtain ⟨o, _, _, e', _⟩ := hn
    exact ⟨o, e'⟩
  exact h _ (I.write (t' := tk') (x := dx) (e := dx) (o := exd dx ((f, y) :: fs)) (by rw [ed]; exact True.intro) (.inl rfl) (fun b o hb q => (hs.2 b hb).trans q) hd (exd_ok hn (relO_put ry rel)))
/-- B.__init__(self, ..) through an own class: nothing of it is told -/
theorem oinitB {us : List Value} {Q : Value → Shared → Prop} (T : OexB X.K C B newId initId bt) (I : Inv X pins σ H s) (e : H a = some (exo a C none)) (hl : us.length ≤ sizeLine) (h : ∀ s', Inv X pins σ H s' → Q .none s') :
    wpAny (model X.prog X.w) A (call (.builtin initId) (.ref a :: us)) Q E s := by
  obtain ⟨nm, N, qn, bs, bm, hdct, sn, sub, ab, col, dd, k0, k1, k2, k3, k5, hC, hT⟩ := PySem.W.excInit_of I.kIn T.ini
  obtain ⟨t1, ho⟩ := exo_at I.hok e
  obtain ⟨hp, g, d, t, os⟩ := s
  refine wpAny_call (PySem.HandSPX.init_base T.FB hT hC ho hl fun h' t2 k hx => ?_)
  have J := I.write (t' := t) (x := a) (e := a) (o := exo a C none) (by rw [e]; exact True.intro) (.inl rfl) k ⟨_, hx⟩ (exo_ok hx)
  have eu : upd H a (exo a C none) = H := by
    funext b
    by_cases hb : b = a
    · subst hb; rw [upd_same, e]
    · exact upd_ne hb
  rw [eu] at J
  exact h _ J
end

/-! ### rules -/
/-- D.__init__(self, ..), D an own class without __init__ over the built-in B; nothing of it is told -/
def tBI (K : PySem.W.Frag) (B newId initId : String) (bt : List Value) (ta : TA) : TE := fun σ H Q => ta σ H fun vs H1 => ∃ (a C : Addr) (ws : List V), vs = .ref a :: ws ∧ ws.length ≤ 1000 ∧ OexB K C B newId initId bt ∧ H1 a = some (exo a C none) ∧ Q .non H1
/-- self.f = e, self an error -/
def tOstB (K : PySem.W.Frag) (B newId initId : String) (bt : List Value) (f : Str) (to te : TE) : TS := fun D σ H => te σ H fun y H1 => to σ H1 fun x H2 => ∃ a C : Addr, x = .ref a ∧ OexB K C B newId initId bt ∧ NoAttr K C f ∧
  ((H2 a = some (exo a C none) ∧ ∀ dx, H2 dx = none → dx ≠ a → D.nx σ (upd (upd H2 dx (exd dx [(f, y)])) a (exo a C (some dx)))) ∨
    ∃ (dx : Addr) (fs : List (Str × V)), H2 a = some (exo a C (some dx)) ∧ H2 dx = some (exd dx fs) ∧ fs.length ≤ 900 ∧ D.nx σ (upd H2 dx (exd dx ((f, y) :: fs))))
/-- what is known of the class that is named -/
structure BInit (K : PySem.W.Frag) (mg : Str → Option Value) (x : Str) (initId : String) : Prop where
  ex : ∃ D : Addr, mg x = some (.ref D) ∧ PySem.W.readsIn K D (.type "type") = true ∧ PySem.W.specialIn K (.ref D) "__getattribute__" = some (some (.builtin "type.__getattribute__")) ∧
    PySem.W.findCls K (.ref D) (.type "type") "__init__" = some (.val (.builtin initId)) ∧ PySem.W.handedIn (.builtin initId) = true
section
variable {X : Cx} {o e : Expr} {es : List Expr} {to te : TE} {ta : TA} {f x : Str} {p p' p1 p2 pos : Pos} {B newId initId : String} {bt : List Value}
theorem pe_binit {pl : Sem Bool} (c : BInit X.K X.mg x initId) (hg : Gl X x) (ha : PA X (e :: es) ta) (hdb : (x == ("__debug__" : Str)) = false := by decide)
    (hc : eval (.Call (.Attribute (.Name x p1) "__init__" p2) (e :: es) [] pos) X.env = (do
      let ov ← eval (.Name x p1) X.env
      standAt p2.atName
      let (f, first) ← holding [ov] (getMethod ov "__init__" pl)
      callWith pos f first (backTo pos (starEach (e :: es) X.env)) (backToKw pos (keywordEach [] X.env))) := by rfl)
    (he : starEach (e :: es) X.env = (false, eval e X.env) :: starEach es X.env := by rfl) (hpl : (backTo pos (starEach es X.env)).any (·.1) = false := by rfl) :
    PE X (.Call (.Attribute (.Name x p1) "__init__" p2) (e :: es) [] pos) (tBI X.K B newId initId bt ta) := by
  obtain ⟨D, hm, hrd, hga, hat, hh⟩ := c.ex
  refine ⟨fun pins s σ H Q I h => ?_⟩
  refine PySem.W.methodCall_KW (pl := pl) (ld_glob I hg hm ?_ hdb) hc
  refine PySem.W.method_cls I.kIn hga (PySem.W.cls_value I.kIn hrd hat hh ?_)
  refine PyProof.Rows.callWith_method1 (thn (ha.run pos pins _ σ H _ (I.tok _) h) fun us s1 ⟨vs, H1, I1, r1, a, C, ws, ev, hl, T, ea, q⟩ => ?_) he hpl
  subst ev
  cases r1 with
  | @cons _ u0 _ ur ra rw' =>
    obtain rfl : u0 = Value.ref a := ra
    refine oinitB T I1 ea ?_ fun s' J => ⟨.non, H1, J, rfl, q⟩
    rw [← Paired.length rw', sizeLine_eq]
    omega
theorem ps_ostB (ho : PE X o to) (he : PE X e te) (hs : swapsWith e (some (.Attribute o f p')) pos.line X.env = pure false := by rfl) : PS X (.Assign [.Attribute o f p'] e pos) (tOstB X.K B newId initId bt f to te) := by
  refine ⟨fun pins s σ H D I h => ?_⟩
  refine plainObj_wpAny_Assign_Attribute (thn (he.run pins s σ H _ I h) fun v s1 ⟨y, H1, I1, r1, q1⟩ => thn (ho.run pins s1 σ H1 _ I1 q1) fun u s2 ⟨x, H2, I2, r2, a, C, ex, T, hno, q⟩ => ?_) hs
  subst ex
  obtain rfl : u = Value.ref a := r2
  rcases q with ⟨ea, q⟩ | ⟨dx, fs, ea, ed, hl, q⟩
  · exact ostB_new T I2 ea hno r1 fun dx s' n ne J => ⟨σ, _, J, q dx n ne⟩
  · exact ostB_old T I2 ea ed hl hno r1 fun s' J => ⟨σ, _, J, q⟩
end
/-- C(e, ..), an error of an own class whose __init__ keeps sp, to be raised -/
def tMkB (C : Addr) (sp : Sp) (ta : TA) : L2.St → Hp → XK → Prop := fun σ H Q => ta σ H fun vs H1 => vs.length ≤ 1000 ∧ ∀ a, H1 a = none → sp (.ref a :: vs) (upd H1 a (exo a C none))
  (fun v H2 => v = .non ∧ ∃ (d : Addr) (fs : List (Str × V)), H2 a = some (exo a C (some d)) ∧ H2 d = some (exd d fs) ∧ H1 d = none ∧ Q (.ref C) (some d) (upd (del H2 a) d (.xd fs))) E0
structure ExM (P : Program) (w : World) (K : PySem.W.Frag) (mg : Str → Option Value) (base : Heap) (k : Nat) (x : Str) (C : Addr) (sp : Sp) : Prop where
  ex : ∃ (B newId initId : String) (bt : List Value) (f : Addr) (fd : FuncData) (ps : List Str), OexB K C B newId initId bt ∧ mg x = some (.ref C) ∧ PySem.W.findIn K (.ref C) "__init__" = some (some (.ref f)) ∧ PySem.W.typeIn K (.ref f) = some (.type "function") ∧
    FnOk P w K mg base CX0 k f fd ps sp ∧ Binds K fd ps []
section
variable {X : Cx} {e : Expr} {es : List Expr} {ta : TA} {x : Str} {p pos : Pos} {C : Addr} {sp : Sp} {k j : Nat}
theorem pmk_B (c : ExM X.prog X.w X.K X.mg X.base k x C sp) (hr : Room j X.A) (hk : k + 1 ≤ j) (hg : Gl X x) (ha : PA X (e :: es) ta)
    (hdb : (x == ("__debug__" : Str)) = false := by decide) (he : starEach (e :: es) X.env = (false, eval e X.env) :: starEach es X.env := by rfl) (hpl : (backTo pos (starEach es X.env)).any (·.1) = false := by rfl) :
    PMk X (.Call (.Name x p) (e :: es) [] pos) (tMkB C sp ta) := by
  obtain ⟨B, newId, initId, bt, f, fd, ps, T, hm, iC, tI, F, hb⟩ := c.ex
  have hr' : Room (k + 1) X.A := hr.mono hk
  intro pins s σ H Q I h
  refine wpAny_Call_Name_kw (ld_glob I hg hm ?_ hdb)
  refine PySem.W.callWith_K (h₀ := X.base) I.ok.mod.kin T.kC (thn (ha.run pos pins s σ H _ I h) fun us s1 ⟨vs, H1, I1, r1, hz, q1⟩ => ⟨I1.kIn, ?_⟩) he hpl
  show wpAny _ _ (call (.ref C) us) _ _ _
  obtain ⟨nm, N, qn, bs, bm, hdct, sn, sub, ab, col, dd, k0, k1, k2, k3, k5, hC, hT⟩ := PySem.W.excInit_of I1.kIn T.ini
  obtain ⟨hp, g, dr, tk, os⟩ := s1
  have hsz : hp.objs.size ≤ hp.objs.size + 1 := Nat.le_succ _
  have hq := q1 (hp.objs.size + 1) (I1.hok.fresh hsz)
  have kk : ∀ b o, hp.get? b = some o → ((hp.push (PySem.W.kdv_tup us)).push (PySem.HandSPX.excO C hp.objs.size)).get? b = some o := fun b o q => Heap.get?_push_of_some _ (Heap.get?_push_of_some _ q)
  have hget : ((hp.push (PySem.W.kdv_tup us)).push (PySem.HandSPX.excO C hp.objs.size)).get? (hp.objs.size + 1) = some (PySem.HandSPX.excO C hp.objs.size) := by heap_get
  have I2 : Inv X pins σ (upd H1 (hp.objs.size + 1) (exo (hp.objs.size + 1) C none)) ⟨(hp.push (PySem.W.kdv_tup us)).push (PySem.HandSPX.excO C hp.objs.size), g, dr, tk, os⟩ :=
    I1.laid (t' := tk) (a := hp.objs.size + 1) (o := exo (hp.objs.size + 1) C none) (h' := (hp.push (PySem.W.kdv_tup us)).push (PySem.HandSPX.excO C hp.objs.size)) kk hsz (exo_ok hget)
  have r2 : Vals (V.ref (hp.objs.size + 1) :: vs) (Value.ref (hp.objs.size + 1) :: us) := .cons rfl r1
  have hl : (Value.ref (hp.objs.size + 1) :: us).length = ps.length := by
    have z := F.len _ _ _ _ hq
    rw [r2.length] at z
    exact z
  have hus : us.length ≤ sizeLine := by
    rw [← Paired.length r1, sizeLine_eq]
    omega
  have hbb := hb _ (Value.ref (hp.objs.size + 1) :: us) I2.kIn (by rw [List.append_nil]; exact hl)
  rw [List.append_nil] at hbb
  refine wpAny_call (PySem.HandSPX.call_own T.FB hT hC (PySem.W.looks_findIn I1.kIn iC) (fun self => PySem.W.bind_fn I1.kIn self tI) hus
    (codeAny_mono (F.run _ X.stack _ _ ⟨Value.ref (hp.objs.size + 1) :: us, []⟩ (Value.ref (hp.objs.size + 1) :: us) _ _ E0 (hr'.make C us []) (I2.env0.make C us []) hbb r2 hq) fun r s' hq' => ?_))
  cases r with
  | error er => exact False.elim hq'
  | ok fl =>
    cases fl with
    | ret u =>
      obtain ⟨v, H2, os2, bare2, un2, hok2, rv, ev, d, fs, ea, ed, hd1, q2⟩ := hq'
      subst ev
      obtain ⟨h2, g2, d2, t2, os'⟩ := s'
      exact ⟨rv, mk_end (raises_own T.exC T.tyC) I1 hsz kk un2 hok2 os2 bare2 ea ed hd1 q2⟩
    | next => exact False.elim hq'
    | brk => exact False.elim hq'
    | cont => exact False.elim hq'
end

/-! ### o.m(e, ..) in a try: what is raised is wished for at the caller's slots -/
def tMtS (C : Addr) (m : Str) (sp : Sp) (E : L2.St → XK) (ta : TE) (t : TA) : TE := fun σ H Q => ta σ H fun x H1 => ∃ a dx fs, x = .ref a ∧ H1 a = some (.ins C dx fs) ∧ fld fs m = none ∧ t σ H1 fun vs H2 => sp (.ref a :: vs) H2 Q (E σ)
theorem pe_mtS {X : Cx} {CX : CXT} {k j : Nat} {C : Addr} {m : Str} {sp : Sp} {E : L2.St → XK} {pos apos : Pos} {e o : Expr} {es : List Expr} {ta : TE} {t : TA} {pl : Sem Bool} (c : Met X.prog X.w X.K X.mg X.base CX k C m sp) (hr : Room j X.A) (hk : k ≤ j) (hx : ∀ σ, PassesAt CX X σ (E σ)) (he : PE X o ta) (ha : PA X (e :: es) t)
    (hst : starEach (e :: es) X.env = (false, eval e X.env) :: starEach es X.env := by rfl) (hpl : (backTo pos (starEach es X.env)).any (·.1) = false := by rfl)
    (ht : eval (.Call (.Attribute o m apos) (e :: es) [] pos) X.env = (do
      let ov ← eval o X.env
      standAt apos.atName
      let (f, first) ← holding [ov] (getMethod ov m pl)
      callWith pos f first (backTo pos (starEach (e :: es) X.env)) (backToKw pos (keywordEach [] X.env))) := by rfl) :
    PE X (.Call (.Attribute o m apos) (e :: es) [] pos) (tMtS C m sp E ta t) := by
  obtain ⟨f, fd, ps, hc, hm, F, b⟩ := c.ex
  refine ⟨fun pins s σ H Q I h => ?_⟩
  refine PySem.W.methodCall_KW (pl := pl) (thn (he.run pins s σ H _ I h) fun u s1 ⟨x, H1, I1, rx, a, dx, fs, ex, ea, l, q⟩ => ?_) ht
  subst ex
  obtain rfl : u = Value.ref a := rx
  refine getmeth_ok I1 ea hc hm l ?_
  refine PySem.W.callWith_K (first := [.ref a]) (h₀ := X.base) I.ok.mod.kin hm.kp (thn (ha.run pos pins s1 σ H1 _ I1 q) fun us s2 ⟨vs, H2, I2, r, q2⟩ => ⟨I2.kIn, ?_⟩) hst hpl
  exact run_fnS (us := .ref a :: us) (vs := .ref a :: vs) F (hr.mono hk) b (hx σ) I2 (.cons rfl r) q2

/-! ### isinstance of a caught error that has attributes -/
structure ExcI (K : PySem.W.Frag) (D : Addr) : Prop where
  cl : (PySem.W.clsIn K D).isSome = true
  ga : PySem.W.findIn K (.ref D) "__getattribute__" = some (some (.builtin "BaseException.__getattribute__"))
  gg : PySem.W.findIn K (.ref D) "__getattr__" = some none
  exC : PySem.W.subIn K (.ref D) (.type "BaseException") = some true
  ca : PySem.W.findIn K (.ref D) "__class__" = some (some (.builtin "object.__class__"))
  cg : PySem.W.specialIn K (.builtin "object.__class__") "__get__" = some (some (.builtin "getset_descriptor.__get__"))
  ct : PySem.W.takesIn K (.builtin "object.__class__") = some true
  mo : PySem.W.mroIn K D (.type "object") = some true
def rIsD (K : PySem.W.Frag) (D a : Addr) (cls : Value) (d : Option Addr) : List V → Hp → VK → Prop := fun xs H Q => ∃ (c : V) (cv : Value) (b : Bool) (dd : Addr) (fs : List (Str × V)), xs = [.ref a, c] ∧ ClsV c cv ∧ cls = .ref D ∧ d = some dd ∧ H dd = some (.xd fs) ∧ PySem.W.kitOne K (.ref D) cv = some b ∧ Q (.bl b) H
theorem call_isD {X : Cx} {a D : Addr} {cls : Value} {d : Option Addr} {oe : Obj} {pn : List (Addr × Obj)} (C : ExcI X.K D) (hz : Zc cls d oe) (hf : ∃ vs, oe.data = .fields vs) : CallR (X.suite a ((a, oe) :: pn)) (.builtin "isinstance") (rIsD X.K D a cls d) := by
  intro pins s σ H xs us Q I r h
  obtain ⟨c, cv, b, dd, fs, rfl, hcv, rfl, rfl, hdd, e, q⟩ := h
  cases r with
  | cons rx rr =>
    cases rr with
    | cons rt rr =>
      cases rr
      cases rx
      have ec := hcv.eq rt
      subst ec
      obtain ⟨hget, _⟩ := I.pin (a, oe) (List.mem_append_left _ List.mem_cons_self)
      obtain ⟨mA, ⟨od, es, ep, hod, _⟩, _⟩ := (show ObjOk X.prog X.w H s.heap dd (.xd fs) from I.hok dd _ hdd)
      obtain ⟨vs, hv⟩ := hf
      have J : PySem.W.InstAt s.heap a oe D (some od) := ⟨hget, hz.1, by unfold PySem.W.notCls; rw [hv] <;> rfl, by rw [hz.2]; exact hod⟩
      exact PySem.W.kia_one (PySem.W.kitx_exc C.cl C.ga C.gg C.exC C.ca C.cg C.ct C.mo) I.kIn J e (fun z => nomatch z) fun tk => ⟨.bl b, H, I.kept (t' := tk) fun _ _ z => z, rfl, q⟩
end UX
namespace UX
open PySem PySem.Spec PyProof.Rows L2 U
/-- a def that lets nothing out, calling defs that may raise where they don't -/
theorem okN {P : Program} {w : World} {K : PySem.W.Frag} {mg : Str → Option Value} {base : Heap} {x qual : Str} {st : Stmt} {f : Addr} {fd : FuncData} {N ps : List Str} {k : Nat} {sp : Sp} (F : Fun K x qual st f fd) (S : FnScope N ps (defScope st)) (len : ∀ vs H Q E, sp vs H Q E → vs.length = ps.length)
    (hbody : ∀ (cdv : Value) (A : Around) (outer : List Env) (s : Shared) (H : Hp) (vs : List V) (Q : VK) (E : XK), Room k (A.deeper (envOfC qual (defScope st) s.heap.objs.size f cdv)) → sp vs H Q E →
      ∃ t, PSs (cxOf (L2.CX P w) P w K mg base N qual (defScope st) f cdv A outer s H E).nox (defBody st) t ∧ t { nx := fun _ H' => Q .non H', rt := Q } (start N vs) H) : FnOk P w K mg base (L2.CX P w) (k + 1) f fd ps sp := by
  obtain ⟨oc, od, kV, doc, pm, an, cdv, ct, osl, rfl, lk, hcd⟩ := F.ex
  refine fn_of lk hcd S len fun A outer s H vs Q E hr hsp => ?_
  obtain ⟨t, h, q⟩ := hbody cdv A outer s H vs Q E hr hsp
  exact ⟨t, h.nox, q⟩
section
variable {X : Cx} {k j : Nat} {C : Addr} {x m : Str} {sp : Sp} {p pos apos : Pos} {e o : Expr} {es : List Expr} {ta : TE} {t : TA}
theorem pe_cL (c : Cal X.prog X.w X.K X.mg X.base (L2.CX X.prog X.w) k x sp) (hr : Room j X.A) (hk : k ≤ j) (hg : Gl X x) (ha : PA X (e :: es) t)
    (hdb : (x == ("__debug__" : Str)) = false := by decide) (he : starEach (e :: es) X.env = (false, eval e X.env) :: starEach es X.env := by rfl) (hpl : (backTo pos (starEach es X.env)).any (·.1) = false := by rfl) :
    PE X (.Call (.Name x p) (e :: es) [] pos) (tCall sp [] L2.E0 t) := by
  obtain ⟨f, fd, ps, F, hm, kp, b⟩ := c.ex
  exact pe_call F (hr.mono hk) hg hm kp b .nil passL ha hdb he hpl
theorem pe_mtL {pl : Sem Bool} (c : Met X.prog X.w X.K X.mg X.base (L2.CX X.prog X.w) k C m sp) (hr : Room j X.A) (hk : k ≤ j) (he : PE X o ta) (ha : PA X (e :: es) t)
    (hst : starEach (e :: es) X.env = (false, eval e X.env) :: starEach es X.env := by rfl) (hpl : (backTo pos (starEach es X.env)).any (·.1) = false := by rfl)
    (ht : eval (.Call (.Attribute o m apos) (e :: es) [] pos) X.env = (do
      let ov ← eval o X.env
      standAt apos.atName
      let (f, first) ← holding [ov] (getMethod ov m pl)
      callWith pos f first (backTo pos (starEach (e :: es) X.env)) (backToKw pos (keywordEach [] X.env))) := by rfl) :
    PE X (.Call (.Attribute o m apos) (e :: es) [] pos) (tMeth C m sp [] L2.E0 ta t) := by
  obtain ⟨f, fd, ps, hc, hm, F, b⟩ := c.ex
  exact pe_meth (pl := pl) he hc hm F (hr.mono hk) b .nil passL ha hst hpl ht
end
end UX
namespace UX
open PySem PySem.Spec PyProof.Rows L2 U
theorem cxF {P : Program} {w : World} {H : Hp} {s : Shared} {e : Value} {s' : Shared} (h : L2.CX P w [] H s (fun _ _ _ => False) e s') : False := by
  obtain ⟨_, _, _, _, _, _, _, _, _, _, _, _, z⟩ := h
  exact z.elim
end UX
open PySem PySem.Spec PyProof.Rows L2 U
set_option maxRecDepth 100000
set_option maxHeartbeats 400000
namespace UF
open Builtin Builtin.Str Builtin.Int Builtin.Float
def binT (n : Nat) : Str := PySem.Str.ofString (String.ofList (Nat.toDigits 2 n))
theorem meetsB0 (n : Nat) (hn : n < 64) (t u : Tok) (spec : PySem.Str) (hne : (spec.length == 0) = false) (hasc : ((spec.cps.toList.drop 1).any (· ≥ 128) || (spec.cps.getD 0 0 ≥ 128 && !([60, 62, 61, 94] : List Nat).contains (spec.cps.getD 1 0))) = false)
    (hp : parseFormatSpec spec.cps.toList "int" 62 = .ok { align := 62, type := some 98 }) : Meets (Builtin.«int.__format__» ⟨[.int (n : Int) t, .str spec u], []⟩) (fun _ R s => ∀ t' k, R (.ok (.ret (.str (binT n) t'))) { s with toks := k }) := by
  apply PySem.W.KPc.meets_of
  intro _ _ _ _ _ _ a
  unfold Builtin.«int.__format__»
  simp only [selfAndOne, noKeywords, Int.intOfSelf, asInt?, asStr?, List.isEmpty_nil, if_true, pure_bind, bind_pure, bind_assoc, hne, hasc, Bool.false_eq_true, if_false,
    show (Value.str spec u == Value.none) = false from rfl]
  refine wpAny_bind (wpAny_typeNameOf (T := "str") (typeIs_str _ _ _) (by decide) fun _ => ?_)
  refine wpAny_bind (wpAny_typeNameOfCut_int ?_)
  simp only [hp, Option.getD]
  refine wpAny_ite (PySem.W.KPc.ite_yes (by decide +kernel) ?_)
  refine PySem.W.KXf.ret_text (T := binT n) ?e ?l ?_
  case e => clear a; revert n; decide +kernel
  case l => clear a; revert n; decide +kernel
  exact a
/-- the rule: f'{x:b}' of a small number -/
def tFmtB (te : TE) : TE := fun σ H Q => te σ H fun x H1 => ∃ n : Nat, x = .int (n : Int) ∧ n < 64 ∧ Q (.str (binT n)) H1
theorem pe_fmtB {X : Cx} {e : Expr} {te : TE} {kk : Nat} {p1 p2 p3 : Pos} (he : PE X e te) : PE X (.FormattedValue e (-1) (some (.JoinedStr [.Constant (.str "b") kk p1] p2)) p3) (tFmtB te) := by
  refine ⟨fun pins s σ H Q I h => ?_⟩
  refine wpAny_FormattedValue_spec (thn (he.run pins s σ H _ I h) fun v s1 hv => ?_)
  obtain ⟨x, H1, I1, r1, n, rfl, hn, q⟩ := hv
  obtain ⟨t, rfl⟩ := r1
  refine thn ((pe_joined1 (X := X) pe_str).run pins s1 σ H1 (fun y H2 => y = .str "b" ∧ H2 = H1) I1 ?_) fun v2 s2 hv2 => ?_
  · exact ⟨rfl, rfl⟩
  obtain ⟨y, H2, I2, r2, rfl, rfl⟩ := hv2
  obtain ⟨t2, rfl⟩ := r2
  refine ⟨_, t2, rfl, ?_⟩
  exact PySem.W.KXf.field_int rfl (by decide +kernel) (by decide +kernel) (fun u => meetsB0 n hn t u _ (by decide +kernel) (by decide +kernel) (by rfl)) fun t' k => ⟨.str (binT n), H2, I2.tok _, ⟨_, rfl⟩, q⟩
theorem pe_joinK {X : Cx} (K : PySem.W.Frag) (hK : X.K = K) {o e : Expr} {to te : TE} {apos pos : Pos} (ho : PE X o to) (he : PE X e te) (hs : starEach [e] X.env = [(false, eval e X.env)]) (hbase : attributeBase o "join" X.env (eval o X.env) = eval o X.env) (hline : (apos.endLine == pos.line) = true) :
    PE X (.Call (.Attribute o "join" apos) [e] [] pos) (tM1 (fun x xs H Q => ∃ a p, ∃ ys : List Str, x = .str a ∧ xs = [.ref p] ∧ (SqL K H p (ys.map V.str) ∨ SqT K H p (ys.map V.str)) ∧
      (ys.map (·.length)).sum + ys.length * a.length ≤ 16777216 ∧ Q (.str (Txt.join a ys)) H) to te) := by
  subst hK; exact pe_join ho he hs hbase hline
/-- one of several readings -/
theorem pe_ex {ι : Type} {X : Cx} {e : Expr} {t : ι → TE} (h : ∀ i, PE X e (t i)) : PE X e (fun σ H Q => ∃ i, t i σ H Q) := ⟨fun pins s σ H Q I ⟨i, h1⟩ => (h i).run pins s σ H Q I h1⟩
end UF
namespace UF
theorem op_mulS {X : Cx} : OpR X (binaryOp .Mult) (fun x y H Q => ∃ (i : Str) (n : Int), x = .str i ∧ y = .int n ∧ PySem.MulOk i n ∧ Q (.str (PySem.Txt.mul i n)) H) := by
  intro pins s σ H x y v u Q I rx ry h
  obtain ⟨i, n, rfl, rfl, hz, q⟩ := h
  obtain ⟨t, rfl⟩ := rx
  obtain ⟨t', rfl⟩ := ry
  exact PySem.SB.mul hz (fun t' tk => ⟨.str (PySem.Txt.mul i n), H, I.tok _, ⟨_, rfl⟩, q⟩)
theorem cutS_le (z : Str) (lo hi : Option Int) : (cutS z lo hi).length ≤ z.length := by
  unfold cutS
  show (((z.cps.toList.drop _).take _).toArray).size ≤ z.cps.size
  rw [List.size_toArray, List.length_take, List.length_drop, Array.length_toList]
  omega
end UF
namespace UF
theorem pi_listK {X : Cx} {tg : Expr} (K : PySem.W.Frag) (hK : X.K = K) {l : Expr} {tl : TE} (hl : PE X l tl) : PI X tg l (iList K tl) := by subst hK; exact pi_list hl
end UF
namespace Q
open PySem L2 U UX
/-! ### the law's draws -/
def top (i : Nat) : Stmt := PySem.Challenge.pw_usescale_k03_levels_and_subsets.main.body.getD i (.Pass ⟨0, 0, 0, 0⟩)

/-- the state of the draws: a list at S, the cells at L -/
def StA (H : Hp) (S L : Addr) : Prop := S ≠ L ∧ ∃ (ns : List Int) (a b c : Int), ns.length ≤ 63 ∧ H S = some (.lst [.ref L, .int a, .int b, .int c]) ∧ H L = some (.lst (ns.map V.int))
/-- what is not of the state stands -/
def Keeps (S L : Addr) (H H' : Hp) : Prop := ∀ b o, H b = some o → b ≠ S → b ≠ L → H' b = some o
theorem Keeps.trans {S L : Addr} {H H1 H2 : Hp} (a : Keeps S L H H1) (b : Keeps S L H1 H2) : Keeps S L H H2 := fun c o h n1 n2 => b c o (a c o h n1 n2) n1 n2
def spDraws (K : PySem.W.Frag) : Sp := fun vs H Q _ => ∃ (a : Addr) (ns : List Int), vs = [.ref a] ∧ SqL K H a (ns.map V.int) ∧ ns.length ≤ 63 ∧
  ∀ S L H', H S = none → H L = none → StA H' S L → Same H H' → Q (.ref S) H'
def spDraw : Sp := fun vs H Q _ => ∃ (S L : Addr) (m : Int), vs = [.ref S, .int m] ∧ StA H S L ∧ m.natAbs < 1073741824 ∧
  ∀ r H', 0 ≤ r → (0 < m → r < m) → StA H' S L → Keeps S L H H' → Q (.int r) H'
structure TxL (K : PySem.W.Frag) (mg : Str → Option Value) : Prop where
  int : mg "int" = none
  len : mg "len" = none
  range : mg "range" = none
  isinstance : mg "isinstance" = none
  bool : mg "bool" = none
  str : mg "str" = none
  tuple : mg "tuple" = none
  list : mg "list" = none

section
variable {P : Program} {w : World} {K : PySem.W.Frag} {mg : Str → Option Value} {base : Heap}
theorem sc__law_draws : FnScope ["_law_script", "_law_seed", "_law_cell"] ["_law_script"] (defScope (top 21)) := ⟨rfl, rfl, rfl, by decide +kernel, rfl, by decide +kernel, by decide +kernel⟩
theorem ok_draws {f : Addr} {fd : FuncData} (F : Fun K "_law_draws" "_law_draws" (top 21) f fd) (T : TxL K mg) : FnOk P w K mg base CX0 1 f fd ["_law_script"] (spDraws K) := by
  refine F.ok sc__law_draws (fun vs H Q E h => ?_) (fun cdv A outer s H vs Q E hr h => ?_)
  · obtain ⟨a, ns, rfl, _⟩ := h
    rfl
  · obtain ⟨a, ns, rfl, hS, hlen, k⟩ := h
    refine ⟨_, (pss_cons (ps_set (i := 1) sc__law_draws.nd rfl (Or.inl rfl) pe_int)
      (pss_cons (ps_for PassesOwn.never rfl (pi_list (pv 0)) (pg_name (i := 2) sc__law_draws.nd rfl (Or.inl rfl)) (pss_one (ps_set (i := 1) sc__law_draws.nd rfl (Or.inl rfl) (pe_op op_mod (pe_callTy call_int1 (by rfl) T.int (by decide +kernel) (pa_cons (pe_op op_add (pe_op op_add (pe_op op_mul (pv 1) pe_int) (pe_op op_mul (pv 2) pe_int)) pe_int) pa_nil)) pe_int))))
      (pss_one (ps_ret (pe_lst (pa_cons (pe_lc (own := [("_law_cell", 2)]) (g := (gName 2)) (by rfl) sc__law_draws.nd (pi_list (pv 0)) (blkOk_by (own := [("_law_cell", 2)]) (N := ["_law_script", "_law_seed", "_law_cell"]) (sc := defScope (top 21)) (by decide +kernel)) (fun _ _ _ _ _ => (pg_name (i := 2) sc__law_draws.nd rfl (Or.inl rfl))) (fun _ _ _ _ _ => pts_nil) (fun _ _ _ _ _ => (pe_callTy call_int1 (by rfl) T.int (by decide +kernel) (pa_cons (pv 2) pa_nil)))) (pa_cons pe_int (pa_cons (pv 1) (pa_cons pe_int pa_nil))))))))), ?_⟩
    refine ⟨_, rfl, a, rfl, ⟨_, hS⟩, for_list (K := K) (a := a) (xs := ns.map V.int) (fun i σ H2 => ∃ (z : Int) (v : Option V), σ = [some (.ref a), some (.int z), v] ∧ H2 = H)
      ⟨7, none, rfl, rfl⟩ (fun i σ H2 _ ⟨_, _, _, e⟩ => by rw [e]; exact hS) ?_ ?_⟩
    · rintro i y σ H2 hi ⟨z, v, rfl, rfl⟩
      obtain ⟨n, rfl, hn⟩ := at_map hi
      refine ⟨_, rfl, _, _, rfl, rfl, .inr ⟨by decide, by decide⟩, _, rfl, _, _, rfl, rfl, .inr ⟨by decide, by decide⟩, _, _, rfl, rfl, _, _, rfl, rfl, .inl ⟨_, rfl, ?_⟩⟩
      refine ⟨_, _, rfl, rfl, (by show (0 : Int) < 998244353; decide), ?_⟩
      exact ⟨_, _, rfl, rfl⟩
    · rintro σ H2 ⟨z, v, rfl, rfl⟩
      refine ⟨_, rfl, a, rfl, ⟨_, hS⟩, fun D hD => lc_list (K := K) (a := a) (xs := ns.map V.int) (fun i H3 => H3 = upd H2 D (.lst ((ns.take i).map V.int))) ?_ ?_ ?_ ?_⟩
      · simp
      · rintro i H3 _ rfl
        exact (sameNew hD).seq hS
      · rintro i y H3 hi rfl
        obtain ⟨n, rfl, hn⟩ := at_map hi
        refine ⟨rfl, ?_⟩
        refine tYesI (iteT ?_)
        refine ⟨_, rfl, .inl ⟨_, rfl, _, upd_same, ?_, ?_⟩⟩
        · rw [List.length_map, List.length_take]
          exact small1000 (by omega)
        · rw [upd_upd, take_snoc hn, List.map_append]
          rfl
      · rintro H3 rfl
        refine ⟨_, rfl, (by show 4 ≤ sizeLine; decide), fun S hS' => ?_⟩
        have hDS : D ≠ S := ne_of_none upd_same hS'
        refine k S D _ ((sameNew hD).free hS') hD ⟨hDS.symm, ns, 0, z, 0, hlen, upd_same, ?_⟩ ((sameNew hD).trans (sameNew hS'))
        rw [upd_ne hDS, upd_same]
        simp [List.take_of_length_le]
theorem sc__law_draw : FnScope ["_law_state", "_law_many", "_law_cell", "_law_digit", "_law_value"] ["_law_state", "_law_many"] (defScope (top 22)) := ⟨rfl, rfl, rfl, by decide +kernel, rfl, by decide +kernel, by decide +kernel⟩
theorem ok_draw {f : Addr} {fd : FuncData} (F : Fun K "_law_draw" "_law_draw" (top 22) f fd) (T : TxL K mg) : FnOk P w K mg base CX0 1 f fd ["_law_state", "_law_many"] spDraw := by
  refine F.ok sc__law_draw (fun vs H Q E h => ?_) (fun cdv A outer s H vs Q E hr h => ?_)
  · obtain ⟨S, L, m, rfl, _⟩ := h
    rfl
  · obtain ⟨S, L, m, rfl, hst, hm, k⟩ := h
    refine ⟨_, (pss_cons (ps_if (pt_cmpR op_lt (pv 1) pe_int (nomark _)) (pss_one (ps_ret pe_int)) pss_nil)
      (pss_cons (ps_while PassesOwn.never (PW.pt (pw_and (pt_cmpR op_lt (pe_ix ix_list (pv 0) pe_int (fun _ _ => rfl)) pe_int (nomark _)) (pw_and1 (pt_cmpR op_gt (pe_callB call_len_seq (by rfl) T.len (by decide +kernel) (pa_cons (pe_ix ix_list (pv 0) pe_int (fun _ _ => rfl)) pa_nil)) pe_int (nomark _))))) (pss_cons (ps_set (i := 2) sc__law_draw.nd rfl (Or.inl rfl) (pe_bm PySem.F.plainAttrs_list PySem.F.slot_list_pop PySem.F.type_list_pop mt_popAt (pe_ix ix_list (pv 0) pe_int (fun _ _ => rfl)) (pa_cons pe_int pa_nil)))
      (pss_one (ps_asg (pe_ifExp (pt_cmpR op_gt (pv 2) pe_int (nomark _)) (pv 2) (pe_un un_neg (pv 2))) (pg_sub (pv 0) pe_int set_list)))))
      (pss_cons (ps_if (pt_cmpR op_gt (pe_ix ix_list (pv 0) pe_int (fun _ _ => rfl)) pe_int (nomark _)) (pss_cons (ps_set (i := 3) sc__law_draw.nd rfl (Or.inl rfl) (pe_op op_mod (pe_callTy call_int1 (by rfl) T.int (by decide +kernel) (pa_cons (pe_ix ix_list (pv 0) pe_int (fun _ _ => rfl)) pa_nil)) (pv 1)))
      (pss_cons (ps_asg (pe_op op_fdivN (pe_ix ix_list (pv 0) pe_int (fun _ _ => rfl)) (pv 1)) (pg_sub (pv 0) pe_int set_list))
      (pss_one (ps_ret (pv 3))))) pss_nil)
      (pss_cons (ps_augS (pv 0) pe_int get_list pe_int ip_add set_list)
      (pss_cons (ps_set (i := 4) sc__law_draw.nd rfl (Or.inl rfl) (pe_op op_mod (pe_callTy call_int1 (by rfl) T.int (by decide +kernel) (pa_cons (pe_op op_add (pe_ix ix_list (pv 0) pe_int (fun _ _ => rfl)) (pe_op op_mul (pe_ix ix_list (pv 0) pe_int (fun _ _ => rfl)) pe_int)) pa_nil)) pe_int))
      (pss_cons (ps_set (i := 4) sc__law_draw.nd rfl (Or.inl rfl) (pe_op op_mod (pe_callTy call_int1 (by rfl) T.int (by decide +kernel) (pa_cons (pe_op op_mul (pv 4) (pv 4)) pa_nil)) pe_int))
      (pss_cons (ps_set (i := 4) sc__law_draw.nd rfl (Or.inl rfl) (pe_op op_mod (pe_callTy call_int1 (by rfl) T.int (by decide +kernel) (pa_cons (pe_op op_add (pe_op op_mul (pv 4) pe_int) (pe_op op_mul (pe_ix ix_list (pv 0) pe_int (fun _ _ => rfl)) pe_int)) pa_nil)) pe_int))
      (pss_one (ps_ret (pe_op op_mod (pe_callTy call_int1 (by rfl) T.int (by decide +kernel) (pa_cons (pe_op op_fdiv (pv 4) pe_int) pa_nil)) (pv 1))))))))))), ?_⟩
    obtain ⟨nSL, ns, a, b, c, hl, h1, h2⟩ := hst
    refine ⟨_, rfl, _, _, rfl, rfl, _, rfl, ?_⟩
    refine ifD (fun hm2 => ?_) (fun hm2 => ?_)
    · exact k 0 H (Int.le_refl 0) id ⟨nSL, ns, a, b, c, hl, h1, h2⟩ (fun _ _ e _ _ => e)
    refine whileX (fun M σ H2 => ∃ (v : Option V) (ns : List Int) (a : Int), M = ns.length ∧ σ = [some (.ref S), some (.int m), v, none, none] ∧ ns.length ≤ 63 ∧ H2 S = some (.lst [.ref L, .int a, .int b, .int c]) ∧ H2 L = some (.lst (ns.map V.int)) ∧ Keeps S L H H2)
      (fun σ H2 => ∃ (v : Option V) (ns : List Int) (a : Int), σ = [some (.ref S), some (.int m), v, none, none] ∧ ns.length ≤ 63 ∧ H2 S = some (.lst [.ref L, .int a, .int b, .int c]) ∧ H2 L = some (.lst (ns.map V.int)) ∧ Keeps S L H H2)
      _ ⟨none, ns, a, rfl, rfl, hl, h1, h2, fun _ _ e _ _ => e⟩ ?_ ?_
    · rintro σ H2 ⟨v, ns, a, rfl, hl, h1, h2, kp⟩
      refine ⟨_, rfl, S, _, _, _, rfl, rfl, SqL.of h1, rfl, _, _, rfl, rfl, _, rfl, ?_⟩
      refine ifD (fun ha => ?_) (fun ha => ?_)
      · refine ⟨_, rfl, S, _, _, _, rfl, rfl, SqL.of h1, rfl, .inl ⟨_, rfl, ?_⟩⟩
        refine ⟨_, rfl, _, _, rfl, rfl, (by show (0 : Int) < m; omega), ?_⟩
        refine ⟨_, rfl, S, _, _, _, rfl, rfl, SqL.of h1, rfl, ?_⟩
        refine ⟨_, rfl, _, _, rfl, rfl, ⟨by omega, by omega⟩, ?_⟩
        refine ⟨_, rfl, S, _, _, _, rfl, rfl, h1, rfl, ?_⟩
        refine ⟨_, rfl, ?_⟩
        refine k _ _ (Int.emod_nonneg _ (by omega)) (fun h0 => Int.emod_lt_of_pos _ h0) ⟨nSL, ns, _, b, c, hl, upd_same, (by rw [upd_ne nSL.symm]; exact h2)⟩ ?_
        intro d o e n1 n2
        rw [upd_ne n1]
        exact kp d o e n1 n2
      · refine ⟨_, rfl, S, _, _, _, rfl, rfl, SqL.of h1, by decide, rfl, ?_⟩
        refine ⟨_, _, rfl, rfl, ?_⟩
        refine ⟨S, _, _, _, rfl, rfl, h1, rfl, ?_⟩
        have g1 : ∀ o, (upd H2 S o) L = some (.lst (ns.map V.int)) := fun o => by rw [upd_ne nSL.symm]; exact h2
        refine ⟨_, rfl, S, _, _, _, rfl, rfl, SqL.of upd_same, rfl, ?_⟩
        refine ⟨_, rfl, S, _, _, _, rfl, rfl, SqL.of upd_same, rfl, ?_⟩
        refine ⟨_, _, rfl, rfl, .inr ⟨by decide, by decide⟩, _, _, rfl, rfl, .inl ⟨_, rfl, ?_⟩⟩
        refine ⟨_, _, rfl, rfl, (by show (0 : Int) < 998244353; decide), ?_⟩
        have e1 : 0 ≤ (b + (c + 1) * 7919) % 998244353 := Int.emod_nonneg _ (by decide)
        have e2 : (b + (c + 1) * 7919) % 998244353 < 998244353 := Int.emod_lt_of_pos _ (by decide)
        refine ⟨_, rfl, _, rfl, _, _, rfl, rfl, .inl ⟨by show -(2 ^ 64) < (b + (c + 1) * 7919) % 998244353; omega, by show (b + (c + 1) * 7919) % 998244353 < 2 ^ 64; omega⟩, .inl ⟨_, rfl, ?_⟩⟩
        refine ⟨_, _, rfl, rfl, (by show (0 : Int) < 1000000007; decide), ?_⟩
        refine ⟨_, rfl, _, _, rfl, rfl, .inr ⟨by decide, by decide⟩, ?_⟩
        refine ⟨_, rfl, S, _, _, _, rfl, rfl, SqL.of upd_same, rfl, _, _, rfl, rfl, .inr ⟨by decide, by decide⟩, _, _, rfl, rfl, .inl ⟨_, rfl, ?_⟩⟩
        refine ⟨_, _, rfl, rfl, (by show (0 : Int) < 2147483647; decide), ?_⟩
        refine ⟨_, rfl, _, _, rfl, rfl, ⟨by decide, by decide⟩, .inl ⟨_, rfl, ?_⟩⟩
        refine ⟨_, rfl, _, _, rfl, rfl, (by show (0 : Int) < m; omega), ?_⟩
        refine k _ _ (Int.emod_nonneg _ (by omega)) (fun h0 => Int.emod_lt_of_pos _ h0) ⟨nSL, ns, a, b, _, hl, upd_same, g1 _⟩ ?_
        intro d o e n1 n2
        rw [upd_ne n1]
        exact kp d o e n1 n2
    · intro nx hnx M σ H2
      rintro ⟨v, ns, a, rfl, rfl, hl, h1, h2, kp⟩
      refine ⟨_, rfl, S, _, _, _, rfl, rfl, SqL.of h1, rfl, _, _, rfl, rfl, _, rfl, ?_⟩
      refine ifD (fun ha => ?_) (fun ha => ?_)
      · refine ⟨_, rfl, S, _, _, _, rfl, rfl, SqL.of h1, rfl, ?_⟩
        refine ⟨_, _, rfl, .inl (SqL.of h2), _, _, rfl, rfl, _, rfl, ?_⟩
        refine ifD (fun hn => ?_) (fun hn => ?_)
        · refine ⟨_, fun _ _ h => h, ?_⟩
          refine ⟨_, rfl, S, _, _, _, rfl, rfl, SqL.of h1, rfl, .inl ⟨rfl, _, SqL.of h2⟩, ?_⟩
          obtain ⟨n, ns, rfl⟩ : ∃ n ns', ns = n :: ns' := by
            cases ns with
            | nil => exact absurd hn (by decide)
            | cons n ns' => exact ⟨n, ns', rfl⟩
          have hl' : ns.length + 1 ≤ 63 := hl
          refine ⟨L, _, _, 0, _, rfl, rfl, h2, by decide, by decide, ?_, rfl, ?_⟩
          · exact seqIndex_of (k := 0) (n := ((n :: ns).map V.int).length) (by decide) (by rw [List.length_map, List.length_cons]; omega)
          have g1 : ∀ o, (upd H2 L o) S = some (.lst [.ref L, .int a, .int b, .int c]) := fun o => by rw [upd_ne nSL]; exact h1
          have fin : ∀ z : Int, ∃ m', m' < (n :: ns).length ∧ ∃ (v : Option V) (ns_1 : List Int) (a : Int), m' = ns_1.length ∧ [some (V.ref S), some (V.int m), some (V.int n), none, none] = [some (.ref S), some (.int m), v, none, none] ∧ ns_1.length ≤ 63 ∧
              (upd (upd H2 L (.lst (ns.map V.int))) S (.lst [.ref L, .int z, .int b, .int c])) S = some (.lst [.ref L, .int a, .int b, .int c]) ∧ (upd (upd H2 L (.lst (ns.map V.int))) S (.lst [.ref L, .int z, .int b, .int c])) L = some (.lst (ns_1.map V.int)) ∧
              Keeps S L H (upd (upd H2 L (.lst (ns.map V.int))) S (.lst [.ref L, .int z, .int b, .int c])) := fun z =>
            ⟨ns.length, Nat.lt_succ_self _, _, ns, z, rfl, rfl, by omega, upd_same, by rw [upd_ne nSL.symm, upd_same], fun d o e n1 n2 => by rw [upd_ne n1, upd_ne n2]; exact kp d o e n1 n2⟩
          refine ⟨_, rfl, _, _, rfl, rfl, _, rfl, ?_⟩
          refine ifD (fun hc => ?_) (fun hc => ?_)
          · refine ⟨_, rfl, _, rfl, S, _, _, _, rfl, rfl, g1 _, rfl, ?_⟩
            exact fin n
          · refine ⟨_, rfl, _, rfl, _, rfl, S, _, _, _, rfl, rfl, g1 _, rfl, ?_⟩
            exact fin (-n)
        · exact hnx _ _ ⟨v, ns, a, rfl, hl, h1, h2, kp⟩
      · exact hnx _ _ ⟨v, ns, a, rfl, hl, h1, h2, kp⟩
end
/-! ### the law's same: the same data on both sides gives True -/
inductive Da (H : Hp) : Nat → V → V → Prop
  | non {n : Nat} : Da H n .non .non
  | bl {n : Nat} (b : Bool) : Da H n (.bl b) (.bl b)
  | int {n : Nat} (i : Int) : Da H n (.int i) (.int i)
  | str {n : Nat} (x : Str) : Da H n (.str x) (.str x)
  | lst {n : Nat} {a b : Addr} {xs ys : List V} (ha : H a = some (.lst xs)) (hb : H b = some (.lst ys)) (hl : xs.length = ys.length) (hz : ys.length ≤ 1000) (hi : ∀ (i : Nat) (x y : V), xs[i]? = some x → ys[i]? = some y → Da H n x y) : Da H (n + 1) (.ref a) (.ref b)
  | tup {n : Nat} {a b : Addr} {xs ys : List V} (ha : H a = some (.tup xs)) (hb : H b = some (.tup ys)) (hl : xs.length = ys.length) (hz : ys.length ≤ 1000) (hi : ∀ (i : Nat) (x y : V), xs[i]? = some x → ys[i]? = some y → Da H n x y) : Da H (n + 1) (.ref a) (.ref b)
def spSame (n : Nat) : Sp := fun vs H Q _ => ∃ x y, vs = [x, y] ∧ Da H n x y ∧ Q (.bl true) H
/-- what its own calls ask -/
def spSameR : Nat → Sp
  | 0 => fun _ _ _ _ => False
  | n + 1 => spSame n
section
variable {P : Program} {w : World} {K : PySem.W.Frag} {mg : Str → Option Value} {base : Heap}
theorem sc__law_same : FnScope ["_law_found", "_law_due", "_law_k"] ["_law_found", "_law_due"] (defScope (top 23)) := ⟨rfl, rfl, rfl, by decide +kernel, rfl, by decide +kernel, by decide +kernel⟩
theorem ok_same1 {f : Addr} {fd : FuncData} (F : Fun K "_law_same" "_law_same" (top 23) f fd) (T : TxL K mg) (n : Nat) (c__law_same : Cal P w K mg base CX0 n "_law_same" (spSameR n)) : FnOk P w K mg base CX0 (n + 1) f fd ["_law_found", "_law_due"] (spSame n) := by
  refine F.ok sc__law_same (fun vs H Q E h => ?_) (fun cdv A outer s H vs Q E hr h => ?_)
  · obtain ⟨x, y, rfl, _⟩ := h
    rfl
  · obtain ⟨x, y, rfl, hd, k⟩ := h
    refine ⟨_, (pss_cons (ps_if (pt_cmpR op_isN (pv 1) pe_non (nomark _)) (pss_one (ps_ret (pe_cmpR op_isN (pv 0) pe_non (nomark _)))) pss_nil)
      (pss_cons (ps_if (pt_cmpR op_isBA (pv 1) pe_bl (nomark _)) (pss_one (ps_ret (pe_cmpR op_isBA (pv 0) pe_bl (nomark _)))) pss_nil)
      (pss_cons (ps_if (pt_cmpR op_isBA (pv 1) pe_bl (nomark _)) (pss_one (ps_ret (pe_cmpR op_isBA (pv 0) pe_bl (nomark _)))) pss_nil)
      (pss_cons (ps_if (pt_val (pe_callB call_isi (by rfl) T.isinstance (by decide +kernel) (pa_cons (pv 1) (pa_cons (pe_bltn (v := .ty "int") (by rfl) T.int (by decide +kernel) rfl) pa_nil)))) (pss_one (ps_ret (pe_and (pe_callB call_isi (by rfl) T.isinstance (by decide +kernel) (pa_cons (pv 0) (pa_cons (pe_bltn (v := .ty "int") (by rfl) T.int (by decide +kernel) rfl) pa_nil))) (pe_and (pe_not (pe_callB call_isi (by rfl) T.isinstance (by decide +kernel) (pa_cons (pv 0) (pa_cons (pe_bltn (v := .ty "bool") (by rfl) T.bool (by decide +kernel) rfl) pa_nil)))) (pe_one (pe_cmpR op_eq (pv 0) (pv 1) (nomark _))))))) pss_nil)
      (pss_cons (ps_if (pt_val (pe_callB call_isi (by rfl) T.isinstance (by decide +kernel) (pa_cons (pv 1) (pa_cons (pe_bltn (v := .ty "str") (by rfl) T.str (by decide +kernel) rfl) pa_nil)))) (pss_one (ps_ret (pe_and (pe_callB call_isi (by rfl) T.isinstance (by decide +kernel) (pa_cons (pv 0) (pa_cons (pe_bltn (v := .ty "str") (by rfl) T.str (by decide +kernel) rfl) pa_nil))) (pe_one (pe_cmpR op_eq (pv 0) (pv 1) (nomark _)))))) pss_nil)
      (pss_cons (ps_if (PW.pt (pw_and (pt_val (pe_callB call_isi (by rfl) T.isinstance (by decide +kernel) (pa_cons (pv 1) (pa_cons (pe_bltn (v := .ty "tuple") (by rfl) T.tuple (by decide +kernel) rfl) pa_nil)))) (pw_and1 (pt_not (pt_val (pe_callB call_isi (by rfl) T.isinstance (by decide +kernel) (pa_cons (pv 0) (pa_cons (pe_bltn (v := .ty "tuple") (by rfl) T.tuple (by decide +kernel) rfl) pa_nil)))))))) (pss_one (ps_ret pe_bl)) pss_nil)
      (pss_cons (ps_if (PW.pt (pw_and (pt_val (pe_callB call_isi (by rfl) T.isinstance (by decide +kernel) (pa_cons (pv 1) (pa_cons (pe_bltn (v := .ty "list") (by rfl) T.list (by decide +kernel) rfl) pa_nil)))) (pw_and1 (pt_not (pt_val (pe_callB call_isi (by rfl) T.isinstance (by decide +kernel) (pa_cons (pv 0) (pa_cons (pe_bltn (v := .ty "list") (by rfl) T.list (by decide +kernel) rfl) pa_nil)))))))) (pss_one (ps_ret pe_bl)) pss_nil)
      (pss_cons (ps_if (pt_cmpR op_ne (pe_callB call_len_seq (by rfl) T.len (by decide +kernel) (pa_cons (pv 0) pa_nil)) (pe_callB call_len_seq (by rfl) T.len (by decide +kernel) (pa_cons (pv 1) pa_nil)) (nomark _)) (pss_one (ps_ret pe_bl)) pss_nil)
      (pss_cons (ps_for PassesOwn.never rfl (pi_range1 (by rfl) T.range (pa_cons (pe_callB call_len_seq (by rfl) T.len (by decide +kernel) (pa_cons (pv 1) pa_nil)) pa_nil)) (pg_name (i := 2) sc__law_same.nd rfl (Or.inl rfl)) (pss_one (ps_if (pt_not (pt_val (pe_c c__law_same hr (Nat.le_refl n) (by rfl) (pa_cons (pe_ix ix_ls (pv 0) (pv 2) (fun _ _ => rfl)) (pa_cons (pe_ix ix_ls (pv 1) (pv 2) (fun _ _ => rfl)) pa_nil))))) (pss_one (ps_ret pe_bl)) pss_nil)))
      (pss_one (ps_ret pe_bl))))))))))), ?_⟩
    cases hd with
    | non =>
      refine ⟨_, rfl, rfl, _, rfl, ?_⟩
      refine ifY rfl ?_
      exact ⟨_, rfl, rfl, k⟩
    | bl b =>
      refine ⟨_, rfl, rfl, _, rfl, ?_⟩
      refine ifN (fun z => nomatch z) ?_
      refine ⟨_, rfl, _, rfl, _, rfl, ?_⟩
      cases b with
      | true =>
        refine ifY rfl ?_
        exact ⟨_, rfl, _, rfl, k⟩
      | false =>
        refine ifN (by decide) ?_
        refine ⟨_, rfl, _, rfl, _, rfl, ?_⟩
        refine ifY rfl ?_
        exact ⟨_, rfl, _, rfl, k⟩
    | int i =>
      refine ⟨_, rfl, rfl, _, rfl, ?_⟩
      refine ifN (fun z => nomatch z) ?_
      refine ⟨_, rfl, _, rfl, _, rfl, ?_⟩
      refine ifN (fun z => nomatch z) ?_
      refine ⟨_, rfl, _, rfl, _, rfl, ?_⟩
      refine ifN (fun z => nomatch z) ?_
      refine ⟨_, rfl, _, _, _, _, true, rfl, .ty _, .base (.int i), kit_ty (by decide +kernel), _, rfl, ?_⟩
      refine iteT ?_
      refine ⟨_, rfl, _, _, _, _, true, rfl, .ty _, .base (.int i), kit_ty (by decide +kernel), _, rfl, ?_⟩
      refine iteT ?_
      refine ⟨_, rfl, _, _, _, _, false, rfl, .ty _, .base (.int i), kit_ty (by decide +kernel), _, rfl, _, rfl, ?_⟩
      refine iteT ?_
      refine ⟨_, rfl, _, rfl, rfl, ?_⟩
      rw [decide_eq_true rfl]
      exact k
    | str i =>
      refine ⟨_, rfl, rfl, _, rfl, ?_⟩
      refine ifN (fun z => nomatch z) ?_
      refine ⟨_, rfl, _, rfl, _, rfl, ?_⟩
      refine ifN (fun z => nomatch z) ?_
      refine ⟨_, rfl, _, rfl, _, rfl, ?_⟩
      refine ifN (fun z => nomatch z) ?_
      refine ⟨_, rfl, _, _, _, _, false, rfl, .ty _, .base (.str i), kit_ty (by decide +kernel), _, rfl, ?_⟩
      refine iteF ?_
      refine ⟨_, rfl, _, _, _, _, true, rfl, .ty _, .base (.str i), kit_ty (by decide +kernel), _, rfl, ?_⟩
      refine iteT ?_
      refine ⟨_, rfl, _, _, _, _, true, rfl, .ty _, .base (.str i), kit_ty (by decide +kernel), _, rfl, ?_⟩
      refine iteT ?_
      refine ⟨_, rfl, _, rfl, rfl, ?_⟩
      rw [decide_eq_true rfl]
      exact k
    | @lst n a b xs ys ha hb hl hz hi =>
      refine ⟨_, rfl, rfl, _, rfl, ?_⟩
      refine ifN (fun z => nomatch z) ?_
      refine ⟨_, rfl, _, rfl, _, rfl, ?_⟩
      refine ifN (fun z => nomatch z) ?_
      refine ⟨_, rfl, _, rfl, _, rfl, ?_⟩
      refine ifN (fun z => nomatch z) ?_
      refine ⟨_, rfl, _, _, _, _, false, rfl, .ty _, .base (.lst hb), kit_ty (by decide +kernel), _, rfl, ?_⟩
      refine iteF ?_
      refine ⟨_, rfl, _, _, _, _, false, rfl, .ty _, .base (.lst hb), kit_ty (by decide +kernel), _, rfl, ?_⟩
      refine iteF ?_
      refine ⟨_, rfl, _, _, _, _, false, rfl, .ty _, .base (.lst hb), kit_ty (by decide +kernel), _, rfl, ?_⟩
      refine iteF (iteF ?_)
      refine ⟨_, rfl, _, _, _, _, true, rfl, .ty _, .base (.lst hb), kit_ty (by decide +kernel), _, rfl, ?_⟩
      refine iteT ?_
      refine ⟨_, rfl, _, _, _, _, true, rfl, .ty _, .base (.lst ha), kit_ty (by decide +kernel), _, rfl, ?_⟩
      refine iteF ?_
      refine ⟨_, rfl, _, _, rfl, .inl (SqL.of ha), _, rfl, _, _, rfl, .inl (SqL.of hb), rfl, _, rfl, ?_⟩
      refine nifY (by rw [hl]) ?_
      refine ⟨_, rfl, _, _, rfl, .inl (SqL.of hb), _, rfl, by omega, by omega, for_range (lo := 0) (n := ys.length) (fun i σ H2 => ∃ v, σ = [some (.ref a), some (.ref b), v] ∧ H2 = H) ⟨none, rfl, rfl⟩ ?_ ?_⟩
      · rintro i σ H2 hin ⟨v, rfl, rfl⟩
        have hx : xs[i]? = some xs[i] := List.getElem?_eq_getElem (by omega)
        have hy : ys[i]? = some ys[i] := List.getElem?_eq_getElem hin
        refine ⟨_, rfl, _, rfl, .inl ⟨_, _, _, _, rfl, rfl, SqL.of ha, at_of (Int.zero_add _) hx, ?_⟩⟩
        refine ⟨_, rfl, _, rfl, .inl ⟨_, _, _, _, rfl, rfl, SqL.of hb, at_of (Int.zero_add _) hy, ?_⟩⟩
        refine ⟨_, _, rfl, hi i _ _ hx hy, _, rfl, ?_⟩
        refine iteF ?_
        exact ⟨_, rfl, rfl⟩
      · rintro σ H2 ⟨v, rfl, rfl⟩
        exact k
    | @tup n a b xs ys ha hb hl hz hi =>
      refine ⟨_, rfl, rfl, _, rfl, ?_⟩
      refine ifN (fun z => nomatch z) ?_
      refine ⟨_, rfl, _, rfl, _, rfl, ?_⟩
      refine ifN (fun z => nomatch z) ?_
      refine ⟨_, rfl, _, rfl, _, rfl, ?_⟩
      refine ifN (fun z => nomatch z) ?_
      refine ⟨_, rfl, _, _, _, _, false, rfl, .ty _, .base (.tup hb), kit_ty (by decide +kernel), _, rfl, ?_⟩
      refine iteF ?_
      refine ⟨_, rfl, _, _, _, _, false, rfl, .ty _, .base (.tup hb), kit_ty (by decide +kernel), _, rfl, ?_⟩
      refine iteF ?_
      refine ⟨_, rfl, _, _, _, _, true, rfl, .ty _, .base (.tup hb), kit_ty (by decide +kernel), _, rfl, ?_⟩
      refine iteT ?_
      refine ⟨_, rfl, _, _, _, _, true, rfl, .ty _, .base (.tup ha), kit_ty (by decide +kernel), _, rfl, ?_⟩
      refine iteF ?_
      refine ⟨_, rfl, _, _, _, _, false, rfl, .ty _, .base (.tup hb), kit_ty (by decide +kernel), _, rfl, ?_⟩
      refine iteF (iteF ?_)
      refine ⟨_, rfl, _, _, rfl, .inr (SqT.of ha), _, rfl, _, _, rfl, .inr (SqT.of hb), rfl, _, rfl, ?_⟩
      refine nifY (by rw [hl]) ?_
      refine ⟨_, rfl, _, _, rfl, .inr (SqT.of hb), _, rfl, by omega, by omega, for_range (lo := 0) (n := ys.length) (fun i σ H2 => ∃ v, σ = [some (.ref a), some (.ref b), v] ∧ H2 = H) ⟨none, rfl, rfl⟩ ?_ ?_⟩
      · rintro i σ H2 hin ⟨v, rfl, rfl⟩
        have hx : xs[i]? = some xs[i] := List.getElem?_eq_getElem (by omega)
        have hy : ys[i]? = some ys[i] := List.getElem?_eq_getElem hin
        refine ⟨_, rfl, _, rfl, .inr ⟨_, _, _, _, rfl, rfl, SqT.of ha, at_of (Int.zero_add _) hx, ?_⟩⟩
        refine ⟨_, rfl, _, rfl, .inr ⟨_, _, _, _, rfl, rfl, SqT.of hb, at_of (Int.zero_add _) hy, ?_⟩⟩
        refine ⟨_, _, rfl, hi i _ _ hx hy, _, rfl, ?_⟩
        refine iteF ?_
        exact ⟨_, rfl, rfl⟩
      · rintro σ H2 ⟨v, rfl, rfl⟩
        exact k
/-- what it keeps at every depth -/
theorem ok_same {f : Addr} {fd : FuncData} (F : Fun K "_law_same" "_law_same" (top 23) f fd) (T : TxL K mg) (hm : mg "_law_same" = some (.ref f)) (b : Binds K fd ["_law_found", "_law_due"] []) : ∀ n, FnOk P w K mg base CX0 (n + 1) f fd ["_law_found", "_law_due"] (spSame n)
  | 0 => ok_same1 F T 0 (cal_false hm F.kp b)
  | n + 1 => ok_same1 F T (n + 1) ⟨f, fd, _, ok_same F T hm b n, hm, F.kp, b⟩
end
/-! ### the scales of integers brought back -/
structure TxC (K : PySem.W.Frag) (mg : Str → Option Value) : Prop extends TxL K mg where
  g_MOST_DEPTH : ∃ u, mg "MOST_DEPTH" = some u ∧ RelV (.int 20) u
  g_MOST_GRADES : ∃ u, mg "MOST_GRADES" = some u ∧ RelV (.int 64) u
/-- a class of scales: its objects' attributes may be stored and read -/
structure SCls (K : PySem.W.Frag) (C : Addr) : Prop where
  cl : Cls K C
  label : NoAttr K C "label"
  size : NoAttr K C "size"
  zero_at : NoAttr K C "zero_at"
  one_at : NoAttr K C "one_at"
  depth : NoAttr K C "depth"
def spScaleInit (K : PySem.W.Frag) : Sp := fun vs H Q _ => ∃ (p C dx : Addr) (fs : List (Str × V)) (lb : Str) (sz z o : V) (d : Int), vs = [.ref p, .str lb, sz, z, o, .int d] ∧ d ≤ 20 ∧ SCls K C ∧ H p = some (.ins C dx fs) ∧ fs.length ≤ 900 ∧
  Q .non (upd H p (.ins C dx (putF "depth" (.int d) (putF "one_at" o (putF "zero_at" z (putF "size" sz (putF "label" (.str lb) fs)))))))
section
variable {P : Program} {w : World} {K : PySem.W.Frag} {mg : Str → Option Value} {base : Heap}
theorem sc_Scale___init__ : FnScope ["self", "label", "size", "zero_at", "one_at", "depth"] ["self", "label", "size", "zero_at", "one_at", "depth"] (defScope (inClass (top 13) 0)) := ⟨rfl, rfl, rfl, by decide +kernel, rfl, by decide +kernel, by decide +kernel⟩
theorem ok_scale_init {f : Addr} {fd : FuncData} (F : Fun K "__init__" "Scale.__init__" (inClass (top 13) 0) f fd) (T : TxC K mg) : FnOk P w K mg base CX0 1 f fd ["self", "label", "size", "zero_at", "one_at", "depth"] (spScaleInit K) := by
  refine F.ok sc_Scale___init__ (fun vs H Q E h => ?_) (fun cdv A outer s H vs Q E hr h => ?_)
  · obtain ⟨p, C, dx, fs, lb, sz, z, o, d, rfl, _⟩ := h
    rfl
  · obtain ⟨p, C, dx, fs, lb, sz, z, o, d, rfl, hd, SC, hp, hk, k⟩ := h
    refine ⟨_, (pss_cons (ps_if (pt_cmpR op_gt (pv 5) (pe_gx (by rfl) T.g_MOST_DEPTH) (nomark _)) (pss_one ps_never) pss_nil)
      (pss_cons (ps_fld (pv 0) (pv 1) rfl)
      (pss_cons (ps_fld (pv 0) (pv 2) rfl)
      (pss_cons (ps_fld (pv 0) (pv 3) rfl)
      (pss_cons (ps_fld (pv 0) (pv 4) rfl)
      (pss_one (ps_fld (pv 0) (pv 5) rfl))))))), ?_⟩
    refine ⟨_, rfl, _, _, rfl, rfl, _, rfl, ?_⟩
    refine ifN (by omega) ?_
    have l1 := putF_n (f := "label") (v := .str lb) hk
    have l2 := putF_n (f := "size") (v := sz) l1
    have l3 := putF_n (f := "zero_at") (v := z) l2
    have l4 := putF_n (f := "one_at") (v := o) l3
    refine ⟨_, rfl, _, rfl, p, C, dx, _, rfl, hp, SC.cl, SC.label, by omega, ?_⟩
    refine ⟨_, rfl, _, rfl, p, C, dx, _, rfl, upd_same, SC.cl, SC.size, by omega, ?_⟩
    refine ⟨_, rfl, _, rfl, p, C, dx, _, rfl, upd_same, SC.cl, SC.zero_at, by omega, ?_⟩
    refine ⟨_, rfl, _, rfl, p, C, dx, _, rfl, upd_same, SC.cl, SC.one_at, by omega, ?_⟩
    refine ⟨_, rfl, _, rfl, p, C, dx, _, rfl, upd_same, SC.cl, SC.depth, by omega, ?_⟩
    rw [upd_upd, upd_upd, upd_upd, upd_upd]
    exact k
end
structure LCls (K : PySem.W.Frag) (C : Addr) : Prop extends SCls K C where
  _names : NoAttr K C "_names"
  _found : NoAttr K C "_found"
/-- the attributes that a listed scale gets, behind those that it has -/
def listedFs (fs : List (Str × V)) (lb : Str) (n : Nat) (z o : V) (l d : Addr) : List (Str × V) :=
  putF "_found" (.ref d) (putF "_names" (.ref l) (putF "depth" (.int 1) (putF "one_at" o (putF "zero_at" z (putF "size" (.int (n : Int)) (putF "label" (.str lb) fs))))))
def spListedInit (K : PySem.W.Frag) : Sp := fun vs H Q _ => ∃ (p C dx a : Addr) (fs : List (Str × V)) (lb : Str) (zs : List Str) (z o : V), vs = [.ref p, .str lb, .ref a, z, o] ∧ LCls K C ∧ H p = some (.ins C dx fs) ∧ fs.length ≤ 800 ∧
  H a = some (.lst (zs.map V.str)) ∧ zs.length ≤ 1000 ∧
  ∀ l d H', H l = none → H d = none → But p H H' → H' l = some (.lst (zs.map V.str)) → H' d = some (.dK (foundTo zs zs.length)) → H' p = some (.ins C dx (listedFs fs lb zs.length z o l d)) → Q .non H'
section
variable {P : Program} {w : World} {K : PySem.W.Frag} {mg : Str → Option Value} {base : Heap}
theorem sc_ListedScale___init__ : FnScope ["self", "label", "names", "zero_at", "one_at", "place"] ["self", "label", "names", "zero_at", "one_at"] (defScope (inClass (top 14) 0)) := ⟨rfl, rfl, rfl, by decide +kernel, rfl, by decide +kernel, by decide +kernel⟩
theorem ok_listed_init {f : Addr} {fd : FuncData} (F : Fun K "__init__" "ListedScale.__init__" (inClass (top 14) 0) f fd) (T : TxC K mg) (cf_Scale___init__ : CFB P w K mg base CX0 1 "Scale" "__init__" (spScaleInit K)) : FnOk P w K mg base CX0 2 f fd ["self", "label", "names", "zero_at", "one_at"] (spListedInit K) := by
  refine F.ok sc_ListedScale___init__ (fun vs H Q E h => ?_) (fun cdv A outer s H vs Q E hr h => ?_)
  · obtain ⟨p, C, dx, a, fs, lb, zs, z, o, rfl, _⟩ := h
    rfl
  · obtain ⟨p, C, dx, a, fs, lb, zs, z, o, rfl, LC, hp, hk, ha, hz, k⟩ := h
    have nap : a ≠ p := ne_of ha hp (by intro z; cases z)
    refine ⟨_, (pss_cons (ps_expr (pe_cf cf_Scale___init__ hr (by decide) (by rfl) (pa_cons (pv 0) (pa_cons (pv 1) (pa_cons (pe_callB call_len_seq (by rfl) T.len (by decide +kernel) (pa_cons (pv 2) pa_nil)) (pa_cons (pv 3) (pa_cons (pv 4) (pa_cons pe_int pa_nil))))))))
      (pss_cons (ps_fld (pv 0) (pe_callTy call_list_of (by rfl) T.list (by decide +kernel) (pa_cons (pv 2) pa_nil)) rfl)
      (pss_one (ps_fld (pv 0) (pe_dc (own := [("place", 5)]) (g := (gName 5)) (by rfl) sc_ListedScale___init__.nd (pi_range1 (by rfl) T.range (pa_cons (pe_callB call_len_seq (by rfl) T.len (by decide +kernel) (pa_cons (pv 2) pa_nil)) pa_nil)) (blkOk_by (own := [("place", 5)]) (N := ["self", "label", "names", "zero_at", "one_at", "place"]) (sc := defScope (inClass (top 14) 0)) (by decide +kernel)) (fun _ _ _ _ _ => (pg_name (i := 5) sc_ListedScale___init__.nd rfl (Or.inl rfl))) (fun _ _ _ _ _ => pts_nil) (fun _ _ _ _ _ => (pe_ix (ix_listK K rfl) (pv 2) (pv 5) (fun _ _ => rfl))) (fun _ _ _ _ _ => (pv 5))) rfl)))), ?_⟩
    refine ⟨_, rfl, _, rfl, _, rfl, a, _, rfl, .inl (SqL.of ha), _, rfl, _, rfl, ?_⟩
    refine ⟨p, C, dx, fs, lb, _, z, o, 1, rfl, by decide, LC.toSCls, hp, by omega, ?_⟩
    have l1 := putF_n (f := "label") (v := .str lb) hk
    have l2 := putF_n (f := "size") (v := .int (((zs.map V.str).length : Nat) : Int)) l1
    have l3 := putF_n (f := "zero_at") (v := z) l2
    have l4 := putF_n (f := "one_at") (v := o) l3
    have l5 := putF_n (f := "depth") (v := .int 1) l4
    -- self._names = list(names)
    refine ⟨_, rfl, a, _, rfl, .inl (SqL.of (by rw [upd_ne nap]; exact ha)), fun l hl => ?_⟩
    have npl : p ≠ l := ne_of_none upd_same hl
    have nal : a ≠ l := ne_of_none (by rw [upd_ne nap]; exact ha) hl
    refine ⟨_, rfl, p, C, dx, _, rfl, (by rw [upd_ne npl]; exact upd_same), LC.cl, LC._names, by omega, ?_⟩
    have l6 := putF_n (f := "_names") (v := .ref l) l5
    -- self._found = {..}
    have ha2 : ∀ u v w, (upd (upd (upd H p u) l v) p w) a = some (.lst (zs.map V.str)) := fun u v w => by rw [upd_ne nap, upd_ne nal, upd_ne nap]; exact ha
    refine ⟨_, rfl, a, _, rfl, .inl (SqL.of (ha2 _ _ _)), _, rfl, (by rw [List.length_map]; omega), (by rw [List.length_map]; omega), fun D hD => dcF_range (lo := 0) (n := (zs.map V.str).length) (foundTo zs) rfl ?_ ?_⟩
    · intro i hi
      rw [List.length_map] at hi
      have naD : a ≠ D := ne_of_none (ha2 _ _ _) hD
      refine ⟨rfl, ?_⟩
      refine tYesI (iteT ?_)
      refine ⟨_, rfl, _, rfl, a, _, _, _, rfl, rfl, SqL.of (by rw [upd_ne naD]; exact ha2 _ _ _), at_of (Int.zero_add _) (at_mapS hi), ?_⟩
      refine ⟨_, rfl, _, Sum.inr _, rfl, upd_same, small1000 (Nat.le_trans (foundTo_le zs i) (by omega)), ?_⟩
      rw [upd_upd, Int.zero_add]
      rfl
    · have npD : p ≠ D := ne_of_none upd_same hD
      have nlD : l ≠ D := ne_of_none (by rw [upd_ne npl.symm, upd_same]) hD
      refine ⟨_, rfl, p, C, dx, _, rfl, (by rw [upd_ne npD]; exact upd_same), LC.cl, LC._found, by omega, ?_⟩
      have hl0 : H l = none := by rw [upd_ne npl.symm] at hl; exact hl
      have hD0 : H D = none := by rw [upd_ne npD.symm, upd_ne nlD.symm, upd_ne npD.symm] at hD; exact hD
      have b3 : ∀ u v w x y, But p H (upd (upd (upd (upd (upd H p u) l v) p w) D x) p y) := fun u v w x y b o e nb => by
        have nl : b ≠ l := ne_of_none e hl0
        have nd : b ≠ D := ne_of_none e hD0
        rw [upd_ne nb, upd_ne nd, upd_ne nb, upd_ne nl, upd_ne nb]; exact e
      refine k l D _ hl0 hD0 (b3 _ _ _ _ _) ?_ ?_ ?_
      · rw [upd_ne npl.symm, upd_ne nlD, upd_ne npl.symm, upd_same]
      · rw [upd_ne npD.symm, upd_same, List.length_map]
      · rw [upd_same, List.length_map]; rfl
end
/-! ### at_name, and what is no name -/
/-- UnknownGrade.__init__ on a new error -/
def spUgInit (K : PySem.W.Frag) (CU : Addr) : Sp := fun vs H Q _ => ∃ (a : Addr) (nm : Str), vs = [.ref a, .str nm] ∧ H a = some (exo a CU none) ∧ nm.length ≤ 100000 ∧
  ∀ dx, H dx = none → dx ≠ a → Q .non (upd (upd H dx (exd dx [("name", .str nm)])) a (exo a CU (some dx)))
/-- a scale at p that finds its names in the dict at d -/
def FindOb (C : Addr) (H : Hp) (p d : Addr) (kvs : List (Key × V)) : Prop := ∃ dx fs, H p = some (.ins C dx fs) ∧ fld fs "_found" = some (.ref d) ∧ fld fs "find_at" = none ∧ fld fs "at_name" = none ∧ H d = some (.dK kvs)
def spFindAt (C : Addr) : Sp := fun vs H Q _ => ∃ (p d : Addr) (kvs : List (Key × V)) (nm : Str), vs = [.ref p, .str nm] ∧ FindOb C H p d kvs ∧ Q ((valV kvs (Sum.inr nm)).getD .non) H
def spAtName (C CU : Addr) : Sp := fun vs H Q E => ∃ (p d : Addr) (kvs : List (Key × V)) (nm : Str), vs = [.ref p, .str nm] ∧ FindOb C H p d kvs ∧ nm.length ≤ 100000 ∧
  ((∃ i, valV kvs (Sum.inr nm) = some (.int i) ∧ Q (.int i) H) ∨ (valV kvs (Sum.inr nm) = none ∧ ∀ d', H d' = none → E (.ref CU) (some d') (upd H d' (.xd [("name", .str nm)]))))
section
variable {P : Program} {w : World} {K : PySem.W.Frag} {mg : Str → Option Value} {base : Heap} {C CU CN CE : Addr}
theorem sc_UnknownGrade___init__ : FnScope ["self", "name"] ["self", "name"] (defScope (inClass (top 9) 0)) := ⟨rfl, rfl, rfl, by decide +kernel, rfl, by decide +kernel, by decide +kernel⟩
theorem ok_ug_init {f : Addr} {fd : FuncData} {B newId initId : String} {bt : List Value} (F : Fun K "__init__" "UnknownGrade.__init__" (inClass (top 9) 0) f fd) (T : OexB K CU B newId initId bt) (hn : NoAttr K CU "name") (b_NameMissing : BInit K mg "NameMissing" initId) : FnOk P w K mg base CX0 1 f fd ["self", "name"] (spUgInit K CU) := by
  refine F.ok sc_UnknownGrade___init__ (fun vs H Q E h => ?_) (fun cdv A outer s H vs Q E hr h => ?_)
  · obtain ⟨a, nm, rfl, _⟩ := h
    rfl
  · obtain ⟨a, nm, rfl, ha, hl, k⟩ := h
    refine ⟨_, (pss_cons (ps_expr (pe_binit (B := B) (newId := newId) (bt := bt) b_NameMissing (by rfl) (pa_cons (pv 0) (pa_cons (pe_joined (PJ.cons pe_str (PJ.cons (pe_fmt (pv 1)) PJ.nil))) pa_nil))))
      (pss_one (ps_ostB (B := B) (newId := newId) (initId := initId) (bt := bt) (pv 0) (pv 1)))), ?_⟩
    have z1 : (Str.empty ++ ("no grade is called " : Str)).length ≤ 19 := by decide +kernel
    have z2 := app_le z1 hl
    have z3 : 19 + 100000 ≤ sizeLine := by decide
    refine ⟨_, rfl, ?_⟩
    refine ⟨_, rfl, Nat.le_trans z1 (by decide), ?_⟩
    refine ⟨_, rfl, .inl ⟨_, rfl, Nat.le_trans hl (by decide), _, rfl, Nat.le_trans z2 z3, ?_⟩⟩
    refine ⟨a, CU, _, rfl, (by show 1 ≤ 1000; decide), T, ha, ?_⟩
    refine ⟨_, rfl, _, rfl, a, CU, rfl, T, hn, .inl ⟨ha, fun dx n1 n2 => ?_⟩⟩
    exact k dx n1 n2
theorem sc_ListedScale_find_at : FnScope ["self", "name"] ["self", "name"] (defScope (inClass (top 14) 2)) := ⟨rfl, rfl, rfl, by decide +kernel, rfl, by decide +kernel, by decide +kernel⟩
theorem ok_find_at {f : Addr} {fd : FuncData} (F : Fun K "find_at" "ListedScale.find_at" (inClass (top 14) 2) f fd) (LC : LCls K C) : FnOk P w K mg base CX0 1 f fd ["self", "name"] (spFindAt C) := by
  refine F.ok sc_ListedScale_find_at (fun vs H Q E h => ?_) (fun cdv A outer s H vs Q E hr h => ?_)
  · obtain ⟨p, d, kvs, nm, rfl, _⟩ := h
    rfl
  · obtain ⟨p, d, kvs, nm, rfl, ⟨dx, fs, hp, h1, _, _, hd⟩, k⟩ := h
    have hu := hu_of hr
    refine ⟨_, (pss_one (ps_ret (pe_dget1 hu (pe_fld (pv 0) rfl) (pv 1) ⟨rfl, rfl, rfl, rfl⟩))), ?_⟩
    exact ⟨_, rfl, p, C, dx, _, _, rfl, hp, LC.cl, LC._found, h1, d, rfl, .inl ⟨kvs, .inl hd⟩, _, rfl, _, DGet.k (k := Sum.inr nm) hd, k⟩
theorem sc_Scale_at_name : FnScope ["self", "name", "place"] ["self", "name"] (defScope (inClass (top 13) 9)) := ⟨rfl, rfl, rfl, by decide +kernel, rfl, by decide +kernel, by decide +kernel⟩
theorem ok_at_name {f : Addr} {fd : FuncData} (F : Fun K "at_name" "Scale.at_name" (inClass (top 13) 9) f fd) (m_find_at : Met P w K mg base CX0 1 C "find_at" (spFindAt C)) (xm_UnknownGrade : ExM P w K mg base 1 "UnknownGrade" CU (spUgInit K CU)) :
    FnOk P w K mg base (L2.CX P w) 3 f fd ["self", "name"] (spAtName C CU) := by
  refine F.okX sc_Scale_at_name (fun vs H Q E h => ?_) (fun cdv A outer s H vs Q E hr h => ?_)
  · obtain ⟨p, d, kvs, nm, rfl, _⟩ := h
    rfl
  · obtain ⟨p, d, kvs, nm, rfl, fo, hl, k⟩ := h
    obtain ⟨dx, fs, hp, h1, h2, h3, hd⟩ := id fo
    refine ⟨_, (pss_cons (ps_set (i := 2) sc_Scale_at_name.nd rfl (Or.inl rfl) (pe_mt m_find_at hr (by decide) (pv 0) (pa_cons (pv 1) pa_nil)))
      (pss_cons (ps_if (pt_cmpR op_isN (pv 2) pe_non (nomark _)) (pss_one (ps_raise rfl (takes_of rfl rfl rfl rfl) (pmk_B xm_UnknownGrade hr (by decide) (by rfl) (pa_cons (pv 1) pa_nil)))) pss_nil)
      (pss_one (ps_ret (pv 2))))), ?_⟩
    refine ⟨_, rfl, p, dx, fs, rfl, hp, h2, _, rfl, p, d, kvs, nm, rfl, fo, ?_⟩
    rcases k with ⟨i, e, k⟩ | ⟨e, k⟩
    · rw [e]
      refine ⟨_, rfl, rfl, _, rfl, ?_⟩
      refine ifN (fun z => nomatch z) ?_
      exact ⟨_, rfl, k⟩
    · rw [e]
      refine ⟨_, rfl, rfl, _, rfl, ?_⟩
      refine ifY rfl ?_
      refine ⟨_, rfl, (by show 1 ≤ 1000; decide), fun a ha => ?_⟩
      refine ⟨a, nm, rfl, upd_same, hl, fun dx' n1 n2 => ⟨rfl, dx', [("name", .str nm)], upd_same, ?_, ?_, ?_⟩⟩
      · rw [upd_ne n2, upd_same]
      · rw [upd_ne n2] at n1; exact n1
      · rw [upd_ne n2] at n1
        have z : upd (del (upd (upd (upd H a (exo a CU none)) dx' (exd dx' [("name", V.str nm)])) a (exo a CU (some dx'))) a) dx' (HO.xd [("name", V.str nm)]) = upd H dx' (.xd [("name", .str nm)]) := by
          funext b
          by_cases h1 : b = dx'
          · subst h1; rw [upd_same, upd_same]
          · rw [upd_ne h1, upd_ne h1]
            by_cases h2 : b = a
            · subst h2; rw [del_same, ha]
            · rw [del_ne h2, upd_ne h2, upd_ne h1, upd_ne h2]
        rw [z]
        exact k dx' n1
end
/-! ### places() -/
def spPlaces (C : Addr) : Sp := fun vs H Q _ => ∃ (p dx : Addr) (fs : List (Str × V)) (n : Nat), vs = [.ref p] ∧ H p = some (.ins C dx fs) ∧ fld fs "size" = some (.int (n : Int)) ∧ n ≤ 64 ∧ ∀ l, H l = none → Q (.ref l) (upd H l (.lst (rgV 0 (n : Int))))
section
variable {P : Program} {w : World} {K : PySem.W.Frag} {mg : Str → Option Value} {base : Heap} {C : Addr}
theorem sc_Scale_places : FnScope ["self"] ["self"] (defScope (inClass (top 13) 1)) := ⟨rfl, rfl, rfl, by decide +kernel, rfl, by decide +kernel, by decide +kernel⟩
theorem ok_places {f : Addr} {fd : FuncData} (F : Fun K "places" "Scale.places" (inClass (top 13) 1) f fd) (T : TxC K mg) (SC : SCls K C) : FnOk P w K mg base CX0 1 f fd ["self"] (spPlaces C) := by
  refine F.ok sc_Scale_places (fun vs H Q E h => ?_) (fun cdv A outer s H vs Q E hr h => ?_)
  · obtain ⟨p, dx, fs, n, rfl, _⟩ := h
    rfl
  · obtain ⟨p, dx, fs, n, rfl, hp, hs, hn, k⟩ := h
    refine ⟨_, (pss_cons (ps_if (pt_cmpR op_isN (pe_fld (pv 0) rfl) pe_non (nomark _)) (pss_one ps_never) pss_nil)
      (pss_one (ps_ret (pe_listRg (by rfl) (by rfl) T.list (prg_1 (by rfl) T.range (pe_fld (pv 0) rfl)))))), ?_⟩
    refine ⟨_, rfl, p, C, dx, _, _, rfl, hp, SC.cl, SC.size, hs, rfl, _, rfl, ?_⟩
    refine ifN (fun z => nomatch z) ?_
    refine ⟨_, rfl, p, C, dx, _, _, rfl, hp, SC.cl, SC.size, hs, _, rfl, RgOk.of_le (by decide) (by omega) (by decide) (by omega), fun l hl => ?_⟩
    exact k l hl
end
/-! ### scales whose places are the integers below n: places, within_all, bound_at -/
/-- an object of the class C stands at p: a scale of n grades with this order -/
structure ObOk (C : Addr) (Ob : Hp → Addr → Nat → (Int → Int → Bool) → Prop) : Prop where
  at_ : ∀ {H p n W}, Ob H p n W → ∃ dx fs, H p = some (.ins C dx fs) ∧ fld fs "size" = some (.int (n : Int)) ∧ fld fs "places" = none ∧ fld fs "within_at" = none ∧ fld fs "within_all" = none ∧ n ≤ 64
  same : ∀ {H H' p n W}, Ob H p n W → Same H H' → Ob H' p n W
abbrev OB := Hp → Addr → Nat → (Int → Int → Bool) → Prop
def spWithin (Ob : OB) : Sp := fun vs H Q _ => ∃ (p : Addr) (n : Nat) (W : Int → Int → Bool) (a b : Int), vs = [.ref p, .int a, .int b] ∧ Ob H p n W ∧ 0 ≤ a ∧ a < (n : Int) ∧ 0 ≤ b ∧ b < (n : Int) ∧ Q (.bl (W a b)) H
def spAll (Ob : OB) : Sp := fun vs H Q _ => ∃ (p l : Addr) (n : Nat) (W : Int → Int → Bool) (u : Int) (us : List Int), vs = [.ref p, .int u, .ref l] ∧ Ob H p n W ∧ 0 ≤ u ∧ u < (n : Int) ∧ H l = some (.lst (us.map V.int)) ∧ (∀ x ∈ us, 0 ≤ x ∧ x < (n : Int)) ∧ Q (.bl (us.all fun x => W u x)) H
def uppers (n : Nat) (W : Int → Int → Bool) (a b : Int) : List Int := ((List.range n).map fun (i : Nat) => (i : Int)).filter fun u => W a u && W b u
/-- the least bound, or none -/
def boundI (n : Nat) (W : Int → Int → Bool) (a b : Int) : Option Int := (uppers n W a b).find? fun u => (uppers n W a b).all fun x => W u x
def optV : Option Int → V
  | none => .non
  | some i => .int i
def spBound (Ob : OB) : Sp := fun vs H Q _ => ∃ (p : Addr) (n : Nat) (W : Int → Int → Bool) (a b : Int), vs = [.ref p, .int a, .int b] ∧ Ob H p n W ∧ 0 ≤ a ∧ a < (n : Int) ∧ 0 ≤ b ∧ b < (n : Int) ∧ ∀ H', Same H H' → Q (optV (boundI n W a b)) H'
theorem uppers_succ (n : Nat) (W : Int → Int → Bool) (a b : Int) : uppers (n + 1) W a b = uppers n W a b ++ (if (W a (n : Int) && W b (n : Int)) = true then [(n : Int)] else []) := by
  unfold uppers
  rw [List.range_succ, List.map_append, List.filter_append]
  congr 1
  rw [List.map_cons, List.map_nil, List.filter_cons, List.filter_nil]
theorem uppers_mem {n : Nat} {W : Int → Int → Bool} {a b x : Int} (h : x ∈ uppers n W a b) : 0 ≤ x ∧ x < (n : Int) := by
  unfold uppers at h
  obtain ⟨h1, _⟩ := List.mem_filter.mp h
  obtain ⟨i, hi, rfl⟩ := List.mem_map.mp h1
  have := List.mem_range.mp hi
  exact ⟨by omega, by omega⟩
theorem uppers_le (n : Nat) (W : Int → Int → Bool) (a b : Int) : (uppers n W a b).length ≤ n := by
  unfold uppers
  refine Nat.le_trans (List.length_filter_le _ _) ?_
  rw [List.length_map, List.length_range]
  exact Nat.le_refl _
section
variable {P : Program} {w : World} {K : PySem.W.Frag} {mg : Str → Option Value} {base : Heap} {C : Addr} {Ob : OB}
theorem sc_Scale_within_all : FnScope ["self", "place", "others", "other"] ["self", "place", "others"] (defScope (inClass (top 13) 6)) := ⟨rfl, rfl, rfl, by decide +kernel, rfl, by decide +kernel, by decide +kernel⟩
theorem ok_within_all {f : Addr} {fd : FuncData} (F : Fun K "within_all" "Scale.within_all" (inClass (top 13) 6) f fd) (OK : ObOk C Ob) (m_within_at : Met P w K mg base CX0 1 C "within_at" (spWithin Ob)) : FnOk P w K mg base CX0 2 f fd ["self", "place", "others"] (spAll Ob) := by
  refine F.ok sc_Scale_within_all (fun vs H Q E h => ?_) (fun cdv A outer s H vs Q E hr h => ?_)
  · obtain ⟨p, l, n, W, u, us, rfl, _⟩ := h
    rfl
  · obtain ⟨p, l, n, W, u, us, rfl, ob, u0, u1, hl, hu, k⟩ := h
    obtain ⟨dx, fs, hp, _, _, hw, _, hn⟩ := OK.at_ ob
    refine ⟨_, (pss_cons (ps_for PassesOwn.never rfl (pi_list (pv 2)) (pg_name (i := 3) sc_Scale_within_all.nd rfl (Or.inl rfl)) (pss_one (ps_if (pt_not (pt_val (pe_mt m_within_at hr (by decide) (pv 0) (pa_cons (pv 1) (pa_cons (pv 3) pa_nil))))) (pss_one (ps_ret pe_bl)) pss_nil)))
      (pss_one (ps_ret pe_bl))), ?_⟩
    refine ⟨_, rfl, l, rfl, ⟨_, SqL.of hl⟩, for_list (K := K) (a := l) (xs := us.map V.int) (fun i σ H2 => ∃ v, σ = [some (.ref p), some (.int u), some (.ref l), v] ∧ H2 = H ∧ ∀ x ∈ us.take i, W u x = true)
      ⟨none, rfl, rfl, by simp⟩ (fun i σ H2 _ ⟨_, _, e, _⟩ => by rw [e]; exact SqL.of hl) ?_ ?_⟩
    · rintro i y σ H2 hi ⟨v, rfl, rfl, ht⟩
      obtain ⟨x, rfl, hx⟩ := at_map hi
      have hm : x ∈ us := List.mem_of_getElem? hx
      refine ⟨_, rfl, p, dx, fs, rfl, hp, hw, _, rfl, _, rfl, ?_⟩
      refine ⟨p, n, W, u, x, rfl, ob, u0, u1, (hu x hm).1, (hu x hm).2, _, rfl, ?_⟩
      cases e : W u x with
      | true =>
        refine iteF ?_
        refine ⟨_, rfl, rfl, ?_⟩
        intro z hz
        rw [take_snoc hx, List.mem_append] at hz
        rcases hz with hz | hz
        · exact ht z hz
        · rw [List.mem_singleton] at hz
          subst hz; exact e
      | false =>
        refine iteT ?_
        have ea : (us.all fun x => W u x) = false := by
          rw [List.all_eq_false]
          exact ⟨x, hm, by rw [e]; decide⟩
        rw [ea] at k
        exact k
    · rintro σ H2 ⟨v, rfl, rfl, ht⟩
      rw [List.length_map, List.take_of_length_le (Nat.le_refl _)] at ht
      have ea : (us.all fun x => W u x) = true := List.all_eq_true.mpr ht
      rw [ea] at k
      exact k
theorem sc_Scale_bound_at : FnScope ["self", "first", "second", "uppers", "place"] ["self", "first", "second"] (defScope (inClass (top 13) 5)) := ⟨rfl, rfl, rfl, by decide +kernel, rfl, by decide +kernel, by decide +kernel⟩
theorem ok_bound {f : Addr} {fd : FuncData} (F : Fun K "bound_at" "Scale.bound_at" (inClass (top 13) 5) f fd) (OK : ObOk C Ob) (m_within_at : Met P w K mg base CX0 1 C "within_at" (spWithin Ob)) (m_within_all : Met P w K mg base CX0 2 C "within_all" (spAll Ob))
    (m_places : Met P w K mg base CX0 1 C "places" (spPlaces C)) : FnOk P w K mg base CX0 3 f fd ["self", "first", "second"] (spBound Ob) := by
  refine F.ok sc_Scale_bound_at (fun vs H Q E h => ?_) (fun cdv A outer s H vs Q E hr h => ?_)
  · obtain ⟨p, n, W, a, b, rfl, _⟩ := h
    rfl
  · obtain ⟨p, n, W, a, b, rfl, ob, a0, a1, b0, b1, k⟩ := h
    obtain ⟨dx, fs, hp, hs, hpl, hw, hwa, hn⟩ := OK.at_ ob
    refine ⟨_, (pss_cons (ps_setLc (i := 3) (own := [("place", 4)]) (g := (gName 4)) (by rfl) sc_Scale_bound_at.nd rfl rfl (sw_true rfl rfl rfl (by decide +kernel)) (pi_list (pe_mt0 m_places hr (by decide) (pv 0))) (blkOk_by (own := [("place", 4)]) (N := ["self", "first", "second", "uppers", "place"]) (sc := defScope (inClass (top 13) 5)) (by decide +kernel)) (fun _ _ _ _ _ => (pg_name (i := 4) sc_Scale_bound_at.nd rfl (Or.inl rfl))) (fun _ _ _ _ _ => (pts_one (PW.pt (pw_and (pt_val (pe_mt m_within_at hr (by decide) (pv 0) (pa_cons (pv 1) (pa_cons (pv 4) pa_nil)))) (pw_and1 (pt_val (pe_mt m_within_at hr (by decide) (pv 0) (pa_cons (pv 2) (pa_cons (pv 4) pa_nil))))))))) (fun _ _ _ _ _ => (pv 4)))
      (pss_cons (ps_for PassesOwn.never rfl (pi_list (pv 3)) (pg_name (i := 4) sc_Scale_bound_at.nd rfl (Or.inl rfl)) (pss_one (ps_if (pt_val (pe_mt m_within_all hr (by decide) (pv 0) (pa_cons (pv 4) (pa_cons (pv 3) pa_nil)))) (pss_one (ps_ret (pv 4))) pss_nil)))
      (pss_one (ps_ret pe_non)))), ?_⟩
    refine ⟨_, rfl, p, dx, fs, rfl, hp, hpl, ?_⟩
    refine ⟨p, dx, fs, n, rfl, hp, hs, hn, fun l hl => ?_⟩
    refine ⟨l, rfl, ⟨_, SqL.of upd_same⟩, fun D hD => lcF_list (xs := rgV 0 (n : Int)) (fun i => (uppers i W a b).map V.int) hD (SqL.of upd_same) rfl ?_ ?_⟩
    · intro i x hx
      obtain ⟨rfl, hi⟩ := rg_inv hx
      have sm : ∀ u, Same H (upd (upd H l (.lst (rgV 0 (n : Int)))) D u) := fun u => (sameNew hl).trans (sameNew hD)
      refine ⟨rfl, ?_⟩
      refine ⟨_, rfl, p, dx, fs, rfl, sm _ _ _ hp, hw, _, rfl, _, rfl, ?_⟩
      refine ⟨p, n, W, a, (i : Int), rfl, OK.same ob (sm _), a0, a1, by omega, hi, _, rfl, ?_⟩
      refine ifB (fun e1 => ?_) (fun e1 => ?_)
      · refine ⟨_, rfl, p, dx, fs, rfl, sm _ _ _ hp, hw, _, rfl, _, rfl, ?_⟩
        refine ⟨p, n, W, b, (i : Int), rfl, OK.same ob (sm _), b0, b1, by omega, hi, _, rfl, ?_⟩
        refine ifB (fun e2 => ?_) (fun e2 => ?_)
        · refine ⟨_, rfl, _, upd_same, (by rw [List.length_map]; exact small1000 (Nat.le_trans (uppers_le i W a b) (by omega))), ?_⟩
          rw [upd_upd, uppers_succ, e1, e2, List.map_append]; rfl
        · rw [uppers_succ, e1, e2]; simp
      · refine iteF ?_
        rw [uppers_succ, e1]; simp
    · rw [rgV_length]
      have en : ((n : Int) - 0).toNat = n := by omega
      rw [en]
      have sm : ∀ u, Same H (upd (upd H l (.lst (rgV 0 (n : Int)))) D u) := fun u => (sameNew hl).trans (sameNew hD)
      refine gNameI ?_
      dsimp only
      refine ⟨_, rfl, D, rfl, ⟨_, SqL.of upd_same⟩, for_list (K := K) (a := D) (xs := (uppers n W a b).map V.int) (fun i σ H2 => ∃ v, σ = [some (.ref p), some (.int a), some (.int b), some (.ref D), v] ∧ H2 = upd (upd H l (.lst (rgV 0 (n : Int)))) D (.lst ((uppers n W a b).map V.int)) ∧ ∀ x ∈ (uppers n W a b).take i, ((uppers n W a b).all fun y => W x y) = false)
        ⟨none, rfl, rfl, by simp⟩ (fun i σ H2 _ ⟨_, _, e, _⟩ => by rw [e]; exact SqL.of upd_same) ?_ ?_⟩
      · rintro i y σ H2 hi ⟨v, rfl, rfl, ht⟩
        obtain ⟨x, rfl, hx⟩ := at_map hi
        have hm : x ∈ uppers n W a b := List.mem_of_getElem? hx
        refine ⟨_, rfl, p, dx, fs, rfl, sm _ _ _ hp, hwa, _, rfl, _, rfl, ?_⟩
        refine ⟨p, D, n, W, x, _, rfl, OK.same ob (sm _), (uppers_mem hm).1, (uppers_mem hm).2, upd_same, fun z hz => uppers_mem hz, _, rfl, ?_⟩
        refine ifB (fun e => ?_) (fun e => ?_)
        · refine ⟨_, rfl, ?_⟩
          have z : boundI n W a b = some x := find_at hx e ht
          rw [z] at k
          exact k _ (sm _)
        · refine ⟨_, rfl, rfl, ?_⟩
          intro z hz
          rw [take_snoc hx, List.mem_append] at hz
          rcases hz with hz | hz
          · exact ht z hz
          · rw [List.mem_singleton] at hz
            subst hz; exact e
      · rintro σ H2 ⟨v, rfl, rfl, ht⟩
        rw [List.length_map, List.take_of_length_le (Nat.le_refl _)] at ht
        have z : boundI n W a b = none := find_none ht
        rw [z] at k
        exact k _ (sm _)
end
/-! ### levels and sets -/
structure TxS (K : PySem.W.Frag) (mg : Str → Option Value) : Prop extends TxC K mg where
  g_MOST_SUBSET_THINGS : ∃ u, mg "MOST_SUBSET_THINGS" = some u ∧ RelV (.int 6) u
def mxI (a b : Int) : Int := if b ≤ a then a else b
def mnI (a b : Int) : Int := if a ≤ b then a else b
def spI2 (g : Int → Int → Int) : Sp := fun vs H Q _ => ∃ a b : Int, vs = [.int a, .int b] ∧ Q (.int (g a b)) H
/-- a method of two places that asks its object nothing -/
def spOp (g : Int → Int → Int) : Sp := fun vs H Q _ => ∃ (x : V) (a b : Int), vs = [x, .int a, .int b] ∧ Q (.int (g a b)) H
/-- a listed scale stands at p -/
structure LsOb (C : Addr) (H : Hp) (p dx l d : Addr) (lb : Str) (zs : List Str) : Prop where
  ob : H p = some (.ins C dx (listedFs [] lb zs.length (.int 0) (.int ((zs.length : Int) - 1)) l d))
  nl : H l = some (.lst (zs.map V.str))
  fd : H d = some (.dK (foundTo zs zs.length))
theorem padOk6 : ∀ c : Nat, c ≤ 6 → PadOk (c : Int) = true := by decide
def levNames (n : Nat) : List Str := (List.range n).map fun (i : Nat) => num (i : Int)
def subName (c i : Nat) : Str := Txt.zfill (UF.binT i) (c : Int)
def subNames (c : Nat) : List Str := (List.range (2 ^ c)).map (subName c)
def spLevInit (C : Addr) : Sp := fun vs H Q _ => ∃ (p dx : Addr) (n : Nat), vs = [.ref p, .int (n : Int)] ∧ 1 ≤ n ∧ n ≤ 64 ∧ H p = some (.ins C dx []) ∧
  ∀ l d lb H', H l = none → H d = none → But p H H' → LsOb C H' p dx l d lb (levNames n) → Q .non H'
def spSubInit (C : Addr) : Sp := fun vs H Q _ => ∃ (p dx : Addr) (c : Nat), vs = [.ref p, .int (c : Int)] ∧ 1 ≤ c ∧ c ≤ 6 ∧ H p = some (.ins C dx []) ∧
  ∀ l d lb H', H l = none → H d = none → But p H H' → LsOb C H' p dx l d lb (subNames c) → Q .non H'
def spBinNames : Sp := fun vs H Q _ => ∃ c : Nat, vs = [.int (c : Int)] ∧ c ≤ 6 ∧ ∀ l, H l = none → Q (.ref l) (upd H l (.lst ((subNames c).map V.str)))
section
variable {P : Program} {w : World} {K : PySem.W.Frag} {mg : Str → Option Value} {base : Heap} {C : Addr}
theorem sc_greater : FnScope ["first", "second"] ["first", "second"] (defScope (top 2)) := ⟨rfl, rfl, rfl, by decide +kernel, rfl, by decide +kernel, by decide +kernel⟩
theorem ok_greater {f : Addr} {fd : FuncData} (F : Fun K "greater" "greater" (top 2) f fd) : FnOk P w K mg base CX0 1 f fd ["first", "second"] (spI2 mxI) := by
  refine F.ok sc_greater (fun vs H Q E h => ?_) (fun cdv A outer s H vs Q E hr h => ?_)
  · obtain ⟨a, b, rfl, _⟩ := h
    rfl
  · obtain ⟨a, b, rfl, k⟩ := h
    refine ⟨_, (pss_one (ps_ret (pe_ifExp (pt_cmpR op_ge (pv 0) (pv 1) (nomark _)) (pv 0) (pv 1)))), ?_⟩
    refine ⟨_, rfl, _, rfl, _, _, rfl, rfl, _, rfl, ?_⟩
    unfold mxI at k
    refine ifD (fun e => ?_) (fun e => ?_)
    · rw [if_pos e] at k; exact ⟨_, rfl, k⟩
    · rw [if_neg e] at k; exact ⟨_, rfl, k⟩
theorem sc_lesser : FnScope ["first", "second"] ["first", "second"] (defScope (top 3)) := ⟨rfl, rfl, rfl, by decide +kernel, rfl, by decide +kernel, by decide +kernel⟩
theorem ok_lesser {f : Addr} {fd : FuncData} (F : Fun K "lesser" "lesser" (top 3) f fd) : FnOk P w K mg base CX0 1 f fd ["first", "second"] (spI2 mnI) := by
  refine F.ok sc_lesser (fun vs H Q E h => ?_) (fun cdv A outer s H vs Q E hr h => ?_)
  · obtain ⟨a, b, rfl, _⟩ := h
    rfl
  · obtain ⟨a, b, rfl, k⟩ := h
    refine ⟨_, (pss_one (ps_ret (pe_ifExp (pt_cmpR op_le (pv 0) (pv 1) (nomark _)) (pv 0) (pv 1)))), ?_⟩
    refine ⟨_, rfl, _, rfl, _, _, rfl, rfl, _, rfl, ?_⟩
    unfold mnI at k
    refine ifD (fun e => ?_) (fun e => ?_)
    · rw [if_pos e] at k; exact ⟨_, rfl, k⟩
    · rw [if_neg e] at k; exact ⟨_, rfl, k⟩
theorem sc_LevelScale_sum_at : FnScope ["self", "first", "second"] ["self", "first", "second"] (defScope (inClass (top 17) 1)) := ⟨rfl, rfl, rfl, by decide +kernel, rfl, by decide +kernel, by decide +kernel⟩
theorem ok_lev_sum {f : Addr} {fd : FuncData} (F : Fun K "sum_at" "LevelScale.sum_at" (inClass (top 17) 1) f fd) (c_greater : Cal P w K mg base CX0 1 "greater" (spI2 mxI)) : FnOk P w K mg base CX0 2 f fd ["self", "first", "second"] (spOp mxI) := by
  refine F.ok sc_LevelScale_sum_at (fun vs H Q E h => ?_) (fun cdv A outer s H vs Q E hr h => ?_)
  · obtain ⟨x, a, b, rfl, _⟩ := h
    rfl
  · obtain ⟨x, a, b, rfl, k⟩ := h
    refine ⟨_, (pss_one (ps_ret (pe_c c_greater hr (by decide) (by rfl) (pa_cons (pv 1) (pa_cons (pv 2) pa_nil))))), ?_⟩
    exact ⟨_, rfl, _, rfl, a, b, rfl, k⟩
theorem sc_LevelScale_product_at : FnScope ["self", "first", "second"] ["self", "first", "second"] (defScope (inClass (top 17) 2)) := ⟨rfl, rfl, rfl, by decide +kernel, rfl, by decide +kernel, by decide +kernel⟩
theorem ok_lev_product {f : Addr} {fd : FuncData} (F : Fun K "product_at" "LevelScale.product_at" (inClass (top 17) 2) f fd) (c_lesser : Cal P w K mg base CX0 1 "lesser" (spI2 mnI)) : FnOk P w K mg base CX0 2 f fd ["self", "first", "second"] (spOp mnI) := by
  refine F.ok sc_LevelScale_product_at (fun vs H Q E h => ?_) (fun cdv A outer s H vs Q E hr h => ?_)
  · obtain ⟨x, a, b, rfl, _⟩ := h
    rfl
  · obtain ⟨x, a, b, rfl, k⟩ := h
    refine ⟨_, (pss_one (ps_ret (pe_c c_lesser hr (by decide) (by rfl) (pa_cons (pv 1) (pa_cons (pv 2) pa_nil))))), ?_⟩
    exact ⟨_, rfl, _, rfl, a, b, rfl, k⟩
def wLev (a b : Int) : Bool := decide (a ≤ b)
def wSub (a b : Int) : Bool := decide (V.int (Builtin.bitAnd a b) = V.int a)
def ObLs (C : Addr) (W0 : Int → Int → Bool) : OB := fun H p n W => ∃ (dx l d : Addr) (lb : Str) (zs : List Str), n = zs.length ∧ n ≤ 64 ∧ W = W0 ∧ LsOb C H p dx l d lb zs
theorem sc_LevelScale_within_at : FnScope ["self", "first", "second"] ["self", "first", "second"] (defScope (inClass (top 17) 3)) := ⟨rfl, rfl, rfl, by decide +kernel, rfl, by decide +kernel, by decide +kernel⟩
theorem ok_lev_within {f : Addr} {fd : FuncData} (F : Fun K "within_at" "LevelScale.within_at" (inClass (top 17) 3) f fd) : FnOk P w K mg base CX0 1 f fd ["self", "first", "second"] (spWithin (ObLs C wLev)) := by
  refine F.ok sc_LevelScale_within_at (fun vs H Q E h => ?_) (fun cdv A outer s H vs Q E hr h => ?_)
  · obtain ⟨p, n, W, a, b, rfl, _⟩ := h
    rfl
  · obtain ⟨p, n, W, a, b, rfl, ⟨dx, l, d, lb, zs, _, _, rfl, _⟩, _, _, _, _, k⟩ := h
    refine ⟨_, (pss_one (ps_ret (pe_cmpR op_le (pv 1) (pv 2) (nomark _)))), ?_⟩
    exact ⟨_, rfl, _, rfl, _, _, rfl, rfl, k⟩
theorem sc_SubsetScale_sum_at : FnScope ["self", "first", "second"] ["self", "first", "second"] (defScope (inClass (top 18) 1)) := ⟨rfl, rfl, rfl, by decide +kernel, rfl, by decide +kernel, by decide +kernel⟩
theorem ok_sub_sum {f : Addr} {fd : FuncData} (F : Fun K "sum_at" "SubsetScale.sum_at" (inClass (top 18) 1) f fd) : FnOk P w K mg base CX0 1 f fd ["self", "first", "second"] (spOp Builtin.bitOr) := by
  refine F.ok sc_SubsetScale_sum_at (fun vs H Q E h => ?_) (fun cdv A outer s H vs Q E hr h => ?_)
  · obtain ⟨x, a, b, rfl, _⟩ := h
    rfl
  · obtain ⟨x, a, b, rfl, k⟩ := h
    refine ⟨_, (pss_one (ps_ret (pe_op op_or (pv 1) (pv 2)))), ?_⟩
    exact ⟨_, rfl, _, rfl, a, b, rfl, rfl, k⟩
theorem sc_SubsetScale_product_at : FnScope ["self", "first", "second"] ["self", "first", "second"] (defScope (inClass (top 18) 2)) := ⟨rfl, rfl, rfl, by decide +kernel, rfl, by decide +kernel, by decide +kernel⟩
theorem ok_sub_product {f : Addr} {fd : FuncData} (F : Fun K "product_at" "SubsetScale.product_at" (inClass (top 18) 2) f fd) : FnOk P w K mg base CX0 1 f fd ["self", "first", "second"] (spOp Builtin.bitAnd) := by
  refine F.ok sc_SubsetScale_product_at (fun vs H Q E h => ?_) (fun cdv A outer s H vs Q E hr h => ?_)
  · obtain ⟨x, a, b, rfl, _⟩ := h
    rfl
  · obtain ⟨x, a, b, rfl, k⟩ := h
    refine ⟨_, (pss_one (ps_ret (pe_op op_and (pv 1) (pv 2)))), ?_⟩
    exact ⟨_, rfl, _, rfl, a, b, rfl, rfl, k⟩
theorem sc_SubsetScale_within_at : FnScope ["self", "first", "second"] ["self", "first", "second"] (defScope (inClass (top 18) 3)) := ⟨rfl, rfl, rfl, by decide +kernel, rfl, by decide +kernel, by decide +kernel⟩
theorem ok_sub_within {f : Addr} {fd : FuncData} (F : Fun K "within_at" "SubsetScale.within_at" (inClass (top 18) 3) f fd) : FnOk P w K mg base CX0 1 f fd ["self", "first", "second"] (spWithin (ObLs C wSub)) := by
  refine F.ok sc_SubsetScale_within_at (fun vs H Q E h => ?_) (fun cdv A outer s H vs Q E hr h => ?_)
  · obtain ⟨p, n, W, a, b, rfl, _⟩ := h
    rfl
  · obtain ⟨p, n, W, a, b, rfl, ⟨dx, l, d, lb, zs, _, _, rfl, _⟩, _, _, _, _, k⟩ := h
    refine ⟨_, (pss_one (ps_ret (pe_cmpR op_eq (pe_op op_and (pv 1) (pv 2)) (pv 1) (nomark _)))), ?_⟩
    exact ⟨_, rfl, _, rfl, _, _, rfl, rfl, _, rfl, rfl, k⟩
theorem sc_binary_names : FnScope ["length", "place"] ["length"] (defScope (top 19)) := ⟨rfl, rfl, rfl, by decide +kernel, rfl, by decide +kernel, by decide +kernel⟩
theorem ok_bin_names {f : Addr} {fd : FuncData} (F : Fun K "binary_names" "binary_names" (top 19) f fd) (T : TxC K mg) : FnOk P w K mg base CX0 1 f fd ["length"] spBinNames := by
  refine F.ok sc_binary_names (fun vs H Q E h => ?_) (fun cdv A outer s H vs Q E hr h => ?_)
  · obtain ⟨c, rfl, _⟩ := h
    rfl
  · obtain ⟨c, rfl, hc, k⟩ := h
    refine ⟨_, (pss_one (ps_ret (pe_lc (own := [("place", 1)]) (g := (gName 1)) (by rfl) sc_binary_names.nd (pi_range1 (by rfl) T.range (pa_cons (pe_op op_shl pe_int (pv 0)) pa_nil)) (blkOk_by (own := [("place", 1)]) (N := ["length", "place"]) (sc := defScope (top 19)) (by decide +kernel)) (fun _ _ _ _ _ => (pg_name (i := 1) sc_binary_names.nd rfl (Or.inl rfl))) (fun _ _ _ _ _ => pts_nil) (fun _ _ _ _ _ => (pe_m1 PySem.F.slot_str_zfill PySem.F.type_str_zfill mt_zfill (pe_joined1 (UF.pe_fmtB (pv 1))) (pv 0)))))), ?_⟩
    obtain ⟨m, hm⟩ : ∃ m : Nat, 2 ^ c = m := ⟨_, rfl⟩
    have h2 : m ≤ 64 := by rw [← hm]; exact Nat.pow_le_pow_right (by decide) hc
    have ei : (1 : Int) * 2 ^ ((c : Int)).toNat = (m : Int) := by rw [Int.toNat_natCast, Int.one_mul, ← hm]; exact (Int.natCast_pow 2 c).symm
    have en : ((1 : Int) * 2 ^ ((c : Int)).toNat).toNat = m := by rw [ei, Int.toNat_natCast]
    refine ⟨_, rfl, _, _, rfl, rfl, ⟨by omega, by omega, by decide⟩, _, rfl, by rw [ei]; omega, by rw [ei]; omega, fun D hD => ?_⟩
    rw [en]
    refine lcF_range (lo := 0) (n := m) (fun i => (List.range i).map fun j => V.str (subName c j)) rfl ?_ ?_
    · intro i hi
      refine ⟨rfl, tYesI (iteT ?_)⟩
      refine ⟨_, rfl, i, by rw [Int.zero_add], by omega, ⟨_, rfl⟩, _, rfl, _, _, rfl, rfl, padOk6 c hc, ?_⟩
      refine ⟨_, upd_same, (by rw [List.length_map, List.length_range]; exact small1000 (by omega)), ?_⟩
      rw [upd_upd, range_map_snoc]; rfl
    · have e : (List.range m).map (fun j => V.str (subName c j)) = (subNames c).map V.str := by unfold subNames; rw [List.map_map, hm]; rfl
      rw [e]
      exact k D hD
theorem levNames_len (n : Nat) : (levNames n).length = n := by unfold levNames; rw [List.length_map, List.length_range]
theorem subNames_len (n : Nat) : (subNames n).length = 2 ^ n := by unfold subNames; rw [List.length_map, List.length_range]
theorem sc_LevelScale___init__ : FnScope ["self", "count", "names", "number"] ["self", "count"] (defScope (inClass (top 17) 0)) := ⟨rfl, rfl, rfl, by decide +kernel, rfl, by decide +kernel, by decide +kernel⟩
theorem ok_lev_init {f : Addr} {fd : FuncData} (F : Fun K "__init__" "LevelScale.__init__" (inClass (top 17) 0) f fd) (T : TxC K mg) (LC : LCls K C) (cf_ListedScale___init__ : CFB P w K mg base CX0 2 "ListedScale" "__init__" (spListedInit K)) :
    FnOk P w K mg base CX0 3 f fd ["self", "count"] (spLevInit C) := by
  refine F.ok sc_LevelScale___init__ (fun vs H Q E h => ?_) (fun cdv A outer s H vs Q E hr h => ?_)
  · obtain ⟨p, dx, n, rfl, _⟩ := h
    rfl
  · obtain ⟨p, dx, n, rfl, h1, h2, hp, k⟩ := h
    refine ⟨_, (pss_cons (ps_if (pt_not (pt_chain op_le op_le pe_int (pv 1) (pe_gx (by rfl) T.g_MOST_GRADES))) (pss_one ps_never) pss_nil)
      (pss_cons (ps_setLc (i := 2) (own := [("number", 3)]) (g := (gName 3)) (by rfl) sc_LevelScale___init__.nd rfl rfl (sw_true rfl rfl rfl (by decide +kernel)) (pi_range1 (by rfl) T.range (pa_cons (pv 1) pa_nil)) (blkOk_by (own := [("number", 3)]) (N := ["self", "count", "names", "number"]) (sc := defScope (inClass (top 17) 0)) (by decide +kernel)) (fun _ _ _ _ _ => (pg_name (i := 3) sc_LevelScale___init__.nd rfl (Or.inl rfl))) (fun _ _ _ _ _ => pts_nil) (fun _ _ _ _ _ => (pe_callTy call_str_int (by rfl) T.str (by decide +kernel) (pa_cons (pv 3) pa_nil))))
      (pss_one (ps_expr (pe_cf cf_ListedScale___init__ hr (by decide) (by rfl) (pa_cons (pv 0) (pa_cons (pe_joined (PJ.cons pe_str (PJ.cons (pe_fmt (pv 1)) (PJ.cons pe_str PJ.nil)))) (pa_cons (pv 2) (pa_cons pe_int (pa_cons (pe_op op_sub (pv 1) pe_int) pa_nil)))))))))), ?_⟩
    refine ⟨_, rfl, _, _, rfl, rfl, _, rfl, ?_⟩
    refine ifY (by omega) ?_
    refine ⟨_, _, rfl, rfl, _, rfl, ?_⟩
    refine nifY (by omega) ?_
    refine tNextI ?_
    dsimp only
    refine st_seq ?_
    refine ⟨_, rfl, _, rfl, by omega, by omega, fun N hN => lcF_range (lo := 0) (n := n) (fun i => (List.range i).map fun (j : Nat) => V.str (num (j : Int))) rfl ?_ ?_⟩
    · intro i hi
      refine ⟨rfl, tYesI (iteT ?_)⟩
      refine ⟨_, rfl, _, rfl, num_log _ (by omega) (by omega), _, upd_same, (by rw [List.length_map, List.length_range]; exact small1000 (by omega)), ?_⟩
      rw [upd_upd, range_map_snoc, Int.zero_add]
    have eN : (List.range n).map (fun (j : Nat) => V.str (num (j : Int))) = (levNames n).map V.str := by unfold levNames; rw [List.map_map]; rfl
    rw [eN]
    have npN : p ≠ N := ne_of_none hp hN
    refine gNameI ?_
    dsimp only
    have c1 : (Str.empty ++ ("(levels " : Str)).length ≤ 8 := by decide +kernel
    have c2 := app_le c1 (num_short n (by omega) (by omega))
    have c3 := app_le c2 (show (")" : Str).length ≤ 1 by decide +kernel)
    refine ⟨_, rfl, ?_⟩
    refine ⟨_, rfl, sz c1 (by decide), ?_⟩
    refine ⟨_, rfl, .inr ⟨_, rfl, num_log _ (by omega) (by omega), _, rfl, sz c2 (by decide), ?_⟩⟩
    refine ⟨_, rfl, sz c3 (by decide), ?_⟩
    refine ⟨_, rfl, _, rfl, _, _, rfl, rfl, ?_⟩
    refine ⟨p, C, dx, N, _, _, levNames n, .int 0, _, rfl, LC, (by rw [upd_ne npN]; exact hp), by decide, upd_same, by rw [levNames_len]; omega, fun l d H' hl hd b e1 e2 e3 => ?_⟩
    refine k l d (Str.empty ++ ("(levels " : Str) ++ num (n : Int) ++ (")" : Str)) H' (upd_none hl).2 (upd_none hd).2 (fun b' o' e nb => ?_) ⟨?_, e1, e2⟩
    · refine b _ _ ?_ nb
      rw [upd_ne (ne_of_none e hN)]; exact e
    · rw [e3, levNames_len]
theorem sc_SubsetScale___init__ : FnScope ["self", "count", "names"] ["self", "count"] (defScope (inClass (top 18) 0)) := ⟨rfl, rfl, rfl, by decide +kernel, rfl, by decide +kernel, by decide +kernel⟩
theorem ok_sub_init {f : Addr} {fd : FuncData} (F : Fun K "__init__" "SubsetScale.__init__" (inClass (top 18) 0) f fd) (T : TxS K mg) (LC : LCls K C) (cf_ListedScale___init__ : CFB P w K mg base CX0 2 "ListedScale" "__init__" (spListedInit K))
    (c_binary_names : Cal P w K mg base CX0 1 "binary_names" spBinNames) : FnOk P w K mg base CX0 3 f fd ["self", "count"] (spSubInit C) := by
  refine F.ok sc_SubsetScale___init__ (fun vs H Q E h => ?_) (fun cdv A outer s H vs Q E hr h => ?_)
  · obtain ⟨p, dx, c, rfl, _⟩ := h
    rfl
  · obtain ⟨p, dx, c, rfl, h1, h2, hp, k⟩ := h
    refine ⟨_, (pss_cons (ps_if (pt_not (pt_chain op_le op_le pe_int (pv 1) (pe_gx (by rfl) T.g_MOST_SUBSET_THINGS))) (pss_one ps_never) pss_nil)
      (pss_cons (ps_set (i := 2) sc_SubsetScale___init__.nd rfl (Or.inl rfl) (pe_c c_binary_names hr (by decide) (by rfl) (pa_cons (pv 1) pa_nil)))
      (pss_one (ps_expr (pe_cf cf_ListedScale___init__ hr (by decide) (by rfl) (pa_cons (pv 0) (pa_cons (pe_joined (PJ.cons pe_str (PJ.cons (pe_fmt (pv 1)) (PJ.cons pe_str PJ.nil)))) (pa_cons (pv 2) (pa_cons pe_int (pa_cons (pe_op op_sub (pe_callB call_len_seq (by rfl) T.len (by decide +kernel) (pa_cons (pv 2) pa_nil)) pe_int) pa_nil)))))))))), ?_⟩
    refine ⟨_, rfl, _, _, rfl, rfl, _, rfl, ?_⟩
    refine ifY (by omega) ?_
    refine ⟨_, _, rfl, rfl, _, rfl, ?_⟩
    refine nifY (by omega) ?_
    refine tNextI ?_
    dsimp only
    refine st_seq ?_
    refine ⟨_, rfl, c, rfl, h2, fun N hN => ?_⟩
    have h3 : (subNames c).length ≤ 64 := by rw [subNames_len]; exact Nat.pow_le_pow_right (n := 2) (by decide) h2
    have npN : p ≠ N := ne_of_none hp hN
    refine gNameI ?_
    dsimp only
    have c1 : (Str.empty ++ ("(subsets " : Str)).length ≤ 9 := by decide +kernel
    have c2 := app_le c1 (num_short c (by omega) (by omega))
    have c3 := app_le c2 (show (")" : Str).length ≤ 1 by decide +kernel)
    refine ⟨_, rfl, ?_⟩
    refine ⟨_, rfl, sz c1 (by decide), ?_⟩
    refine ⟨_, rfl, .inr ⟨_, rfl, num_log _ (by omega) (by omega), _, rfl, sz c2 (by decide), ?_⟩⟩
    refine ⟨_, rfl, sz c3 (by decide), ?_⟩
    refine ⟨_, rfl, _, rfl, N, _, rfl, .inl (SqL.of upd_same), _, _, rfl, rfl, ?_⟩
    refine ⟨p, C, dx, N, _, _, subNames c, .int 0, _, rfl, LC, (by rw [upd_ne npN]; exact hp), by decide, upd_same, by omega, fun l d H' hl hd b e1 e2 e3 => ?_⟩
    refine k l d (Str.empty ++ ("(subsets " : Str) ++ num (c : Int) ++ (")" : Str)) H' (upd_none hl).2 (upd_none hd).2 (fun b' o' e nb => ?_) ⟨?_, e1, e2⟩
    · refine b _ _ ?_ nb
      rw [upd_ne (ne_of_none e hN)]; exact e
    · rw [e3, List.length_map]
end
/-! ### law k03: its own helpers -/
def zb (c : Nat) (z : Int) : List Int := ((List.range c).map fun (k : Nat) => z / 2 ^ k % 2).reverse
def plI (xs : List Int) : Int := xs.foldl (fun p x => p * 2 + x) 0
def spSet : Sp := fun vs H Q _ => ∃ (z : Int) (c : Nat), vs = [.int z, .int (c : Int)] ∧ 0 ≤ z ∧ z < 64 ∧ c ≤ 6 ∧ ∀ l, H l = none → Q (.ref l) (upd H l (.lst ((zb c z).map V.int)))
def spPlace (K : PySem.W.Frag) : Sp := fun vs H Q _ => ∃ (a : Addr) (xs : List Int), vs = [.ref a] ∧ SqL K H a (xs.map V.int) ∧ xs.length ≤ 6 ∧ Q (.int (plI xs)) H
def zU (c : Nat) (a b : Int) : List Int := (List.range c).map fun k => (zb c a).getD k 0 + (zb c b).getD k 0 - (zb c a).getD k 0 * (zb c b).getD k 0
def zI (c : Nat) (a b : Int) : List Int := (List.range c).map fun k => (zb c a).getD k 0 * (zb c b).getD k 0
def zName (c : Nat) (a : Int) : Str := Txt.join ("" : Str) ((zb c a).map num)
def eqI (xs ys : List Int) : Bool := PyData.eqv (.list (xs.map .int)) (.list (ys.map .int))
/-- the five due values -/
def spDueS : Sp := fun vs H Q _ => ∃ (c : Nat) (a b : Int), vs = [.int (c : Int), .int a, .int b] ∧ 1 ≤ c ∧ c ≤ 6 ∧ 0 ≤ a ∧ a < 64 ∧ 0 ≤ b ∧ b < 64 ∧
  ∀ l H', H' l = some (.lst [.int (plI (zU c a b)), .int (plI (zI c a b)), .bl (eqI (zI c a b) (zb c a)), .int (plI (zU c a b)), .str (zName c a)]) → Same H H' → H l = none → Q (.ref l) H'
def spDueL : Sp := fun vs H Q _ => ∃ (a b : Int), vs = [.int a, .int b] ∧ 0 ≤ a ∧ a < 64 ∧ ∀ l, H l = none → Q (.ref l) (upd H l (.lst [.int (mxI a b), .int (mnI a b), .bl (wLev a b), .int (mxI a b), .str (num a)]))
theorem zb_bit (c : Nat) (z : Int) (i : Nat) : 0 ≤ (zb c z).getD i 0 ∧ (zb c z).getD i 0 ≤ 1 := by
  rw [List.getD_eq_getElem?_getD]
  cases e : (zb c z)[i]? with
  | none => exact ⟨by decide, by decide⟩
  | some x =>
    have h := List.mem_of_getElem? e
    unfold zb at h
    rw [List.mem_reverse, List.mem_map] at h
    obtain ⟨k, _, rfl⟩ := h
    show 0 ≤ z / 2 ^ k % 2 ∧ z / 2 ^ k % 2 ≤ 1
    omega
theorem dp_ints {K : PySem.W.Frag} {H : Hp} : ∀ xs : List Int, DpAll K H (xs.map V.int) (xs.map PyData.int)
  | [] => .nil
  | x :: xs => .cons (.int x) (dp_ints xs)
theorem sum_le3 : ∀ ys : List Str, (∀ y ∈ ys, y.length ≤ 3) → (ys.map (·.length)).sum ≤ 3 * ys.length
  | [], _ => Nat.le_refl _
  | y :: ys, h => by
    have h1 := h y List.mem_cons_self
    have h2 := sum_le3 ys fun z hz => h z (List.mem_cons_of_mem _ hz)
    rw [List.map_cons, List.sum_cons, List.length_cons]
    omega
theorem zb_mem {c : Nat} {z x : Int} (h : x ∈ zb c z) : 0 ≤ x ∧ x ≤ 1 := by
  unfold zb at h
  rw [List.mem_reverse, List.mem_map] at h
  obtain ⟨k, _, rfl⟩ := h
  omega
theorem zb_len (c : Nat) (z : Int) : (zb c z).length = c := by unfold zb; rw [List.length_reverse, List.length_map, List.length_range]
section
variable {P : Program} {w : World} {K : PySem.W.Frag} {mg : Str → Option Value} {base : Heap} {C : Addr}
theorem sc__law_set : FnScope ["_law_place_here", "_law_count", "_law_things", "_law_k"] ["_law_place_here", "_law_count"] (defScope (top 24)) := ⟨rfl, rfl, rfl, by decide +kernel, rfl, by decide +kernel, by decide +kernel⟩
theorem ok_set {f : Addr} {fd : FuncData} (F : Fun K "_law_set" "_law_set" (top 24) f fd) (T : TxL K mg) : FnOk P w K mg base CX0 1 f fd ["_law_place_here", "_law_count"] spSet := by
  refine F.ok sc__law_set (fun vs H Q E h => ?_) (fun cdv A outer s H vs Q E hr h => ?_)
  · obtain ⟨z, c, rfl, _⟩ := h
    rfl
  · obtain ⟨z, c, rfl, hz, hz2, hc, k⟩ := h
    refine ⟨_, (pss_cons (ps_set (i := 2) sc__law_set.nd rfl (Or.inl rfl) (pe_lst pa_nil))
      (pss_cons (ps_for PassesOwn.never rfl (pi_range1 (by rfl) T.range (pa_cons (pv 1) pa_nil)) (pg_name (i := 3) sc__law_set.nd rfl (Or.inl rfl)) (pss_cons (ps_expr (pe_bm PySem.F.plainAttrs_list PySem.F.slot_list_append PySem.F.type_list_append mt_append (pv 2) (pa_cons (pe_op op_mod (pe_callTy call_int1 (by rfl) T.int (by decide +kernel) (pa_cons (pv 0) pa_nil)) pe_int) pa_nil)))
      (pss_one (ps_set (i := 0) sc__law_set.nd rfl (Or.inl rfl) (pe_op op_fdivN (pv 0) pe_int)))))
      (pss_cons (ps_expr (pe_bm0 PySem.F.plainAttrs_list PySem.F.slot_list_reverse PySem.F.type_list_reverse mt_reverse (pv 2)))
      (pss_one (ps_ret (pv 2)))))), ?_⟩
    refine ⟨(by show 0 ≤ sizeLine; decide), fun l hl => ?_⟩
    refine ⟨_, rfl, _, rfl, by omega, by omega, for_range (lo := 0) (n := c) (fun i σ H2 => ∃ v, σ = [some (.int (z / 2 ^ i)), some (.int (c : Int)), some (.ref l), v] ∧ H2 = upd H l (.lst (((List.range i).map fun (k : Nat) => z / 2 ^ k % 2).map V.int)))
      ⟨none, (by rw [Int.pow_zero, Int.ediv_one]; rfl), rfl⟩ ?_ ?_⟩
    · rintro i σ H2 hi ⟨v, rfl, rfl⟩
      refine ⟨_, rfl, .inl ⟨rfl, _, SqL.of upd_same⟩, _, rfl, .inl ⟨_, rfl, _, _, rfl, rfl, (by show (0 : Int) < 2; decide), ?_⟩⟩
      refine ⟨l, _, _, rfl, rfl, upd_same, (by rw [List.length_map, List.length_map, List.length_range]; exact small1000 (by omega)), ?_⟩
      have z0 : 0 ≤ z / 2 ^ i := Int.ediv_nonneg hz (Int.le_of_lt (Int.pow_pos (by decide)))
      refine ⟨_, rfl, _, _, rfl, rfl, ⟨by omega, by omega⟩, some (.int (0 + (i : Int))), ?_, ?_⟩
      · have e : (z / 2 ^ i).fdiv 2 = z / 2 ^ (i + 1) := by
          rw [Int.fdiv_eq_ediv_of_nonneg _ (by decide), Int.ediv_ediv_of_nonneg (Int.le_of_lt (Int.pow_pos (by decide))), ← Int.pow_succ]
        show [some (V.int ((z / 2 ^ i).fdiv 2)), some (V.int ↑c), some (V.ref l), some (V.int (0 + ↑i))] = _
        rw [e]
      · rw [upd_upd, List.range_succ, List.map_append, List.map_append]; rfl
    · rintro σ H2 ⟨v, rfl, rfl⟩
      refine ⟨_, rfl, .inl ⟨rfl, _, SqL.of upd_same⟩, l, _, rfl, rfl, upd_same, ?_⟩
      refine ⟨_, rfl, ?_⟩
      have z := k l hl
      unfold zb at z
      rw [upd_upd, ← List.map_reverse]
      exact z
theorem sc__law_place : FnScope ["_law_things", "_law_place_here", "_law_thing"] ["_law_things"] (defScope (top 25)) := ⟨rfl, rfl, rfl, by decide +kernel, rfl, by decide +kernel, by decide +kernel⟩
theorem ok_place {f : Addr} {fd : FuncData} (F : Fun K "_law_place" "_law_place" (top 25) f fd) (T : TxL K mg) : FnOk P w K mg base CX0 1 f fd ["_law_things"] (spPlace K) := by
  refine F.ok sc__law_place (fun vs H Q E h => ?_) (fun cdv A outer s H vs Q E hr h => ?_)
  · obtain ⟨a, xs, rfl, _⟩ := h
    rfl
  · obtain ⟨a, xs, rfl, hS, hl, k⟩ := h
    refine ⟨_, (pss_cons (ps_set (i := 1) sc__law_place.nd rfl (Or.inl rfl) pe_int)
      (pss_cons (ps_for PassesOwn.never rfl (pi_list (pv 0)) (pg_name (i := 2) sc__law_place.nd rfl (Or.inl rfl)) (pss_one (ps_set (i := 1) sc__law_place.nd rfl (Or.inl rfl) (pe_op op_add (pe_op op_mul (pv 1) pe_int) (pv 2)))))
      (pss_one (ps_ret (pv 1))))), ?_⟩
    refine ⟨_, rfl, a, rfl, ⟨_, hS⟩, for_list (K := K) (a := a) (xs := xs.map V.int) (fun i σ H2 => ∃ v, σ = [some (.ref a), some (.int (plI (xs.take i))), v] ∧ H2 = H)
      ⟨none, rfl, rfl⟩ (fun i σ H2 _ ⟨_, _, e⟩ => by rw [e]; exact hS) ?_ ?_⟩
    · rintro i y σ H2 hi ⟨v, rfl, rfl⟩
      obtain ⟨x, rfl, hx⟩ := at_map hi
      refine ⟨_, rfl, _, _, rfl, rfl, .inr ⟨by decide, by decide⟩, _, rfl, _, _, rfl, rfl, ?_⟩
      exact ⟨_, by rw [take_snoc hx]; unfold plI; rw [List.foldl_append]; rfl, rfl⟩
    · rintro σ H2 ⟨v, rfl, rfl⟩
      rw [List.length_map, List.take_of_length_le (Nat.le_refl _)]
      exact ⟨_, rfl, k⟩
theorem sc__law_levels : FnScope ["_law_a", "_law_b"] ["_law_a", "_law_b"] (defScope (top 27)) := ⟨rfl, rfl, rfl, by decide +kernel, rfl, by decide +kernel, by decide +kernel⟩
theorem ok_dueL {f : Addr} {fd : FuncData} (F : Fun K "_law_levels" "_law_levels" (top 27) f fd) (T : TxL K mg) : FnOk P w K mg base CX0 1 f fd ["_law_a", "_law_b"] spDueL := by
  refine F.ok sc__law_levels (fun vs H Q E h => ?_) (fun cdv A outer s H vs Q E hr h => ?_)
  · obtain ⟨a, b, rfl, _⟩ := h
    rfl
  · obtain ⟨a, b, rfl, ha, ha2, k⟩ := h
    refine ⟨_, (pss_cons (ps_if (pt_cmpR op_le (pv 0) (pv 1) (nomark _)) (pss_one (ps_ret (pe_lst (pa_cons (pv 1) (pa_cons (pv 0) (pa_cons pe_bl (pa_cons (pv 1) (pa_cons (pe_callTy call_str_int (by rfl) T.str (by decide +kernel) (pa_cons (pv 0) pa_nil)) pa_nil)))))))) pss_nil)
      (pss_one (ps_ret (pe_lst (pa_cons (pv 0) (pa_cons (pv 1) (pa_cons pe_bl (pa_cons (pv 0) (pa_cons (pe_callTy call_str_int (by rfl) T.str (by decide +kernel) (pa_cons (pv 0) pa_nil)) pa_nil))))))))), ?_⟩
    refine ⟨_, rfl, _, rfl, _, _, rfl, rfl, _, rfl, ?_⟩
    refine ifD (fun e => ?_) (fun e => ?_)
    · refine ⟨_, rfl, _, rfl, _, rfl, _, rfl, _, rfl, num_log _ ha (by omega), (by show 5 ≤ sizeLine; decide), fun l hl => ?_⟩
      have z := k l hl
      unfold mxI mnI wLev at z
      rw [if_pos e, decide_eq_true e] at z
      by_cases e2 : b ≤ a
      · obtain rfl : a = b := by omega
        rw [if_pos e2] at z; exact z
      · rw [if_neg e2] at z; exact z
    · refine ⟨_, rfl, _, rfl, _, rfl, _, rfl, _, rfl, num_log _ ha (by omega), (by show 5 ≤ sizeLine; decide), fun l hl => ?_⟩
      have z := k l hl
      unfold mxI mnI wLev at z
      rw [if_neg e, if_pos (by omega), decide_eq_false e] at z
      exact z
theorem sc__law_subsets : FnScope ["_law_count", "_law_a", "_law_b", "_law_one", "_law_other", "_law_union", "_law_both", "_law_name", "_law_k", "_law_thing"] ["_law_count", "_law_a", "_law_b"] (defScope (top 26)) := ⟨rfl, rfl, rfl, by decide +kernel, rfl, by decide +kernel, by decide +kernel⟩
theorem ok_dueS {f : Addr} {fd : FuncData} (F : Fun K "_law_subsets" "_law_subsets" (top 26) f fd) (T : TxL K mg) (c__law_set : Cal P w K mg base CX0 1 "_law_set" spSet) (c__law_place : Cal P w K mg base CX0 1 "_law_place" (spPlace K)) :
    FnOk P w K mg base CX0 2 f fd ["_law_count", "_law_a", "_law_b"] spDueS := by
  refine F.ok sc__law_subsets (fun vs H Q E h => ?_) (fun cdv A outer s H vs Q E hr h => ?_)
  · obtain ⟨c, a, b, rfl, _⟩ := h
    rfl
  · obtain ⟨c, a, b, rfl, h1, h2, ha, ha2, hb, hb2, k⟩ := h
    refine ⟨_, (pss_cons (ps_set (i := 3) sc__law_subsets.nd rfl (Or.inr rfl) (pe_c c__law_set hr (by decide) (by rfl) (pa_cons (pv 1) (pa_cons (pv 0) pa_nil))))
      (pss_cons (ps_set (i := 4) sc__law_subsets.nd rfl (Or.inr rfl) (pe_c c__law_set hr (by decide) (by rfl) (pa_cons (pv 2) (pa_cons (pv 0) pa_nil))))
      (pss_cons (ps_setLc (i := 5) (own := [("_law_k", 8)]) (g := (gName 8)) (by rfl) sc__law_subsets.nd rfl rfl (sw_true rfl rfl rfl (by decide +kernel)) (pi_range1 (by rfl) T.range (pa_cons (pv 0) pa_nil)) (blkOk_by (own := [("_law_k", 8)]) (N := ["_law_count", "_law_a", "_law_b", "_law_one", "_law_other", "_law_union", "_law_both", "_law_name", "_law_k", "_law_thing"]) (sc := defScope (top 26)) (by decide +kernel)) (fun _ _ _ _ _ => (pg_name (i := 8) sc__law_subsets.nd rfl (Or.inl rfl))) (fun _ _ _ _ _ => pts_nil) (fun _ _ _ _ _ => (pe_op op_sub (pe_op op_add (pe_ix (ix_listK K rfl) (pv 3) (pv 8) (fun _ _ => rfl)) (pe_ix (ix_listK K rfl) (pv 4) (pv 8) (fun _ _ => rfl))) (pe_op op_mul (pe_ix (ix_listK K rfl) (pv 3) (pv 8) (fun _ _ => rfl)) (pe_ix (ix_listK K rfl) (pv 4) (pv 8) (fun _ _ => rfl))))))
      (pss_cons (ps_setLc (i := 6) (own := [("_law_k", 8)]) (g := (gName 8)) (by rfl) sc__law_subsets.nd rfl rfl (sw_true rfl rfl rfl (by decide +kernel)) (pi_range1 (by rfl) T.range (pa_cons (pv 0) pa_nil)) (blkOk_by (own := [("_law_k", 8)]) (N := ["_law_count", "_law_a", "_law_b", "_law_one", "_law_other", "_law_union", "_law_both", "_law_name", "_law_k", "_law_thing"]) (sc := defScope (top 26)) (by decide +kernel)) (fun _ _ _ _ _ => (pg_name (i := 8) sc__law_subsets.nd rfl (Or.inl rfl))) (fun _ _ _ _ _ => pts_nil) (fun _ _ _ _ _ => (pe_op op_mul (pe_ix (ix_listK K rfl) (pv 3) (pv 8) (fun _ _ => rfl)) (pe_ix (ix_listK K rfl) (pv 4) (pv 8) (fun _ _ => rfl)))))
      (pss_cons (ps_set (i := 7) sc__law_subsets.nd rfl (Or.inl rfl) (pe_join pe_str (pe_lc (own := [("_law_thing", 9)]) (g := (gName 9)) (by rfl) sc__law_subsets.nd (pi_list (pv 3)) (blkOk_by (own := [("_law_thing", 9)]) (N := ["_law_count", "_law_a", "_law_b", "_law_one", "_law_other", "_law_union", "_law_both", "_law_name", "_law_k", "_law_thing"]) (sc := defScope (top 26)) (by decide +kernel)) (fun _ _ _ _ _ => (pg_name (i := 9) sc__law_subsets.nd rfl (Or.inl rfl))) (fun _ _ _ _ _ => pts_nil) (fun _ _ _ _ _ => (pe_callTy call_str_int (by rfl) T.str (by decide +kernel) (pa_cons (pv 9) pa_nil))))))
      (pss_one (ps_ret (pe_lst (pa_cons (pe_c c__law_place hr (by decide) (by rfl) (pa_cons (pv 5) pa_nil)) (pa_cons (pe_c c__law_place hr (by decide) (by rfl) (pa_cons (pv 6) pa_nil)) (pa_cons (pe_cmpR (op_eqD hr.units) (pv 6) (pv 3) (nomark _)) (pa_cons (pe_c c__law_place hr (by decide) (by rfl) (pa_cons (pv 5) pa_nil)) (pa_cons (pv 7) pa_nil))))))))))))), ?_⟩
    refine ⟨_, rfl, _, rfl, a, c, rfl, ha, ha2, h2, fun A1 hA1 => ?_⟩
    refine ⟨_, rfl, _, rfl, b, c, rfl, hb, hb2, h2, fun A2 hA2 => ?_⟩
    have n12 : A1 ≠ A2 := ne_of_none upd_same hA2
    have g1 : ∀ (y : Int) (i : Nat), i < c → ((zb c y).map V.int)[i]? = some (.int ((zb c y).getD i 0)) := fun y i hi => by
      rw [List.getElem?_map, List.getD_eq_getElem?_getD, List.getElem?_eq_getElem (by rw [zb_len]; exact hi)]; rfl
    have HA1 : ∀ u v, (upd (upd (upd H A1 (.lst ((zb c a).map V.int))) A2 u) A2 v) A1 = some (.lst ((zb c a).map V.int)) := fun u v => by rw [upd_ne n12, upd_ne n12, upd_same]
    refine ⟨_, rfl, _, rfl, by omega, by omega, fun D1 hD1 => lcF_range (lo := 0) (n := c) (fun i => (List.range i).map fun k => V.int ((zb c a).getD k 0 + (zb c b).getD k 0 - (zb c a).getD k 0 * (zb c b).getD k 0)) rfl ?_ ?_⟩
    · intro i hi
      have q1 : A1 ≠ D1 := ne_of_none (show (upd (upd H A1 (.lst ((zb c a).map V.int))) A2 (.lst ((zb c b).map V.int))) A1 = some (.lst ((zb c a).map V.int)) by rw [upd_ne n12, upd_same]) hD1
      have q2 : A2 ≠ D1 := ne_of_none upd_same hD1
      have b1 := zb_bit c a i
      have b2 := zb_bit c b i
      refine ⟨rfl, tYesI (iteT ?_)⟩
      refine ⟨_, rfl, _, rfl, A1, _, _, _, rfl, rfl, SqL.of (by rw [upd_ne q1, upd_ne n12, upd_same]), at_of (Int.zero_add _) (g1 a i hi), ?_⟩
      refine ⟨_, rfl, _, rfl, A2, _, _, _, rfl, rfl, SqL.of (by rw [upd_ne q2, upd_same]), at_of (Int.zero_add _) (g1 b i hi), _, _, rfl, rfl, ?_⟩
      refine ⟨_, rfl, _, rfl, A1, _, _, _, rfl, rfl, SqL.of (by rw [upd_ne q1, upd_ne n12, upd_same]), at_of (Int.zero_add _) (g1 a i hi), ?_⟩
      refine ⟨_, rfl, _, rfl, A2, _, _, _, rfl, rfl, SqL.of (by rw [upd_ne q2, upd_same]), at_of (Int.zero_add _) (g1 b i hi), _, _, rfl, rfl, .inl ⟨by omega, by omega⟩, _, _, rfl, rfl, ?_⟩
      refine ⟨_, upd_same, (by rw [List.length_map, List.length_range]; exact small1000 (by omega)), ?_⟩
      rw [upd_upd, range_map_snoc]
    have eU : (List.range c).map (fun k => V.int ((zb c a).getD k 0 + (zb c b).getD k 0 - (zb c a).getD k 0 * (zb c b).getD k 0)) = (zU c a b).map V.int := by unfold zU; rw [List.map_map]; rfl
    rw [eU]
    have f1 : (upd (upd (upd H A1 (.lst ((zb c a).map V.int))) A2 (.lst ((zb c b).map V.int))) D1 (.lst ((zU c a b).map V.int))) A1 = some (.lst ((zb c a).map V.int)) := by
      have q1 : A1 ≠ D1 := ne_of_none (show (upd (upd H A1 (.lst ((zb c a).map V.int))) A2 (.lst ((zb c b).map V.int))) A1 = some (.lst ((zb c a).map V.int)) by rw [upd_ne n12, upd_same]) hD1
      rw [upd_ne q1, upd_ne n12, upd_same]
    have f2 : (upd (upd (upd H A1 (.lst ((zb c a).map V.int))) A2 (.lst ((zb c b).map V.int))) D1 (.lst ((zU c a b).map V.int))) A2 = some (.lst ((zb c b).map V.int)) := by
      rw [upd_ne (ne_of_none upd_same hD1), upd_same]
    have f3 : (upd (upd (upd H A1 (.lst ((zb c a).map V.int))) A2 (.lst ((zb c b).map V.int))) D1 (.lst ((zU c a b).map V.int))) D1 = some (.lst ((zU c a b).map V.int)) := upd_same
    have sm : Same H (upd (upd (upd H A1 (.lst ((zb c a).map V.int))) A2 (.lst ((zb c b).map V.int))) D1 (.lst ((zU c a b).map V.int))) := ((sameNew hA1).trans (sameNew hA2)).trans (sameNew hD1)
    generalize upd (upd (upd H A1 (.lst ((zb c a).map V.int))) A2 (.lst ((zb c b).map V.int))) D1 (.lst ((zU c a b).map V.int)) = H3 at f1 f2 f3 sm ⊢
    clear eU hD1 HA1 hA2 hA1
    refine gNameI ?_
    dsimp only
    refine st_seq ?_
    refine ⟨_, rfl, _, rfl, by omega, by omega, fun D2 hD2 => lcF_range (lo := 0) (n := c) (fun i => (List.range i).map fun k => V.int ((zb c a).getD k 0 * (zb c b).getD k 0)) rfl ?_ ?_⟩
    · intro i hi
      have q1 : A1 ≠ D2 := ne_of_none f1 hD2
      have q2 : A2 ≠ D2 := ne_of_none f2 hD2
      have b1 := zb_bit c a i
      have b2 := zb_bit c b i
      refine ⟨rfl, tYesI (iteT ?_)⟩
      refine ⟨_, rfl, _, rfl, A1, _, _, _, rfl, rfl, SqL.of (by rw [upd_ne q1]; exact f1), at_of (Int.zero_add _) (g1 a i hi), ?_⟩
      refine ⟨_, rfl, _, rfl, A2, _, _, _, rfl, rfl, SqL.of (by rw [upd_ne q2]; exact f2), at_of (Int.zero_add _) (g1 b i hi), _, _, rfl, rfl, .inl ⟨by omega, by omega⟩, ?_⟩
      refine ⟨_, upd_same, (by rw [List.length_map, List.length_range]; exact small1000 (by omega)), ?_⟩
      rw [upd_upd, range_map_snoc]
    have eI : (List.range c).map (fun k => V.int ((zb c a).getD k 0 * (zb c b).getD k 0)) = (zI c a b).map V.int := by unfold zI; rw [List.map_map]; rfl
    rw [eI]
    have i1 : upd H3 D2 (.lst ((zI c a b).map V.int)) A1 = some (.lst ((zb c a).map V.int)) := by rw [upd_ne (ne_of_none f1 hD2)]; exact f1
    have i3 : upd H3 D2 (.lst ((zI c a b).map V.int)) D1 = some (.lst ((zU c a b).map V.int)) := by rw [upd_ne (ne_of_none f3 hD2)]; exact f3
    have i4 : upd H3 D2 (.lst ((zI c a b).map V.int)) D2 = some (.lst ((zI c a b).map V.int)) := upd_same
    have sm2 : Same H (upd H3 D2 (.lst ((zI c a b).map V.int))) := sm.trans (sameNew hD2)
    generalize upd H3 D2 (.lst ((zI c a b).map V.int)) = H4 at i1 i3 i4 sm2 ⊢
    clear eI hD2 f1 f2 f3 sm
    refine gNameI ?_
    dsimp only
    refine st_seq ?_
    refine ⟨⟨_, rfl⟩, _, rfl, A1, rfl, ⟨_, SqL.of i1⟩, fun D3 hD3 => lcF_list (xs := (zb c a).map V.int) (fun i => ((zb c a).take i).map fun x => V.str (num x)) hD3 (SqL.of i1) rfl ?_ ?_⟩
    · intro i x hx
      obtain ⟨y, rfl, hy⟩ := at_map hx
      have by0 := zb_mem (List.mem_of_getElem? hy)
      refine ⟨rfl, tYesI (iteT ?_)⟩
      refine ⟨_, rfl, _, rfl, num_log _ by0.1 (by omega), _, upd_same, (by rw [List.length_map, List.length_take, zb_len]; exact small1000 (by omega)), ?_⟩
      rw [upd_upd, take_snoc hy, List.map_append]; rfl
    have eS : ((zb c a).take ((zb c a).map V.int).length).map (fun x => V.str (num x)) = ((zb c a).map num).map V.str := by rw [List.length_map, List.take_of_length_le (Nat.le_refl _), List.map_map]; rfl
    rw [eS]
    have sh : ∀ y ∈ (zb c a).map num, y.length ≤ 3 := fun y hy => by
      obtain ⟨x, hx, rfl⟩ := List.mem_map.mp hy
      exact num_short x (zb_mem hx).1 (by have := zb_mem hx; omega)
    have sl := sum_le3 _ sh
    rw [List.length_map, zb_len] at sl
    refine ⟨_, D3, (zb c a).map num, rfl, rfl, .inl (SqL.of upd_same), ?_, ?_⟩
    · have e0 : ("" : Str).length = 0 := by decide +kernel
      rw [e0, Nat.mul_zero]
      omega
    have j1 : upd H4 D3 (.lst (((zb c a).map num).map V.str)) A1 = some (.lst ((zb c a).map V.int)) := by rw [upd_ne (ne_of_none i1 hD3)]; exact i1
    have j3 : upd H4 D3 (.lst (((zb c a).map num).map V.str)) D1 = some (.lst ((zU c a b).map V.int)) := by rw [upd_ne (ne_of_none i3 hD3)]; exact i3
    have j4 : upd H4 D3 (.lst (((zb c a).map num).map V.str)) D2 = some (.lst ((zI c a b).map V.int)) := by rw [upd_ne (ne_of_none i4 hD3)]; exact i4
    have sm3 : Same H (upd H4 D3 (.lst (((zb c a).map num).map V.str))) := sm2.trans (sameNew hD3)
    generalize upd H4 D3 (.lst (((zb c a).map num).map V.str)) = H5 at j1 j3 j4 sm3 ⊢
    clear eS hD3 i1 i3 i4 sm2
    have lU : (zU c a b).length ≤ 6 := by unfold zU; rw [List.length_map, List.length_range]; exact h2
    have lI : (zI c a b).length ≤ 6 := by unfold zI; rw [List.length_map, List.length_range]; exact h2
    refine ⟨_, rfl, D1, zU c a b, rfl, SqL.of j3, lU, ?_⟩
    refine ⟨_, rfl, D2, zI c a b, rfl, SqL.of j4, lI, ?_⟩
    refine ⟨_, rfl, _, rfl, _, _, .lst (SqL.of j4) (dp_ints _), .lst (SqL.of j1) (dp_ints _), PySem.W.ke_shaped_ints _, PySem.W.ke_shaped_ints _, ?_⟩
    refine ⟨_, rfl, D1, zU c a b, rfl, SqL.of j3, lU, ?_⟩
    refine ⟨_, rfl, (by show 5 ≤ sizeLine; decide), fun R hR => ?_⟩
    exact k R _ upd_same (sm3.trans (sameNew hR)) (sm3.free hR)
end
/-! ### what the two families come to -/
def sumK : Bool → Int → Int → Int
  | false => mxI
  | true => Builtin.bitOr
def prodK : Bool → Int → Int → Int
  | false => mnI
  | true => Builtin.bitAnd
def wK : Bool → Int → Int → Bool
  | false => wLev
  | true => wSub
def nmK : Bool → Nat → List Str
  | false => levNames
  | true => subNames
def sizeK : Bool → Nat → Nat
  | false, c => c
  | true, c => 2 ^ c
def okK : Bool → Nat → Prop
  | false, c => 1 ≤ c ∧ c ≤ 64
  | true, c => 1 ≤ c ∧ c ≤ 6
theorem nmK_len : ∀ (k : Bool) (c : Nat), (nmK k c).length = sizeK k c
  | false, c => levNames_len c
  | true, c => subNames_len c
theorem sizeK_pos : ∀ (k : Bool) (c : Nat), okK k c → 1 ≤ sizeK k c ∧ sizeK k c ≤ 64
  | false, _, h => h
  | true, c, h => ⟨Nat.one_le_two_pow, Nat.pow_le_pow_right (n := 2) (by decide) h.2⟩
theorem lev_at {n i : Nat} (h : i < n) : (levNames n).getD i Str.empty = num (i : Int) := by
  unfold levNames; rw [List.getD_eq_getElem?_getD, List.getElem?_map, range_at h]; rfl
theorem sub_at {c i : Nat} (h : i < 2 ^ c) : (subNames c).getD i Str.empty = subName c i := by
  unfold subNames; rw [List.getD_eq_getElem?_getD, List.getElem?_map, range_at h]; rfl
theorem sub_len_all : ∀ c < 7, ∀ i < 2 ^ c, (subName c i).length ≤ 6 := by decide +kernel
theorem sub_inj_all : ∀ c < 7, ∀ i < 2 ^ c, ∀ j < 2 ^ c, subName c i = subName c j → i = j := by decide +kernel
theorem sub_name_all : ∀ c : Nat, c < 7 → 1 ≤ c → ∀ i : Nat, i < 2 ^ c → zName c (i : Int) = subName c i := by decide +kernel
theorem sub_sum_all : ∀ c < 7, ∀ a : Nat, a < 2 ^ c → ∀ b : Nat, b < 2 ^ c → plI (zU c (a : Int) (b : Int)) = Builtin.bitOr (a : Int) (b : Int) := by decide +kernel
theorem sub_prod_all : ∀ c < 7, ∀ a : Nat, a < 2 ^ c → ∀ b : Nat, b < 2 ^ c → plI (zI c (a : Int) (b : Int)) = Builtin.bitAnd (a : Int) (b : Int) := by decide +kernel
theorem eqvAll_ints : ∀ xs ys : List Int, PyData.eqvAll (xs.map PyData.int) (ys.map PyData.int) = decide (xs = ys)
  | [], [] => by simp [PyData.eqvAll]
  | [], _ :: _ => by simp [PyData.eqvAll]
  | _ :: _, [] => by simp [PyData.eqvAll]
  | a :: r, b :: t => by
    simp only [List.map_cons, PyData.eqvAll, PyData.eqv, eqvAll_ints r t]
    by_cases h : a = b <;> by_cases h' : r = t <;> simp [h, h']
theorem eqI_eq (xs ys : List Int) : eqI xs ys = decide (xs = ys) := by
  unfold eqI
  simp only [PyData.eqv]
  exact eqvAll_ints xs ys
theorem sub_with_all : ∀ c < 7, ∀ a : Nat, a < 2 ^ c → ∀ b : Nat, b < 2 ^ c → decide (zI c (a : Int) (b : Int) = zb c (a : Int)) = decide (Builtin.bitAnd (a : Int) (b : Int) = (a : Int)) := by decide +kernel
theorem or_all : ∀ a : Nat, a < 64 → ∀ b : Nat, b < 64 → Builtin.bitOr (a : Int) (b : Int) = ((a ||| b : Nat) : Int) := by decide +kernel
theorem and_all : ∀ a : Nat, a < 64 → ∀ b : Nat, b < 64 → Builtin.bitAnd (a : Int) (b : Int) = ((a &&& b : Nat) : Int) := by decide +kernel
theorem nmK_short : ∀ (k : Bool) (c : Nat), okK k c → ∀ i < sizeK k c, ((nmK k c).getD i Str.empty).length ≤ 6
  | false, c, h, i, hi => by
    show ((levNames c).getD i Str.empty).length ≤ 6
    have hi' : i < c := hi
    rw [lev_at hi']
    exact Nat.le_trans (num_short i (by omega) (by have : i < c := hi; have := h.2; omega)) (by decide)
  | true, c, h, i, hi => by
    show ((subNames c).getD i Str.empty).length ≤ 6
    have hi' : i < 2 ^ c := hi
    rw [sub_at hi']
    exact sub_len_all c (by have := h.2; omega) i hi
theorem nmK_inj : ∀ (k : Bool) (c : Nat), okK k c → ∀ i < sizeK k c, ∀ j < sizeK k c, (nmK k c).getD i Str.empty = (nmK k c).getD j Str.empty → i = j
  | false, c, h, i, hi, j, hj => by
    show (levNames c).getD i Str.empty = (levNames c).getD j Str.empty → i = j
    have h1 : i < c := hi
    have h2 : j < c := hj
    have h3 := h.2
    rw [lev_at h1, lev_at h2]
    exact num_inj i (by omega) j (by omega)
  | true, c, h, i, hi, j, hj => by
    show (subNames c).getD i Str.empty = (subNames c).getD j Str.empty → i = j
    have h1 : i < 2 ^ c := hi
    have h2 : j < 2 ^ c := hj
    rw [sub_at h1, sub_at h2]
    exact sub_inj_all c (by have := h.2; omega) i hi j hj
theorem mem_uppers {n : Nat} {W : Int → Int → Bool} {a b x : Int} : x ∈ uppers n W a b ↔ (0 ≤ x ∧ x < (n : Int)) ∧ W a x = true ∧ W b x = true := by
  constructor
  · intro h
    refine ⟨uppers_mem h, ?_⟩
    unfold uppers at h
    obtain ⟨_, h2⟩ := List.mem_filter.mp h
    simpa using h2
  · rintro ⟨⟨h0, h1⟩, h2, h3⟩
    unfold uppers
    refine List.mem_filter.mpr ⟨List.mem_map.mpr ⟨x.toNat, List.mem_range.mpr (by omega), by omega⟩, by simp [h2, h3]⟩
theorem bound_unique {n : Nat} {W : Int → Int → Bool} {a b m : Int} (hm : m ∈ uppers n W a b) (hall : ∀ x ∈ uppers n W a b, W m x = true) (hun : ∀ u ∈ uppers n W a b, W u m = true → u = m) : boundI n W a b = some m := by
  unfold boundI
  cases e : (uppers n W a b).find? fun u => (uppers n W a b).all fun x => W u x with
  | none =>
    rw [List.find?_eq_none] at e
    exact absurd (List.all_eq_true.mpr hall) (e m hm)
  | some u =>
    have h1 := List.find?_some e
    have h2 := List.mem_of_find?_eq_some e
    rw [hun u h2 (List.all_eq_true.mp h1 m hm)]
theorem wSub_iff {a b : Nat} (ha : a < 64) (hb : b < 64) : wSub (a : Int) (b : Int) = true ↔ a &&& b = a := by
  unfold wSub
  rw [decide_eq_true_eq, and_all a ha b hb]
  constructor
  · intro h; have := V.int.inj h; omega
  · intro h; rw [h]
theorem or_lt {a b c : Nat} (ha : a < 2 ^ c) (hb : b < 2 ^ c) : a ||| b < 2 ^ c := Nat.or_lt_two_pow ha hb
theorem boundK : ∀ (k : Bool) (c : Nat), okK k c → ∀ a < sizeK k c, ∀ b < sizeK k c, boundI (sizeK k c) (wK k) (a : Int) (b : Int) = some (sumK k (a : Int) (b : Int))
  | false, c, h, a, ha, b, hb => by
    have h1 : a < c := ha
    have h2 : b < c := hb
    show boundI c wLev (a : Int) (b : Int) = some (mxI (a : Int) (b : Int))
    unfold mxI
    by_cases e : (b : Int) ≤ a
    · rw [if_pos e]
      exact bound_unique (mem_uppers.mpr ⟨⟨by omega, by omega⟩, by simp [wLev], by simp [wLev]; omega⟩) (fun x hx => (mem_uppers.mp hx).2.1) (fun u hu h => by have := (mem_uppers.mp hu).2.1; simp [wLev] at h this; omega)
    · rw [if_neg e]
      exact bound_unique (mem_uppers.mpr ⟨⟨by omega, by omega⟩, by simp [wLev]; omega, by simp [wLev]⟩) (fun x hx => (mem_uppers.mp hx).2.2) (fun u hu h => by have := (mem_uppers.mp hu).2.2; simp [wLev] at h this; omega)
  | true, c, h, a, ha, b, hb => by
    have h1 : a < 2 ^ c := ha
    have h2 : b < 2 ^ c := hb
    have h64 : 2 ^ c ≤ 64 := (Nat.pow_le_pow_right (by decide) h.2 : 2 ^ c ≤ 2 ^ 6)
    show boundI (2 ^ c) wSub (a : Int) (b : Int) = some (Builtin.bitOr (a : Int) (b : Int))
    rw [or_all a (by omega) b (by omega)]
    have hm := or_lt h1 h2
    have up : ∀ x ∈ uppers (2 ^ c) wSub (a : Int) (b : Int), ∃ n : Nat, x = (n : Int) ∧ n < 2 ^ c ∧ a &&& n = a ∧ b &&& n = b := fun x hx => by
      obtain ⟨⟨q0, q1⟩, q2, q3⟩ := mem_uppers.mp hx
      obtain ⟨n, rfl⟩ := Int.eq_ofNat_of_zero_le q0
      have hn : n < 2 ^ c := by omega
      exact ⟨n, rfl, hn, (wSub_iff (by omega) (by omega)).mp q2, (wSub_iff (by omega) (by omega)).mp q3⟩
    refine bound_unique (mem_uppers.mpr ⟨⟨by omega, by omega⟩, (wSub_iff (by omega) (by omega)).mpr ?_, (wSub_iff (by omega) (by omega)).mpr ?_⟩) (fun x hx => ?_) (fun u hu hw => ?_)
    · apply Nat.eq_of_testBit_eq; intro i; simp only [Nat.testBit_and, Nat.testBit_or]; cases a.testBit i <;> cases b.testBit i <;> rfl
    · apply Nat.eq_of_testBit_eq; intro i; simp only [Nat.testBit_and, Nat.testBit_or]; cases a.testBit i <;> cases b.testBit i <;> rfl
    · obtain ⟨n, rfl, hn, e1, e2⟩ := up x hx
      refine (wSub_iff (by omega) (by omega)).mpr ?_
      rw [Nat.and_or_distrib_right, e1, e2]
    · obtain ⟨n, rfl, hn, e1, e2⟩ := up u hu
      have e3 := (wSub_iff (by omega) (by omega)).mp hw
      have e4 : (a ||| b) &&& n = a ||| b := by rw [Nat.and_or_distrib_right, e1, e2]
      rw [Nat.and_comm] at e4
      rw [← e3, e4]
theorem miss_of {zs : List Str} {z : Str} (h : inV (.str z) (zs.map V.str) = false) : valV (foundTo zs zs.length) (Sum.inr z : Key) = none := by
  refine found_get zs z _ (Nat.le_refl _) fun i hi e => ?_
  unfold inV at h
  rw [List.any_eq_false] at h
  refine h (.str z) ?_ (by show (z == z) = true; exact beq_self_eq_true z)
  rw [← e]
  exact List.mem_of_getElem? (at_mapS hi)
/-! ### law k03: what is no name -/
structure TxU (K : PySem.W.Frag) (mg : Str → Option Value) (CU : Addr) : Prop extends TxL K mg where
  gx_UnknownGrade : mg "UnknownGrade" = some (.ref CU)
  te : PySem.W.exmOne K (.ref CU) (.ref CU) = some true
  xf : XfC K CU
  nn : PySem.W.findIn K (.ref CU) "name" = some none
def spLUnknown (cls : Bool → Addr) (CU : Addr) : Sp := fun vs H Q _ => ∃ (k : Bool) (p d : Addr) (kvs : List (Key × V)) (nm : Str), vs = [.ref p, .str nm] ∧ FindOb (cls k) H p d kvs ∧ nm.length ≤ 900 ∧ valV kvs (Sum.inr nm) = none ∧ ∀ H', Same H H' → Q (.bl true) H'
section
variable {P : Program} {w : World} {K : PySem.W.Frag} {mg : Str → Option Value} {base : Heap} {CU : Addr} {cls : Bool → Addr}
theorem sc__law_unknown : FnScope ["_law_scale", "_law_word", "_law_caught", "e"] ["_law_scale", "_law_word"] (defScope (top 28)) := ⟨rfl, rfl, rfl, by decide +kernel, rfl, by decide +kernel, by decide +kernel⟩
theorem ok_lunknown {f : Addr} {fd : FuncData} (F : Fun K "_law_unknown" "_law_unknown" (top 28) f fd) (T : TxU K mg CU) (m_at_name : ∀ k, Met P w K mg base (L2.CX P w) 3 (cls k) "at_name" (spAtName (cls k) CU)) :
    FnOk P w K mg base (L2.CX P w) 4 f fd ["_law_scale", "_law_word"] (spLUnknown cls CU) := by
  refine F.okX sc__law_unknown (fun vs H Q E h => ?_) (fun cdv A outer s H vs Q E hr h => ?_)
  · obtain ⟨k, p, d, kvs, nm, rfl, _⟩ := h
    rfl
  · obtain ⟨k0, p, d, kvs, nm, rfl, fo, hl, hv, k⟩ := h
    obtain ⟨dx, fs, hp, h1, h2, h3, hd⟩ := id fo
    refine ⟨_, (pss_cons (ps_set (i := 2) sc__law_unknown.nd rfl (Or.inl rfl) pe_str)
      (pss_cons (ps_try_as (i := 3) rfl rfl sc__law_unknown.nd rfl rfl ⟨rfl, by decide, (.inl T.gx_UnknownGrade)⟩ takes0 (fun W pn xe tk _ => (pss_one (ps_expr (UF.pe_ex fun k => pe_mtS (m_at_name k) hr (by decide) (fun σ => passAt tk σ) (pv 0) (pa_cons (pv 1) pa_nil))))) (fun a oe cls d pn hz hf => (pss_one (ps_set (i := 2) sc__law_unknown.nd rfl (Or.inl rfl) (pe_op op_add_str (pe_xf T.xf T.nn hz hf (pv 3)) pe_str)))))
      (pss_one (ps_ret (pe_cmpR op_eq (pv 2) (pe_op op_add_str (pv 1) pe_str) (nomark _)))))), ?_⟩
    have z1 : ("!" : Str).length ≤ 1 := by decide +kernel
    have z2 : nm.length + ("!" : Str).length ≤ sizeLine := sz (Nat.add_le_add hl z1) (by decide)
    refine ⟨k0, _, rfl, p, dx, fs, rfl, hp, h3, _, rfl, p, d, kvs, nm, rfl, fo, Nat.le_trans hl (by decide), .inr ⟨hv, fun d' hd' => ?_⟩⟩
    have s1 := sameNew (o := .xd [("name", .str nm)]) hd'
    refine ⟨true, T.te, fun _ a ha => ?_, fun q => nomatch q⟩
    refine ⟨_, rfl, rfl, rfl, d', _, _, rfl, upd_same, rfl, ?_⟩
    refine ⟨_, _, rfl, rfl, z2, ?_⟩
    refine ⟨_, rfl, _, rfl, _, _, rfl, rfl, z2, ?_⟩
    refine ⟨rfl, ?_⟩
    rw [decide_eq_true rfl]
    exact k _ s1
end
/-! ### name_at -/
/-- name_at of a scale whose names stand in the list at l -/
def spNameAt (C : Addr) : Sp := fun vs H Q _ => ∃ (p dx l : Addr) (fs : List (Str × V)) (zs : List Str) (i : Int), vs = [.ref p, .int i] ∧ H p = some (.ins C dx fs) ∧ fld fs "_names" = some (.ref l) ∧ H l = some (.lst (zs.map V.str)) ∧ 0 ≤ i ∧ i < (zs.length : Int) ∧ Q (.str (zs.getD i.toNat Str.empty)) H
section
variable {P : Program} {w : World} {K : PySem.W.Frag} {mg : Str → Option Value} {base : Heap} {C : Addr}
theorem sc_ListedScale_name_at : FnScope ["self", "place"] ["self", "place"] (defScope (inClass (top 14) 1)) := ⟨rfl, rfl, rfl, by decide +kernel, rfl, by decide +kernel, by decide +kernel⟩
theorem ok_name_at {f : Addr} {fd : FuncData} (F : Fun K "name_at" "ListedScale.name_at" (inClass (top 14) 1) f fd) (LC : LCls K C) : FnOk P w K mg base CX0 1 f fd ["self", "place"] (spNameAt C) := by
  refine F.ok sc_ListedScale_name_at (fun vs H Q E h => ?_) (fun cdv A outer s H vs Q E hr h => ?_)
  · obtain ⟨p, dx, l, fs, zs, i, rfl, _⟩ := h
    rfl
  · obtain ⟨p, dx, l, fs, zs, i, rfl, hp, h1, hl, hi, hz, k⟩ := h
    refine ⟨_, (pss_one (ps_ret (pe_ix ix_list (pe_fld (pv 0) rfl) (pv 1) (fun _ _ => rfl)))), ?_⟩
    exact ⟨_, rfl, p, C, dx, _, _, rfl, hp, LC.cl, LC._names, h1, _, rfl, l, _, i, _, rfl, rfl, SqL.of hl, at_of (Int.toNat_of_nonneg hi).symm (at_mapS (by omega)), k⟩
end
/-! ### the state of the draws, kept -/
def spLaw (K : PySem.W.Frag) : Sp := fun vs H Q _ => ∃ (a : Addr) (ns : List Int), vs = [.ref a] ∧ SqL K H a (ns.map V.int) ∧ ns.length ≤ 63 ∧ ∀ H', Q (.bl true) H'
/-- what the state's two lists are told from -/
theorem StA.ne {H : Hp} {S L p : Addr} {o : HO} (h : StA H S L) (hp : H p = some o) (hn : ∀ xs, o ≠ .lst xs) : p ≠ S ∧ p ≠ L := by
  obtain ⟨_, ns, a, b, c, _, h1, h2⟩ := h
  exact ⟨ne_of hp h1 (fun z => hn _ z), ne_of hp h2 (fun z => hn _ z)⟩
theorem StA.same {H H' : Hp} {S L : Addr} (h : StA H S L) (e : Same H H') : StA H' S L := by
  obtain ⟨n, ns, a, b, c, l, h1, h2⟩ := h
  exact ⟨n, ns, a, b, c, l, e _ _ h1, e _ _ h2⟩
theorem StA.but {H H' : Hp} {S L p : Addr} (h : StA H S L) (e : But p H H') (h1 : p ≠ S) (h2 : p ≠ L) : StA H' S L := by
  obtain ⟨n, ns, a, b, c, l, g1, g2⟩ := h
  exact ⟨n, ns, a, b, c, l, e _ _ g1 h1.symm, e _ _ g2 h2.symm⟩
theorem StA.new {H : Hp} {S L p : Addr} (h : StA H S L) (hp : H p = none) : S ≠ p ∧ L ≠ p := by
  obtain ⟨n, ns, a, b, c, l, g1, g2⟩ := h
  exact ⟨ne_of_none g1 hp, ne_of_none g2 hp⟩
theorem Da.ints {H : Hp} {n : Nat} {a b : Addr} {xs : List V} (ha : H a = some (.lst xs)) (hb : H b = some (.lst xs)) (hz : xs.length ≤ 1000) (hf : ∀ x ∈ xs, Da H n x x) : Da H (n + 1) (.ref a) (.ref b) :=
  .lst ha hb rfl hz fun i x y h1 h2 => by
    rw [h1] at h2
    obtain rfl : x = y := Option.some.inj h2
    exact hf x (List.mem_of_getElem? h1)
theorem rg_mem {n : Int} {x : V} (h : x ∈ rgV 0 n) : ∃ i, x = .int i ∧ 0 ≤ i ∧ i < n := by
  obtain ⟨i, hi⟩ := List.getElem?_of_mem h
  obtain ⟨rfl, hn⟩ := rg_inv hi
  exact ⟨_, rfl, by omega, hn⟩
theorem rg_succ (i : Nat) : rgV 0 ((i : Int) + 1) = rgV 0 (i : Int) ++ [.int (i : Int)] := by
  unfold rgV
  have e1 : ((i : Int) + 1 - 0).toNat = i + 1 := by omega
  have e2 : ((i : Int) - 0).toNat = i := by omega
  rw [e1, e2, range_map_snoc, Int.zero_add]
/-! ### the law itself -/
/-- a scale of the kind k beside the state of the draws -/
structure Wd (C S L p dx l d : Addr) (lb : Str) (zs : List Str) (H : Hp) : Prop where
  st : StA H S L
  ls : LsOb C H p dx l d lb zs
  ap : (p ≠ S ∧ p ≠ L) ∧ (l ≠ S ∧ l ≠ L) ∧ (d ≠ S ∧ d ≠ L)
section
variable {C S L p dx l d : Addr} {lb : Str} {zs : List Str} {H H' : Hp}
theorem LsOb.same (w : LsOb C H p dx l d lb zs) (e : Same H H') : LsOb C H' p dx l d lb zs := ⟨e _ _ w.ob, e _ _ w.nl, e _ _ w.fd⟩
theorem Wd.same (w : Wd C S L p dx l d lb zs H) (e : Same H H') : Wd C S L p dx l d lb zs H' := ⟨w.st.same e, w.ls.same e, w.ap⟩
theorem Wd.keeps (w : Wd C S L p dx l d lb zs H) (h : StA H' S L) (e : Keeps S L H H') : Wd C S L p dx l d lb zs H' :=
  ⟨h, ⟨e _ _ w.ls.ob w.ap.1.1 w.ap.1.2, e _ _ w.ls.nl w.ap.2.1.1 w.ap.2.1.2, e _ _ w.ls.fd w.ap.2.2.1 w.ap.2.2.2⟩, w.ap⟩
theorem Wd.new {x : Addr} {u : HO} (w : Wd C S L p dx l d lb zs H) (h : H x = none) : Wd C S L p dx l d lb zs (L2.upd H x u) := w.same (sameNew h)
theorem Wd.off {x : Addr} (w : Wd C S L p dx l d lb zs H) (h : H x = none) : x ≠ S ∧ x ≠ L ∧ x ≠ p ∧ x ≠ l ∧ x ≠ d :=
  ⟨(w.st.new h).1.symm, (w.st.new h).2.symm, (ne_of_none w.ls.ob h).symm, (ne_of_none w.ls.nl h).symm, (ne_of_none w.ls.fd h).symm⟩
theorem Wd.upd {x : Addr} {u : HO} (w : Wd C S L p dx l d lb zs H) (f : x ≠ S ∧ x ≠ L ∧ x ≠ p ∧ x ≠ l ∧ x ≠ d) : Wd C S L p dx l d lb zs (L2.upd H x u) := by
  obtain ⟨⟨n, ns, a, b, c, hl, g1, g2⟩, ls, ap⟩ := w
  obtain ⟨f1, f2, f3, f4, f5⟩ := f
  exact ⟨⟨n, ns, a, b, c, hl, by rw [upd_ne f1.symm]; exact g1, by rw [upd_ne f2.symm]; exact g2⟩,
    ⟨by rw [upd_ne f3.symm]; exact ls.ob, by rw [upd_ne f4.symm]; exact ls.nl, by rw [upd_ne f5.symm]; exact ls.fd⟩, ap⟩
theorem ls_none {m : Str} {n : Nat} {z o : V} (h : ["label", "size", "zero_at", "one_at", "depth", "_names", "_found"].all (fun f => decide (m ≠ Str.ofString f)) = true) : fld (listedFs [] lb n z o l d) m = none := by
  simp only [List.all_cons, List.all_nil, Bool.and_eq_true, decide_eq_true_eq] at h
  obtain ⟨h4, h5, h6, h7, h8, h9, h10, _⟩ := h
  unfold listedFs
  rw [fld_put, if_neg h10, fld_put, if_neg h9, fld_put, if_neg h8, fld_put, if_neg h7, fld_put, if_neg h6, fld_put, if_neg h5, fld_put, if_neg h4]
  rfl
theorem ls_size {n : Nat} {z o : V} : fld (listedFs [] lb n z o l d) "size" = some (.int (n : Int)) := by
  unfold listedFs
  repeat (first | rw [fld_put, if_pos rfl] | rw [fld_put, if_neg (by decide +kernel)])
theorem ls_zero {n : Nat} {z o : V} : fld (listedFs [] lb n z o l d) "zero_at" = some z := by
  unfold listedFs
  repeat (first | rw [fld_put, if_pos rfl] | rw [fld_put, if_neg (by decide +kernel)])
theorem ls_one {n : Nat} {z o : V} : fld (listedFs [] lb n z o l d) "one_at" = some o := by
  unfold listedFs
  repeat (first | rw [fld_put, if_pos rfl] | rw [fld_put, if_neg (by decide +kernel)])
theorem ls_names {n : Nat} {z o : V} : fld (listedFs [] lb n z o l d) "_names" = some (.ref l) := by
  unfold listedFs
  repeat (first | rw [fld_put, if_pos rfl] | rw [fld_put, if_neg (by decide +kernel)])
theorem ls_found {n : Nat} {z o : V} : fld (listedFs [] lb n z o l d) "_found" = some (.ref d) := by
  unfold listedFs
  repeat (first | rw [fld_put, if_pos rfl] | rw [fld_put, if_neg (by decide +kernel)])
theorem Wd.find (w : Wd C S L p dx l d lb zs H) : FindOb C H p d (foundTo zs zs.length) := ⟨dx, _, w.ls.ob, ls_found, ls_none (by decide +kernel), ls_none (by decide +kernel), w.ls.fd⟩
theorem obLs_ok (C : Addr) (W0 : Int → Int → Bool) : ObOk C (ObLs C W0) := by
  constructor
  · rintro H p n W ⟨dx, l, d, lb, zs, rfl, h1, rfl, ls⟩
    exact ⟨dx, _, ls.ob, ls_size, ls_none (by decide +kernel), ls_none (by decide +kernel), ls_none (by decide +kernel), h1⟩
  · rintro H H' p n W ⟨dx, l, d, lb, zs, h0, h1, h2, ls⟩ sm
    exact ⟨dx, l, d, lb, zs, h0, h1, h2, ls.same sm⟩
end
def kvI : Bool → Int
  | false => 0
  | true => 1
def mostK : Bool → Int
  | false => 64
  | true => 6
def dueV (k : Bool) (c : Nat) (a b : Int) : List V := [.int (sumK k a b), .int (prodK k a b), .bl (wK k a b), .int (sumK k a b), .str ((nmK k c).getD a.toNat Str.empty)]
theorem dueL_eq {c : Nat} {x y : Int} (x0 : 0 ≤ x) (x1 : x < (c : Int)) : [V.int (mxI x y), V.int (mnI x y), V.bl (wLev x y), V.int (mxI x y), V.str (num x)] = dueV false c x y := by
  obtain ⟨n, rfl⟩ := Int.eq_ofNat_of_zero_le x0
  have h : n < c := by omega
  show _ = [V.int (mxI n y), V.int (mnI n y), V.bl (wLev n y), V.int (mxI n y), V.str ((levNames c).getD n Str.empty)]
  rw [lev_at h]
theorem dueS_eq {c : Nat} {x y : Int} (c1 : 1 ≤ c) (c6 : c ≤ 6) (x0 : 0 ≤ x) (x1 : x < ((2 ^ c : Nat) : Int)) (y0 : 0 ≤ y) (y1 : y < ((2 ^ c : Nat) : Int)) :
    [V.int (plI (zU c x y)), V.int (plI (zI c x y)), V.bl (eqI (zI c x y) (zb c x)), V.int (plI (zU c x y)), V.str (zName c x)] = dueV true c x y := by
  obtain ⟨n, rfl⟩ := Int.eq_ofNat_of_zero_le x0
  obtain ⟨m, rfl⟩ := Int.eq_ofNat_of_zero_le y0
  have hn : n < 2 ^ c := by omega
  have hm : m < 2 ^ c := by omega
  have c7 : c < 7 := by omega
  show _ = [V.int (Builtin.bitOr n m), V.int (Builtin.bitAnd n m), V.bl (wSub n m), V.int (Builtin.bitOr n m), V.str ((subNames c).getD n Str.empty)]
  have ew : wSub n m = decide (Builtin.bitAnd (n : Int) (m : Int) = (n : Int)) := by
    unfold wSub
    by_cases e : Builtin.bitAnd (n : Int) (m : Int) = (n : Int)
    · rw [e, decide_eq_true rfl, decide_eq_true rfl]
    · rw [decide_eq_false e, decide_eq_false (fun q => e (V.int.inj q))]
  rw [sub_at hn, sub_sum_all c c7 n hn m hm, sub_prod_all c c7 n hn m hm, sub_name_all c c7 c1 n hn, eqI_eq, sub_with_all c c7 n hn m hm, ew]
section
variable {P : Program} {w : World} {K : PySem.W.Frag} {mg : Str → Option Value} {base : Heap} {CU : Addr} {cls : Bool → Addr}
theorem sc_law : FnScope ["_law_script", "_law_state", "_law_kind", "_law_count", "_law_scale", "_law_size", "_law_k", "_law_a", "_law_b", "_law_due", "_law_found", "_law_names", "_law_name", "_law_words", "_law_word", "_law_place_here", "_law_thing"] ["_law_script"] (defScope (top 29)) := ⟨rfl, rfl, rfl, by decide +kernel, rfl, by decide +kernel, by decide +kernel⟩
theorem ok_law {f : Addr} {fd : FuncData} (F : Fun K "law" "law" (top 29) f fd) (T : TxL K mg) (CC : ∀ k, LCls K (cls k)) (c__law_draws : Cal P w K mg base CX0 1 "_law_draws" (spDraws K)) (c__law_draw : Cal P w K mg base CX0 1 "_law_draw" spDraw)
    (mk_LevelScale : Mak P w K mg base CX0 3 "LevelScale" (cls false) (spLevInit (cls false))) (mk_SubsetScale : Mak P w K mg base CX0 3 "SubsetScale" (cls true) (spSubInit (cls true)))
    (c__law_levels : Cal P w K mg base CX0 1 "_law_levels" spDueL) (c__law_subsets : Cal P w K mg base CX0 2 "_law_subsets" spDueS) (c__law_set : Cal P w K mg base CX0 1 "_law_set" spSet) (c__law_same : Cal P w K mg base CX0 2 "_law_same" (spSame 1))
    (m_places : ∀ k, Met P w K mg base CX0 1 (cls k) "places" (spPlaces (cls k))) (m_sum_at : ∀ k, Met P w K mg base CX0 2 (cls k) "sum_at" (spOp (sumK k))) (m_product_at : ∀ k, Met P w K mg base CX0 2 (cls k) "product_at" (spOp (prodK k)))
    (m_within_at : ∀ k, Met P w K mg base CX0 1 (cls k) "within_at" (spWithin (ObLs (cls k) (wK k)))) (m_bound_at : ∀ k, Met P w K mg base CX0 3 (cls k) "bound_at" (spBound (ObLs (cls k) (wK k)))) (m_name_at : ∀ k, Met P w K mg base CX0 1 (cls k) "name_at" (spNameAt (cls k)))
    (m_at_name : ∀ k, Met P w K mg base (L2.CX P w) 3 (cls k) "at_name" (spAtName (cls k) CU)) (c__law_unknown : Cal P w K mg base (L2.CX P w) 4 "_law_unknown" (spLUnknown cls CU)) : FnOk P w K mg base (L2.CX P w) 6 f fd ["_law_script"] (spLaw K) := by
  refine okN F sc_law (fun vs H Q E h => ?_) (fun cdv A outer s H vs Q E hr h => ?_)
  · obtain ⟨a, ns, rfl, _⟩ := h
    rfl
  · obtain ⟨a, ns, rfl, hS, hlen, k⟩ := h
    refine ⟨_, (pss_cons (ps_set (i := 1) sc_law.nd rfl (Or.inl rfl) (pe_c c__law_draws hr (by decide) (by rfl) (pa_cons (pv 0) pa_nil)))
      (pss_cons (ps_set (i := 2) sc_law.nd rfl (Or.inl rfl) (pe_c c__law_draw hr (by decide) (by rfl) (pa_cons (pv 1) (pa_cons pe_int pa_nil))))
      (pss_cons (ps_set (i := 3) sc_law.nd rfl (Or.inr rfl) (pe_op op_add pe_int (pe_c c__law_draw hr (by decide) (by rfl) (pa_cons (pv 1) (pa_cons (pe_ix ix_list (pe_lst (pa_cons pe_int (pa_cons pe_int pa_nil))) (pv 2) (fun _ _ => rfl)) pa_nil)))))
      (pss_cons (ps_if (pt_cmpR op_eq (pv 2) pe_int (nomark _)) (pss_cons (ps_set (i := 4) sc_law.nd rfl (Or.inl rfl) (pe_mk mk_LevelScale hr (by decide) (by rfl) (pa_cons (pv 3) pa_nil)))
      (pss_one (ps_set (i := 5) sc_law.nd rfl (Or.inl rfl) (pv 3)))) (pss_cons (ps_set (i := 4) sc_law.nd rfl (Or.inl rfl) (pe_mk mk_SubsetScale hr (by decide) (by rfl) (pa_cons (pv 3) pa_nil)))
      (pss_one (ps_set (i := 5) sc_law.nd rfl (Or.inl rfl) (pe_op op_shl pe_int (pv 3))))))
      (pss_cons (ps_if (pt_not (pt_val (pe_c c__law_same hr (by decide) (by rfl) (pa_cons (pe_lst (pa_cons (pe_fld (pv 4) rfl) (pa_cons (pe_fld (pv 4) rfl) (pa_cons (pe_fld (pv 4) rfl) pa_nil)))) (pa_cons (pe_lst (pa_cons (pv 5) (pa_cons pe_int (pa_cons (pe_op op_sub (pv 5) pe_int) pa_nil)))) pa_nil))))) (pss_one (ps_ret pe_bl)) pss_nil)
      (pss_cons (ps_if (pt_not (pt_val (pe_c c__law_same hr (by decide) (by rfl) (pa_cons (UF.pe_ex fun k => pe_mt0 (m_places k) hr (by decide) (pv 4)) (pa_cons (pe_lc (own := [("_law_k", 6)]) (g := (gName 6)) (by rfl) sc_law.nd (pi_range1 (by rfl) T.range (pa_cons (pv 5) pa_nil)) (blkOk_by (own := [("_law_k", 6)]) (N := ["_law_script", "_law_state", "_law_kind", "_law_count", "_law_scale", "_law_size", "_law_k", "_law_a", "_law_b", "_law_due", "_law_found", "_law_names", "_law_name", "_law_words", "_law_word", "_law_place_here", "_law_thing"]) (sc := defScope (top 29)) (by decide +kernel)) (fun _ _ _ _ _ => (pg_name (i := 6) sc_law.nd rfl (Or.inl rfl))) (fun _ _ _ _ _ => pts_nil) (fun _ _ _ _ _ => (pv 6))) pa_nil))))) (pss_one (ps_ret pe_bl)) pss_nil)
      (pss_cons (ps_for PassesOwn.never rfl (pi_range1 (by rfl) T.range (pa_cons (pe_op op_add pe_int (pe_c c__law_draw hr (by decide) (by rfl) (pa_cons (pv 1) (pa_cons pe_int pa_nil)))) pa_nil)) (pg_name (i := 6) sc_law.nd rfl (Or.inl rfl)) (pss_cons (ps_set (i := 7) sc_law.nd rfl (Or.inl rfl) (pe_c c__law_draw hr (by decide) (by rfl) (pa_cons (pv 1) (pa_cons (pv 5) pa_nil))))
      (pss_cons (ps_set (i := 8) sc_law.nd rfl (Or.inl rfl) (pe_c c__law_draw hr (by decide) (by rfl) (pa_cons (pv 1) (pa_cons (pv 5) pa_nil))))
      (pss_cons (ps_if (pt_cmpR op_eq (pe_c c__law_draw hr (by decide) (by rfl) (pa_cons (pv 1) (pa_cons pe_int pa_nil))) pe_int (nomark _)) (pss_one (ps_set (i := 8) sc_law.nd rfl (Or.inl rfl) (pv 7))) pss_nil)
      (pss_cons (ps_set (i := 9) sc_law.nd rfl (Or.inl rfl) (pe_ifExp (pt_cmpR op_eq (pv 2) pe_int (nomark _)) (pe_c c__law_levels hr (by decide) (by rfl) (pa_cons (pv 7) (pa_cons (pv 8) pa_nil))) (pe_c c__law_subsets hr (by decide) (by rfl) (pa_cons (pv 3) (pa_cons (pv 7) (pa_cons (pv 8) pa_nil))))))
      (pss_cons (ps_set (i := 10) sc_law.nd rfl (Or.inl rfl) (pe_lst (pa_cons (UF.pe_ex fun k => pe_mt (m_sum_at k) hr (by decide) (pv 4) (pa_cons (pv 7) (pa_cons (pv 8) pa_nil))) (pa_cons (UF.pe_ex fun k => pe_mt (m_product_at k) hr (by decide) (pv 4) (pa_cons (pv 7) (pa_cons (pv 8) pa_nil))) (pa_cons (UF.pe_ex fun k => pe_mt (m_within_at k) hr (by decide) (pv 4) (pa_cons (pv 7) (pa_cons (pv 8) pa_nil))) (pa_cons (UF.pe_ex fun k => pe_mt (m_bound_at k) hr (by decide) (pv 4) (pa_cons (pv 7) (pa_cons (pv 8) pa_nil))) (pa_cons (UF.pe_ex fun k => pe_mt (m_name_at k) hr (by decide) (pv 4) (pa_cons (pv 7) pa_nil)) pa_nil)))))))
      (pss_cons (ps_if (pt_not (pt_val (pe_c c__law_same hr (by decide) (by rfl) (pa_cons (pv 10) (pa_cons (pv 9) pa_nil))))) (pss_one (ps_ret pe_bl)) pss_nil)
      (pss_one (ps_if (pt_not (pt_val (pe_c c__law_same hr (by decide) (by rfl) (pa_cons (UF.pe_ex fun k => pe_mtL (m_at_name k) hr (by decide) (pv 4) (pa_cons (pe_ix ix_list (pv 9) pe_int (fun _ _ => rfl)) pa_nil)) (pa_cons (pv 7) pa_nil))))) (pss_one (ps_ret pe_bl)) pss_nil)))))))))
      (pss_cons (ps_setLc (i := 11) (own := [("_law_place_here", 15)]) (g := (gName 15)) (by rfl) sc_law.nd rfl rfl (sw_true rfl rfl rfl (by decide +kernel)) (pi_range1 (by rfl) T.range (pa_cons (pv 5) pa_nil)) (blkOk_by (own := [("_law_place_here", 15)]) (N := ["_law_script", "_law_state", "_law_kind", "_law_count", "_law_scale", "_law_size", "_law_k", "_law_a", "_law_b", "_law_due", "_law_found", "_law_names", "_law_name", "_law_words", "_law_word", "_law_place_here", "_law_thing"]) (sc := defScope (top 29)) (by decide +kernel)) (fun _ _ _ _ _ => (pg_name (i := 15) sc_law.nd rfl (Or.inl rfl))) (fun _ _ _ _ _ => pts_nil) (fun _ _ _ _ _ => (pe_callTy call_str_int (by rfl) T.str (by decide +kernel) (pa_cons (pv 15) pa_nil))))
      (pss_cons (ps_if (pt_cmpR op_eq (pv 2) pe_int (nomark _)) (pss_one (ps_setLc (i := 11) (own := [("_law_place_here", 15)]) (g := (gName 15)) (by rfl) sc_law.nd rfl rfl (sw_true rfl rfl rfl (by decide +kernel)) (pi_range1 (by rfl) T.range (pa_cons (pv 5) pa_nil)) (blkOk_by (own := [("_law_place_here", 15)]) (N := ["_law_script", "_law_state", "_law_kind", "_law_count", "_law_scale", "_law_size", "_law_k", "_law_a", "_law_b", "_law_due", "_law_found", "_law_names", "_law_name", "_law_words", "_law_word", "_law_place_here", "_law_thing"]) (sc := defScope (top 29)) (by decide +kernel)) (fun _ _ _ _ _ => (pg_name (i := 15) sc_law.nd rfl (Or.inl rfl))) (fun _ _ _ _ _ => pts_nil) (fun _ _ _ _ _ => (UF.pe_joinK K rfl pe_str (pe_lc (own := [("_law_thing", 16)]) (g := (gName 16)) (by rfl) sc_law.nd (UF.pi_listK K rfl (pe_c c__law_set hr (by decide) (by rfl) (pa_cons (pv 15) (pa_cons (pv 3) pa_nil)))) (blkOk_by (own := [("_law_thing", 16)]) (by exact rfl)) (fun _ _ _ _ _ => (pg_name (i := 16) sc_law.nd rfl (Or.inl rfl))) (fun _ _ _ _ _ => pts_nil) (fun _ _ _ _ _ => (pe_callTy call_str_int (by rfl) T.str (by decide +kernel) (pa_cons (pv 16) pa_nil)))) (by rfl) (by rfl) (by rfl))))) pss_nil)
      (pss_cons (ps_set (i := 12) sc_law.nd rfl (Or.inl rfl) (pe_ix ix_list (pv 11) (pe_c c__law_draw hr (by decide) (by rfl) (pa_cons (pv 1) (pa_cons (pv 5) pa_nil))) (fun _ _ => rfl)))
      (pss_cons (ps_set (i := 13) sc_law.nd rfl (Or.inl rfl) (pe_lst (pa_cons (pe_slice sl_str (pv 12) (po_some pe_int) po_none) (pa_cons (pe_op op_add_str pe_str (pv 12)) (pa_cons (pe_op op_add_str (pv 12) pe_str) (pa_cons pe_str (pa_cons pe_str (pa_cons pe_str (pa_cons pe_str (pa_cons pe_str (pa_cons pe_str (pa_cons pe_str (pa_cons pe_str (pa_cons (pe_op op_add_str pe_str (pv 12)) pa_nil))))))))))))))
      (pss_cons (ps_set (i := 13) sc_law.nd rfl (Or.inl rfl) (pe_op op_cat (pv 13) (pe_lst (pa_cons (pe_callTy call_str_int (by rfl) T.str (by decide +kernel) (pa_cons (pv 5) pa_nil)) (pa_cons (pe_op UF.op_mulS pe_str pe_int) pa_nil)))))
      (pss_cons (ps_for PassesOwn.never rfl (pi_range1 (by rfl) T.range (pa_cons pe_int pa_nil)) (pg_name (i := 6) sc_law.nd rfl (Or.inl rfl)) (pss_cons (ps_set (i := 14) sc_law.nd rfl (Or.inl rfl) (pe_ix ix_list (pv 13) (pe_c c__law_draw hr (by decide) (by rfl) (pa_cons (pv 1) (pa_cons pe_int pa_nil))) (fun _ _ => rfl)))
      (pss_one (ps_if (PW.pt (pw_and (pt_cmpR op_notIn_seq (pv 14) (pv 11) (by rfl)) (pw_and1 (pt_not (pt_val (pe_cL c__law_unknown hr (by decide) (by rfl) (pa_cons (pv 4) (pa_cons (pv 14) pa_nil)))))))) (pss_one (ps_ret pe_bl)) pss_nil))))
      (pss_one (ps_ret pe_bl))))))))))))))), ?_⟩
    -- the draws
    refine ⟨_, rfl, a, ns, rfl, hS, hlen, fun S L H1 _ _ st1 _ => ?_⟩
    refine ⟨_, rfl, S, L, 2, rfl, st1, by decide, fun r1 H2 r10 r11 st2 kp2 => ?_⟩
    have r12 := r11 (by decide)
    obtain ⟨kb, rfl⟩ : ∃ kb : Bool, r1 = kvI kb := by
      have z : r1 = 0 ∨ r1 = 1 := by omega
      rcases z with rfl | rfl
      · exact ⟨false, rfl⟩
      · exact ⟨true, rfl⟩
    refine ⟨_, rfl, (by show 2 ≤ sizeLine; decide), fun lo hlo => ?_⟩
    refine ⟨_, rfl, lo, _, kvI kb, .int (mostK kb), rfl, rfl, SqL.of upd_same, (by cases kb <;> rfl), ?_⟩
    refine ⟨S, L, mostK kb, rfl, st2.same (sameNew hlo), (by cases kb <;> decide), fun r3 H3 r30 r31 st3 kp3 => ?_⟩
    have r32 := r31 (by cases kb <;> decide)
    obtain ⟨c, hc⟩ : ∃ c : Nat, 1 + r3 = (c : Int) := ⟨(1 + r3).toNat, by omega⟩
    have hok : okK kb c := by
      cases kb with
      | false => have z : r3 < 64 := r32; exact ⟨by omega, by omega⟩
      | true => have z : r3 < 6 := r32; exact ⟨by omega, by omega⟩
    refine ⟨_, _, rfl, rfl, ?_⟩
    refine gNameI ?_
    dsimp only
    rw [hc]
    clear hc r30 r31 r32 r10 r11 r12 kp2 kp3
    -- the scale
    refine st_seq (join (fun σ' H' => ∃ p dx l d lb, σ' = [some (.ref a), some (.ref S), some (.int (kvI kb)), some (.int (c : Int)), some (.ref p), some (.int ((sizeK kb c : Nat) : Int)), none, none, none, none, none, none, none, none, none, none, none] ∧ Wd (cls kb) S L p dx l d lb (nmK kb c) H') ?_ ?_)
    · intro D' hD'
      refine ⟨_, rfl, rfl, _, rfl, ?_⟩
      have wd : ∀ p dx l d lb H', H3 p = none → H3 dx = none → (upd (upd H3 dx (.own p)) p (.ins (cls kb) dx [])) l = none → (upd (upd H3 dx (.own p)) p (.ins (cls kb) dx [])) d = none → But p (upd (upd H3 dx (.own p)) p (.ins (cls kb) dx [])) H' → LsOb (cls kb) H' p dx l d lb (nmK kb c) → Wd (cls kb) S L p dx l d lb (nmK kb c) H' := by
        intro p dx l d lb H' hp hdx hl hd b ls
        have sm : Same H3 H' := fun b' o' e => by
          have x1 := ne_of_none e hp
          have x2 := ne_of_none e hdx
          exact b _ _ (by rw [upd_ne x1, upd_ne x2]; exact e) x1
        have hl0 := (upd_none (upd_none hl).2).2
        have hd0 := (upd_none (upd_none hd).2).2
        exact ⟨st3.same sm, ls, ⟨⟨(st3.new hp).1.symm, (st3.new hp).2.symm⟩, ⟨(st3.new hl0).1.symm, (st3.new hl0).2.symm⟩, ⟨(st3.new hd0).1.symm, (st3.new hd0).2.symm⟩⟩⟩
      cases kb with
      | false =>
        refine ifY rfl ?_
        refine ⟨_, rfl, fun p dx hp hdx hne => ?_⟩
        refine ⟨p, dx, c, rfl, hok.1, hok.2, upd_same, fun l d lb H' n1 n2 b ls => ⟨rfl, ?_⟩⟩
        refine ⟨_, rfl, ?_⟩
        exact hD' _ _ ⟨p, dx, l, d, lb, rfl, wd p dx l d lb H' hp hdx n1 n2 b ls⟩
      | true =>
        refine ifN (fun z => nomatch z) ?_
        refine ⟨_, rfl, fun p dx hp hdx hne => ?_⟩
        refine ⟨p, dx, c, rfl, hok.1, hok.2, upd_same, fun l d lb H' n1 n2 b ls => ⟨rfl, ?_⟩⟩
        have hok2 : c ≤ 6 := hok.2
        have ei : (1 : Int) * 2 ^ ((c : Int)).toNat = ((2 ^ c : Nat) : Int) := by rw [Int.toNat_natCast, Int.one_mul]; exact (Int.natCast_pow 2 c).symm
        refine ⟨_, rfl, _, _, rfl, rfl, ⟨by omega, by omega, by decide⟩, ?_⟩
        refine hD' _ _ ⟨p, dx, l, d, lb, ?_, wd p dx l d lb H' hp hdx n1 n2 b ls⟩
        show [some (.ref a), some (.ref S), some (.int (kvI true)), some (.int (c : Int)), some (.ref p), some (V.int ((1 : Int) * 2 ^ ((c : Int)).toNat)), none, none, none, none, none, none, none, none, none, none, none] = _
        rw [ei]; rfl
    rintro σ' H4 ⟨p, dx, l, d, lb, rfl, W4⟩
    clear st3 st2 hlo
    obtain ⟨n, hn⟩ : ∃ n, sizeK kb c = n := ⟨_, rfl⟩
    have hnl : (nmK kb c).length = n := (nmK_len kb c).trans hn
    have hn1 : 1 ≤ n ∧ n ≤ 64 := by rw [← hn]; exact sizeK_pos kb c hok
    rw [hn]
    have np1 : ∀ {m : Nat} {z o : V}, fld (listedFs [] lb m z o l d) "places" = none := ls_none (by decide +kernel)
    have np2 : ∀ {m : Nat} {z o : V}, fld (listedFs [] lb m z o l d) "sum_at" = none := ls_none (by decide +kernel)
    have np3 : ∀ {m : Nat} {z o : V}, fld (listedFs [] lb m z o l d) "product_at" = none := ls_none (by decide +kernel)
    have np4 : ∀ {m : Nat} {z o : V}, fld (listedFs [] lb m z o l d) "name_at" = none := ls_none (by decide +kernel)
    have np5 : ∀ {m : Nat} {z o : V}, fld (listedFs [] lb m z o l d) "at_name" = none := ls_none (by decide +kernel)
    have np6 : ∀ {m : Nat} {z o : V}, fld (listedFs [] lb m z o l d) "within_at" = none := ls_none (by decide +kernel)
    have np7 : ∀ {m : Nat} {z o : V}, fld (listedFs [] lb m z o l d) "bound_at" = none := ls_none (by decide +kernel)
    -- the ends
    have ob4 := W4.ls.ob
    rw [hnl] at ob4
    refine ⟨_, rfl, p, cls kb, dx, _, _, rfl, ob4, (CC kb).cl, (CC kb).size, ls_size, ?_⟩
    refine ⟨_, rfl, p, cls kb, dx, _, _, rfl, ob4, (CC kb).cl, (CC kb).zero_at, ls_zero, ?_⟩
    refine ⟨_, rfl, p, cls kb, dx, _, _, rfl, ob4, (CC kb).cl, (CC kb).one_at, ls_one, ?_⟩
    refine ⟨(by show 3 ≤ sizeLine; decide), fun E1 hE1 => ?_⟩
    refine ⟨_, rfl, _, rfl, _, _, rfl, rfl, ?_⟩
    refine ⟨(by show 3 ≤ sizeLine; decide), fun E2 hE2 => ?_⟩
    have nE : E1 ≠ E2 := ne_of_none upd_same hE2
    have W5 := (W4.new hE1 (u := .lst [.int (n : Int), .int 0, .int ((n : Int) - 1)])).new (u := .lst [.int (n : Int), .int 0, .int ((n : Int) - 1)]) hE2
    refine ⟨_, _, rfl, Da.ints (xs := [.int (n : Int), .int 0, .int ((n : Int) - 1)]) (by rw [upd_ne nE, upd_same]) upd_same (by show 3 ≤ 1000; decide) (fun x hx => ?_), _, rfl, ?_⟩
    · simp only [List.mem_cons, List.mem_nil_iff, or_false] at hx
      rcases hx with rfl | rfl | rfl <;> exact .int _
    refine iteF ?_
    -- the places
    have ob5 := W5.ls.ob
    rw [hnl] at ob5
    refine ⟨kb, _, rfl, p, dx, _, rfl, ob5, np1, p, dx, _, n, rfl, ob5, ls_size, hn1.2, fun Pl hPl => ?_⟩
    have W6 := W5.new (u := .lst (rgV 0 (n : Int))) hPl
    refine ⟨_, rfl, _, rfl, by omega, by omega, fun D1 hD1 => lcF_range (lo := 0) (n := n) (fun i => rgV 0 (i : Int)) rfl ?_ ?_⟩
    · intro i hi
      refine ⟨rfl, tYesI (iteT ⟨_, rfl, _, upd_same, ?_, ?_⟩)⟩
      · rw [rgV_length]; exact small1000 (by omega)
      · rw [upd_upd, Int.zero_add]
        show _ = upd _ _ (HO.lst (rgV 0 (((i + 1 : Nat) : Int))))
        rw [show ((i + 1 : Nat) : Int) = (i : Int) + 1 from by omega, rg_succ]
    have nPD : Pl ≠ D1 := ne_of_none upd_same hD1
    have W7 := W6.new (u := .lst (rgV 0 (n : Int))) hD1
    refine ⟨_, _, rfl, Da.ints (by rw [upd_ne nPD]; exact upd_same) upd_same (by rw [rgV_length]; omega) (fun x hx => ?_), _, rfl, ?_⟩
    · obtain ⟨i, rfl, _⟩ := rg_mem hx
      exact .int i
    refine iteF ?_
    -- the pairs
    refine ⟨_, rfl, S, L, 20, rfl, W7.st, by decide, fun r4 H8 r40 r41 st8 kp8 => ?_⟩
    have r42 := r41 (by decide)
    have W8 := W7.keeps st8 kp8
    refine ⟨_, _, rfl, rfl, _, rfl, by omega, by omega, for_range (lo := 0) (n := (1 + r4).toNat) (fun i σ H9 => ∃ vk va vb vd vf, σ = [some (.ref a), some (.ref S), some (.int (kvI kb)), some (.int (c : Int)), some (.ref p), some (.int (n : Int)), vk, va, vb, vd, vf, none, none, none, none, none, none] ∧ Wd (cls kb) S L p dx l d lb (nmK kb c) H9)
      ⟨none, none, none, none, none, rfl, W8⟩ ?_ ?_⟩
    · rintro i σ H9 hi ⟨vk, va, vb, vd, vf, rfl, W9⟩
      refine ⟨_, rfl, _, rfl, S, L, (n : Int), rfl, W9.st, by omega, fun x HA x0 x1 stA kpA => ?_⟩
      have WA := W9.keeps stA kpA
      have x2 := x1 (by omega)
      refine ⟨_, rfl, _, rfl, S, L, (n : Int), rfl, WA.st, by omega, fun y0' HB y00 y01 stB kpB => ?_⟩
      have WB := WA.keeps stB kpB
      have y02 := y01 (by omega)
      refine gNameI ?_
      dsimp only
      refine st_seq (join (fun σ' H' => ∃ y, 0 ≤ y ∧ y < (n : Int) ∧ σ' = [some (.ref a), some (.ref S), some (.int (kvI kb)), some (.int (c : Int)), some (.ref p), some (.int (n : Int)), some (.int (0 + (i : Int))), some (.int x), some (.int y), vd, vf, none, none, none, none, none, none] ∧ Wd (cls kb) S L p dx l d lb (nmK kb c) H') ?_ ?_)
      · intro D' hD'
        refine ⟨_, rfl, S, L, 4, rfl, WB.st, by decide, fun z HC z0 z1 stC kpC => ?_⟩
        have WC := WB.keeps stC kpC
        refine ⟨rfl, _, rfl, ?_⟩
        refine ifD (fun e => ?_) (fun e => ?_)
        · exact ⟨_, rfl, hD' _ _ ⟨x, x0, x2, rfl, WC⟩⟩
        · exact hD' _ _ ⟨y0', y00, y02, rfl, WC⟩
      rintro σ' HD ⟨y, y0, y2, rfl, WD⟩
      dsimp only
      refine st_seq (join (fun σ' H' => ∃ D, D ≠ S ∧ D ≠ L ∧ H' D = some (.lst (dueV kb c x y)) ∧ σ' = [some (.ref a), some (.ref S), some (.int (kvI kb)), some (.int (c : Int)), some (.ref p), some (.int (n : Int)), some (.int (0 + (i : Int))), some (.int x), some (.int y), some (.ref D), vf, none, none, none, none, none, none] ∧ Wd (cls kb) S L p dx l d lb (nmK kb c) H') ?_ ?_)
      · intro D' hD'
        refine ⟨_, rfl, rfl, _, rfl, ?_⟩
        cases kb with
        | false =>
          refine ifY rfl ?_
          refine ⟨_, rfl, _, rfl, x, y, rfl, x0, by omega, fun D hD => ?_⟩
          have nD := WD.st.new hD
          have hn' : c = n := hn
          refine hD' _ _ ⟨D, nD.1.symm, nD.2.symm, ?_, rfl, WD.new hD⟩
          rw [upd_same, dueL_eq (c := c) x0 (by omega)]
        | true =>
          refine ifN (fun z => nomatch z) ?_
          have hn' : 2 ^ c = n := hn
          refine ⟨_, rfl, _, rfl, _, rfl, c, x, y, rfl, hok.1, hok.2, x0, by omega, y0, by omega, fun D H' hD sm hf => ?_⟩
          have nD := WD.st.new hf
          refine hD' _ _ ⟨D, nD.1.symm, nD.2.symm, ?_, rfl, WD.same sm⟩
          rw [hD, dueS_eq hok.1 hok.2 x0 (by rw [hn']; exact x2) y0 (by rw [hn']; exact y2)]
      rintro σ' HE ⟨D, nDS, nDL, hD, rfl, WE⟩
      have obE := WE.ls.ob
      rw [hnl] at obE
      have obk : ObLs (cls kb) (wK kb) HE p n (wK kb) := ⟨dx, l, d, lb, nmK kb c, hnl.symm, hn1.2, rfl, WE.ls⟩
      have eb : optV (boundI n (wK kb) x y) = .int (sumK kb x y) := by
        obtain ⟨xn, rfl⟩ := Int.eq_ofNat_of_zero_le x0
        obtain ⟨yn, rfl⟩ := Int.eq_ofNat_of_zero_le y0
        have z := boundK kb c hok xn (by rw [hn]; omega) yn (by rw [hn]; omega)
        rw [hn] at z
        rw [z]; rfl
      refine ⟨kb, _, rfl, p, dx, _, rfl, obE, np2, _, rfl, _, rfl, _, x, y, rfl, ?_⟩
      refine ⟨kb, _, rfl, p, dx, _, rfl, obE, np3, _, rfl, _, rfl, _, x, y, rfl, ?_⟩
      refine ⟨kb, _, rfl, p, dx, _, rfl, obE, np6, _, rfl, _, rfl, p, n, wK kb, x, y, rfl, obk, x0, x2, y0, y2, ?_⟩
      refine ⟨kb, _, rfl, p, dx, _, rfl, obE, np7, _, rfl, _, rfl, p, n, wK kb, x, y, rfl, obk, x0, x2, y0, y2, fun HF sm => ?_⟩
      rw [eb]
      have WF := WE.same sm
      have hDF := sm _ _ hD
      have obF := WF.ls.ob
      rw [hnl] at obF
      refine ⟨kb, _, rfl, p, dx, _, rfl, obF, np4, _, rfl, p, dx, l, _, nmK kb c, x, rfl, obF, ls_names, WF.ls.nl, x0, (by rw [hnl]; exact x2), ?_⟩
      refine ⟨(by show 5 ≤ sizeLine; decide), fun E3 hE3 => ?_⟩
      have nED : D ≠ E3 := ne_of_none hDF hE3
      have WG := WF.new (u := .lst (dueV kb c x y)) hE3
      refine ⟨_, rfl, _, rfl, _, _, rfl, Da.ints (xs := dueV kb c x y) upd_same (by rw [upd_ne nED]; exact hDF) (by show 5 ≤ 1000; decide) (fun v hv => ?_), _, rfl, ?_⟩
      · unfold dueV at hv
        simp only [List.mem_cons, List.mem_nil_iff, or_false] at hv
        rcases hv with rfl | rfl | rfl | rfl | rfl
        · exact .int _
        · exact .int _
        · exact .bl _
        · exact .int _
        · exact .str _
      refine iteF ?_
      have xN : x.toNat < n := by omega
      have obG := WG.ls.ob
      rw [hnl] at obG
      have fnd : valV (foundTo (nmK kb c) (nmK kb c).length) (Sum.inr ((nmK kb c).getD x.toNat Str.empty) : Key) = some (.int x) := by
        have z := found_at (nmK kb c) x.toNat (fun i hi e => nmK_inj kb c hok i (by rw [hn]; omega) x.toNat (by rw [hn]; exact xN) e) _ (Nat.le_refl _) (by rw [hnl]; exact xN)
        rw [Int.toNat_of_nonneg x0] at z
        exact z
      refine ⟨kb, _, rfl, p, dx, _, rfl, obG, np5, _, rfl, D, _, 4, .str ((nmK kb c).getD x.toNat Str.empty), rfl, rfl, SqL.of (by rw [upd_ne nED]; exact hDF), rfl, ?_⟩
      refine ⟨p, d, _, _, rfl, WG.find, (Nat.le_trans (nmK_short kb c hok x.toNat (by rw [hn]; exact xN)) (by decide)), .inl ⟨x, fnd, ?_⟩⟩
      refine ⟨_, rfl, _, _, rfl, .int _, _, rfl, ?_⟩
      refine iteF ?_
      exact ⟨_, _, _, _, _, rfl, WG⟩
    rintro σ H9 ⟨vk, va, vb, vd, vf, rfl, W9⟩
    -- the names
    refine ⟨_, rfl, _, rfl, by omega, by omega, fun N1 hN1 => lcF_range (lo := 0) (n := n) (fun i => (List.range i).map fun (j : Nat) => V.str (num (j : Int))) rfl ?_ ?_⟩
    · intro i hi
      refine ⟨rfl, tYesI (iteT ?_)⟩
      refine ⟨_, rfl, _, rfl, num_log _ (by omega) (by omega), _, upd_same, (by rw [List.length_map, List.length_range]; exact small1000 (by omega)), ?_⟩
      rw [upd_upd, range_map_snoc, Int.zero_add]
    have W10 := W9.new (u := .lst ((List.range n).map fun (j : Nat) => V.str (num (j : Int)))) hN1
    have offN := W9.off hN1
    refine gNameI ?_
    dsimp only
    refine st_seq (join (fun σ' H' => ∃ N, N ≠ S ∧ N ≠ L ∧ H' N = some (.lst ((nmK kb c).map V.str)) ∧ σ' = [some (.ref a), some (.ref S), some (.int (kvI kb)), some (.int (c : Int)), some (.ref p), some (.int (n : Int)), vk, va, vb, vd, vf, some (.ref N), none, none, none, none, none] ∧ Wd (cls kb) S L p dx l d lb (nmK kb c) H') ?_ ?_)
    · intro D' hD'
      refine ⟨_, rfl, rfl, _, rfl, ?_⟩
      cases kb with
      | false =>
        refine ifN (fun z => nomatch z) ?_
        have hn' : c = n := hn
        refine hD' _ _ ⟨N1, offN.1, offN.2.1, ?_, rfl, W10⟩
        rw [upd_same, ← hn']
        show _ = some (HO.lst ((levNames c).map V.str))
        unfold levNames; rw [List.map_map]; rfl
      | true =>
        refine ifY rfl ?_
        have hn' : 2 ^ c = n := hn
        have hc1 : 1 ≤ c := hok.1
        have hc6 : c ≤ 6 := hok.2
        refine ⟨_, rfl, _, rfl, by omega, by omega, fun N2 hN2 => lc_range (lo := 0) (n := n) (fun i H' => H' N2 = some (.lst ((List.range i).map fun j => V.str (subName c j))) ∧ Wd (cls true) S L p dx l d lb (nmK true c) H') ⟨upd_same, W10.new hN2⟩ ?_ ?_⟩
        · rintro i H' hi ⟨hN, W'⟩
          refine ⟨rfl, tYesI (iteT ?_)⟩
          refine ⟨⟨_, rfl⟩, _, rfl, _, rfl, 0 + (i : Int), c, rfl, by omega, by omega, hc6, fun B1 hB1 => ?_⟩
          refine ⟨B1, rfl, ⟨_, SqL.of upd_same⟩, fun B2 hB2 => lcF_list (xs := (zb c (0 + (i : Int))).map V.int) (fun j => ((zb c (0 + (i : Int))).take j).map fun x => V.str (num x)) hB2 (SqL.of upd_same) rfl ?_ ?_⟩
          · intro j x hx
            obtain ⟨y, rfl, hy⟩ := at_map hx
            have by0 := zb_mem (List.mem_of_getElem? hy)
            refine ⟨rfl, tYesI (iteT ?_)⟩
            refine ⟨_, rfl, _, rfl, num_log _ by0.1 (by omega), _, upd_same, (by rw [List.length_map, List.length_take, zb_len]; exact small1000 (by omega)), ?_⟩
            rw [upd_upd, take_snoc hy, List.map_append]; rfl
          have eS : ((zb c (0 + (i : Int))).take ((zb c (0 + (i : Int))).map V.int).length).map (fun x => V.str (num x)) = ((zb c (0 + (i : Int))).map num).map V.str := by rw [List.length_map, List.take_of_length_le (Nat.le_refl _), List.map_map]; rfl
          rw [eS]
          have sh : ∀ y ∈ (zb c (0 + (i : Int))).map num, y.length ≤ 3 := fun y hy => by
            obtain ⟨x, hx, rfl⟩ := List.mem_map.mp hy
            exact num_short x (zb_mem hx).1 (by have := zb_mem hx; omega)
          have sl := sum_le3 _ sh
          rw [List.length_map, zb_len] at sl
          refine ⟨_, B2, (zb c (0 + (i : Int))).map num, rfl, rfl, .inl (SqL.of upd_same), ?_, ?_⟩
          · have e0 : ("" : Str).length = 0 := by decide +kernel
            rw [e0, Nat.mul_zero]
            omega
          have sm : Same H' (upd (upd H' B1 (.lst ((zb c (0 + (i : Int))).map V.int))) B2 (.lst (((zb c (0 + (i : Int))).map num).map V.str))) := (sameNew hB1).trans (sameNew hB2)
          refine ⟨_, sm _ _ hN, (by rw [List.length_map, List.length_range]; exact small1000 (by omega)), ?_, ?_⟩
          · have ez := sub_name_all c (by omega) hc1 i (by omega)
            unfold zName at ez
            rw [upd_same, Int.zero_add, ez, List.range_succ, List.map_append]; rfl
          · exact (W'.same sm).upd (W10.off hN2)
        · rintro H' ⟨hN, W'⟩
          have o2 := W10.off hN2
          refine hD' _ _ ⟨N2, o2.1, o2.2.1, ?_, rfl, W'⟩
          rw [hN, ← hn']
          show _ = some (HO.lst ((subNames c).map V.str))
          unfold subNames; rw [List.map_map]; rfl
    rintro σ' H11 ⟨N, nNS, nNL, hN, rfl, W11⟩
    -- the words
    refine ⟨_, rfl, _, rfl, _, rfl, S, L, (n : Int), rfl, W11.st, by omega, fun z H12 z0 z1 st12 kp12 => ?_⟩
    have z2 := z1 (by omega)
    have W12 := W11.keeps st12 kp12
    have hN12 := kp12 _ _ hN nNS nNL
    have zN : z.toNat < n := by omega
    refine ⟨N, _, z, _, rfl, rfl, SqL.of hN12, at_of (Int.toNat_of_nonneg z0).symm (at_mapS (by rw [hnl]; exact zN)), ?_⟩
    have sn := nmK_short kb c hok z.toNat (by rw [hn]; exact zN)
    generalize (nmK kb c).getD z.toNat Str.empty = nm at sn ⊢
    have l0 : ("0" : Str).length ≤ 1 := by decide +kernel
    have lx : ("x" : Str).length ≤ 1 := by decide +kernel
    have lz : (PySem.Txt.mul ("1" : Str) 65).length ≤ 65 := by decide +kernel
    have b1 : ("0" : Str).length + nm.length ≤ sizeLine := sz (Nat.add_le_add l0 sn) (by decide)
    have b2 : nm.length + ("0" : Str).length ≤ sizeLine := sz (Nat.add_le_add sn l0) (by decide)
    have b3 : ("x" : Str).length + nm.length ≤ sizeLine := sz (Nat.add_le_add lx sn) (by decide)
    refine ⟨_, rfl, _, rfl, _, rfl, sz sn (by decide), ?_⟩
    refine ⟨_, rfl, _, _, rfl, rfl, b1, ?_⟩
    refine ⟨_, rfl, _, _, rfl, rfl, b2, ?_⟩
    refine ⟨_, rfl, _, _, rfl, rfl, b3, ?_⟩
    refine ⟨(by show 12 ≤ sizeLine; decide), fun Wa hWa => ?_⟩
    refine ⟨_, rfl, _, rfl, _, rfl, num_log _ (by omega) (by omega), _, _, rfl, rfl, ⟨by decide, by decide +kernel, by decide +kernel⟩, ?_⟩
    refine ⟨(by show 2 ≤ sizeLine; decide), fun Wb hWb => ?_⟩
    have nab : Wa ≠ Wb := ne_of_none upd_same hWb
    refine ⟨_, _, _, _, rfl, rfl, (by rw [upd_ne nab]; exact upd_same), upd_same, (by show 14 ≤ sizeLine; decide), fun Wc hWc => ?_⟩
    have W13 := ((W12.new (u := .lst [V.str (cutS nm (some 1) none), .str ("0" ++ nm), .str (nm ++ "0"), .str "1", .str "0", .str "", .str "01", .str "+1", .str "1_0", .str " 1", .str "-0", .str ("x" ++ nm)]) hWa).new (u := .lst [V.str (num (n : Int)), .str (PySem.Txt.mul "1" 65)]) hWb)
    have hN13 := (((sameNew hWa).trans (sameNew (o := .lst [V.str (num (n : Int)), .str (PySem.Txt.mul "1" 65)]) hWb)) _ _ hN12)
    have offC := W13.off hWc
    have nNC : N ≠ Wc := ne_of_none hN13 hWc
    have hat : ∀ y : Int, 0 ≤ y → y < 14 → ∃ wd, atI ([V.str (cutS nm (some 1) none), .str ("0" ++ nm), .str (nm ++ "0"), .str "1", .str "0", .str "", .str "01", .str "+1", .str "1_0", .str " 1", .str "-0", .str ("x" ++ nm)] ++ [V.str (num (n : Int)), .str (PySem.Txt.mul "1" 65)]) y = some (.str wd) ∧ wd.length ≤ 900 := by
      intro y y0 y1
      have e : y = 0 ∨ y = 1 ∨ y = 2 ∨ y = 3 ∨ y = 4 ∨ y = 5 ∨ y = 6 ∨ y = 7 ∨ y = 8 ∨ y = 9 ∨ y = 10 ∨ y = 11 ∨ y = 12 ∨ y = 13 := by omega
      rcases e with rfl | rfl | rfl | rfl | rfl | rfl | rfl | rfl | rfl | rfl | rfl | rfl | rfl | rfl
      · exact ⟨_, rfl, Nat.le_trans (UF.cutS_le _ _ _) (Nat.le_trans sn (by decide))⟩
      · exact ⟨_, rfl, Nat.le_trans (app_le l0 sn) (by decide)⟩
      · exact ⟨_, rfl, Nat.le_trans (app_le sn l0) (by decide)⟩
      · exact ⟨_, rfl, by decide +kernel⟩
      · exact ⟨_, rfl, by decide +kernel⟩
      · exact ⟨_, rfl, by decide +kernel⟩
      · exact ⟨_, rfl, by decide +kernel⟩
      · exact ⟨_, rfl, by decide +kernel⟩
      · exact ⟨_, rfl, by decide +kernel⟩
      · exact ⟨_, rfl, by decide +kernel⟩
      · exact ⟨_, rfl, by decide +kernel⟩
      · exact ⟨_, rfl, Nat.le_trans (app_le lx sn) (by decide)⟩
      · exact ⟨_, rfl, Nat.le_trans (num_short n (by omega) (by omega)) (by decide)⟩
      · exact ⟨_, rfl, Nat.le_trans lz (by decide)⟩
    generalize ([V.str (cutS nm (some 1) none), .str ("0" ++ nm), .str (nm ++ "0"), .str "1", .str "0", .str "", .str "01", .str "+1", .str "1_0", .str " 1", .str "-0", .str ("x" ++ nm)] ++ [V.str (num (n : Int)), .str (PySem.Txt.mul "1" 65)]) = ws at hat ⊢
    have W14 := W13.new (u := .lst ws) hWc
    have hN14 := sameNew (o := .lst ws) hWc _ _ hN13
    refine ⟨_, rfl, by decide, by decide, for_range (lo := 0) (n := 3) (fun i σ H15 => ∃ vk vw, σ = [some (.ref a), some (.ref S), some (.int (kvI kb)), some (.int (c : Int)), some (.ref p), some (.int (n : Int)), vk, va, vb, vd, vf, some (.ref N), some (.str nm), some (.ref Wc), vw, none, none] ∧ Wd (cls kb) S L p dx l d lb (nmK kb c) H15 ∧ H15 N = some (.lst ((nmK kb c).map V.str)) ∧ H15 Wc = some (.lst ws))
      ⟨vk, none, rfl, W14, hN14, upd_same⟩ ?_ ?_⟩
    · rintro i σ H15 hi ⟨vk, vw, rfl, W15, hN15, hC15⟩
      refine ⟨_, rfl, _, rfl, S, L, 14, rfl, W15.st, by decide, fun y H16 y0 y1 st16 kp16 => ?_⟩
      have W16 := W15.keeps st16 kp16
      have hN16 := kp16 _ _ hN15 nNS nNL
      have hC16 := kp16 _ _ hC15 offC.1 offC.2.1
      obtain ⟨wd, hw1, hw2⟩ := hat y y0 (y1 (by decide))
      refine ⟨Wc, _, y, _, rfl, rfl, SqL.of hC16, hw1, ?_⟩
      refine ⟨_, rfl, _, rfl, N, _, rfl, .inl (SqL.of hN16), rfl, (by rw [List.all_map]; exact List.all_eq_true.mpr fun _ _ => rfl), ?_⟩
      refine ⟨_, rfl, ?_⟩
      refine ifB (fun e1 => ?_) (fun e1 => ?_)
      · have e2 : inV (.str wd) ((nmK kb c).map V.str) = false := by simpa using e1
        refine ⟨_, rfl, _, rfl, kb, p, d, _, wd, rfl, W16.find, hw2, miss_of e2, fun H17 sm => ?_⟩
        refine ⟨_, rfl, ?_⟩
        refine iteF ?_
        exact ⟨_, _, rfl, W16.same sm, sm _ _ hN16, sm _ _ hC16⟩
      · refine iteF ?_
        exact ⟨_, _, rfl, W16, hN16, hC16⟩
    · rintro σ H15 ⟨vk, vw, rfl, W15, hN15, hC15⟩
      exact k H15
end
theorem all_mk {l : PySem.W.OpenLaw} {w : World} {K : PySem.W.Frag} {h : Heap} {mg : Str → Option Value} {fa : Addr} (X : K.In h) (G : h.Ns mainGlobals mg) (hfa : mg "law" = some (.ref fa))
    {C_LevelScale : Addr}
    {C_SubsetScale : Addr}
    {C_Scale : Addr}
    {C_ListedScale : Addr}
    {C_NameMissing : Addr}
    {C_UnknownGrade : Addr}
    {f_ei_UnknownGrade_init : Addr} {oc_ei_UnknownGrade_init kV_ei_UnknownGrade_init dc_ei_UnknownGrade_init pm_ei_UnknownGrade_init cd_ei_UnknownGrade_init ct_ei_UnknownGrade_init : Value} {od_ei_UnknownGrade_init an_ei_UnknownGrade_init : Option Addr} {sl_ei_UnknownGrade_init : Array (Option Value)}
    {f_greater : Addr} {oc_greater kV_greater dc_greater pm_greater cd_greater ct_greater : Value} {od_greater an_greater : Option Addr} {sl_greater : Array (Option Value)}
    {f_lesser : Addr} {oc_lesser kV_lesser dc_lesser pm_lesser cd_lesser ct_lesser : Value} {od_lesser an_lesser : Option Addr} {sl_lesser : Array (Option Value)}
    {f_binary_names : Addr} {oc_binary_names kV_binary_names dc_binary_names pm_binary_names cd_binary_names ct_binary_names : Value} {od_binary_names an_binary_names : Option Addr} {sl_binary_names : Array (Option Value)}
    {f__law_draws : Addr} {oc__law_draws kV__law_draws dc__law_draws pm__law_draws cd__law_draws ct__law_draws : Value} {od__law_draws an__law_draws : Option Addr} {sl__law_draws : Array (Option Value)}
    {f__law_draw : Addr} {oc__law_draw kV__law_draw dc__law_draw pm__law_draw cd__law_draw ct__law_draw : Value} {od__law_draw an__law_draw : Option Addr} {sl__law_draw : Array (Option Value)}
    {f__law_same : Addr} {oc__law_same kV__law_same dc__law_same pm__law_same cd__law_same ct__law_same : Value} {od__law_same an__law_same : Option Addr} {sl__law_same : Array (Option Value)}
    {f__law_set : Addr} {oc__law_set kV__law_set dc__law_set pm__law_set cd__law_set ct__law_set : Value} {od__law_set an__law_set : Option Addr} {sl__law_set : Array (Option Value)}
    {f__law_place : Addr} {oc__law_place kV__law_place dc__law_place pm__law_place cd__law_place ct__law_place : Value} {od__law_place an__law_place : Option Addr} {sl__law_place : Array (Option Value)}
    {f__law_subsets : Addr} {oc__law_subsets kV__law_subsets dc__law_subsets pm__law_subsets cd__law_subsets ct__law_subsets : Value} {od__law_subsets an__law_subsets : Option Addr} {sl__law_subsets : Array (Option Value)}
    {f__law_levels : Addr} {oc__law_levels kV__law_levels dc__law_levels pm__law_levels cd__law_levels ct__law_levels : Value} {od__law_levels an__law_levels : Option Addr} {sl__law_levels : Array (Option Value)}
    {f__law_unknown : Addr} {oc__law_unknown kV__law_unknown dc__law_unknown pm__law_unknown cd__law_unknown ct__law_unknown : Value} {od__law_unknown an__law_unknown : Option Addr} {sl__law_unknown : Array (Option Value)}
    {f_law : Addr} {oc_law kV_law dc_law pm_law cd_law ct_law : Value} {od_law an_law : Option Addr} {sl_law : Array (Option Value)}
    {f_LevelScale___init__ : Addr} {oc_LevelScale___init__ kV_LevelScale___init__ dc_LevelScale___init__ pm_LevelScale___init__ cd_LevelScale___init__ ct_LevelScale___init__ : Value} {od_LevelScale___init__ an_LevelScale___init__ : Option Addr} {sl_LevelScale___init__ : Array (Option Value)}
    {f_LevelScale_sum_at : Addr} {oc_LevelScale_sum_at kV_LevelScale_sum_at dc_LevelScale_sum_at pm_LevelScale_sum_at cd_LevelScale_sum_at ct_LevelScale_sum_at : Value} {od_LevelScale_sum_at an_LevelScale_sum_at : Option Addr} {sl_LevelScale_sum_at : Array (Option Value)}
    {f_LevelScale_product_at : Addr} {oc_LevelScale_product_at kV_LevelScale_product_at dc_LevelScale_product_at pm_LevelScale_product_at cd_LevelScale_product_at ct_LevelScale_product_at : Value} {od_LevelScale_product_at an_LevelScale_product_at : Option Addr} {sl_LevelScale_product_at : Array (Option Value)}
    {f_LevelScale_within_at : Addr} {oc_LevelScale_within_at kV_LevelScale_within_at dc_LevelScale_within_at pm_LevelScale_within_at cd_LevelScale_within_at ct_LevelScale_within_at : Value} {od_LevelScale_within_at an_LevelScale_within_at : Option Addr} {sl_LevelScale_within_at : Array (Option Value)}
    {f_LevelScale_bound_at : Addr} {oc_LevelScale_bound_at kV_LevelScale_bound_at dc_LevelScale_bound_at pm_LevelScale_bound_at cd_LevelScale_bound_at ct_LevelScale_bound_at : Value} {od_LevelScale_bound_at an_LevelScale_bound_at : Option Addr} {sl_LevelScale_bound_at : Array (Option Value)}
    {f_LevelScale_within_all : Addr} {oc_LevelScale_within_all kV_LevelScale_within_all dc_LevelScale_within_all pm_LevelScale_within_all cd_LevelScale_within_all ct_LevelScale_within_all : Value} {od_LevelScale_within_all an_LevelScale_within_all : Option Addr} {sl_LevelScale_within_all : Array (Option Value)}
    {f_LevelScale_places : Addr} {oc_LevelScale_places kV_LevelScale_places dc_LevelScale_places pm_LevelScale_places cd_LevelScale_places ct_LevelScale_places : Value} {od_LevelScale_places an_LevelScale_places : Option Addr} {sl_LevelScale_places : Array (Option Value)}
    {f_LevelScale_at_name : Addr} {oc_LevelScale_at_name kV_LevelScale_at_name dc_LevelScale_at_name pm_LevelScale_at_name cd_LevelScale_at_name ct_LevelScale_at_name : Value} {od_LevelScale_at_name an_LevelScale_at_name : Option Addr} {sl_LevelScale_at_name : Array (Option Value)}
    {f_LevelScale_find_at : Addr} {oc_LevelScale_find_at kV_LevelScale_find_at dc_LevelScale_find_at pm_LevelScale_find_at cd_LevelScale_find_at ct_LevelScale_find_at : Value} {od_LevelScale_find_at an_LevelScale_find_at : Option Addr} {sl_LevelScale_find_at : Array (Option Value)}
    {f_LevelScale_name_at : Addr} {oc_LevelScale_name_at kV_LevelScale_name_at dc_LevelScale_name_at pm_LevelScale_name_at cd_LevelScale_name_at ct_LevelScale_name_at : Value} {od_LevelScale_name_at an_LevelScale_name_at : Option Addr} {sl_LevelScale_name_at : Array (Option Value)}
    {f_SubsetScale___init__ : Addr} {oc_SubsetScale___init__ kV_SubsetScale___init__ dc_SubsetScale___init__ pm_SubsetScale___init__ cd_SubsetScale___init__ ct_SubsetScale___init__ : Value} {od_SubsetScale___init__ an_SubsetScale___init__ : Option Addr} {sl_SubsetScale___init__ : Array (Option Value)}
    {f_SubsetScale_sum_at : Addr} {oc_SubsetScale_sum_at kV_SubsetScale_sum_at dc_SubsetScale_sum_at pm_SubsetScale_sum_at cd_SubsetScale_sum_at ct_SubsetScale_sum_at : Value} {od_SubsetScale_sum_at an_SubsetScale_sum_at : Option Addr} {sl_SubsetScale_sum_at : Array (Option Value)}
    {f_SubsetScale_product_at : Addr} {oc_SubsetScale_product_at kV_SubsetScale_product_at dc_SubsetScale_product_at pm_SubsetScale_product_at cd_SubsetScale_product_at ct_SubsetScale_product_at : Value} {od_SubsetScale_product_at an_SubsetScale_product_at : Option Addr} {sl_SubsetScale_product_at : Array (Option Value)}
    {f_SubsetScale_within_at : Addr} {oc_SubsetScale_within_at kV_SubsetScale_within_at dc_SubsetScale_within_at pm_SubsetScale_within_at cd_SubsetScale_within_at ct_SubsetScale_within_at : Value} {od_SubsetScale_within_at an_SubsetScale_within_at : Option Addr} {sl_SubsetScale_within_at : Array (Option Value)}
    {f_SubsetScale_bound_at : Addr} {oc_SubsetScale_bound_at kV_SubsetScale_bound_at dc_SubsetScale_bound_at pm_SubsetScale_bound_at cd_SubsetScale_bound_at ct_SubsetScale_bound_at : Value} {od_SubsetScale_bound_at an_SubsetScale_bound_at : Option Addr} {sl_SubsetScale_bound_at : Array (Option Value)}
    {f_SubsetScale_within_all : Addr} {oc_SubsetScale_within_all kV_SubsetScale_within_all dc_SubsetScale_within_all pm_SubsetScale_within_all cd_SubsetScale_within_all ct_SubsetScale_within_all : Value} {od_SubsetScale_within_all an_SubsetScale_within_all : Option Addr} {sl_SubsetScale_within_all : Array (Option Value)}
    {f_SubsetScale_places : Addr} {oc_SubsetScale_places kV_SubsetScale_places dc_SubsetScale_places pm_SubsetScale_places cd_SubsetScale_places ct_SubsetScale_places : Value} {od_SubsetScale_places an_SubsetScale_places : Option Addr} {sl_SubsetScale_places : Array (Option Value)}
    {f_SubsetScale_at_name : Addr} {oc_SubsetScale_at_name kV_SubsetScale_at_name dc_SubsetScale_at_name pm_SubsetScale_at_name cd_SubsetScale_at_name ct_SubsetScale_at_name : Value} {od_SubsetScale_at_name an_SubsetScale_at_name : Option Addr} {sl_SubsetScale_at_name : Array (Option Value)}
    {f_SubsetScale_find_at : Addr} {oc_SubsetScale_find_at kV_SubsetScale_find_at dc_SubsetScale_find_at pm_SubsetScale_find_at cd_SubsetScale_find_at ct_SubsetScale_find_at : Value} {od_SubsetScale_find_at an_SubsetScale_find_at : Option Addr} {sl_SubsetScale_find_at : Array (Option Value)}
    {f_SubsetScale_name_at : Addr} {oc_SubsetScale_name_at kV_SubsetScale_name_at dc_SubsetScale_name_at pm_SubsetScale_name_at cd_SubsetScale_name_at ct_SubsetScale_name_at : Value} {od_SubsetScale_name_at an_SubsetScale_name_at : Option Addr} {sl_SubsetScale_name_at : Array (Option Value)}
    {f_cf_Scale___init__ : Addr} {oc_cf_Scale___init__ kV_cf_Scale___init__ dc_cf_Scale___init__ pm_cf_Scale___init__ cd_cf_Scale___init__ ct_cf_Scale___init__ : Value} {od_cf_Scale___init__ an_cf_Scale___init__ : Option Addr} {sl_cf_Scale___init__ : Array (Option Value)}
    {f_cf_ListedScale___init__ : Addr} {oc_cf_ListedScale___init__ kV_cf_ListedScale___init__ dc_cf_ListedScale___init__ pm_cf_ListedScale___init__ cd_cf_ListedScale___init__ ct_cf_ListedScale___init__ : Value} {od_cf_ListedScale___init__ an_cf_ListedScale___init__ : Option Addr} {sl_cf_ListedScale___init__ : Array (Option Value)}
    {t_MOST_DEPTH : Tok}
    {t_MOST_GRADES : Tok}
    {t_MOST_SUBSET_THINGS : Tok}
    (aC_LevelScale : PySem.W.nsIn K mainGlobals "LevelScale" = some (some (.ref C_LevelScale)))
    (pg_LevelScale : PySem.W.plainGet K C_LevelScale Str.empty = true)
    (hd_LevelScale : PySem.W.hasDictIn K C_LevelScale = true)
    (po_LevelScale : PySem.W.plainOver K C_LevelScale = true)
    (sa_LevelScale : PySem.W.findIn K (.ref C_LevelScale) "__setattr__" = some (some (.builtin "object.__setattr__")))
    (mk_LevelScale : PySem.W.makesIn K C_LevelScale = true)
    (kc_LevelScale : PySem.W.keepIn K (.ref C_LevelScale) = true)
    (aC_SubsetScale : PySem.W.nsIn K mainGlobals "SubsetScale" = some (some (.ref C_SubsetScale)))
    (pg_SubsetScale : PySem.W.plainGet K C_SubsetScale Str.empty = true)
    (hd_SubsetScale : PySem.W.hasDictIn K C_SubsetScale = true)
    (po_SubsetScale : PySem.W.plainOver K C_SubsetScale = true)
    (sa_SubsetScale : PySem.W.findIn K (.ref C_SubsetScale) "__setattr__" = some (some (.builtin "object.__setattr__")))
    (mk_SubsetScale : PySem.W.makesIn K C_SubsetScale = true)
    (kc_SubsetScale : PySem.W.keepIn K (.ref C_SubsetScale) = true)
    (aC_Scale : PySem.W.nsIn K mainGlobals "Scale" = some (some (.ref C_Scale)))
    (aC_ListedScale : PySem.W.nsIn K mainGlobals "ListedScale" = some (some (.ref C_ListedScale)))
    (aC_NameMissing : PySem.W.nsIn K mainGlobals "NameMissing" = some (some (.ref C_NameMissing)))
    (x_cg : PySem.W.specialIn K (.builtin "object.__class__") "__get__" = some (some (.builtin "getset_descriptor.__get__")))
    (x_ct : PySem.W.takesIn K (.builtin "object.__class__") = some true)
    (aC_UnknownGrade : PySem.W.nsIn K mainGlobals "UnknownGrade" = some (some (.ref C_UnknownGrade)))
    (xi_UnknownGrade : PySem.W.excInitIn K C_UnknownGrade [.type "LookupError", .type "Exception", .type "BaseException", .type "object"] "LookupError.__new__" = true)
    (xo_UnknownGrade : PySem.W.excOver K C_UnknownGrade [.type "LookupError", .type "Exception", .type "BaseException", .type "object"] = true)
    (xh_UnknownGrade : PySem.W.hasDictIn K C_UnknownGrade = true)
    (xs_UnknownGrade : PySem.W.findIn K (.ref C_UnknownGrade) "__setattr__" = some (some (.builtin "object.__setattr__")))
    (xe_UnknownGrade : PySem.W.subIn K (.ref C_UnknownGrade) (.type "BaseException") = some true)
    (xt_UnknownGrade : PySem.W.typeIn K (.ref C_UnknownGrade) = some (.type "type"))
    (xk_UnknownGrade : PySem.W.keepIn K (.ref C_UnknownGrade) = true)
    (xga_UnknownGrade : PySem.W.findIn K (.ref C_UnknownGrade) "__getattribute__" = some (some (.builtin "BaseException.__getattribute__")))
    (xgg_UnknownGrade : PySem.W.findIn K (.ref C_UnknownGrade) "__getattr__" = some none)
    (xca_UnknownGrade : PySem.W.findIn K (.ref C_UnknownGrade) "__class__" = some (some (.builtin "object.__class__")))
    (xmo_UnknownGrade : PySem.W.mroIn K C_UnknownGrade (.type "object") = some true)
    (a_ei_UnknownGrade_init : PySem.W.findIn K (.ref C_UnknownGrade) "__init__" = some (some (.ref f_ei_UnknownGrade_init)))
    (l_ei_UnknownGrade_init : K.lookup f_ei_UnknownGrade_init = some ⟨oc_ei_UnknownGrade_init, od_ei_UnknownGrade_init, .func (PySem.W.fnOf "__init__" "UnknownGrade.__init__" (defArgs (inClass (top 9) 0)) (defBody (inClass (top 9) 0)) (defScope (inClass (top 9) 0)) .none kV_ei_UnknownGrade_init dc_ei_UnknownGrade_init pm_ei_UnknownGrade_init an_ei_UnknownGrade_init cd_ei_UnknownGrade_init ct_ei_UnknownGrade_init), sl_ei_UnknownGrade_init⟩)
    (c_ei_UnknownGrade_init : PySem.W.codeIn K cd_ei_UnknownGrade_init "UnknownGrade.__init__" = true)
    (k_ei_UnknownGrade_init : PySem.W.keepIn K (.ref f_ei_UnknownGrade_init) = true)
    (ty_ei_UnknownGrade_init : PySem.W.typeIn K (.ref f_ei_UnknownGrade_init) = some (.type "function"))
    (rd_bi_NameMissing : PySem.W.readsIn K C_NameMissing (.type "type") = true)
    (ga_bi_NameMissing : PySem.W.specialIn K (.ref C_NameMissing) "__getattribute__" = some (some (.builtin "type.__getattribute__")))
    (a_bi_NameMissing : PySem.W.findCls K (.ref C_NameMissing) (.type "type") "__init__" = some (.val (.builtin "LookupError.__init__")))
    (a_greater : PySem.W.nsIn K mainGlobals "greater" = some (some (.ref f_greater)))
    (l_greater : K.lookup f_greater = some ⟨oc_greater, od_greater, .func (PySem.W.fnOf "greater" "greater" (defArgs (top 2)) (defBody (top 2)) (defScope (top 2)) .none kV_greater dc_greater pm_greater an_greater cd_greater ct_greater), sl_greater⟩)
    (c_greater : PySem.W.codeIn K cd_greater "greater" = true)
    (k_greater : PySem.W.keepIn K (.ref f_greater) = true)
    (a_lesser : PySem.W.nsIn K mainGlobals "lesser" = some (some (.ref f_lesser)))
    (l_lesser : K.lookup f_lesser = some ⟨oc_lesser, od_lesser, .func (PySem.W.fnOf "lesser" "lesser" (defArgs (top 3)) (defBody (top 3)) (defScope (top 3)) .none kV_lesser dc_lesser pm_lesser an_lesser cd_lesser ct_lesser), sl_lesser⟩)
    (c_lesser : PySem.W.codeIn K cd_lesser "lesser" = true)
    (k_lesser : PySem.W.keepIn K (.ref f_lesser) = true)
    (a_binary_names : PySem.W.nsIn K mainGlobals "binary_names" = some (some (.ref f_binary_names)))
    (l_binary_names : K.lookup f_binary_names = some ⟨oc_binary_names, od_binary_names, .func (PySem.W.fnOf "binary_names" "binary_names" (defArgs (top 19)) (defBody (top 19)) (defScope (top 19)) .none kV_binary_names dc_binary_names pm_binary_names an_binary_names cd_binary_names ct_binary_names), sl_binary_names⟩)
    (c_binary_names : PySem.W.codeIn K cd_binary_names "binary_names" = true)
    (k_binary_names : PySem.W.keepIn K (.ref f_binary_names) = true)
    (a__law_draws : PySem.W.nsIn K mainGlobals "_law_draws" = some (some (.ref f__law_draws)))
    (l__law_draws : K.lookup f__law_draws = some ⟨oc__law_draws, od__law_draws, .func (PySem.W.fnOf "_law_draws" "_law_draws" (defArgs (top 21)) (defBody (top 21)) (defScope (top 21)) .none kV__law_draws dc__law_draws pm__law_draws an__law_draws cd__law_draws ct__law_draws), sl__law_draws⟩)
    (c__law_draws : PySem.W.codeIn K cd__law_draws "_law_draws" = true)
    (k__law_draws : PySem.W.keepIn K (.ref f__law_draws) = true)
    (a__law_draw : PySem.W.nsIn K mainGlobals "_law_draw" = some (some (.ref f__law_draw)))
    (l__law_draw : K.lookup f__law_draw = some ⟨oc__law_draw, od__law_draw, .func (PySem.W.fnOf "_law_draw" "_law_draw" (defArgs (top 22)) (defBody (top 22)) (defScope (top 22)) .none kV__law_draw dc__law_draw pm__law_draw an__law_draw cd__law_draw ct__law_draw), sl__law_draw⟩)
    (c__law_draw : PySem.W.codeIn K cd__law_draw "_law_draw" = true)
    (k__law_draw : PySem.W.keepIn K (.ref f__law_draw) = true)
    (a__law_same : PySem.W.nsIn K mainGlobals "_law_same" = some (some (.ref f__law_same)))
    (l__law_same : K.lookup f__law_same = some ⟨oc__law_same, od__law_same, .func (PySem.W.fnOf "_law_same" "_law_same" (defArgs (top 23)) (defBody (top 23)) (defScope (top 23)) .none kV__law_same dc__law_same pm__law_same an__law_same cd__law_same ct__law_same), sl__law_same⟩)
    (c__law_same : PySem.W.codeIn K cd__law_same "_law_same" = true)
    (k__law_same : PySem.W.keepIn K (.ref f__law_same) = true)
    (a__law_set : PySem.W.nsIn K mainGlobals "_law_set" = some (some (.ref f__law_set)))
    (l__law_set : K.lookup f__law_set = some ⟨oc__law_set, od__law_set, .func (PySem.W.fnOf "_law_set" "_law_set" (defArgs (top 24)) (defBody (top 24)) (defScope (top 24)) .none kV__law_set dc__law_set pm__law_set an__law_set cd__law_set ct__law_set), sl__law_set⟩)
    (c__law_set : PySem.W.codeIn K cd__law_set "_law_set" = true)
    (k__law_set : PySem.W.keepIn K (.ref f__law_set) = true)
    (a__law_place : PySem.W.nsIn K mainGlobals "_law_place" = some (some (.ref f__law_place)))
    (l__law_place : K.lookup f__law_place = some ⟨oc__law_place, od__law_place, .func (PySem.W.fnOf "_law_place" "_law_place" (defArgs (top 25)) (defBody (top 25)) (defScope (top 25)) .none kV__law_place dc__law_place pm__law_place an__law_place cd__law_place ct__law_place), sl__law_place⟩)
    (c__law_place : PySem.W.codeIn K cd__law_place "_law_place" = true)
    (k__law_place : PySem.W.keepIn K (.ref f__law_place) = true)
    (a__law_subsets : PySem.W.nsIn K mainGlobals "_law_subsets" = some (some (.ref f__law_subsets)))
    (l__law_subsets : K.lookup f__law_subsets = some ⟨oc__law_subsets, od__law_subsets, .func (PySem.W.fnOf "_law_subsets" "_law_subsets" (defArgs (top 26)) (defBody (top 26)) (defScope (top 26)) .none kV__law_subsets dc__law_subsets pm__law_subsets an__law_subsets cd__law_subsets ct__law_subsets), sl__law_subsets⟩)
    (c__law_subsets : PySem.W.codeIn K cd__law_subsets "_law_subsets" = true)
    (k__law_subsets : PySem.W.keepIn K (.ref f__law_subsets) = true)
    (a__law_levels : PySem.W.nsIn K mainGlobals "_law_levels" = some (some (.ref f__law_levels)))
    (l__law_levels : K.lookup f__law_levels = some ⟨oc__law_levels, od__law_levels, .func (PySem.W.fnOf "_law_levels" "_law_levels" (defArgs (top 27)) (defBody (top 27)) (defScope (top 27)) .none kV__law_levels dc__law_levels pm__law_levels an__law_levels cd__law_levels ct__law_levels), sl__law_levels⟩)
    (c__law_levels : PySem.W.codeIn K cd__law_levels "_law_levels" = true)
    (k__law_levels : PySem.W.keepIn K (.ref f__law_levels) = true)
    (a__law_unknown : PySem.W.nsIn K mainGlobals "_law_unknown" = some (some (.ref f__law_unknown)))
    (l__law_unknown : K.lookup f__law_unknown = some ⟨oc__law_unknown, od__law_unknown, .func (PySem.W.fnOf "_law_unknown" "_law_unknown" (defArgs (top 28)) (defBody (top 28)) (defScope (top 28)) .none kV__law_unknown dc__law_unknown pm__law_unknown an__law_unknown cd__law_unknown ct__law_unknown), sl__law_unknown⟩)
    (c__law_unknown : PySem.W.codeIn K cd__law_unknown "_law_unknown" = true)
    (k__law_unknown : PySem.W.keepIn K (.ref f__law_unknown) = true)
    (a_law : PySem.W.nsIn K mainGlobals "law" = some (some (.ref f_law)))
    (l_law : K.lookup f_law = some ⟨oc_law, od_law, .func (PySem.W.fnOf "law" "law" (defArgs (top 29)) (defBody (top 29)) (defScope (top 29)) .none kV_law dc_law pm_law an_law cd_law ct_law), sl_law⟩)
    (c_law : PySem.W.codeIn K cd_law "law" = true)
    (k_law : PySem.W.keepIn K (.ref f_law) = true)
    (a_LevelScale___init__ : PySem.W.findIn K (.ref C_LevelScale) "__init__" = some (some (.ref f_LevelScale___init__)))
    (i_LevelScale___init__ : PySem.W.isFn K (.ref f_LevelScale___init__) = true)
    (l_LevelScale___init__ : K.lookup f_LevelScale___init__ = some ⟨oc_LevelScale___init__, od_LevelScale___init__, .func (PySem.W.fnOf "__init__" "LevelScale.__init__" (defArgs (inClass (top 17) 0)) (defBody (inClass (top 17) 0)) (defScope (inClass (top 17) 0)) .none kV_LevelScale___init__ dc_LevelScale___init__ pm_LevelScale___init__ an_LevelScale___init__ cd_LevelScale___init__ ct_LevelScale___init__), sl_LevelScale___init__⟩)
    (c_LevelScale___init__ : PySem.W.codeIn K cd_LevelScale___init__ "LevelScale.__init__" = true)
    (k_LevelScale___init__ : PySem.W.keepIn K (.ref f_LevelScale___init__) = true)
    (a_LevelScale_sum_at : PySem.W.findIn K (.ref C_LevelScale) "sum_at" = some (some (.ref f_LevelScale_sum_at)))
    (i_LevelScale_sum_at : PySem.W.isFn K (.ref f_LevelScale_sum_at) = true)
    (l_LevelScale_sum_at : K.lookup f_LevelScale_sum_at = some ⟨oc_LevelScale_sum_at, od_LevelScale_sum_at, .func (PySem.W.fnOf "sum_at" "LevelScale.sum_at" (defArgs (inClass (top 17) 1)) (defBody (inClass (top 17) 1)) (defScope (inClass (top 17) 1)) .none kV_LevelScale_sum_at dc_LevelScale_sum_at pm_LevelScale_sum_at an_LevelScale_sum_at cd_LevelScale_sum_at ct_LevelScale_sum_at), sl_LevelScale_sum_at⟩)
    (c_LevelScale_sum_at : PySem.W.codeIn K cd_LevelScale_sum_at "LevelScale.sum_at" = true)
    (k_LevelScale_sum_at : PySem.W.keepIn K (.ref f_LevelScale_sum_at) = true)
    (a_LevelScale_product_at : PySem.W.findIn K (.ref C_LevelScale) "product_at" = some (some (.ref f_LevelScale_product_at)))
    (i_LevelScale_product_at : PySem.W.isFn K (.ref f_LevelScale_product_at) = true)
    (l_LevelScale_product_at : K.lookup f_LevelScale_product_at = some ⟨oc_LevelScale_product_at, od_LevelScale_product_at, .func (PySem.W.fnOf "product_at" "LevelScale.product_at" (defArgs (inClass (top 17) 2)) (defBody (inClass (top 17) 2)) (defScope (inClass (top 17) 2)) .none kV_LevelScale_product_at dc_LevelScale_product_at pm_LevelScale_product_at an_LevelScale_product_at cd_LevelScale_product_at ct_LevelScale_product_at), sl_LevelScale_product_at⟩)
    (c_LevelScale_product_at : PySem.W.codeIn K cd_LevelScale_product_at "LevelScale.product_at" = true)
    (k_LevelScale_product_at : PySem.W.keepIn K (.ref f_LevelScale_product_at) = true)
    (a_LevelScale_within_at : PySem.W.findIn K (.ref C_LevelScale) "within_at" = some (some (.ref f_LevelScale_within_at)))
    (i_LevelScale_within_at : PySem.W.isFn K (.ref f_LevelScale_within_at) = true)
    (l_LevelScale_within_at : K.lookup f_LevelScale_within_at = some ⟨oc_LevelScale_within_at, od_LevelScale_within_at, .func (PySem.W.fnOf "within_at" "LevelScale.within_at" (defArgs (inClass (top 17) 3)) (defBody (inClass (top 17) 3)) (defScope (inClass (top 17) 3)) .none kV_LevelScale_within_at dc_LevelScale_within_at pm_LevelScale_within_at an_LevelScale_within_at cd_LevelScale_within_at ct_LevelScale_within_at), sl_LevelScale_within_at⟩)
    (c_LevelScale_within_at : PySem.W.codeIn K cd_LevelScale_within_at "LevelScale.within_at" = true)
    (k_LevelScale_within_at : PySem.W.keepIn K (.ref f_LevelScale_within_at) = true)
    (a_LevelScale_bound_at : PySem.W.findIn K (.ref C_LevelScale) "bound_at" = some (some (.ref f_LevelScale_bound_at)))
    (i_LevelScale_bound_at : PySem.W.isFn K (.ref f_LevelScale_bound_at) = true)
    (l_LevelScale_bound_at : K.lookup f_LevelScale_bound_at = some ⟨oc_LevelScale_bound_at, od_LevelScale_bound_at, .func (PySem.W.fnOf "bound_at" "Scale.bound_at" (defArgs (inClass (top 13) 5)) (defBody (inClass (top 13) 5)) (defScope (inClass (top 13) 5)) .none kV_LevelScale_bound_at dc_LevelScale_bound_at pm_LevelScale_bound_at an_LevelScale_bound_at cd_LevelScale_bound_at ct_LevelScale_bound_at), sl_LevelScale_bound_at⟩)
    (c_LevelScale_bound_at : PySem.W.codeIn K cd_LevelScale_bound_at "Scale.bound_at" = true)
    (k_LevelScale_bound_at : PySem.W.keepIn K (.ref f_LevelScale_bound_at) = true)
    (a_LevelScale_within_all : PySem.W.findIn K (.ref C_LevelScale) "within_all" = some (some (.ref f_LevelScale_within_all)))
    (i_LevelScale_within_all : PySem.W.isFn K (.ref f_LevelScale_within_all) = true)
    (l_LevelScale_within_all : K.lookup f_LevelScale_within_all = some ⟨oc_LevelScale_within_all, od_LevelScale_within_all, .func (PySem.W.fnOf "within_all" "Scale.within_all" (defArgs (inClass (top 13) 6)) (defBody (inClass (top 13) 6)) (defScope (inClass (top 13) 6)) .none kV_LevelScale_within_all dc_LevelScale_within_all pm_LevelScale_within_all an_LevelScale_within_all cd_LevelScale_within_all ct_LevelScale_within_all), sl_LevelScale_within_all⟩)
    (c_LevelScale_within_all : PySem.W.codeIn K cd_LevelScale_within_all "Scale.within_all" = true)
    (k_LevelScale_within_all : PySem.W.keepIn K (.ref f_LevelScale_within_all) = true)
    (a_LevelScale_places : PySem.W.findIn K (.ref C_LevelScale) "places" = some (some (.ref f_LevelScale_places)))
    (i_LevelScale_places : PySem.W.isFn K (.ref f_LevelScale_places) = true)
    (l_LevelScale_places : K.lookup f_LevelScale_places = some ⟨oc_LevelScale_places, od_LevelScale_places, .func (PySem.W.fnOf "places" "Scale.places" (defArgs (inClass (top 13) 1)) (defBody (inClass (top 13) 1)) (defScope (inClass (top 13) 1)) .none kV_LevelScale_places dc_LevelScale_places pm_LevelScale_places an_LevelScale_places cd_LevelScale_places ct_LevelScale_places), sl_LevelScale_places⟩)
    (c_LevelScale_places : PySem.W.codeIn K cd_LevelScale_places "Scale.places" = true)
    (k_LevelScale_places : PySem.W.keepIn K (.ref f_LevelScale_places) = true)
    (a_LevelScale_at_name : PySem.W.findIn K (.ref C_LevelScale) "at_name" = some (some (.ref f_LevelScale_at_name)))
    (i_LevelScale_at_name : PySem.W.isFn K (.ref f_LevelScale_at_name) = true)
    (l_LevelScale_at_name : K.lookup f_LevelScale_at_name = some ⟨oc_LevelScale_at_name, od_LevelScale_at_name, .func (PySem.W.fnOf "at_name" "Scale.at_name" (defArgs (inClass (top 13) 9)) (defBody (inClass (top 13) 9)) (defScope (inClass (top 13) 9)) .none kV_LevelScale_at_name dc_LevelScale_at_name pm_LevelScale_at_name an_LevelScale_at_name cd_LevelScale_at_name ct_LevelScale_at_name), sl_LevelScale_at_name⟩)
    (c_LevelScale_at_name : PySem.W.codeIn K cd_LevelScale_at_name "Scale.at_name" = true)
    (k_LevelScale_at_name : PySem.W.keepIn K (.ref f_LevelScale_at_name) = true)
    (a_LevelScale_find_at : PySem.W.findIn K (.ref C_LevelScale) "find_at" = some (some (.ref f_LevelScale_find_at)))
    (i_LevelScale_find_at : PySem.W.isFn K (.ref f_LevelScale_find_at) = true)
    (l_LevelScale_find_at : K.lookup f_LevelScale_find_at = some ⟨oc_LevelScale_find_at, od_LevelScale_find_at, .func (PySem.W.fnOf "find_at" "ListedScale.find_at" (defArgs (inClass (top 14) 2)) (defBody (inClass (top 14) 2)) (defScope (inClass (top 14) 2)) .none kV_LevelScale_find_at dc_LevelScale_find_at pm_LevelScale_find_at an_LevelScale_find_at cd_LevelScale_find_at ct_LevelScale_find_at), sl_LevelScale_find_at⟩)
    (c_LevelScale_find_at : PySem.W.codeIn K cd_LevelScale_find_at "ListedScale.find_at" = true)
    (k_LevelScale_find_at : PySem.W.keepIn K (.ref f_LevelScale_find_at) = true)
    (a_LevelScale_name_at : PySem.W.findIn K (.ref C_LevelScale) "name_at" = some (some (.ref f_LevelScale_name_at)))
    (i_LevelScale_name_at : PySem.W.isFn K (.ref f_LevelScale_name_at) = true)
    (l_LevelScale_name_at : K.lookup f_LevelScale_name_at = some ⟨oc_LevelScale_name_at, od_LevelScale_name_at, .func (PySem.W.fnOf "name_at" "ListedScale.name_at" (defArgs (inClass (top 14) 1)) (defBody (inClass (top 14) 1)) (defScope (inClass (top 14) 1)) .none kV_LevelScale_name_at dc_LevelScale_name_at pm_LevelScale_name_at an_LevelScale_name_at cd_LevelScale_name_at ct_LevelScale_name_at), sl_LevelScale_name_at⟩)
    (c_LevelScale_name_at : PySem.W.codeIn K cd_LevelScale_name_at "ListedScale.name_at" = true)
    (k_LevelScale_name_at : PySem.W.keepIn K (.ref f_LevelScale_name_at) = true)
    (a_SubsetScale___init__ : PySem.W.findIn K (.ref C_SubsetScale) "__init__" = some (some (.ref f_SubsetScale___init__)))
    (i_SubsetScale___init__ : PySem.W.isFn K (.ref f_SubsetScale___init__) = true)
    (l_SubsetScale___init__ : K.lookup f_SubsetScale___init__ = some ⟨oc_SubsetScale___init__, od_SubsetScale___init__, .func (PySem.W.fnOf "__init__" "SubsetScale.__init__" (defArgs (inClass (top 18) 0)) (defBody (inClass (top 18) 0)) (defScope (inClass (top 18) 0)) .none kV_SubsetScale___init__ dc_SubsetScale___init__ pm_SubsetScale___init__ an_SubsetScale___init__ cd_SubsetScale___init__ ct_SubsetScale___init__), sl_SubsetScale___init__⟩)
    (c_SubsetScale___init__ : PySem.W.codeIn K cd_SubsetScale___init__ "SubsetScale.__init__" = true)
    (k_SubsetScale___init__ : PySem.W.keepIn K (.ref f_SubsetScale___init__) = true)
    (a_SubsetScale_sum_at : PySem.W.findIn K (.ref C_SubsetScale) "sum_at" = some (some (.ref f_SubsetScale_sum_at)))
    (i_SubsetScale_sum_at : PySem.W.isFn K (.ref f_SubsetScale_sum_at) = true)
    (l_SubsetScale_sum_at : K.lookup f_SubsetScale_sum_at = some ⟨oc_SubsetScale_sum_at, od_SubsetScale_sum_at, .func (PySem.W.fnOf "sum_at" "SubsetScale.sum_at" (defArgs (inClass (top 18) 1)) (defBody (inClass (top 18) 1)) (defScope (inClass (top 18) 1)) .none kV_SubsetScale_sum_at dc_SubsetScale_sum_at pm_SubsetScale_sum_at an_SubsetScale_sum_at cd_SubsetScale_sum_at ct_SubsetScale_sum_at), sl_SubsetScale_sum_at⟩)
    (c_SubsetScale_sum_at : PySem.W.codeIn K cd_SubsetScale_sum_at "SubsetScale.sum_at" = true)
    (k_SubsetScale_sum_at : PySem.W.keepIn K (.ref f_SubsetScale_sum_at) = true)
    (a_SubsetScale_product_at : PySem.W.findIn K (.ref C_SubsetScale) "product_at" = some (some (.ref f_SubsetScale_product_at)))
    (i_SubsetScale_product_at : PySem.W.isFn K (.ref f_SubsetScale_product_at) = true)
    (l_SubsetScale_product_at : K.lookup f_SubsetScale_product_at = some ⟨oc_SubsetScale_product_at, od_SubsetScale_product_at, .func (PySem.W.fnOf "product_at" "SubsetScale.product_at" (defArgs (inClass (top 18) 2)) (defBody (inClass (top 18) 2)) (defScope (inClass (top 18) 2)) .none kV_SubsetScale_product_at dc_SubsetScale_product_at pm_SubsetScale_product_at an_SubsetScale_product_at cd_SubsetScale_product_at ct_SubsetScale_product_at), sl_SubsetScale_product_at⟩)
    (c_SubsetScale_product_at : PySem.W.codeIn K cd_SubsetScale_product_at "SubsetScale.product_at" = true)
    (k_SubsetScale_product_at : PySem.W.keepIn K (.ref f_SubsetScale_product_at) = true)
    (a_SubsetScale_within_at : PySem.W.findIn K (.ref C_SubsetScale) "within_at" = some (some (.ref f_SubsetScale_within_at)))
    (i_SubsetScale_within_at : PySem.W.isFn K (.ref f_SubsetScale_within_at) = true)
    (l_SubsetScale_within_at : K.lookup f_SubsetScale_within_at = some ⟨oc_SubsetScale_within_at, od_SubsetScale_within_at, .func (PySem.W.fnOf "within_at" "SubsetScale.within_at" (defArgs (inClass (top 18) 3)) (defBody (inClass (top 18) 3)) (defScope (inClass (top 18) 3)) .none kV_SubsetScale_within_at dc_SubsetScale_within_at pm_SubsetScale_within_at an_SubsetScale_within_at cd_SubsetScale_within_at ct_SubsetScale_within_at), sl_SubsetScale_within_at⟩)
    (c_SubsetScale_within_at : PySem.W.codeIn K cd_SubsetScale_within_at "SubsetScale.within_at" = true)
    (k_SubsetScale_within_at : PySem.W.keepIn K (.ref f_SubsetScale_within_at) = true)
    (a_SubsetScale_bound_at : PySem.W.findIn K (.ref C_SubsetScale) "bound_at" = some (some (.ref f_SubsetScale_bound_at)))
    (i_SubsetScale_bound_at : PySem.W.isFn K (.ref f_SubsetScale_bound_at) = true)
    (l_SubsetScale_bound_at : K.lookup f_SubsetScale_bound_at = some ⟨oc_SubsetScale_bound_at, od_SubsetScale_bound_at, .func (PySem.W.fnOf "bound_at" "Scale.bound_at" (defArgs (inClass (top 13) 5)) (defBody (inClass (top 13) 5)) (defScope (inClass (top 13) 5)) .none kV_SubsetScale_bound_at dc_SubsetScale_bound_at pm_SubsetScale_bound_at an_SubsetScale_bound_at cd_SubsetScale_bound_at ct_SubsetScale_bound_at), sl_SubsetScale_bound_at⟩)
    (c_SubsetScale_bound_at : PySem.W.codeIn K cd_SubsetScale_bound_at "Scale.bound_at" = true)
    (k_SubsetScale_bound_at : PySem.W.keepIn K (.ref f_SubsetScale_bound_at) = true)
    (a_SubsetScale_within_all : PySem.W.findIn K (.ref C_SubsetScale) "within_all" = some (some (.ref f_SubsetScale_within_all)))
    (i_SubsetScale_within_all : PySem.W.isFn K (.ref f_SubsetScale_within_all) = true)
    (l_SubsetScale_within_all : K.lookup f_SubsetScale_within_all = some ⟨oc_SubsetScale_within_all, od_SubsetScale_within_all, .func (PySem.W.fnOf "within_all" "Scale.within_all" (defArgs (inClass (top 13) 6)) (defBody (inClass (top 13) 6)) (defScope (inClass (top 13) 6)) .none kV_SubsetScale_within_all dc_SubsetScale_within_all pm_SubsetScale_within_all an_SubsetScale_within_all cd_SubsetScale_within_all ct_SubsetScale_within_all), sl_SubsetScale_within_all⟩)
    (c_SubsetScale_within_all : PySem.W.codeIn K cd_SubsetScale_within_all "Scale.within_all" = true)
    (k_SubsetScale_within_all : PySem.W.keepIn K (.ref f_SubsetScale_within_all) = true)
    (a_SubsetScale_places : PySem.W.findIn K (.ref C_SubsetScale) "places" = some (some (.ref f_SubsetScale_places)))
    (i_SubsetScale_places : PySem.W.isFn K (.ref f_SubsetScale_places) = true)
    (l_SubsetScale_places : K.lookup f_SubsetScale_places = some ⟨oc_SubsetScale_places, od_SubsetScale_places, .func (PySem.W.fnOf "places" "Scale.places" (defArgs (inClass (top 13) 1)) (defBody (inClass (top 13) 1)) (defScope (inClass (top 13) 1)) .none kV_SubsetScale_places dc_SubsetScale_places pm_SubsetScale_places an_SubsetScale_places cd_SubsetScale_places ct_SubsetScale_places), sl_SubsetScale_places⟩)
    (c_SubsetScale_places : PySem.W.codeIn K cd_SubsetScale_places "Scale.places" = true)
    (k_SubsetScale_places : PySem.W.keepIn K (.ref f_SubsetScale_places) = true)
    (a_SubsetScale_at_name : PySem.W.findIn K (.ref C_SubsetScale) "at_name" = some (some (.ref f_SubsetScale_at_name)))
    (i_SubsetScale_at_name : PySem.W.isFn K (.ref f_SubsetScale_at_name) = true)
    (l_SubsetScale_at_name : K.lookup f_SubsetScale_at_name = some ⟨oc_SubsetScale_at_name, od_SubsetScale_at_name, .func (PySem.W.fnOf "at_name" "Scale.at_name" (defArgs (inClass (top 13) 9)) (defBody (inClass (top 13) 9)) (defScope (inClass (top 13) 9)) .none kV_SubsetScale_at_name dc_SubsetScale_at_name pm_SubsetScale_at_name an_SubsetScale_at_name cd_SubsetScale_at_name ct_SubsetScale_at_name), sl_SubsetScale_at_name⟩)
    (c_SubsetScale_at_name : PySem.W.codeIn K cd_SubsetScale_at_name "Scale.at_name" = true)
    (k_SubsetScale_at_name : PySem.W.keepIn K (.ref f_SubsetScale_at_name) = true)
    (a_SubsetScale_find_at : PySem.W.findIn K (.ref C_SubsetScale) "find_at" = some (some (.ref f_SubsetScale_find_at)))
    (i_SubsetScale_find_at : PySem.W.isFn K (.ref f_SubsetScale_find_at) = true)
    (l_SubsetScale_find_at : K.lookup f_SubsetScale_find_at = some ⟨oc_SubsetScale_find_at, od_SubsetScale_find_at, .func (PySem.W.fnOf "find_at" "ListedScale.find_at" (defArgs (inClass (top 14) 2)) (defBody (inClass (top 14) 2)) (defScope (inClass (top 14) 2)) .none kV_SubsetScale_find_at dc_SubsetScale_find_at pm_SubsetScale_find_at an_SubsetScale_find_at cd_SubsetScale_find_at ct_SubsetScale_find_at), sl_SubsetScale_find_at⟩)
    (c_SubsetScale_find_at : PySem.W.codeIn K cd_SubsetScale_find_at "ListedScale.find_at" = true)
    (k_SubsetScale_find_at : PySem.W.keepIn K (.ref f_SubsetScale_find_at) = true)
    (a_SubsetScale_name_at : PySem.W.findIn K (.ref C_SubsetScale) "name_at" = some (some (.ref f_SubsetScale_name_at)))
    (i_SubsetScale_name_at : PySem.W.isFn K (.ref f_SubsetScale_name_at) = true)
    (l_SubsetScale_name_at : K.lookup f_SubsetScale_name_at = some ⟨oc_SubsetScale_name_at, od_SubsetScale_name_at, .func (PySem.W.fnOf "name_at" "ListedScale.name_at" (defArgs (inClass (top 14) 1)) (defBody (inClass (top 14) 1)) (defScope (inClass (top 14) 1)) .none kV_SubsetScale_name_at dc_SubsetScale_name_at pm_SubsetScale_name_at an_SubsetScale_name_at cd_SubsetScale_name_at ct_SubsetScale_name_at), sl_SubsetScale_name_at⟩)
    (c_SubsetScale_name_at : PySem.W.codeIn K cd_SubsetScale_name_at "ListedScale.name_at" = true)
    (k_SubsetScale_name_at : PySem.W.keepIn K (.ref f_SubsetScale_name_at) = true)
    (a_cf_Scale___init__ : PySem.W.findCls K (.ref C_Scale) (.type "type") "__init__" = some (.val (.ref f_cf_Scale___init__)))
    (l_cf_Scale___init__ : K.lookup f_cf_Scale___init__ = some ⟨oc_cf_Scale___init__, od_cf_Scale___init__, .func (PySem.W.fnOf "__init__" "Scale.__init__" (defArgs (inClass (top 13) 0)) (defBody (inClass (top 13) 0)) (defScope (inClass (top 13) 0)) .none kV_cf_Scale___init__ dc_cf_Scale___init__ pm_cf_Scale___init__ an_cf_Scale___init__ cd_cf_Scale___init__ ct_cf_Scale___init__), sl_cf_Scale___init__⟩)
    (c_cf_Scale___init__ : PySem.W.codeIn K cd_cf_Scale___init__ "Scale.__init__" = true)
    (k_cf_Scale___init__ : PySem.W.keepIn K (.ref f_cf_Scale___init__) = true)
    (rd_cf_Scale___init__ : PySem.W.readsIn K C_Scale (.type "type") = true)
    (ga_cf_Scale___init__ : PySem.W.specialIn K (.ref C_Scale) "__getattribute__" = some (some (.builtin "type.__getattribute__")))
    (a_cf_ListedScale___init__ : PySem.W.findCls K (.ref C_ListedScale) (.type "type") "__init__" = some (.val (.ref f_cf_ListedScale___init__)))
    (l_cf_ListedScale___init__ : K.lookup f_cf_ListedScale___init__ = some ⟨oc_cf_ListedScale___init__, od_cf_ListedScale___init__, .func (PySem.W.fnOf "__init__" "ListedScale.__init__" (defArgs (inClass (top 14) 0)) (defBody (inClass (top 14) 0)) (defScope (inClass (top 14) 0)) .none kV_cf_ListedScale___init__ dc_cf_ListedScale___init__ pm_cf_ListedScale___init__ an_cf_ListedScale___init__ cd_cf_ListedScale___init__ ct_cf_ListedScale___init__), sl_cf_ListedScale___init__⟩)
    (c_cf_ListedScale___init__ : PySem.W.codeIn K cd_cf_ListedScale___init__ "ListedScale.__init__" = true)
    (k_cf_ListedScale___init__ : PySem.W.keepIn K (.ref f_cf_ListedScale___init__) = true)
    (rd_cf_ListedScale___init__ : PySem.W.readsIn K C_ListedScale (.type "type") = true)
    (ga_cf_ListedScale___init__ : PySem.W.specialIn K (.ref C_ListedScale) "__getattribute__" = some (some (.builtin "type.__getattribute__")))
    (n_LevelScale_label : PySem.W.findIn K (.ref C_LevelScale) "label" = some none)
    (n_LevelScale_size : PySem.W.findIn K (.ref C_LevelScale) "size" = some none)
    (n_LevelScale_zero_at : PySem.W.findIn K (.ref C_LevelScale) "zero_at" = some none)
    (n_LevelScale_one_at : PySem.W.findIn K (.ref C_LevelScale) "one_at" = some none)
    (n_LevelScale_depth : PySem.W.findIn K (.ref C_LevelScale) "depth" = some none)
    (n_LevelScale__names : PySem.W.findIn K (.ref C_LevelScale) "_names" = some none)
    (n_LevelScale__found : PySem.W.findIn K (.ref C_LevelScale) "_found" = some none)
    (n_SubsetScale_label : PySem.W.findIn K (.ref C_SubsetScale) "label" = some none)
    (n_SubsetScale_size : PySem.W.findIn K (.ref C_SubsetScale) "size" = some none)
    (n_SubsetScale_zero_at : PySem.W.findIn K (.ref C_SubsetScale) "zero_at" = some none)
    (n_SubsetScale_one_at : PySem.W.findIn K (.ref C_SubsetScale) "one_at" = some none)
    (n_SubsetScale_depth : PySem.W.findIn K (.ref C_SubsetScale) "depth" = some none)
    (n_SubsetScale__names : PySem.W.findIn K (.ref C_SubsetScale) "_names" = some none)
    (n_SubsetScale__found : PySem.W.findIn K (.ref C_SubsetScale) "_found" = some none)
    (n_UnknownGrade_name : PySem.W.findIn K (.ref C_UnknownGrade) "name" = some none)
    (te : PySem.W.exmOne K (.ref C_UnknownGrade) (.ref C_UnknownGrade) = some true)
    (z_int : PySem.W.nsIn K mainGlobals "int" = some none)
    (z_len : PySem.W.nsIn K mainGlobals "len" = some none)
    (z_range : PySem.W.nsIn K mainGlobals "range" = some none)
    (z_isinstance : PySem.W.nsIn K mainGlobals "isinstance" = some none)
    (z_bool : PySem.W.nsIn K mainGlobals "bool" = some none)
    (z_str : PySem.W.nsIn K mainGlobals "str" = some none)
    (z_tuple : PySem.W.nsIn K mainGlobals "tuple" = some none)
    (z_list : PySem.W.nsIn K mainGlobals "list" = some none)
    (g_MOST_DEPTH : PySem.W.nsIn K mainGlobals "MOST_DEPTH" = some (some (.int 20 t_MOST_DEPTH)))
    (g_MOST_GRADES : PySem.W.nsIn K mainGlobals "MOST_GRADES" = some (some (.int 64 t_MOST_GRADES)))
    (g_MOST_SUBSET_THINGS : PySem.W.nsIn K mainGlobals "MOST_SUBSET_THINGS" = some (some (.int 6 t_MOST_SUBSET_THINGS)))
    : ∃ fd : FuncData, (∀ (s : Shared) (v : Value), BindsTo s fd ⟨[v], []⟩ [("_law_script", v)]) ∧ ∀ base : Heap, K.In base → base.Ns mainGlobals mg → FnOk l.prog w K mg base (L2.CX l.prog w) 6 fa fd ["_law_script"] (spLaw K) := by
  have e := hfa.symm.trans (PySem.W.mg_of X G a_law)
  cases e
  have g_LevelScale := PySem.W.mg_of X G aC_LevelScale
  have cl_LevelScale : Cls K C_LevelScale := ⟨pg_LevelScale, hd_LevelScale, po_LevelScale, sa_LevelScale⟩
  have g_SubsetScale := PySem.W.mg_of X G aC_SubsetScale
  have cl_SubsetScale : Cls K C_SubsetScale := ⟨pg_SubsetScale, hd_SubsetScale, po_SubsetScale, sa_SubsetScale⟩
  have g_Scale := PySem.W.mg_of X G aC_Scale
  have g_ListedScale := PySem.W.mg_of X G aC_ListedScale
  have g_NameMissing := PySem.W.mg_of X G aC_NameMissing
  have g_UnknownGrade := PySem.W.mg_of X G aC_UnknownGrade
  have ox_UnknownGrade : OexB K C_UnknownGrade "LookupError" "LookupError.__new__" "LookupError.__init__" [.type "LookupError", .type "Exception", .type "BaseException", .type "object"] := ⟨PySem.F.store_LookupError, PySem.F.excBase_LookupError, xi_UnknownGrade, xo_UnknownGrade, xh_UnknownGrade, xs_UnknownGrade, xe_UnknownGrade, xt_UnknownGrade, xk_UnknownGrade⟩
  have ei_UnknownGrade : ExcI K C_UnknownGrade := ⟨(by obtain ⟨cd, hc, _⟩ := PySem.W.any_some xh_UnknownGrade; rw [hc]; rfl), xga_UnknownGrade, xgg_UnknownGrade, xe_UnknownGrade, xca_UnknownGrade, x_cg, x_ct, xmo_UnknownGrade⟩
  have xf_UnknownGrade : XfC K C_UnknownGrade := ⟨xga_UnknownGrade, xgg_UnknownGrade, xe_UnknownGrade, xh_UnknownGrade⟩
  have F_ei_UnknownGrade_init := fun_mk (st := (inClass (top 9) 0)) l_ei_UnknownGrade_init c_ei_UnknownGrade_init k_ei_UnknownGrade_init
  have b_ei_UnknownGrade_init := F_ei_UnknownGrade_init.binds (ps := ["self", "name"]) fun _ _ _ _ _ _ us hl => match us, hl with | [_, _], _ => rfl
  have bi_NameMissing : BInit K mg "NameMissing" "LookupError.__init__" := ⟨_, g_NameMissing, rd_bi_NameMissing, ga_bi_NameMissing, a_bi_NameMissing, by decide +kernel⟩
  have F_greater := fun_mk (st := (top 2)) l_greater c_greater k_greater
  have g_greater := PySem.W.mg_of X G a_greater
  have b_greater := F_greater.binds (ps := ["first", "second"]) fun _ _ _ _ _ _ us hl => match us, hl with | [_, _], _ => rfl
  have F_lesser := fun_mk (st := (top 3)) l_lesser c_lesser k_lesser
  have g_lesser := PySem.W.mg_of X G a_lesser
  have b_lesser := F_lesser.binds (ps := ["first", "second"]) fun _ _ _ _ _ _ us hl => match us, hl with | [_, _], _ => rfl
  have F_binary_names := fun_mk (st := (top 19)) l_binary_names c_binary_names k_binary_names
  have g_binary_names := PySem.W.mg_of X G a_binary_names
  have b_binary_names := F_binary_names.binds (ps := ["length"]) fun _ _ _ _ _ _ us hl => match us, hl with | [_], _ => rfl
  have F__law_draws := fun_mk (st := (top 21)) l__law_draws c__law_draws k__law_draws
  have g__law_draws := PySem.W.mg_of X G a__law_draws
  have b__law_draws := F__law_draws.binds (ps := ["_law_script"]) fun _ _ _ _ _ _ us hl => match us, hl with | [_], _ => rfl
  have F__law_draw := fun_mk (st := (top 22)) l__law_draw c__law_draw k__law_draw
  have g__law_draw := PySem.W.mg_of X G a__law_draw
  have b__law_draw := F__law_draw.binds (ps := ["_law_state", "_law_many"]) fun _ _ _ _ _ _ us hl => match us, hl with | [_, _], _ => rfl
  have F__law_same := fun_mk (st := (top 23)) l__law_same c__law_same k__law_same
  have g__law_same := PySem.W.mg_of X G a__law_same
  have b__law_same := F__law_same.binds (ps := ["_law_found", "_law_due"]) fun _ _ _ _ _ _ us hl => match us, hl with | [_, _], _ => rfl
  have F__law_set := fun_mk (st := (top 24)) l__law_set c__law_set k__law_set
  have g__law_set := PySem.W.mg_of X G a__law_set
  have b__law_set := F__law_set.binds (ps := ["_law_place_here", "_law_count"]) fun _ _ _ _ _ _ us hl => match us, hl with | [_, _], _ => rfl
  have F__law_place := fun_mk (st := (top 25)) l__law_place c__law_place k__law_place
  have g__law_place := PySem.W.mg_of X G a__law_place
  have b__law_place := F__law_place.binds (ps := ["_law_things"]) fun _ _ _ _ _ _ us hl => match us, hl with | [_], _ => rfl
  have F__law_subsets := fun_mk (st := (top 26)) l__law_subsets c__law_subsets k__law_subsets
  have g__law_subsets := PySem.W.mg_of X G a__law_subsets
  have b__law_subsets := F__law_subsets.binds (ps := ["_law_count", "_law_a", "_law_b"]) fun _ _ _ _ _ _ us hl => match us, hl with | [_, _, _], _ => rfl
  have F__law_levels := fun_mk (st := (top 27)) l__law_levels c__law_levels k__law_levels
  have g__law_levels := PySem.W.mg_of X G a__law_levels
  have b__law_levels := F__law_levels.binds (ps := ["_law_a", "_law_b"]) fun _ _ _ _ _ _ us hl => match us, hl with | [_, _], _ => rfl
  have F__law_unknown := fun_mk (st := (top 28)) l__law_unknown c__law_unknown k__law_unknown
  have g__law_unknown := PySem.W.mg_of X G a__law_unknown
  have b__law_unknown := F__law_unknown.binds (ps := ["_law_scale", "_law_word"]) fun _ _ _ _ _ _ us hl => match us, hl with | [_, _], _ => rfl
  have F_law := fun_mk (st := (top 29)) l_law c_law k_law
  have g_law := PySem.W.mg_of X G a_law
  have F_LevelScale___init__ := fun_mk (st := (inClass (top 17) 0)) l_LevelScale___init__ c_LevelScale___init__ k_LevelScale___init__
  have me_LevelScale___init__ : Meth K C_LevelScale "__init__" f_LevelScale___init__ := ⟨a_LevelScale___init__, i_LevelScale___init__, k_LevelScale___init__⟩
  have b_LevelScale___init__ := F_LevelScale___init__.binds (ps := ["self", "count"]) fun _ _ _ _ _ _ us hl => match us, hl with | [_, _], _ => rfl
  have F_LevelScale_sum_at := fun_mk (st := (inClass (top 17) 1)) l_LevelScale_sum_at c_LevelScale_sum_at k_LevelScale_sum_at
  have me_LevelScale_sum_at : Meth K C_LevelScale "sum_at" f_LevelScale_sum_at := ⟨a_LevelScale_sum_at, i_LevelScale_sum_at, k_LevelScale_sum_at⟩
  have b_LevelScale_sum_at := F_LevelScale_sum_at.binds (ps := ["self", "first", "second"]) fun _ _ _ _ _ _ us hl => match us, hl with | [_, _, _], _ => rfl
  have F_LevelScale_product_at := fun_mk (st := (inClass (top 17) 2)) l_LevelScale_product_at c_LevelScale_product_at k_LevelScale_product_at
  have me_LevelScale_product_at : Meth K C_LevelScale "product_at" f_LevelScale_product_at := ⟨a_LevelScale_product_at, i_LevelScale_product_at, k_LevelScale_product_at⟩
  have b_LevelScale_product_at := F_LevelScale_product_at.binds (ps := ["self", "first", "second"]) fun _ _ _ _ _ _ us hl => match us, hl with | [_, _, _], _ => rfl
  have F_LevelScale_within_at := fun_mk (st := (inClass (top 17) 3)) l_LevelScale_within_at c_LevelScale_within_at k_LevelScale_within_at
  have me_LevelScale_within_at : Meth K C_LevelScale "within_at" f_LevelScale_within_at := ⟨a_LevelScale_within_at, i_LevelScale_within_at, k_LevelScale_within_at⟩
  have b_LevelScale_within_at := F_LevelScale_within_at.binds (ps := ["self", "first", "second"]) fun _ _ _ _ _ _ us hl => match us, hl with | [_, _, _], _ => rfl
  have F_LevelScale_bound_at := fun_mk (st := (inClass (top 13) 5)) l_LevelScale_bound_at c_LevelScale_bound_at k_LevelScale_bound_at
  have me_LevelScale_bound_at : Meth K C_LevelScale "bound_at" f_LevelScale_bound_at := ⟨a_LevelScale_bound_at, i_LevelScale_bound_at, k_LevelScale_bound_at⟩
  have b_LevelScale_bound_at := F_LevelScale_bound_at.binds (ps := ["self", "first", "second"]) fun _ _ _ _ _ _ us hl => match us, hl with | [_, _, _], _ => rfl
  have F_LevelScale_within_all := fun_mk (st := (inClass (top 13) 6)) l_LevelScale_within_all c_LevelScale_within_all k_LevelScale_within_all
  have me_LevelScale_within_all : Meth K C_LevelScale "within_all" f_LevelScale_within_all := ⟨a_LevelScale_within_all, i_LevelScale_within_all, k_LevelScale_within_all⟩
  have b_LevelScale_within_all := F_LevelScale_within_all.binds (ps := ["self", "place", "others"]) fun _ _ _ _ _ _ us hl => match us, hl with | [_, _, _], _ => rfl
  have F_LevelScale_places := fun_mk (st := (inClass (top 13) 1)) l_LevelScale_places c_LevelScale_places k_LevelScale_places
  have me_LevelScale_places : Meth K C_LevelScale "places" f_LevelScale_places := ⟨a_LevelScale_places, i_LevelScale_places, k_LevelScale_places⟩
  have b_LevelScale_places := F_LevelScale_places.binds (ps := ["self"]) fun _ _ _ _ _ _ us hl => match us, hl with | [_], _ => rfl
  have F_LevelScale_at_name := fun_mk (st := (inClass (top 13) 9)) l_LevelScale_at_name c_LevelScale_at_name k_LevelScale_at_name
  have me_LevelScale_at_name : Meth K C_LevelScale "at_name" f_LevelScale_at_name := ⟨a_LevelScale_at_name, i_LevelScale_at_name, k_LevelScale_at_name⟩
  have b_LevelScale_at_name := F_LevelScale_at_name.binds (ps := ["self", "name"]) fun _ _ _ _ _ _ us hl => match us, hl with | [_, _], _ => rfl
  have F_LevelScale_find_at := fun_mk (st := (inClass (top 14) 2)) l_LevelScale_find_at c_LevelScale_find_at k_LevelScale_find_at
  have me_LevelScale_find_at : Meth K C_LevelScale "find_at" f_LevelScale_find_at := ⟨a_LevelScale_find_at, i_LevelScale_find_at, k_LevelScale_find_at⟩
  have b_LevelScale_find_at := F_LevelScale_find_at.binds (ps := ["self", "name"]) fun _ _ _ _ _ _ us hl => match us, hl with | [_, _], _ => rfl
  have F_LevelScale_name_at := fun_mk (st := (inClass (top 14) 1)) l_LevelScale_name_at c_LevelScale_name_at k_LevelScale_name_at
  have me_LevelScale_name_at : Meth K C_LevelScale "name_at" f_LevelScale_name_at := ⟨a_LevelScale_name_at, i_LevelScale_name_at, k_LevelScale_name_at⟩
  have b_LevelScale_name_at := F_LevelScale_name_at.binds (ps := ["self", "place"]) fun _ _ _ _ _ _ us hl => match us, hl with | [_, _], _ => rfl
  have F_SubsetScale___init__ := fun_mk (st := (inClass (top 18) 0)) l_SubsetScale___init__ c_SubsetScale___init__ k_SubsetScale___init__
  have me_SubsetScale___init__ : Meth K C_SubsetScale "__init__" f_SubsetScale___init__ := ⟨a_SubsetScale___init__, i_SubsetScale___init__, k_SubsetScale___init__⟩
  have b_SubsetScale___init__ := F_SubsetScale___init__.binds (ps := ["self", "count"]) fun _ _ _ _ _ _ us hl => match us, hl with | [_, _], _ => rfl
  have F_SubsetScale_sum_at := fun_mk (st := (inClass (top 18) 1)) l_SubsetScale_sum_at c_SubsetScale_sum_at k_SubsetScale_sum_at
  have me_SubsetScale_sum_at : Meth K C_SubsetScale "sum_at" f_SubsetScale_sum_at := ⟨a_SubsetScale_sum_at, i_SubsetScale_sum_at, k_SubsetScale_sum_at⟩
  have b_SubsetScale_sum_at := F_SubsetScale_sum_at.binds (ps := ["self", "first", "second"]) fun _ _ _ _ _ _ us hl => match us, hl with | [_, _, _], _ => rfl
  have F_SubsetScale_product_at := fun_mk (st := (inClass (top 18) 2)) l_SubsetScale_product_at c_SubsetScale_product_at k_SubsetScale_product_at
  have me_SubsetScale_product_at : Meth K C_SubsetScale "product_at" f_SubsetScale_product_at := ⟨a_SubsetScale_product_at, i_SubsetScale_product_at, k_SubsetScale_product_at⟩
  have b_SubsetScale_product_at := F_SubsetScale_product_at.binds (ps := ["self", "first", "second"]) fun _ _ _ _ _ _ us hl => match us, hl with | [_, _, _], _ => rfl
  have F_SubsetScale_within_at := fun_mk (st := (inClass (top 18) 3)) l_SubsetScale_within_at c_SubsetScale_within_at k_SubsetScale_within_at
  have me_SubsetScale_within_at : Meth K C_SubsetScale "within_at" f_SubsetScale_within_at := ⟨a_SubsetScale_within_at, i_SubsetScale_within_at, k_SubsetScale_within_at⟩
  have b_SubsetScale_within_at := F_SubsetScale_within_at.binds (ps := ["self", "first", "second"]) fun _ _ _ _ _ _ us hl => match us, hl with | [_, _, _], _ => rfl
  have F_SubsetScale_bound_at := fun_mk (st := (inClass (top 13) 5)) l_SubsetScale_bound_at c_SubsetScale_bound_at k_SubsetScale_bound_at
  have me_SubsetScale_bound_at : Meth K C_SubsetScale "bound_at" f_SubsetScale_bound_at := ⟨a_SubsetScale_bound_at, i_SubsetScale_bound_at, k_SubsetScale_bound_at⟩
  have b_SubsetScale_bound_at := F_SubsetScale_bound_at.binds (ps := ["self", "first", "second"]) fun _ _ _ _ _ _ us hl => match us, hl with | [_, _, _], _ => rfl
  have F_SubsetScale_within_all := fun_mk (st := (inClass (top 13) 6)) l_SubsetScale_within_all c_SubsetScale_within_all k_SubsetScale_within_all
  have me_SubsetScale_within_all : Meth K C_SubsetScale "within_all" f_SubsetScale_within_all := ⟨a_SubsetScale_within_all, i_SubsetScale_within_all, k_SubsetScale_within_all⟩
  have b_SubsetScale_within_all := F_SubsetScale_within_all.binds (ps := ["self", "place", "others"]) fun _ _ _ _ _ _ us hl => match us, hl with | [_, _, _], _ => rfl
  have F_SubsetScale_places := fun_mk (st := (inClass (top 13) 1)) l_SubsetScale_places c_SubsetScale_places k_SubsetScale_places
  have me_SubsetScale_places : Meth K C_SubsetScale "places" f_SubsetScale_places := ⟨a_SubsetScale_places, i_SubsetScale_places, k_SubsetScale_places⟩
  have b_SubsetScale_places := F_SubsetScale_places.binds (ps := ["self"]) fun _ _ _ _ _ _ us hl => match us, hl with | [_], _ => rfl
  have F_SubsetScale_at_name := fun_mk (st := (inClass (top 13) 9)) l_SubsetScale_at_name c_SubsetScale_at_name k_SubsetScale_at_name
  have me_SubsetScale_at_name : Meth K C_SubsetScale "at_name" f_SubsetScale_at_name := ⟨a_SubsetScale_at_name, i_SubsetScale_at_name, k_SubsetScale_at_name⟩
  have b_SubsetScale_at_name := F_SubsetScale_at_name.binds (ps := ["self", "name"]) fun _ _ _ _ _ _ us hl => match us, hl with | [_, _], _ => rfl
  have F_SubsetScale_find_at := fun_mk (st := (inClass (top 14) 2)) l_SubsetScale_find_at c_SubsetScale_find_at k_SubsetScale_find_at
  have me_SubsetScale_find_at : Meth K C_SubsetScale "find_at" f_SubsetScale_find_at := ⟨a_SubsetScale_find_at, i_SubsetScale_find_at, k_SubsetScale_find_at⟩
  have b_SubsetScale_find_at := F_SubsetScale_find_at.binds (ps := ["self", "name"]) fun _ _ _ _ _ _ us hl => match us, hl with | [_, _], _ => rfl
  have F_SubsetScale_name_at := fun_mk (st := (inClass (top 14) 1)) l_SubsetScale_name_at c_SubsetScale_name_at k_SubsetScale_name_at
  have me_SubsetScale_name_at : Meth K C_SubsetScale "name_at" f_SubsetScale_name_at := ⟨a_SubsetScale_name_at, i_SubsetScale_name_at, k_SubsetScale_name_at⟩
  have b_SubsetScale_name_at := F_SubsetScale_name_at.binds (ps := ["self", "place"]) fun _ _ _ _ _ _ us hl => match us, hl with | [_, _], _ => rfl
  have F_cf_Scale___init__ := fun_mk (st := (inClass (top 13) 0)) l_cf_Scale___init__ c_cf_Scale___init__ k_cf_Scale___init__
  have cfn_cf_Scale___init__ : CFn K C_Scale (.type "type") "__init__" f_cf_Scale___init__ := ⟨rd_cf_Scale___init__, ga_cf_Scale___init__, a_cf_Scale___init__, k_cf_Scale___init__⟩
  have b_cf_Scale___init__ := F_cf_Scale___init__.binds (ps := ["self", "label", "size", "zero_at", "one_at", "depth"]) fun _ _ _ _ _ _ us hl => match us, hl with | [_, _, _, _, _, _], _ => rfl
  have F_cf_ListedScale___init__ := fun_mk (st := (inClass (top 14) 0)) l_cf_ListedScale___init__ c_cf_ListedScale___init__ k_cf_ListedScale___init__
  have cfn_cf_ListedScale___init__ : CFn K C_ListedScale (.type "type") "__init__" f_cf_ListedScale___init__ := ⟨rd_cf_ListedScale___init__, ga_cf_ListedScale___init__, a_cf_ListedScale___init__, k_cf_ListedScale___init__⟩
  have b_cf_ListedScale___init__ := F_cf_ListedScale___init__.binds (ps := ["self", "label", "names", "zero_at", "one_at"]) fun _ _ _ _ _ _ us hl => match us, hl with | [_, _, _, _, _], _ => rfl
  have zn_int := PySem.W.mg_none_of X G z_int
  have zn_len := PySem.W.mg_none_of X G z_len
  have zn_range := PySem.W.mg_none_of X G z_range
  have zn_isinstance := PySem.W.mg_none_of X G z_isinstance
  have zn_bool := PySem.W.mg_none_of X G z_bool
  have zn_str := PySem.W.mg_none_of X G z_str
  have zn_tuple := PySem.W.mg_none_of X G z_tuple
  have zn_list := PySem.W.mg_none_of X G z_list
  have gi_MOST_DEPTH : ∃ u, mg "MOST_DEPTH" = some u ∧ RelV (.int 20) u := ⟨_, PySem.W.mg_of X G g_MOST_DEPTH, ⟨_, rfl⟩⟩
  have gi_MOST_GRADES : ∃ u, mg "MOST_GRADES" = some u ∧ RelV (.int 64) u := ⟨_, PySem.W.mg_of X G g_MOST_GRADES, ⟨_, rfl⟩⟩
  have gi_MOST_SUBSET_THINGS : ∃ u, mg "MOST_SUBSET_THINGS" = some u ∧ RelV (.int 6) u := ⟨_, PySem.W.mg_of X G g_MOST_SUBSET_THINGS, ⟨_, rfl⟩⟩
  refine ⟨PySem.W.fnOf "law" "law" (defArgs (top 29)) (defBody (top 29)) (defScope (top 29)) .none kV_law dc_law pm_law an_law cd_law ct_law, fun s v => .of_eq rfl, fun base _ _ => ?_⟩
  have TL : TxL K mg := ⟨zn_int, zn_len, zn_range, zn_isinstance, zn_bool, zn_str, zn_tuple, zn_list⟩
  have TC : TxC K mg := ⟨TL, gi_MOST_DEPTH, gi_MOST_GRADES⟩
  have TS : TxS K mg := ⟨TC, gi_MOST_SUBSET_THINGS⟩
  have TU : TxU K mg C_UnknownGrade := ⟨TL, g_UnknownGrade, te, xf_UnknownGrade, n_UnknownGrade_name⟩
  have CL : LCls K C_LevelScale := ⟨⟨cl_LevelScale, n_LevelScale_label, n_LevelScale_size, n_LevelScale_zero_at, n_LevelScale_one_at, n_LevelScale_depth⟩, n_LevelScale__names, n_LevelScale__found⟩
  have CS : LCls K C_SubsetScale := ⟨⟨cl_SubsetScale, n_SubsetScale_label, n_SubsetScale_size, n_SubsetScale_zero_at, n_SubsetScale_one_at, n_SubsetScale_depth⟩, n_SubsetScale__names, n_SubsetScale__found⟩
  have cf_scale : CFB l.prog w K mg base CX0 1 "Scale" "__init__" (spScaleInit K) := ⟨_, _, _, _, _, g_Scale, cfn_cf_Scale___init__, ok_scale_init F_cf_Scale___init__ TC, b_cf_Scale___init__⟩
  have cf_listed : CFB l.prog w K mg base CX0 2 "ListedScale" "__init__" (spListedInit K) := ⟨_, _, _, _, _, g_ListedScale, cfn_cf_ListedScale___init__, ok_listed_init F_cf_ListedScale___init__ TC cf_scale, b_cf_ListedScale___init__⟩
  have cal_greater : Cal l.prog w K mg base CX0 1 "greater" (spI2 mxI) := ⟨_, _, _, ok_greater F_greater, g_greater, k_greater, b_greater⟩
  have cal_lesser : Cal l.prog w K mg base CX0 1 "lesser" (spI2 mnI) := ⟨_, _, _, ok_lesser F_lesser, g_lesser, k_lesser, b_lesser⟩
  have cal_bin : Cal l.prog w K mg base CX0 1 "binary_names" spBinNames := ⟨_, _, _, ok_bin_names F_binary_names TC, g_binary_names, k_binary_names, b_binary_names⟩
  have mkL : Mak l.prog w K mg base CX0 3 "LevelScale" C_LevelScale (spLevInit C_LevelScale) := ⟨_, _, _, ⟨mk_LevelScale, a_LevelScale___init__, i_LevelScale___init__, kc_LevelScale⟩, ok_lev_init F_LevelScale___init__ TC CL cf_listed, g_LevelScale, b_LevelScale___init__⟩
  have mkS : Mak l.prog w K mg base CX0 3 "SubsetScale" C_SubsetScale (spSubInit C_SubsetScale) := ⟨_, _, _, ⟨mk_SubsetScale, a_SubsetScale___init__, i_SubsetScale___init__, kc_SubsetScale⟩, ok_sub_init F_SubsetScale___init__ TS CS cf_listed cal_bin, g_SubsetScale, b_SubsetScale___init__⟩
  let cls : Bool → Addr := fun k => match k with
    | false => C_LevelScale
    | true => C_SubsetScale
  have CK : ∀ k, LCls K (cls k) := fun k => match k with
    | false => CL
    | true => CS
  have m_places : ∀ k, Met l.prog w K mg base CX0 1 (cls k) "places" (spPlaces (cls k)) := fun k => match k with
    | false => ⟨_, _, _, cl_LevelScale, me_LevelScale_places, ok_places F_LevelScale_places TC CL.toSCls, b_LevelScale_places⟩
    | true => ⟨_, _, _, cl_SubsetScale, me_SubsetScale_places, ok_places F_SubsetScale_places TC CS.toSCls, b_SubsetScale_places⟩
  have m_sum : ∀ k, Met l.prog w K mg base CX0 2 (cls k) "sum_at" (spOp (sumK k)) := fun k => match k with
    | false => ⟨_, _, _, cl_LevelScale, me_LevelScale_sum_at, ok_lev_sum F_LevelScale_sum_at cal_greater, b_LevelScale_sum_at⟩
    | true => ⟨_, _, _, cl_SubsetScale, me_SubsetScale_sum_at, (ok_sub_sum F_SubsetScale_sum_at).mono (by decide), b_SubsetScale_sum_at⟩
  have m_product : ∀ k, Met l.prog w K mg base CX0 2 (cls k) "product_at" (spOp (prodK k)) := fun k => match k with
    | false => ⟨_, _, _, cl_LevelScale, me_LevelScale_product_at, ok_lev_product F_LevelScale_product_at cal_lesser, b_LevelScale_product_at⟩
    | true => ⟨_, _, _, cl_SubsetScale, me_SubsetScale_product_at, (ok_sub_product F_SubsetScale_product_at).mono (by decide), b_SubsetScale_product_at⟩
  have m_within : ∀ k, Met l.prog w K mg base CX0 1 (cls k) "within_at" (spWithin (ObLs (cls k) (wK k))) := fun k => match k with
    | false => ⟨_, _, _, cl_LevelScale, me_LevelScale_within_at, ok_lev_within F_LevelScale_within_at, b_LevelScale_within_at⟩
    | true => ⟨_, _, _, cl_SubsetScale, me_SubsetScale_within_at, ok_sub_within F_SubsetScale_within_at, b_SubsetScale_within_at⟩
  have m_all : ∀ k, Met l.prog w K mg base CX0 2 (cls k) "within_all" (spAll (ObLs (cls k) (wK k))) := fun k => match k with
    | false => ⟨_, _, _, cl_LevelScale, me_LevelScale_within_all, ok_within_all F_LevelScale_within_all (obLs_ok _ _) (m_within false), b_LevelScale_within_all⟩
    | true => ⟨_, _, _, cl_SubsetScale, me_SubsetScale_within_all, ok_within_all F_SubsetScale_within_all (obLs_ok _ _) (m_within true), b_SubsetScale_within_all⟩
  have m_bound : ∀ k, Met l.prog w K mg base CX0 3 (cls k) "bound_at" (spBound (ObLs (cls k) (wK k))) := fun k => match k with
    | false => ⟨_, _, _, cl_LevelScale, me_LevelScale_bound_at, ok_bound F_LevelScale_bound_at (obLs_ok _ _) (m_within false) (m_all false) (m_places false), b_LevelScale_bound_at⟩
    | true => ⟨_, _, _, cl_SubsetScale, me_SubsetScale_bound_at, ok_bound F_SubsetScale_bound_at (obLs_ok _ _) (m_within true) (m_all true) (m_places true), b_SubsetScale_bound_at⟩
  have m_name : ∀ k, Met l.prog w K mg base CX0 1 (cls k) "name_at" (spNameAt (cls k)) := fun k => match k with
    | false => ⟨_, _, _, cl_LevelScale, me_LevelScale_name_at, ok_name_at F_LevelScale_name_at CL, b_LevelScale_name_at⟩
    | true => ⟨_, _, _, cl_SubsetScale, me_SubsetScale_name_at, ok_name_at F_SubsetScale_name_at CS, b_SubsetScale_name_at⟩
  have m_find : ∀ k, Met l.prog w K mg base CX0 1 (cls k) "find_at" (spFindAt (cls k)) := fun k => match k with
    | false => ⟨_, _, _, cl_LevelScale, me_LevelScale_find_at, ok_find_at F_LevelScale_find_at CL, b_LevelScale_find_at⟩
    | true => ⟨_, _, _, cl_SubsetScale, me_SubsetScale_find_at, ok_find_at F_SubsetScale_find_at CS, b_SubsetScale_find_at⟩
  have xm : ExM l.prog w K mg base 1 "UnknownGrade" C_UnknownGrade (spUgInit K C_UnknownGrade) := ⟨_, _, _, _, _, _, _, ox_UnknownGrade, g_UnknownGrade, a_ei_UnknownGrade_init, ty_ei_UnknownGrade_init, ok_ug_init F_ei_UnknownGrade_init ox_UnknownGrade n_UnknownGrade_name bi_NameMissing, b_ei_UnknownGrade_init⟩
  have m_at_name : ∀ k, Met l.prog w K mg base (L2.CX l.prog w) 3 (cls k) "at_name" (spAtName (cls k) C_UnknownGrade) := fun k => match k with
    | false => ⟨_, _, _, cl_LevelScale, me_LevelScale_at_name, ok_at_name F_LevelScale_at_name (m_find false) xm, b_LevelScale_at_name⟩
    | true => ⟨_, _, _, cl_SubsetScale, me_SubsetScale_at_name, ok_at_name F_SubsetScale_at_name (m_find true) xm, b_SubsetScale_at_name⟩
  have cal_draws : Cal l.prog w K mg base CX0 1 "_law_draws" (spDraws K) := ⟨_, _, _, ok_draws F__law_draws TL, g__law_draws, k__law_draws, b__law_draws⟩
  have cal_draw : Cal l.prog w K mg base CX0 1 "_law_draw" spDraw := ⟨_, _, _, ok_draw F__law_draw TL, g__law_draw, k__law_draw, b__law_draw⟩
  have cal_same : Cal l.prog w K mg base CX0 2 "_law_same" (spSame 1) := ⟨_, _, _, ok_same F__law_same TL g__law_same b__law_same 1, g__law_same, k__law_same, b__law_same⟩
  have cal_set : Cal l.prog w K mg base CX0 1 "_law_set" spSet := ⟨_, _, _, ok_set F__law_set TL, g__law_set, k__law_set, b__law_set⟩
  have cal_place : Cal l.prog w K mg base CX0 1 "_law_place" (spPlace K) := ⟨_, _, _, ok_place F__law_place TL, g__law_place, k__law_place, b__law_place⟩
  have cal_lev : Cal l.prog w K mg base CX0 1 "_law_levels" spDueL := ⟨_, _, _, ok_dueL F__law_levels TL, g__law_levels, k__law_levels, b__law_levels⟩
  have cal_sub : Cal l.prog w K mg base CX0 2 "_law_subsets" spDueS := ⟨_, _, _, ok_dueS F__law_subsets TL cal_set cal_place, g__law_subsets, k__law_subsets, b__law_subsets⟩
  have cal_unk : Cal l.prog w K mg base (L2.CX l.prog w) 4 "_law_unknown" (spLUnknown cls C_UnknownGrade) := ⟨_, _, _, ok_lunknown F__law_unknown TU m_at_name, g__law_unknown, k__law_unknown, b__law_unknown⟩
  exact ok_law F_law TL CK cal_draws cal_draw mkL mkS cal_lev cal_sub cal_set cal_same m_places m_sum m_product m_within m_bound m_name m_at_name cal_unk
theorem walk {l : PySem.W.OpenLaw} {q : Program} {loose : List Str} {XP : (Str → Option Value) → Heap → Prop} {YP : World → Heap → Prop} {d : DefRec} {K : Params → PySem.W.Frag} (hn : l.most = some 63) (hdf : d.params.defaults = [])
    (hY : ∀ (w : World) (h : Heap), YP w h → (K w.params).In h)
    (F : ∀ (w : World) (mg : Str → Option Value) (fa : Addr) (h : Heap), (K w.params).In h → h.Ns mainGlobals mg → mg d.name = some (.ref fa) →
      ∃ fd : FuncData, (∀ (s : Shared) (u : Value), BindsTo s fd ⟨[u], []⟩ [("_law_script", u)]) ∧ ∀ base : Heap, (K w.params).In base → base.Ns mainGlobals mg → FnOk l.prog w (K w.params) mg base (L2.CX l.prog w) 6 fa fd ["_law_script"] (spLaw (K w.params))) :
    PySem.W.WalkO q loose XP YP l.row.toRowW d [] (fun f vs => PySem.call f vs) :=
  L2.walk_of (n := 63) (k := 6) (x := "_law_script") (CX := fun w => (L2.CX l.prog w)) (sp := fun w => spLaw (K w.params)) hn (by decide) hdf ⟨rfl, by decide, by decide⟩ hY F (fun _ _ a ns hl _ hS => ⟨a, ns, rfl, hS, hl, fun _ => rfl⟩) fun _ _ _ _ _ z => UX.cxF z
end Q
open PySem PySem.W PyProof.Rows
set_option maxRecDepth 100000 in
set_option maxHeartbeats 0 in
theorem PySem.Challenge.cw_usescale_k03_levels_and_subsets_holds : PySem.Challenge.rw_usescale_k03_levels_and_subsets.Holds := by
  w_on; o_law; k_head; (case hw => w_witness2)
  k_fill
  refine Q.walk (l := PySem.Challenge.rw_usescale_k03_levels_and_subsets) rfl rfl (fun w h Y => PySem.W.kIn_of Y) ?F
  case F =>
    intro w mg fa h KX G hmg
    refine' Q.all_mk KX G hmg ?aC_LevelScale ?pg_LevelScale ?hd_LevelScale ?po_LevelScale ?sa_LevelScale ?mk_LevelScale ?kc_LevelScale ?aC_SubsetScale ?pg_SubsetScale ?hd_SubsetScale ?po_SubsetScale ?sa_SubsetScale ?mk_SubsetScale ?kc_SubsetScale ?aC_Scale ?aC_ListedScale ?aC_NameMissing ?x_cg ?x_ct ?aC_UnknownGrade ?xi_UnknownGrade ?xo_UnknownGrade ?xh_UnknownGrade ?xs_UnknownGrade ?xe_UnknownGrade ?xt_UnknownGrade ?xk_UnknownGrade ?xga_UnknownGrade ?xgg_UnknownGrade ?xca_UnknownGrade ?xmo_UnknownGrade ?a_ei_UnknownGrade_init ?l_ei_UnknownGrade_init ?c_ei_UnknownGrade_init ?k_ei_UnknownGrade_init ?ty_ei_UnknownGrade_init ?rd_bi_NameMissing ?ga_bi_NameMissing ?a_bi_NameMissing ?a_greater ?l_greater ?c_greater ?k_greater ?a_lesser ?l_lesser ?c_lesser ?k_lesser ?a_binary_names ?l_binary_names ?c_binary_names ?k_binary_names ?a__law_draws ?l__law_draws ?c__law_draws ?k__law_draws ?a__law_draw ?l__law_draw ?c__law_draw ?k__law_draw ?a__law_same ?l__law_same ?c__law_same ?k__law_same ?a__law_set ?l__law_set ?c__law_set ?k__law_set ?a__law_place ?l__law_place ?c__law_place ?k__law_place ?a__law_subsets ?l__law_subsets ?c__law_subsets ?k__law_subsets ?a__law_levels ?l__law_levels ?c__law_levels ?k__law_levels ?a__law_unknown ?l__law_unknown ?c__law_unknown ?k__law_unknown ?a_law ?l_law ?c_law ?k_law ?a_LevelScale___init__ ?i_LevelScale___init__ ?l_LevelScale___init__ ?c_LevelScale___init__ ?k_LevelScale___init__ ?a_LevelScale_sum_at ?i_LevelScale_sum_at ?l_LevelScale_sum_at ?c_LevelScale_sum_at ?k_LevelScale_sum_at ?a_LevelScale_product_at ?i_LevelScale_product_at ?l_LevelScale_product_at ?c_LevelScale_product_at ?k_LevelScale_product_at ?a_LevelScale_within_at ?i_LevelScale_within_at ?l_LevelScale_within_at ?c_LevelScale_within_at ?k_LevelScale_within_at ?a_LevelScale_bound_at ?i_LevelScale_bound_at ?l_LevelScale_bound_at ?c_LevelScale_bound_at ?k_LevelScale_bound_at ?a_LevelScale_within_all ?i_LevelScale_within_all ?l_LevelScale_within_all ?c_LevelScale_within_all ?k_LevelScale_within_all ?a_LevelScale_places ?i_LevelScale_places ?l_LevelScale_places ?c_LevelScale_places ?k_LevelScale_places ?a_LevelScale_at_name ?i_LevelScale_at_name ?l_LevelScale_at_name ?c_LevelScale_at_name ?k_LevelScale_at_name ?a_LevelScale_find_at ?i_LevelScale_find_at ?l_LevelScale_find_at ?c_LevelScale_find_at ?k_LevelScale_find_at ?a_LevelScale_name_at ?i_LevelScale_name_at ?l_LevelScale_name_at ?c_LevelScale_name_at ?k_LevelScale_name_at ?a_SubsetScale___init__ ?i_SubsetScale___init__ ?l_SubsetScale___init__ ?c_SubsetScale___init__ ?k_SubsetScale___init__ ?a_SubsetScale_sum_at ?i_SubsetScale_sum_at ?l_SubsetScale_sum_at ?c_SubsetScale_sum_at ?k_SubsetScale_sum_at ?a_SubsetScale_product_at ?i_SubsetScale_product_at ?l_SubsetScale_product_at ?c_SubsetScale_product_at ?k_SubsetScale_product_at ?a_SubsetScale_within_at ?i_SubsetScale_within_at ?l_SubsetScale_within_at ?c_SubsetScale_within_at ?k_SubsetScale_within_at ?a_SubsetScale_bound_at ?i_SubsetScale_bound_at ?l_SubsetScale_bound_at ?c_SubsetScale_bound_at ?k_SubsetScale_bound_at ?a_SubsetScale_within_all ?i_SubsetScale_within_all ?l_SubsetScale_within_all ?c_SubsetScale_within_all ?k_SubsetScale_within_all ?a_SubsetScale_places ?i_SubsetScale_places ?l_SubsetScale_places ?c_SubsetScale_places ?k_SubsetScale_places ?a_SubsetScale_at_name ?i_SubsetScale_at_name ?l_SubsetScale_at_name ?c_SubsetScale_at_name ?k_SubsetScale_at_name ?a_SubsetScale_find_at ?i_SubsetScale_find_at ?l_SubsetScale_find_at ?c_SubsetScale_find_at ?k_SubsetScale_find_at ?a_SubsetScale_name_at ?i_SubsetScale_name_at ?l_SubsetScale_name_at ?c_SubsetScale_name_at ?k_SubsetScale_name_at ?a_cf_Scale___init__ ?l_cf_Scale___init__ ?c_cf_Scale___init__ ?k_cf_Scale___init__ ?rd_cf_Scale___init__ ?ga_cf_Scale___init__ ?a_cf_ListedScale___init__ ?l_cf_ListedScale___init__ ?c_cf_ListedScale___init__ ?k_cf_ListedScale___init__ ?rd_cf_ListedScale___init__ ?ga_cf_ListedScale___init__ ?n_LevelScale_label ?n_LevelScale_size ?n_LevelScale_zero_at ?n_LevelScale_one_at ?n_LevelScale_depth ?n_LevelScale__names ?n_LevelScale__found ?n_SubsetScale_label ?n_SubsetScale_size ?n_SubsetScale_zero_at ?n_SubsetScale_one_at ?n_SubsetScale_depth ?n_SubsetScale__names ?n_SubsetScale__found ?n_UnknownGrade_name ?te ?z_int ?z_len ?z_range ?z_isinstance ?z_bool ?z_str ?z_tuple ?z_list ?g_MOST_DEPTH ?g_MOST_GRADES ?g_MOST_SUBSET_THINGS
    (case aC_LevelScale => k_is)
    (case pg_LevelScale => k_is)
    (case hd_LevelScale => k_is)
    (case po_LevelScale => k_is)
    (case sa_LevelScale => k_is)
    (case mk_LevelScale => k_is)
    (case kc_LevelScale => k_is)
    (case aC_SubsetScale => k_is)
    (case pg_SubsetScale => k_is)
    (case hd_SubsetScale => k_is)
    (case po_SubsetScale => k_is)
    (case sa_SubsetScale => k_is)
    (case mk_SubsetScale => k_is)
    (case kc_SubsetScale => k_is)
    (case aC_Scale => k_is)
    (case aC_ListedScale => k_is)
    (case aC_NameMissing => k_is)
    (case x_cg => k_is)
    (case x_ct => k_is)
    (case aC_UnknownGrade => k_is)
    (case xi_UnknownGrade => kx_is)
    (case xo_UnknownGrade => kx_is)
    (case xh_UnknownGrade => k_is)
    (case xs_UnknownGrade => k_is)
    (case xe_UnknownGrade => k_is)
    (case xt_UnknownGrade => k_is)
    (case xk_UnknownGrade => k_is)
    (case xga_UnknownGrade => k_is)
    (case xgg_UnknownGrade => k_is)
    (case xca_UnknownGrade => k_is)
    (case xmo_UnknownGrade => k_is)
    (case a_ei_UnknownGrade_init => k_is)
    (case l_ei_UnknownGrade_init => k_is)
    (case c_ei_UnknownGrade_init => k_is)
    (case k_ei_UnknownGrade_init => k_is)
    (case ty_ei_UnknownGrade_init => k_is)
    (case rd_bi_NameMissing => k_is)
    (case ga_bi_NameMissing => k_is)
    (case a_bi_NameMissing => k_is)
    (case a_greater => k_is)
    (case l_greater => k_is)
    (case c_greater => k_is)
    (case k_greater => k_is)
    (case a_lesser => k_is)
    (case l_lesser => k_is)
    (case c_lesser => k_is)
    (case k_lesser => k_is)
    (case a_binary_names => k_is)
    (case l_binary_names => k_is)
    (case c_binary_names => k_is)
    (case k_binary_names => k_is)
    (case a__law_draws => k_is)
    (case l__law_draws => k_is)
    (case c__law_draws => k_is)
    (case k__law_draws => k_is)
    (case a__law_draw => k_is)
    (case l__law_draw => k_is)
    (case c__law_draw => k_is)
    (case k__law_draw => k_is)
    (case a__law_same => k_is)
    (case l__law_same => k_is)
    (case c__law_same => k_is)
    (case k__law_same => k_is)
    (case a__law_set => k_is)
    (case l__law_set => k_is)
    (case c__law_set => k_is)
    (case k__law_set => k_is)
    (case a__law_place => k_is)
    (case l__law_place => k_is)
    (case c__law_place => k_is)
    (case k__law_place => k_is)
    (case a__law_subsets => k_is)
    (case l__law_subsets => k_is)
    (case c__law_subsets => k_is)
    (case k__law_subsets => k_is)
    (case a__law_levels => k_is)
    (case l__law_levels => k_is)
    (case c__law_levels => k_is)
    (case k__law_levels => k_is)
    (case a__law_unknown => k_is)
    (case l__law_unknown => k_is)
    (case c__law_unknown => k_is)
    (case k__law_unknown => k_is)
    (case a_law => k_is)
    (case l_law => k_is)
    (case c_law => k_is)
    (case k_law => k_is)
    (case a_LevelScale___init__ => k_is)
    (case i_LevelScale___init__ => k_is)
    (case l_LevelScale___init__ => k_is)
    (case c_LevelScale___init__ => k_is)
    (case k_LevelScale___init__ => k_is)
    (case a_LevelScale_sum_at => k_is)
    (case i_LevelScale_sum_at => k_is)
    (case l_LevelScale_sum_at => k_is)
    (case c_LevelScale_sum_at => k_is)
    (case k_LevelScale_sum_at => k_is)
    (case a_LevelScale_product_at => k_is)
    (case i_LevelScale_product_at => k_is)
    (case l_LevelScale_product_at => k_is)
    (case c_LevelScale_product_at => k_is)
    (case k_LevelScale_product_at => k_is)
    (case a_LevelScale_within_at => k_is)
    (case i_LevelScale_within_at => k_is)
    (case l_LevelScale_within_at => k_is)
    (case c_LevelScale_within_at => k_is)
    (case k_LevelScale_within_at => k_is)
    (case a_LevelScale_bound_at => k_is)
    (case i_LevelScale_bound_at => k_is)
    (case l_LevelScale_bound_at => k_is)
    (case c_LevelScale_bound_at => k_is)
    (case k_LevelScale_bound_at => k_is)
    (case a_LevelScale_within_all => k_is)
    (case i_LevelScale_within_all => k_is)
    (case l_LevelScale_within_all => k_is)
    (case c_LevelScale_within_all => k_is)
    (case k_LevelScale_within_all => k_is)
    (case a_LevelScale_places => k_is)
    (case i_LevelScale_places => k_is)
    (case l_LevelScale_places => k_is)
    (case c_LevelScale_places => k_is)
    (case k_LevelScale_places => k_is)
    (case a_LevelScale_at_name => k_is)
    (case i_LevelScale_at_name => k_is)
    (case l_LevelScale_at_name => k_is)
    (case c_LevelScale_at_name => k_is)
    (case k_LevelScale_at_name => k_is)
    (case a_LevelScale_find_at => k_is)
    (case i_LevelScale_find_at => k_is)
    (case l_LevelScale_find_at => k_is)
    (case c_LevelScale_find_at => k_is)
    (case k_LevelScale_find_at => k_is)
    (case a_LevelScale_name_at => k_is)
    (case i_LevelScale_name_at => k_is)
    (case l_LevelScale_name_at => k_is)
    (case c_LevelScale_name_at => k_is)
    (case k_LevelScale_name_at => k_is)
    (case a_SubsetScale___init__ => k_is)
    (case i_SubsetScale___init__ => k_is)
    (case l_SubsetScale___init__ => k_is)
    (case c_SubsetScale___init__ => k_is)
    (case k_SubsetScale___init__ => k_is)
    (case a_SubsetScale_sum_at => k_is)
    (case i_SubsetScale_sum_at => k_is)
    (case l_SubsetScale_sum_at => k_is)
    (case c_SubsetScale_sum_at => k_is)
    (case k_SubsetScale_sum_at => k_is)
    (case a_SubsetScale_product_at => k_is)
    (case i_SubsetScale_product_at => k_is)
    (case l_SubsetScale_product_at => k_is)
    (case c_SubsetScale_product_at => k_is)
    (case k_SubsetScale_product_at => k_is)
    (case a_SubsetScale_within_at => k_is)
    (case i_SubsetScale_within_at => k_is)
    (case l_SubsetScale_within_at => k_is)
    (case c_SubsetScale_within_at => k_is)
    (case k_SubsetScale_within_at => k_is)
    (case a_SubsetScale_bound_at => k_is)
    (case i_SubsetScale_bound_at => k_is)
    (case l_SubsetScale_bound_at => k_is)
    (case c_SubsetScale_bound_at => k_is)
    (case k_SubsetScale_bound_at => k_is)
    (case a_SubsetScale_within_all => k_is)
    (case i_SubsetScale_within_all => k_is)
    (case l_SubsetScale_within_all => k_is)
    (case c_SubsetScale_within_all => k_is)
    (case k_SubsetScale_within_all => k_is)
    (case a_SubsetScale_places => k_is)
    (case i_SubsetScale_places => k_is)
    (case l_SubsetScale_places => k_is)
    (case c_SubsetScale_places => k_is)
    (case k_SubsetScale_places => k_is)
    (case a_SubsetScale_at_name => k_is)
    (case i_SubsetScale_at_name => k_is)
    (case l_SubsetScale_at_name => k_is)
    (case c_SubsetScale_at_name => k_is)
    (case k_SubsetScale_at_name => k_is)
    (case a_SubsetScale_find_at => k_is)
    (case i_SubsetScale_find_at => k_is)
    (case l_SubsetScale_find_at => k_is)
    (case c_SubsetScale_find_at => k_is)
    (case k_SubsetScale_find_at => k_is)
    (case a_SubsetScale_name_at => k_is)
    (case i_SubsetScale_name_at => k_is)
    (case l_SubsetScale_name_at => k_is)
    (case c_SubsetScale_name_at => k_is)
    (case k_SubsetScale_name_at => k_is)
    (case a_cf_Scale___init__ => k_is)
    (case l_cf_Scale___init__ => k_is)
    (case c_cf_Scale___init__ => k_is)
    (case k_cf_Scale___init__ => k_is)
    (case rd_cf_Scale___init__ => k_is)
    (case ga_cf_Scale___init__ => k_is)
    (case a_cf_ListedScale___init__ => k_is)
    (case l_cf_ListedScale___init__ => k_is)
    (case c_cf_ListedScale___init__ => k_is)
    (case k_cf_ListedScale___init__ => k_is)
    (case rd_cf_ListedScale___init__ => k_is)
    (case ga_cf_ListedScale___init__ => k_is)
    (case n_LevelScale_label => k_is)
    (case n_LevelScale_size => k_is)
    (case n_LevelScale_zero_at => k_is)
    (case n_LevelScale_one_at => k_is)
    (case n_LevelScale_depth => k_is)
    (case n_LevelScale__names => k_is)
    (case n_LevelScale__found => k_is)
    (case n_SubsetScale_label => k_is)
    (case n_SubsetScale_size => k_is)
    (case n_SubsetScale_zero_at => k_is)
    (case n_SubsetScale_one_at => k_is)
    (case n_SubsetScale_depth => k_is)
    (case n_SubsetScale__names => k_is)
    (case n_SubsetScale__found => k_is)
    (case n_UnknownGrade_name => k_is)
    (case te => kts_exm)
    (case z_int => k_is)
    (case z_len => k_is)
    (case z_range => k_is)
    (case z_isinstance => k_is)
    (case z_bool => k_is)
    (case z_str => k_is)
    (case z_tuple => k_is)
    (case z_list => k_is)
    (case g_MOST_DEPTH => k_is)
    (case g_MOST_GRADES => k_is)
    (case g_MOST_SUBSET_THINGS => k_is)
