import PyProof.Rows.All
import Wide.All
import OpenK.AllK
import Wide.FinOn
import HandS.ForMost
import HandS.Defaults
import HandS.MakeKwOnly
import HandS.Conv
import HandS.Style
import HandS.IsInst
import HandS.FStr
import HandS.DictComp
import HandS.ClsMeth
import HandS.Steps
import KE.KExcInit
import KE.KExcIs
import HandS.ForExc
import HandS.ExcInit
import HandS.ExcField
import HandS.ExcIs
import KE.KxField
import KE.KEqSeq
import HandS.StrMore
import HandS.Strs
import HandS.SetKeys
import HandS.Walk
import HandS.WordsDict
import HandS.Flow
import HandS.Wide
import KE.KExcLine
import KE.RegKTryMore
import KE.RegKIsAll
import PySem.Challenge.RW_usescale_k12_sums_of_ones
set_option Elab.async false
set_option linter.all false
set_option maxRecDepth 100000
set_option maxHeartbeats 4000000
/-! Rules of my own over the hand layer, for every law of this program. -/
namespace U
open PySem PySem.Spec PyProof.Rows L2

/-! ### tests whose answer is known -/
theorem ifY {c A B : Prop} [Decidable c] (hc : c) (h : A) : if decide c = true then A else B := by
  rw [decide_eq_true hc]; exact iteT h
theorem ifN {c A B : Prop} [Decidable c] (hc : ¬ c) (h : B) : if decide c = true then A else B := by
  rw [decide_eq_false hc]; exact iteF h
theorem nifY {c A B : Prop} [Decidable c] (hc : c) (h : B) : if (!decide c) = true then A else B := by
  rw [decide_eq_true hc]; exact iteF h
theorem nifN {c A B : Prop} [Decidable c] (hc : ¬ c) (h : A) : if (!decide c) = true then A else B := by
  rw [decide_eq_false hc]; exact iteT h
theorem ifD {c A B : Prop} [Decidable c] (h1 : c → A) (h2 : ¬ c → B) : if decide c = true then A else B := by
  by_cases h : c
  · exact ifY h (h1 h)
  · exact ifN h (h2 h)
theorem ifB {b : Bool} {A B : Prop} (h1 : b = true → A) (h2 : b = false → B) : if b = true then A else B := by
  cases b
  · exact iteF (h2 rfl)
  · exact iteT (h1 rfl)
theorem ifT {b : Bool} {A B : Prop} (e : b = true) (h : A) : if b = true then A else B := by
  rw [e]; exact iteT h
theorem ifF {b : Bool} {A B : Prop} (e : b = false) (h : B) : if b = true then A else B := by
  rw [e]; exact iteF h

theorem tYesI {σ : L2.St} {H : Hp} {Q : Bool → Hp → Prop} (h : Q true H) : tYes σ H Q := h
theorem sameNew {H : Hp} {p : Addr} {o : HO} (h : H p = none) : Same H (upd H p o) := fun b u e => by
  rw [upd_ne (ne_of_none e h)]; exact e
theorem at_map {ns : List Int} {i : Nat} {y : V} (hi : (ns.map V.int)[i]? = some y) : ∃ n, y = V.int n ∧ ns[i]? = some n := by
  rw [List.getElem?_map] at hi
  cases e : ns[i]? with
  | none => rw [e] at hi; cases hi
  | some n => rw [e] at hi; exact ⟨n, (Option.some.inj hi).symm, rfl⟩
theorem take_snoc {α : Type} {l : List α} {i : Nat} {x : α} (h : l[i]? = some x) : l.take (i + 1) = l.take i ++ [x] := by
  rw [List.take_succ, h]; rfl

/-- a while: W with its measure, B where it ends by its test or a break -/
theorem whileX {c : TT} {tb : TS} {D : Ends} {σ : L2.St} {H : Hp} (W : Nat → L2.St → Hp → Prop) (B : L2.St → Hp → Prop) (n : Nat) (h0 : W n σ H) (hB : ∀ σ H, B σ H → D.nx σ H)
    (hs : ∀ (nx : L2.St → Hp → Prop), (∀ σ H, B σ H → nx σ H) → ∀ m σ H, W m σ H → c σ H fun b H1 => if b = true then ∃ N : L2.St → Hp → Prop, (∀ σ' H', N σ' H' → ∃ m', m' < m ∧ W m' σ' H') ∧ tb { D with nx := N, ct := N, bk := nx } σ H1 else nx σ H1) :
    tWhile c tb D σ H := ⟨W, ⟨n, h0⟩, hs D.nx hB⟩

/-! ### attributes by position -/
theorem lk : ∀ {ks : List Str} {vs : List V} {f : Str} {i : Nat} {v : V}, ks.findIdx? (fun k => k == f) = some i → vs[i]? = some v → (ks.zip vs).lookup f = some v
  | [], vs, f, i, v, h, _ => by simp at h
  | k :: ks, [], f, i, v, _, hv => by simp at hv
  | k :: ks, x :: vs, f, i, v, h, hv => by
    rw [List.findIdx?_cons] at h
    by_cases e : (k == f) = true
    · rw [if_pos e] at h
      obtain rfl : 0 = i := Option.some.inj h
      have e1 : f = k := (beq_iff_eq.mp e).symm
      subst e1
      obtain rfl : x = v := by simpa using hv
      simp [List.lookup]
    · rw [if_neg e] at h
      cases i with
      | zero => simp at h
      | succ i =>
        have h' : ks.findIdx? (fun k => k == f) = some i := by
          cases q : ks.findIdx? (fun k => k == f) with
          | none => rw [q] at h; simp at h
          | some j => rw [q] at h; simp at h; rw [h]
        have e2 : (f == k) = false := by
          rw [Bool.eq_false_iff]; intro z
          exact e (beq_iff_eq.mpr (beq_iff_eq.mp z).symm)
        show (match f == k with | true => some x | false => (ks.zip vs).lookup f) = some v
        rw [e2]
        exact lk h' (by simpa using hv)
theorem lkn : ∀ {ks : List Str} {vs : List V} {f : Str}, ks.findIdx? (fun k => k == f) = none → (ks.zip vs).lookup f = none
  | [], vs, f, h => by simp
  | k :: ks, [], f, _ => by simp
  | k :: ks, x :: vs, f, h => by
    rw [List.findIdx?_cons] at h
    by_cases e : (k == f) = true
    · rw [if_pos e] at h; simp at h
    · rw [if_neg e] at h
      have h' : ks.findIdx? (fun k => k == f) = none := by
        cases q : ks.findIdx? (fun k => k == f) with
        | none => rfl
        | some j => rw [q] at h; simp at h
      have e2 : (f == k) = false := by
        rw [Bool.eq_false_iff]; intro z
        exact e (beq_iff_eq.mpr (beq_iff_eq.mp z).symm)
      show (match f == k with | true => some x | false => (ks.zip vs).lookup f) = none
      rw [e2]
      exact lkn h'
/-- a new attribute -/
theorem pf : ∀ {ks : List Str} {vs : List V} {f : Str} {v : V}, ks.findIdx? (fun k => k == f) = none → ks.length = vs.length → putF f v (ks.zip vs) = (ks ++ [f]).zip (vs ++ [v])
  | [], [], f, v, _, _ => rfl
  | [], x :: vs, f, v, _, h => by simp at h
  | k :: ks, [], f, v, _, h => by simp at h
  | k :: ks, x :: vs, f, v, h, hl => by
    rw [List.findIdx?_cons] at h
    by_cases e : (k == f) = true
    · rw [if_pos e] at h; simp at h
    · rw [if_neg e] at h
      have h' : ks.findIdx? (fun k => k == f) = none := by
        cases q : ks.findIdx? (fun k => k == f) with
        | none => rfl
        | some j => rw [q] at h; simp at h
      have e2 : ¬ k = f := fun z => e (beq_iff_eq.mpr z)
      show (if k = f then (k, v) :: ks.zip vs else (k, x) :: putF f v (ks.zip vs)) = _
      rw [if_neg e2, pf h' (by simpa using hl)]
      rfl

/-! ### o[i] of a list, for o[i] op= e -/
def rGetL (K : PySem.W.Frag) : V → V → Hp → VK → Prop := fun x y H Q => ∃ p xs i v, x = .ref p ∧ y = .int i ∧ SqL K H p xs ∧ 0 ≤ i ∧ xs[i.toNat]? = some v ∧ Q v H
theorem get_list {X : Cx} : PGet X (rGetL X.K) := by
  intro pins s σ H x y v u Q I rx ry h
  obtain ⟨p, xs, i, z, rfl, rfl, hq, h0, he, q⟩ := h
  cases (show v = Value.ref p from rx)
  obtain ⟨t, rfl⟩ := ry
  obtain ⟨its, r, pl, hz⟩ := I.list hq
  obtain ⟨w, ew, rw'⟩ := r.get he
  have hl := r.length
  have hn := line63
  have hb := (List.getElem?_eq_some_iff.mp he).1
  exact wpAny_getItem_list pl.isList h0 (by omega) (by simpa using ew) ⟨z, H, I, rw', q⟩

/-! ### a[i], a a list or a tuple -/
theorem ix_or {X : Cx} {r r' : R2} (h : IxR X r) (h' : IxR X r') : IxR X (fun x y H Q => r x y H Q ∨ r' x y H Q) := by
  intro value slice pins s σ H x y v u Q I rx ry hq hs
  rcases hq with q | q
  · exact h value slice pins s σ H x y v u Q I rx ry q hs
  · exact h' value slice pins s σ H x y v u Q I rx ry q hs
def rIxLT (K : PySem.W.Frag) : R2 := fun x y H Q => rIxL K x y H Q ∨ rIxT K x y H Q
theorem ix_ls {X : Cx} : IxR X (rIxLT X.K) := ix_or ix_list ix_tup

/-! ### x is True, x is False: x anything -/
def rIsBA : R2 := fun x y H Q => ∃ b : Bool, y = .bl b ∧ Q (.bl (decide (x = .bl b))) H
theorem plain_bl {x : V} {v : Value} (b : Bool) (rx : RelV x v) : plainIs v (.bool b) = true := by
  cases x with
  | non => cases (show v = Value.none from rx); rfl
  | bl c => cases (show v = Value.bool c from rx); rfl
  | int i => obtain ⟨t, rfl⟩ := rx; rfl
  | str i => obtain ⟨t, rfl⟩ := rx; rfl
  | byt i => obtain ⟨t, rfl⟩ := rx; rfl
  | flt i => obtain ⟨t, rfl⟩ := rx; rfl
  | ref a => cases (show v = Value.ref a from rx); rfl
  | ty n => cases (show v = Value.type n from rx); rfl
theorem op_isBA {X : Cx} : OpR X (compareOp .Is) rIsBA := by
  intro pins s σ H x y v u Q I rx ry h
  obtain ⟨b, rfl, q⟩ := h
  cases (show u = Value.bool b from ry)
  by_cases e : x = .bl b
  · subst e
    cases (show v = Value.bool b from rx)
    exact wpAny_is_self rfl ⟨.bl true, H, I, rfl, by simpa using q⟩
  · refine wpAny_is_other (plain_bl b rx) (fun z => ?_) ⟨.bl false, H, I, rfl, by simpa [e] using q⟩
    subst z
    exact e (RelV.inj rx (show RelV (.bl b) (.bool b) from rfl))

/-! ### Base.m(self, ..): a def of an own class read off the class -/
structure CFn (K : PySem.W.Frag) (C : Addr) (mc : Value) (m : Str) (f : Addr) : Prop where
  rd : PySem.W.readsIn K C mc = true
  ga : PySem.W.specialIn K (.ref C) "__getattribute__" = some (some (.builtin "type.__getattribute__"))
  at_ : PySem.W.findCls K (.ref C) mc m = some (.val (.ref f))
  kp : PySem.W.keepIn K (.ref f) = true
def tCFn (C : Addr) (sp : Sp) (E : XK) (ta : TE) (t : TA) : TE := fun σ H Q => ta σ H fun x H1 => x = .ref C ∧ t σ H1 fun vs H2 => sp vs H2 Q E
section
variable {X : Cx} {CX : CXT} {k : Nat} {f C : Addr} {mc : Value} {fd : FuncData} {ps : List Str} {sp : Sp} {E : XK} {m : Str} {pos apos : Pos} {e o : Expr} {es : List Expr} {ta : TE} {t : TA}
theorem pe_cfn {pl : Sem Bool} (he : PE X o ta) (c : CFn X.K C mc m f) (F : FnOk X.prog X.w X.K X.mg X.base CX k f fd ps sp) (hr : Room k X.A) (hb : Binds X.K fd ps []) (hx : Passes CX X E) (ha : PA X (e :: es) t)
    (hst : starEach (e :: es) X.env = (false, eval e X.env) :: starEach es X.env := by rfl) (hpl : (backTo pos (starEach es X.env)).any (·.1) = false := by rfl)
    (ht : eval (.Call (.Attribute o m apos) (e :: es) [] pos) X.env = (do
      let ov ← eval o X.env
      standAt apos.atName
      let (f, first) ← holding [ov] (getMethod ov m pl)
      callWith pos f first (backTo pos (starEach (e :: es) X.env)) (backToKw pos (keywordEach [] X.env))) := by rfl) :
    PE X (.Call (.Attribute o m apos) (e :: es) [] pos) (tCFn C sp E ta t) := by
  refine ⟨fun pins s σ H Q I h => ?_⟩
  refine PySem.W.methodCall_KW (pl := pl) (thn (he.run pins s σ H _ I h) fun u s1 ⟨x, H1, I1, rx, ex, q⟩ => ?_) ht
  subst ex
  obtain rfl : u = Value.ref C := rx
  refine PySem.W.method_cls I1.kIn c.ga (PySem.W.cls_value I1.kIn c.rd c.at_ rfl ?_)
  refine PySem.W.callWith_K (first := []) (h₀ := X.base) I.ok.mod.kin c.kp (thn (ha.run pos pins _ σ H1 _ (I1.tok _) q) fun us s2 ⟨vs, H2, I2, r, q2⟩ => ⟨I2.kIn, ?_⟩) hst hpl
  exact run_fn (us := us) (vs := vs) F hr hb .nil hx I2 r (by rw [List.append_nil]; exact q2)
end
end U
namespace U
open PySem PySem.Spec PyProof.Rows L2
/-! ### calls of what has been proved, by name -/
structure Cal (P : Program) (w : World) (K : PySem.W.Frag) (mg : Str → Option Value) (base : Heap) (CX : CXT) (k : Nat) (x : Str) (sp : Sp) : Prop where
  ex : ∃ (f : Addr) (fd : FuncData) (ps : List Str), FnOk P w K mg base CX k f fd ps sp ∧ mg x = some (.ref f) ∧ PySem.W.keepIn K (.ref f) = true ∧ Binds K fd ps []
structure Met (P : Program) (w : World) (K : PySem.W.Frag) (mg : Str → Option Value) (base : Heap) (CX : CXT) (k : Nat) (C : Addr) (m : Str) (sp : Sp) : Prop where
  ex : ∃ (f : Addr) (fd : FuncData) (ps : List Str), Cls K C ∧ Meth K C m f ∧ FnOk P w K mg base CX k f fd ps sp ∧ Binds K fd ps []
structure Mak (P : Program) (w : World) (K : PySem.W.Frag) (mg : Str → Option Value) (base : Heap) (CX : CXT) (k : Nat) (x : Str) (C : Addr) (sp : Sp) : Prop where
  ex : ∃ (f : Addr) (fd : FuncData) (ps : List Str), Mk K C f ∧ FnOk P w K mg base CX k f fd ps sp ∧ mg x = some (.ref C) ∧ Binds K fd ps []
structure CFB (P : Program) (w : World) (K : PySem.W.Frag) (mg : Str → Option Value) (base : Heap) (CX : CXT) (k : Nat) (x m : Str) (sp : Sp) : Prop where
  ex : ∃ (C : Addr) (mc : Value) (f : Addr) (fd : FuncData) (ps : List Str), mg x = some (.ref C) ∧ CFn K C mc m f ∧ FnOk P w K mg base CX k f fd ps sp ∧ Binds K fd ps []
/-- a promise that asks the impossible is kept by any def -/
theorem cal_false {P : Program} {w : World} {K : PySem.W.Frag} {mg : Str → Option Value} {base : Heap} {CX : CXT} {k : Nat} {f : Addr} {fd : FuncData} {ps : List Str} {x : Str} (hm : mg x = some (.ref f)) (kp : PySem.W.keepIn K (.ref f) = true) (b : Binds K fd ps []) :
    Cal P w K mg base CX k x (fun _ _ _ _ => False) := ⟨f, fd, ps, ⟨fun _ _ _ _ h => h.elim, fun _ _ _ _ _ _ _ _ _ _ _ _ _ h => h.elim⟩, hm, kp, b⟩
section
variable {X : Cx} {k j : Nat} {C : Addr} {x m : Str} {sp : Sp} {p pos apos : Pos} {e o : Expr} {es : List Expr} {ta : TE} {t : TA}
theorem pe_c (c : Cal X.prog X.w X.K X.mg X.base CX0 k x sp) (hr : Room j X.A) (hk : k ≤ j) (hg : Gl X x) (ha : PA X (e :: es) t)
    (hdb : (x == ("__debug__" : Str)) = false := by decide) (he : starEach (e :: es) X.env = (false, eval e X.env) :: starEach es X.env := by rfl) (hpl : (backTo pos (starEach es X.env)).any (·.1) = false := by rfl) :
    PE X (.Call (.Name x p) (e :: es) [] pos) (tCall sp [] E0 t) := by
  obtain ⟨f, fd, ps, F, hm, kp, b⟩ := c.ex
  exact pe_call F (hr.mono hk) hg hm kp b .nil pass0 ha hdb he hpl
theorem pe_c0 (c : Cal X.prog X.w X.K X.mg X.base CX0 k x sp) (hr : Room j X.A) (hk : k ≤ j) (hg : Gl X x)
    (hdb : (x == ("__debug__" : Str)) = false := by decide) :
    PE X (.Call (.Name x p) [] [] pos) (tCall sp [] E0 tNil) := by
  obtain ⟨f, fd, ps, F, hm, kp, b⟩ := c.ex
  exact pe_call0 F (hr.mono hk) hg hm kp b .nil pass0 hdb
theorem pe_mk (c : Mak X.prog X.w X.K X.mg X.base CX0 k x C sp) (hr : Room j X.A) (hk : k + 1 ≤ j) (hg : Gl X x) (ha : PA X (e :: es) t)
    (hdb : (x == ("__debug__" : Str)) = false := by decide) (he : starEach (e :: es) X.env = (false, eval e X.env) :: starEach es X.env := by rfl) (hpl : (backTo pos (starEach es X.env)).any (·.1) = false := by rfl) :
    PE X (.Call (.Name x p) (e :: es) [] pos) (tMake C sp [] E0 t) := by
  obtain ⟨f, fd, ps, M, F, hm, b⟩ := c.ex
  exact pe_make M F (hr.mono hk) hg hm b .nil pass0 ha hdb he hpl
theorem pe_mt {pl : Sem Bool} (c : Met X.prog X.w X.K X.mg X.base CX0 k C m sp) (hr : Room j X.A) (hk : k ≤ j) (he : PE X o ta) (ha : PA X (e :: es) t)
    (hst : starEach (e :: es) X.env = (false, eval e X.env) :: starEach es X.env := by rfl) (hpl : (backTo pos (starEach es X.env)).any (·.1) = false := by rfl)
    (ht : eval (.Call (.Attribute o m apos) (e :: es) [] pos) X.env = (do
      let ov ← eval o X.env
      standAt apos.atName
      let (f, first) ← holding [ov] (getMethod ov m pl)
      callWith pos f first (backTo pos (starEach (e :: es) X.env)) (backToKw pos (keywordEach [] X.env))) := by rfl) :
    PE X (.Call (.Attribute o m apos) (e :: es) [] pos) (tMeth C m sp [] E0 ta t) := by
  obtain ⟨f, fd, ps, hc, hm, F, b⟩ := c.ex
  exact pe_meth (pl := pl) he hc hm F (hr.mono hk) b .nil pass0 ha hst hpl ht
theorem pe_mt0 {pl : Sem Bool} (c : Met X.prog X.w X.K X.mg X.base CX0 k C m sp) (hr : Room j X.A) (hk : k ≤ j) (he : PE X o ta)
    (ht : eval (.Call (.Attribute o m apos) [] [] pos) X.env = (do
      let ov ← eval o X.env
      standAt apos.atName
      let (f, first) ← holding [ov] (getMethod ov m pl)
      callWith pos f first (backTo pos (starEach [] X.env)) (backToKw pos (keywordEach [] X.env))) := by rfl) :
    PE X (.Call (.Attribute o m apos) [] [] pos) (tMeth C m sp [] E0 ta tNil) := by
  obtain ⟨f, fd, ps, hc, hm, F, b⟩ := c.ex
  exact pe_meth0 (pl := pl) he hc hm F (hr.mono hk) b .nil pass0 ht
/-- Base.m(self, ..) -/
def tCF (sp : Sp) (t : TA) : TE := fun σ H Q => t σ H fun vs H1 => sp vs H1 Q E0
theorem pe_cf {pl : Sem Bool} (c : CFB X.prog X.w X.K X.mg X.base CX0 k x m sp) (hr : Room j X.A) (hk : k ≤ j) (hg : Gl X x) (ha : PA X (e :: es) t)
    (hdb : (x == ("__debug__" : Str)) = false := by decide)
    (hst : starEach (e :: es) X.env = (false, eval e X.env) :: starEach es X.env := by rfl) (hpl : (backTo pos (starEach es X.env)).any (·.1) = false := by rfl)
    (ht : eval (.Call (.Attribute (.Name x p) m apos) (e :: es) [] pos) X.env = (do
      let ov ← eval (.Name x p) X.env
      standAt apos.atName
      let (f, first) ← holding [ov] (getMethod ov m pl)
      callWith pos f first (backTo pos (starEach (e :: es) X.env)) (backToKw pos (keywordEach [] X.env))) := by rfl) :
    PE X (.Call (.Attribute (.Name x p) m apos) (e :: es) [] pos) (tCF sp t) := by
  obtain ⟨C, mc, f, fd, ps, hm, cf, F, b⟩ := c.ex
  have z : PE X (.Call (.Attribute (.Name x p) m apos) (e :: es) [] pos) (tCFn C sp E0 (tC (.ref C)) t) := pe_cfn (pl := pl) (pe_glob hg hm rfl hdb) cf F (hr.mono hk) b pass0 ha hst hpl ht
  exact ⟨fun pins s σ H Q I h => z.run pins s σ H Q I ⟨rfl, h⟩⟩
end
end U
namespace U
open PySem PySem.Spec PyProof.Rows L2
/-- a module's constant -/
theorem pe_gx {X : Cx} {x : Str} {v : V} {p : Pos} (hg : Gl X x) (h : ∃ u, X.mg x = some u ∧ RelV v u) (hd : (x == ("__debug__" : Str)) = false := by decide) : PE X (.Name x p) (tC v) := by
  obtain ⟨u, hm, r⟩ := h
  exact pe_glob hg hm r hd
/-- a dict comprehension over a range -/
theorem dc_rng {lo : Int} {n : Nat} {g : TG} {tt : TT} {tk tv : TE} {vs : List Nat} {σ : L2.St} {H1 : Hp} {D : Addr} {Qd : Hp → Prop} (Pv : Nat → Hp → Prop) (h0 : Pv 0 (upd H1 D (.dK [])))
    (hs : ∀ (i : Nat) (H : Hp), i < n → Pv i H → g (.int (lo + i)) (wipe σ vs) H fun σ2 H2 => wipe σ2 vs = wipe σ vs ∧ tt σ2 H2 fun b H3 =>
      if b = true then tk σ2 H3 fun y H4 => tv σ2 H4 fun z H5 => ∃ kvs k, y = kV k ∧ H5 D = some (.dK kvs) ∧ kvs.length < sizeLine ∧ Pv (i + 1) (upd H5 D (.dK (putK kvs k z))) else Pv (i + 1) H3) (hd : ∀ H, Pv n H → Qd H) :
    ∃ W : Nat → Nat → Hp → Prop, (∃ m, W 0 m (upd H1 D (.dK []))) ∧ ∀ i m H, W i m H →
      ((Itr lo n).stop i H ∧ Qd H) ∨ ((Itr lo n).go i H ∧ ∃ Nx : Hp → Prop, (∀ H', Nx H' → ∃ m', m' < m ∧ W (i + 1) m' H') ∧ ∀ x H', (Itr lo n).yld i H x H' → g x (wipe σ vs) H' fun σ2 H2 => wipe σ2 vs = wipe σ vs ∧ tt σ2 H2 fun b H3 =>
        if b = true then tk σ2 H3 fun y H4 => tv σ2 H4 fun z H5 => ∃ kvs k, y = kV k ∧ H5 D = some (.dK kvs) ∧ kvs.length < sizeLine ∧ Nx (upd H5 D (.dK (putK kvs k z))) else Nx H3) := by
  refine ⟨fun i m H => m = n - i ∧ i ≤ n ∧ Pv i H, ⟨n, by omega, Nat.zero_le _, h0⟩, ?_⟩
  rintro i m H ⟨rfl, hi, p⟩
  by_cases hlt : i < n
  · refine .inr ⟨hlt, Pv (i + 1), fun H' p' => ⟨n - (i + 1), by omega, rfl, hlt, p'⟩, fun x H' y => ?_⟩
    obtain ⟨e, y⟩ := y
    subst e y
    exact hs i _ hlt p
  · have e : i = n := by omega
    subst e
    exact .inl ⟨Nat.le_refl _, hd H p⟩
theorem range_at {n i : Nat} (h : i < n) : (List.range n)[i]? = some i := by simp [h]
/-- the heap is as it was, but at p -/
def But (p : Addr) (H H' : Hp) : Prop := ∀ b o, H b = some o → b ≠ p → H' b = some o
theorem But.refl {p : Addr} {H : Hp} : But p H H := fun _ _ h _ => h
theorem But.trans {p : Addr} {H H1 H2 : Hp} (a : But p H H1) (b : But p H1 H2) : But p H H2 := fun c o h n => b c o (a c o h n) n
theorem But.upd {p : Addr} {H H1 : Hp} {o : HO} (a : But p H H1) : But p H (upd H1 p o) := fun c u h n => by rw [upd_ne n]; exact a c u h n
theorem But.new {p q : Addr} {H H1 : Hp} {o : HO} (a : But p H H1) (hq : H1 q = none) : But p H (L2.upd H1 q o) := fun c u h n => by
  have z := a c u h n
  rw [upd_ne (ne_of_none z hq)]; exact z
theorem But.of {p : Addr} {H H1 : Hp} (a : Same H H1) : But p H H1 := fun c u h _ => a c u h
end U
namespace U
open PySem PySem.Spec PyProof.Rows L2
theorem putF_le (f : Str) (v : V) : ∀ fs : List (Str × V), (putF f v fs).length ≤ fs.length + 1
  | [] => Nat.le_refl _
  | (g, x) :: r => by
    show (if g = f then (g, v) :: r else (g, x) :: putF f v r).length ≤ r.length + 1 + 1
    split
    · rw [List.length_cons]; omega
    · rw [List.length_cons]; have := putF_le f v r; omega
theorem putF_n {f : Str} {v : V} {fs : List (Str × V)} {n : Nat} (h : fs.length ≤ n) : (putF f v fs).length ≤ n + 1 := Nat.le_trans (putF_le f v fs) (Nat.succ_le_succ h)
end U
namespace U
open PySem PySem.Spec PyProof.Rows L2
theorem putK_le (kvs : List (Key × V)) (k : Key) (v : V) : (putK kvs k v).length ≤ kvs.length + 1 := by
  unfold putK
  split
  · rw [List.length_map]; omega
  · rw [List.length_append]; exact Nat.le_refl _
/-- the dict of the places of names -/
def foundTo (zs : List Str) : Nat → List (Key × V)
  | 0 => []
  | i + 1 => putK (foundTo zs i) (Sum.inr (zs.getD i Str.empty)) (.int (i : Int))
theorem foundTo_le (zs : List Str) : ∀ i, (foundTo zs i).length ≤ i
  | 0 => Nat.le_refl _
  | i + 1 => Nat.le_trans (putK_le _ _ _) (Nat.succ_le_succ (foundTo_le zs i))
theorem at_mapS {ns : List Str} {i : Nat} (h : i < ns.length) : (ns.map V.str)[i]? = some (.str (ns.getD i Str.empty)) := by
  rw [List.getElem?_map, List.getElem?_eq_getElem h, List.getD_eq_getElem?_getD, List.getElem?_eq_getElem h]
  rfl
end U
namespace U
open PySem PySem.Spec PyProof.Rows L2
/-! ### the same rules with the written part named, for the inside of comprehensions -/
theorem ix_listK {X : Cx} (K : PySem.W.Frag) (h : X.K = K) : IxR X (rIxL K) := by subst h; exact ix_list
theorem ix_tupK {X : Cx} (K : PySem.W.Frag) (h : X.K = K) : IxR X (rIxT K) := by subst h; exact ix_tup
theorem ix_lsK {X : Cx} (K : PySem.W.Frag) (h : X.K = K) : IxR X (rIxLT K) := by subst h; exact ix_ls
theorem pe_fldK {X : Cx} (K : PySem.W.Frag) (h : X.K = K) {e : Expr} {ta : TE} {f : Str} {pos : Pos} (he : PE X e ta) (hb : attributeBase e f X.env (eval e X.env) = eval e X.env) : PE X (.Attribute e f pos) (tFld K ta f) := by
  subst h; exact pe_fld he hb
def rLenLT (K : PySem.W.Frag) : List V → Hp → VK → Prop := fun xs H Q => ∃ p ys, xs = [V.ref p] ∧ (SqL K H p ys ∨ SqT K H p ys) ∧ Q (V.int (ys.length : Int)) H
theorem call_lenK {X : Cx} (K : PySem.W.Frag) (h : X.K = K) : CallR X (.builtin "len") (rLenLT K) := by subst h; exact call_len_seq
theorem op_inK {X : Cx} (K : PySem.W.Frag) (h : X.K = K) : OpR X (compareOp .In) (rIn K false) := by subst h; exact op_in_seq
theorem call_isiKn {X : Cx} (K : PySem.W.Frag) (h : X.K = K) : CallR X (.builtin "isinstance") (rIsi K) := by subst h; exact call_isi
end U
namespace U
open PySem PySem.Spec PyProof.Rows L2
/-! ### comprehensions that change nothing but their own new object: F i is what it holds ahead of turn i -/
theorem dcF_range {lo : Int} {n : Nat} {g : TG} {tt : TT} {tk tv : TE} {vs : List Nat} {σ : L2.St} {HB : Hp} {D : Addr} {Qd : Hp → Prop} (F : Nat → List (Key × V)) (h0 : F 0 = [])
    (hs : ∀ (i : Nat), i < n → g (.int (lo + i)) (wipe σ vs) (upd HB D (.dK (F i))) fun σ2 H2 => wipe σ2 vs = wipe σ vs ∧ tt σ2 H2 fun b H3 =>
      if b = true then tk σ2 H3 fun y H4 => tv σ2 H4 fun z H5 => ∃ kvs k, y = kV k ∧ H5 D = some (.dK kvs) ∧ kvs.length < sizeLine ∧ upd H5 D (.dK (putK kvs k z)) = upd HB D (.dK (F (i + 1))) else H3 = upd HB D (.dK (F (i + 1)))) (hd : Qd (upd HB D (.dK (F n)))) :
    ∃ W : Nat → Nat → Hp → Prop, (∃ m, W 0 m (upd HB D (.dK []))) ∧ ∀ i m H, W i m H →
      ((Itr lo n).stop i H ∧ Qd H) ∨ ((Itr lo n).go i H ∧ ∃ Nx : Hp → Prop, (∀ H', Nx H' → ∃ m', m' < m ∧ W (i + 1) m' H') ∧ ∀ x H', (Itr lo n).yld i H x H' → g x (wipe σ vs) H' fun σ2 H2 => wipe σ2 vs = wipe σ vs ∧ tt σ2 H2 fun b H3 =>
        if b = true then tk σ2 H3 fun y H4 => tv σ2 H4 fun z H5 => ∃ kvs k, y = kV k ∧ H5 D = some (.dK kvs) ∧ kvs.length < sizeLine ∧ Nx (upd H5 D (.dK (putK kvs k z))) else Nx H3) :=
  dc_rng (fun i H => H = upd HB D (.dK (F i))) (by rw [h0]) (fun i H hi e => by subst e; exact hs i hi) (fun H e => by subst e; exact hd)
theorem lcF_range {lo : Int} {n : Nat} {g : TG} {tt : TT} {te : TE} {vs : List Nat} {σ : L2.St} {HB : Hp} {D : Addr} {Qd : Hp → Prop} (F : Nat → List V) (h0 : F 0 = [])
    (hs : ∀ (i : Nat), i < n → g (.int (lo + i)) (wipe σ vs) (upd HB D (.lst (F i))) fun σ2 H2 => wipe σ2 vs = wipe σ vs ∧ tt σ2 H2 fun b H3 =>
      if b = true then te σ2 H3 fun y H4 => ∃ acc, H4 D = some (.lst acc) ∧ acc.length < sizeLine ∧ upd H4 D (.lst (acc ++ [y])) = upd HB D (.lst (F (i + 1))) else H3 = upd HB D (.lst (F (i + 1)))) (hd : Qd (upd HB D (.lst (F n)))) :
    ∃ W : Nat → Nat → Hp → Prop, (∃ m, W 0 m (upd HB D (.lst []))) ∧ ∀ i m H, W i m H →
      ((Itr lo n).stop i H ∧ Qd H) ∨ ((Itr lo n).go i H ∧ ∃ Nx : Hp → Prop, (∀ H', Nx H' → ∃ m', m' < m ∧ W (i + 1) m' H') ∧ ∀ x H', (Itr lo n).yld i H x H' → g x (wipe σ vs) H' fun σ2 H2 => wipe σ2 vs = wipe σ vs ∧ tt σ2 H2 fun b H3 =>
        if b = true then te σ2 H3 fun y H4 => ∃ acc, H4 D = some (.lst acc) ∧ acc.length < sizeLine ∧ Nx (upd H4 D (.lst (acc ++ [y]))) else Nx H3) :=
  lc_range (fun i H => H = upd HB D (.lst (F i))) (by rw [h0]) (fun i H hi e => by subst e; exact hs i hi) (fun H e => by subst e; exact hd)
theorem lcF_list {K : PySem.W.Frag} {a : Addr} {xs : List V} {g : TG} {tt : TT} {te : TE} {vs : List Nat} {σ : L2.St} {HB : Hp} {D : Addr} {Qd : Hp → Prop} (F : Nat → List V) (hD : HB D = none) (hl : SqL K HB a xs) (h0 : F 0 = [])
    (hs : ∀ (i : Nat) (x : V), xs[i]? = some x → g x (wipe σ vs) (upd HB D (.lst (F i))) fun σ2 H2 => wipe σ2 vs = wipe σ vs ∧ tt σ2 H2 fun b H3 =>
      if b = true then te σ2 H3 fun y H4 => ∃ acc, H4 D = some (.lst acc) ∧ acc.length < sizeLine ∧ upd H4 D (.lst (acc ++ [y])) = upd HB D (.lst (F (i + 1))) else H3 = upd HB D (.lst (F (i + 1)))) (hd : Qd (upd HB D (.lst (F xs.length)))) :
    ∃ W : Nat → Nat → Hp → Prop, (∃ m, W 0 m (upd HB D (.lst []))) ∧ ∀ i m H, W i m H →
      ((Itl K a).stop i H ∧ Qd H) ∨ ((Itl K a).go i H ∧ ∃ Nx : Hp → Prop, (∀ H', Nx H' → ∃ m', m' < m ∧ W (i + 1) m' H') ∧ ∀ x H', (Itl K a).yld i H x H' → g x (wipe σ vs) H' fun σ2 H2 => wipe σ2 vs = wipe σ vs ∧ tt σ2 H2 fun b H3 =>
        if b = true then te σ2 H3 fun y H4 => ∃ acc, H4 D = some (.lst acc) ∧ acc.length < sizeLine ∧ Nx (upd H4 D (.lst (acc ++ [y]))) else Nx H3) :=
  lc_list (xs := xs) (fun i H => H = upd HB D (.lst (F i))) (by rw [h0]) (fun i H _ e => by subst e; exact (sameNew hD).seq hl) (fun i x H hx e => by subst e; exact hs i x hx) (fun H e => by subst e; exact hd)
end U
namespace U
open PySem PySem.Spec PyProof.Rows L2
/-- a number in decimal -/
abbrev num (i : Int) : Str := Str.ofString (toString i)
theorem num_short (i : Int) (h0 : 0 ≤ i) (h1 : i < 130) : (num i).length ≤ 3 := by
  have z : ∀ n : Nat, n < 130 → (num (n : Int)).length ≤ 3 := by decide +kernel
  obtain ⟨n, rfl⟩ := Int.eq_ofNat_of_zero_le h0
  exact z n (by omega)
theorem num_log (i : Int) (h0 : 0 ≤ i) (h1 : i < 130) : i.natAbs.log2 < 1920 := by
  have e : i.natAbs < 2 ^ 1920 := Nat.lt_of_lt_of_le (show i.natAbs < 130 by omega) (by decide +kernel)
  by_cases hz : i.natAbs = 0
  · rw [hz]; decide
  · exact (Nat.log2_lt hz).mpr e
theorem len_app (a b : Str) : (a ++ b).length = a.length + b.length := by
  show (a.cps ++ b.cps).size = a.cps.size + b.cps.size
  rw [Array.size_append]
theorem rg_at {n : Int} {i : Nat} (h : (i : Int) < n) : (rgV 0 n)[i]? = some (.int (i : Int)) := by
  unfold rgV
  rw [List.getElem?_map, range_at (by omega)]
  simp
end U
namespace U
open PySem PySem.Spec PyProof.Rows L2
abbrev fld (fs : List (Str × V)) (f : Str) : Option V := fs.lookup f
theorem fld_put (f g : Str) (v : V) (fs : List (Str × V)) : fld (putF f v fs) g = if g = f then some v else fld fs g := lookup_putF f g v fs
end U
namespace U
open PySem PySem.Spec PyProof.Rows L2
theorem tNextI {D : Ends} {σ : L2.St} {H : Hp} (h : D.nx σ H) : tNext D σ H := h
end U
namespace U
open PySem PySem.Spec PyProof.Rows L2
/-- the ways of a statement meet in B -/
theorem join {t : TS} {D : Ends} {σ : L2.St} {H : Hp} (B : L2.St → Hp → Prop) (h : ∀ D' : Ends, (∀ σ H, B σ H → D'.nx σ H) → t D' σ H) (k : ∀ σ H, B σ H → D.nx σ H) : t D σ H := h D k
theorem joinR {t : TS} {D : Ends} {σ : L2.St} {H : Hp} (B : L2.St → Hp → Prop) (h : ∀ D' : Ends, D'.rt = D.rt → (∀ σ H, B σ H → D'.nx σ H) → t D' σ H) (k : ∀ σ H, B σ H → D.nx σ H) : t D σ H := h D rfl k
theorem range_map_snoc {β : Type} (f : Nat → β) (i : Nat) : (List.range (i + 1)).map f = (List.range i).map f ++ [f i] := by
  rw [List.range_succ, List.map_append]; rfl
theorem rg_inv {n : Int} {i : Nat} {x : V} (h : (rgV 0 n)[i]? = some x) : x = .int (i : Int) ∧ (i : Int) < n := by
  have hi : i < (rgV 0 n).length := (List.getElem?_eq_some_iff.mp h).1
  rw [rgV_length] at hi
  have hn : (i : Int) < n := by omega
  rw [rg_at hn] at h
  exact ⟨(Option.some.inj h).symm, hn⟩
end U
namespace U
open PySem PySem.Spec PyProof.Rows L2
theorem gNameI {i : Nat} {v : V} {σ : L2.St} {H : Hp} {Q : L2.St → Hp → Prop} (h : Q (σ.set i (some v)) H) : gName i v σ H Q := h
end U
namespace U
open PySem PySem.Spec PyProof.Rows L2
theorem app_le {a b : Str} {m n : Nat} (ha : a.length ≤ m) (hb : b.length ≤ n) : (a ++ b).length ≤ m + n := by rw [len_app]; omega
theorem sz {n m : Nat} (h : n ≤ m) (hm : m ≤ 1000) : n ≤ sizeLine := Nat.le_trans h (Nat.le_trans hm (by decide))
end U
namespace U
open PySem PySem.Spec PyProof.Rows L2
theorem find_at {α : Type} {p : α → Bool} : ∀ {us : List α} {i : Nat} {x : α}, us[i]? = some x → p x = true → (∀ y ∈ us.take i, p y = false) → us.find? p = some x
  | [], i, x, h, _, _ => by simp at h
  | u :: us, 0, x, h, hp, _ => by
    obtain rfl : u = x := by simpa using h
    rw [List.find?_cons, hp]
  | u :: us, i + 1, x, h, hp, ht => by
    rw [List.find?_cons, ht u (by simp)]
    exact find_at (i := i) (by simpa using h) hp (fun y hy => ht y (by simp [hy]))
theorem find_none {α : Type} {p : α → Bool} {us : List α} (h : ∀ y ∈ us, p y = false) : us.find? p = none := by
  rw [List.find?_eq_none]
  intro y hy
  rw [h y hy]; decide
end U
namespace U
open PySem PySem.Spec PyProof.Rows L2
/-- a class made with keywords -/
structure MakK (P : Program) (w : World) (K : PySem.W.Frag) (mg : Str → Option Value) (base : Heap) (CX : CXT) (k : Nat) (x : Str) (C : Addr) (sp : Sp) (n : Nat) (ks : List Str) (gV : List V → List V → List V) : Prop where
  ex : ∃ (f : Addr) (fd : FuncData) (ps : List Str) (g : List Value → List Value → List Value), Mk K C f ∧ FnOk P w K mg base CX k f fd ps sp ∧ mg x = some (.ref C) ∧ KBn K fd ps (n + 1) ks g gV
theorem pe_mkK {X : Cx} {k j n : Nat} {C : Addr} {x : Str} {sp : Sp} {p pos : Pos} {e : Expr} {es : List Expr} {t tk : TA} {ks : List Str} {kws : List Keyword} {gV : List V → List V → List V}
    (c : MakK X.prog X.w X.K X.mg X.base CX0 k x C sp n ks gV) (hr : Room j X.A) (hk : k + 1 ≤ j) (hg : Gl X x) (ha : PA X (e :: es) t) (hkw : PK X kws tk)
    (hall : (backToKw pos (keywordEach kws X.env)).all (·.1.isSome) = true := by rfl) (hks : (backToKw pos (keywordEach kws X.env)).filterMap (·.1) = ks := by rfl) (hdb : (x == ("__debug__" : Str)) = false := by decide)
    (he : starEach (e :: es) X.env = (false, eval e X.env) :: starEach es X.env := by rfl) (hpl : ((backTo pos (starEach (e :: es) X.env)).any (·.1) || (backToKw pos (keywordEach kws X.env)).any (·.1.isNone)) = false := by rfl) :
    PE X (.Call (.Name x p) (e :: es) kws pos) (tMakeK C n ks.length sp gV E0 t tk) := by
  obtain ⟨f, fd, ps, g, M, F, hm, hb⟩ := c.ex
  exact pe_makeK M F (hr.mono hk) hg hm hb pass0 ha hkw hall hks hdb he hpl
end U
namespace U
open PySem PySem.Spec PyProof.Rows L2
theorem tAsgC {i : Nat} {v : V} {D : Ends} {σ : L2.St} {H : Hp} (h : D.nx (σ.set i (some v)) H) : tAsg (tC v) (gName i) D σ H := h
end U
namespace U
open PySem PySem.Spec PyProof.Rows L2
theorem upd_none {H : Hp} {a b : Addr} {o : HO} (h : upd H a o b = none) : b ≠ a ∧ H b = none := by
  by_cases e : b = a
  · subst e; rw [upd_same] at h; cases h
  · rw [upd_ne e] at h; exact ⟨e, h⟩
/-- a class made by its name, with these defaults behind what is written -/
structure MakD (P : Program) (w : World) (K : PySem.W.Frag) (mg : Str → Option Value) (base : Heap) (CX : CXT) (k : Nat) (x : Str) (C : Addr) (sp : Sp) (dvs : List V) : Prop where
  ex : ∃ (f : Addr) (fd : FuncData) (ps : List Str) (ds : List Value), Mk K C f ∧ FnOk P w K mg base CX k f fd ps sp ∧ mg x = some (.ref C) ∧ Binds K fd ps ds ∧ Vals dvs ds
theorem pe_mkD {X : Cx} {k j : Nat} {C : Addr} {x : Str} {sp : Sp} {dvs : List V} {p pos : Pos} {e : Expr} {es : List Expr} {t : TA} (c : MakD X.prog X.w X.K X.mg X.base CX0 k x C sp dvs) (hr : Room j X.A) (hk : k + 1 ≤ j) (hg : Gl X x) (ha : PA X (e :: es) t)
    (hdb : (x == ("__debug__" : Str)) = false := by decide) (he : starEach (e :: es) X.env = (false, eval e X.env) :: starEach es X.env := by rfl) (hpl : (backTo pos (starEach es X.env)).any (·.1) = false := by rfl) :
    PE X (.Call (.Name x p) (e :: es) [] pos) (tMake C sp dvs E0 t) := by
  obtain ⟨f, fd, ps, ds, M, F, hm, b, d⟩ := c.ex
  exact pe_make M F (hr.mono hk) hg hm b d pass0 ha hdb he hpl
end U
namespace U
open PySem PySem.Spec PyProof.Rows L2
theorem found_get (zs : List Str) (z : Str) : ∀ n, n ≤ zs.length → (∀ i < n, zs.getD i Str.empty ≠ z) → valV (foundTo zs n) (Sum.inr z : Key) = none
  | 0, _, _ => rfl
  | n + 1, h, hne => by
    show valV (putK (foundTo zs n) (Sum.inr (zs.getD n Str.empty)) (.int (n : Int))) (Sum.inr z : Key) = none
    rw [valV_put, if_neg (fun e => hne n (Nat.lt_succ_self n) (Sum.inr.inj e).symm)]
    exact found_get zs z n (by omega) fun i hi => hne i (by omega)
theorem found_at (zs : List Str) (k : Nat) (hd : ∀ i < zs.length, zs.getD i Str.empty = zs.getD k Str.empty → i = k) : ∀ n, n ≤ zs.length → k < n → valV (foundTo zs n) (Sum.inr (zs.getD k Str.empty) : Key) = some (.int (k : Int))
  | 0, _, h => absurd h (by omega)
  | n + 1, h, hk => by
    show valV (putK (foundTo zs n) (Sum.inr (zs.getD n Str.empty)) (.int (n : Int))) (Sum.inr (zs.getD k Str.empty) : Key) = some (.int (k : Int))
    rw [valV_put]
    by_cases e : k = n
    · subst e; rw [if_pos rfl]
    · rw [if_neg (fun q => e (hd n (by omega) (Sum.inr.inj q).symm).symm)]
      exact found_at zs k hd n (by omega) (by omega)
end U
namespace U
open PySem PySem.Spec PyProof.Rows L2
/-- an expression that changes nothing, by its value -/
theorem pe_joinV {X : Cx} {e : Expr} {t : TE} (h : PE X e t) : PE X e (fun σ H Q => ∃ v, (∀ Q' : VK, Q' v H → t σ H Q') ∧ Q v H) :=
  ⟨fun pins s σ H Q I ⟨v, h1, h2⟩ => h.run pins s σ H Q I (h1 Q h2)⟩
theorem num_inj : ∀ i : Nat, i < 65 → ∀ j : Nat, j < 65 → num (i : Int) = num (j : Int) → i = j := by decide +kernel
theorem num_not : ∀ i : Nat, i < 65 → ∀ w ∈ (["many", "-1", "", " 1", "1 ", "+1", "MANY"] : List Str), num (i : Int) ≠ w := by decide +kernel
theorem num_zero : ∀ s : Nat, s < 64 → ∀ i : Nat, i < 64 → num (i : Int) ≠ ("0" : Str) ++ num (s : Int) := by decide +kernel
theorem many_zero : ∀ s : Nat, s < 64 → ("many" : Str) ≠ ("0" : Str) ++ num (s : Int) := by decide +kernel
end U
/-! Errors of own classes over any base: made with a walked __init__, their attributes, isinstance. -/
namespace UX
open PySem PySem.Spec PyProof.Rows L2 U

/-- what the written part says of an own error class at C over the built-in B -/
structure OexB (K : PySem.W.Frag) (C : Addr) (B newId initId : String) (bt : List Value) : Prop where
  SF : StoreFacts B bt "object.__setattr__" "object"
  FB : ExcBaseFacts B newId initId bt
  ini : PySem.W.excInitIn K C bt newId = true
  ov : PySem.W.excOver K C bt = true
  hd : PySem.W.hasDictIn K C = true
  sa : PySem.W.findIn K (.ref C) "__setattr__" = some (some (.builtin "object.__setattr__"))
  exC : PySem.W.subIn K (.ref C) (.type "BaseException") = some true
  tyC : PySem.W.typeIn K (.ref C) = some (.type "type")
  kC : PySem.W.keepIn K (.ref C) = true
section
variable {X : Cx} {pins : List (Addr × Obj)} {σ : L2.St} {H : Hp} {s : Shared} {a C dx : Addr} {f : Str} {y : V} {u : Value} {fs : List (Str × V)} {E : Value → Shared → Prop} {A : Around} {B newId initId : String} {bt : List Value}
theorem storeB {hp h' : Heap} {g : Array GenState} {d : Drawn} {t t' : Nat} {os : OsState} {t1 : Addr} (I : Inv X pins σ H ⟨hp, g, d, t, os⟩) (e : H a = some (exo a C none)) (old : ∀ b o, b ≠ a → hp.get? b = some o → h'.get? b = some o) (hdx : hp.objs.size ≤ dx) (hne : dx ≠ a)
    (hx : h'.get? a = some ({ cls := .ref C, dict := some dx, data := .fields #[.ref t1, .none, .none, .none, .bool false, .none] } : Obj)) (hn : h'.Ns1 dx (fun y => if y = f then some u else none)) (ry : RelV y u) :
    Inv X pins σ (upd (upd H dx (exd dx [(f, y)])) a (exo a C (some dx))) ⟨h', g, d, t', os⟩ := by
  have hnd : H dx = none := I.hok.fresh hdx
  have lt : ∀ {b : Addr} {o : Obj}, hp.get? b = some o → b ≠ dx := fun q => Nat.ne_of_lt (Nat.lt_of_lt_of_le (Heap.lt_size q) hdx)
  have na : ∀ {b : Addr}, H b = none → b ≠ a := fun n z => by rw [z, e] at n; cases n
  refine I.un (t' := t') ⟨fun b o q n _ _ => old b o (na n) q, fun b o q n _ _ => ⟨o.slots, old b o (na n) q⟩, fun b o q n _ => by rw [upd_ne (na n), upd_ne (lt q)]; exact n, fun b o q _ => ?_,
    fun b xs q => by rw [upd_ne (at_ne e q exo_tup), upd_ne (ne_of_none q hnd)]; exact q, fun b o v q => by rw [upd_ne (at_ne e q exo_frz), upd_ne (ne_of_none q hnd)]; exact q,
    fun b ps q => ⟨#[], by rw [upd_ne (at_ne e q exo_tbl), upd_ne (ne_of_none q hnd), q]; simp⟩⟩ fun b o q => ?_
  · by_cases hb : b = a
    · exact ⟨_, hb ▸ hx⟩
    · exact ⟨o, old b o hb q⟩
  · by_cases hb : b = a
    · subst hb
      rw [upd_same] at q
      cases q
      exact exo_ok hx
    · rw [upd_ne hb] at q
      by_cases hd : b = dx
      · subst hd
        rw [upd_same] at q
        cases q
        exact exd_ok hn (relO_put (fs := []) ry fun _ => True.intro)
      · rw [upd_ne hd] at q
        refine (I.hok b o q).stay (fun c v hc z => old c v ?_ z) (fun c hc => by rw [upd_ne (at_ne e hc exo_own), upd_ne (ne_of_none hc hnd)]; exact hc) fun c xs hc => by rw [upd_ne (at_ne e hc exo_tup), upd_ne (ne_of_none hc hnd)]; exact hc
        rcases hc with rfl | hc
        · exact hb
        · exact at_ne e hc exo_own
theorem ostB_new {Q : Unit → Shared → Prop} (T : OexB X.K C B newId initId bt) (I : Inv X pins σ H s) (e : H a = some (exo a C none)) (hno : NoAttr X.K C f) (ry : RelV y u)
    (h : ∀ dx s', H dx = none → dx ≠ a → Inv X pins σ (upd (upd H dx (exd dx [(f, y)])) a (exo a C (some dx))) s' → Q () s') : wpAny (model X.prog X.w) A (setAttr (.ref a) f u) Q E s := by
  obtain ⟨t1, ho⟩ := exo_at I.hok e
  obtain ⟨cd, hc, hdc⟩ := PySem.W.any_some T.hd
  obtain ⟨hp, g, d, t, os⟩ := s
  refine PySem.W.set_plain I.kIn (ox := { cls := .ref C, dict := none, data := .fields #[.ref t1, .none, .none, .none, .bool false, .none] }) (od := none) ⟨ho, rfl, rfl, trivial⟩ T.sa ?_
  refine PySem.W.osa_openX (od := none) T.SF I.kIn ⟨ho, rfl, rfl, trivial⟩ T.ov hno.taker fun b => ?_
  refine wpAny_bind (wpAny_pure (wpAny_bind (PySem.W.instanceDict_exc (c2 := .none) ho (PySem.W.looks_clsIn I.kIn hc) hdc ?_)))
  have lta : a < hp.objs.size := Heap.lt_size ho
  have nsa : hp.objs.size ≠ a := Nat.ne_of_gt lta
  show wpAny _ _ (Builtin.ObjectAttr.storeInDict hp.objs.size (.str f t) f u) _ _ _
  refine PySem.HandSPX.store_in_new ⟨_, #[], _, (Heap.get?_update_ne _ _ _ _ nsa).trans (Heap.get?_push_at rfl rfl), rfl, fun e he => absurd he (by simp), fun _ => rfl⟩ fun h' tk' hn hs => ?_
  -- the heap behind it
  have old : ∀ b o, b ≠ a → hp.get? b = some o → h'.get? b = some o := fun b o hb q =>
    (hs.2 b (Nat.ne_of_lt (Heap.lt_size q))).trans ((Heap.get?_update_ne _ _ _ _ hb).trans (Heap.get?_push_of_some _ q))
  have hx : h'.get? a = some { cls := .ref C, dict := some hp.objs.size, data := .fields #[.ref t1, .none, .none, .none, .bool false, .none] } :=
    (hs.2 a nsa.symm).trans (Heap.get?_update_self _ (Heap.get?_push_of_some _ ho) rfl)
  have hnd : H hp.objs.size = none := I.hok.fresh (Nat.le_refl _)
  refine h hp.objs.size _ hnd nsa (storeB (t' := tk') I e old (Nat.le_refl _) nsa hx hn ry)
/-- a further attribute -/
theorem ostB_old {Q : Unit → Shared → Prop} (T : OexB X.K C B newId initId bt) (I : Inv X pins σ H s) (e : H a = some (exo a C (some dx))) (ed : H dx = some (exd dx fs)) (hl : fs.length ≤ 900) (hno : NoAttr X.K C f) (ry : RelV y u)
    (h : ∀ s', Inv X pins σ (upd H dx (exd dx ((f, y) :: fs))) s' → Q () s') : wpAny (model X.prog X.w) A (setAttr (.ref a) f u) Q E s := by
  obtain ⟨t1, ho⟩ := exo_at I.hok e
  obtain ⟨mA, hns, rel⟩ := exd_at I.hok ed
  have hw := within_of rel
  obtain ⟨cd, hc, hdc⟩ := PySem.W.any_some T.hd
  obtain ⟨hp, g, d, t, os⟩ := s
  obtain ⟨oD, _, _, hoD, _, _⟩ := hns.count hw
  refine PySem.W.set_plain I.kIn (ox := { cls := .ref C, dict := some dx, data := .fields #[.ref t1, .none, .none, .none, .bool false, .none] }) (od := some oD) ⟨ho, rfl, rfl, hoD⟩ T.sa ?_
  refine PySem.W.osa_openX (od := some oD) T.SF I.kIn ⟨ho, rfl, rfl, hoD⟩ T.ov hno.taker fun b => ?_
  have di : ∀ {R : Option Addr → Shared → Prop} {E' : Value → Shared → Prop} {A' : Around} {t' : Nat}, R (some dx) ⟨hp, g, d, t', os⟩ → wpAny (model X.prog X.w) A' (instanceDict a true) R E' ⟨hp, g, d, t', os⟩ := fun q => by
    unfold instanceDict
    refine wpAny_bind (wpAny_loadPart ho ?_)
    dsimp only
    refine wpAny_bind ((PySem.W.looks_clsIn (M := model X.prog X.w) I.kIn hc).at ?_)
    rw [hdc]
    exact wpAny_pure q
  refine wpAny_bind (wpAny_pure (wpAny_bind (di ?_)))
  show wpAny _ _ (Builtin.ObjectAttr.storeInDict dx (.str f t) f u) _ _ _
  refine PySem.OEX.store_in_old hns hw (by rw [List.length_map]; omega) fun h' tk' hn hs => ?_
  have hd : ∃ o, h'.get? dx = some o := by
    obtain ⟨o, _, _, e', _⟩ := hn
    exact ⟨o, e'⟩
  exact h _ (I.write (t' := tk') (x := dx) (e := dx) (o := exd dx ((f, y) :: fs)) (by rw [ed]; exact True.intro) (.inl rfl) (fun b o hb q => (hs.2 b hb).trans q) hd (exd_ok hn (relO_put ry rel)))
/-- B.__init__(self, ..) through an own class: nothing of it is told -/
theorem oinitB {us : List Value} {Q : Value → Shared → Prop} (T : OexB X.K C B newId initId bt) (I : Inv X pins σ H s) (e : H a = some (exo a C none)) (hl : us.length ≤ sizeLine) (h : ∀ s', Inv X pins σ H s' → Q .none s') :
    wpAny (model X.prog X.w) A (call (.builtin initId) (.ref a :: us)) Q E s := by
  obtain ⟨nm, N, qn, bs, bm, hdct, sn, sub, ab, col, dd, k0, k1, k2, k3, k5, hC, hT⟩ := PySem.W.excInit_of I.kIn T.ini
  obtain ⟨t1, ho⟩ := exo_at I.hok e
  obtain ⟨hp, g, d, t, os⟩ := s
  refine wpAny_call (PySem.HandSPX.init_base T.FB hT hC ho hl fun h' t2 k hx => ?_)
  have J := I.write (t' := t) (x := a) (e := a) (o := exo a C none) (by rw [e]; exact True.intro) (.inl rfl) k ⟨_, hx⟩ (exo_ok hx)
  have eu : upd H a (exo a C none) = H := by
    funext b
    by_cases hb : b = a
    · subst hb; rw [upd_same, e]
    · exact upd_ne hb
  rw [eu] at J
  exact h _ J
end

/-! ### rules -/
/-- D.__init__(self, ..), D an own class without __init__ over the built-in B; nothing of it is told -/
def tBI (K : PySem.W.Frag) (B newId initId : String) (bt : List Value) (ta : TA) : TE := fun σ H Q => ta σ H fun vs H1 => ∃ (a C : Addr) (ws : List V), vs = .ref a :: ws ∧ ws.length ≤ 1000 ∧ OexB K C B newId initId bt ∧ H1 a = some (exo a C none) ∧ Q .non H1
/-- self.f = e, self an error -/
def tOstB (K : PySem.W.Frag) (B newId initId : String) (bt : List Value) (f : Str) (to te : TE) : TS := fun D σ H => te σ H fun y H1 => to σ H1 fun x H2 => ∃ a C : Addr, x = .ref a ∧ OexB K C B newId initId bt ∧ NoAttr K C f ∧
  ((H2 a = some (exo a C none) ∧ ∀ dx, H2 dx = none → dx ≠ a → D.nx σ (upd (upd H2 dx (exd dx [(f, y)])) a (exo a C (some dx)))) ∨
    ∃ (dx : Addr) (fs : List (Str × V)), H2 a = some (exo a C (some dx)) ∧ H2 dx = some (exd dx fs) ∧ fs.length ≤ 900 ∧ D.nx σ (upd H2 dx (exd dx ((f, y) :: fs))))
/-- what is known of the class that is named -/
structure BInit (K : PySem.W.Frag) (mg : Str → Option Value) (x : Str) (initId : String) : Prop where
  ex : ∃ D : Addr, mg x = some (.ref D) ∧ PySem.W.readsIn K D (.type "type") = true ∧ PySem.W.specialIn K (.ref D) "__getattribute__" = some (some (.builtin "type.__getattribute__")) ∧
    PySem.W.findCls K (.ref D) (.type "type") "__init__" = some (.val (.builtin initId)) ∧ PySem.W.handedIn (.builtin initId) = true
section
variable {X : Cx} {o e : Expr} {es : List Expr} {to te : TE} {ta : TA} {f x : Str} {p p' p1 p2 pos : Pos} {B newId initId : String} {bt : List Value}
theorem pe_binit {pl : Sem Bool} (c : BInit X.K X.mg x initId) (hg : Gl X x) (ha : PA X (e :: es) ta) (hdb : (x == ("__debug__" : Str)) = false := by decide)
    (hc : eval (.Call (.Attribute (.Name x p1) "__init__" p2) (e :: es) [] pos) X.env = (do
      let ov ← eval (.Name x p1) X.env
      standAt p2.atName
      let (f, first) ← holding [ov] (getMethod ov "__init__" pl)
      callWith pos f first (backTo pos (starEach (e :: es) X.env)) (backToKw pos (keywordEach [] X.env))) := by rfl)
    (he : starEach (e :: es) X.env = (false, eval e X.env) :: starEach es X.env := by rfl) (hpl : (backTo pos (starEach es X.env)).any (·.1) = false := by rfl) :
    PE X (.Call (.Attribute (.Name x p1) "__init__" p2) (e :: es) [] pos) (tBI X.K B newId initId bt ta) := by
  obtain ⟨D, hm, hrd, hga, hat, hh⟩ := c.ex
  refine ⟨fun pins s σ H Q I h => ?_⟩
  refine PySem.W.methodCall_KW (pl := pl) (ld_glob I hg hm ?_ hdb) hc
  refine PySem.W.method_cls I.kIn hga (PySem.W.cls_value I.kIn hrd hat hh ?_)
  refine PyProof.Rows.callWith_method1 (thn (ha.run pos pins _ σ H _ (I.tok _) h) fun us s1 ⟨vs, H1, I1, r1, a, C, ws, ev, hl, T, ea, q⟩ => ?_) he hpl
  subst ev
  cases r1 with
  | @cons _ u0 _ ur ra rw' =>
    obtain rfl : u0 = Value.ref a := ra
    refine oinitB T I1 ea ?_ fun s' J => ⟨.non, H1, J, rfl, q⟩
    rw [← Paired.length rw', sizeLine_eq]
    omega
theorem ps_ostB (ho : PE X o to) (he : PE X e te) (hs : swapsWith e (some (.Attribute o f p')) pos.line X.env = pure false := by rfl) : PS X (.Assign [.Attribute o f p'] e pos) (tOstB X.K B newId initId bt f to te) := by
  refine ⟨fun pins s σ H D I h => ?_⟩
  refine plainObj_wpAny_Assign_Attribute (thn (he.run pins s σ H _ I h) fun v s1 ⟨y, H1, I1, r1, q1⟩ => thn (ho.run pins s1 σ H1 _ I1 q1) fun u s2 ⟨x, H2, I2, r2, a, C, ex, T, hno, q⟩ => ?_) hs
  subst ex
  obtain rfl : u = Value.ref a := r2
  rcases q with ⟨ea, q⟩ | ⟨dx, fs, ea, ed, hl, q⟩
  · exact ostB_new T I2 ea hno r1 fun dx s' n ne J => ⟨σ, _, J, q dx n ne⟩
  · exact ostB_old T I2 ea ed hl hno r1 fun s' J => ⟨σ, _, J, q⟩
end
/-- C(e, ..), an error of an own class whose __init__ keeps sp, to be raised -/
def tMkB (C : Addr) (sp : Sp) (ta : TA) : L2.St → Hp → XK → Prop := fun σ H Q => ta σ H fun vs H1 => vs.length ≤ 1000 ∧ ∀ a, H1 a = none → sp (.ref a :: vs) (upd H1 a (exo a C none))
  (fun v H2 => v = .non ∧ ∃ (d : Addr) (fs : List (Str × V)), H2 a = some (exo a C (some d)) ∧ H2 d = some (exd d fs) ∧ H1 d = none ∧ Q (.ref C) (some d) (upd (del H2 a) d (.xd fs))) E0
structure ExM (P : Program) (w : World) (K : PySem.W.Frag) (mg : Str → Option Value) (base : Heap) (k : Nat) (x : Str) (C : Addr) (sp : Sp) : Prop where
  ex : ∃ (B newId initId : String) (bt : List Value) (f : Addr) (fd : FuncData) (ps : List Str), OexB K C B newId initId bt ∧ mg x = some (.ref C) ∧ PySem.W.findIn K (.ref C) "__init__" = some (some (.ref f)) ∧ PySem.W.typeIn K (.ref f) = some (.type "function") ∧
    FnOk P w K mg base CX0 k f fd ps sp ∧ Binds K fd ps []
section
variable {X : Cx} {e : Expr} {es : List Expr} {ta : TA} {x : Str} {p pos : Pos} {C : Addr} {sp : Sp} {k j : Nat}
theorem pmk_B (c : ExM X.prog X.w X.K X.mg X.base k x C sp) (hr : Room j X.A) (hk : k + 1 ≤ j) (hg : Gl X x) (ha : PA X (e :: es) ta)
    (hdb : (x == ("__debug__" : Str)) = false := by decide) (he : starEach (e :: es) X.env = (false, eval e X.env) :: starEach es X.env := by rfl) (hpl : (backTo pos (starEach es X.env)).any (·.1) = false := by rfl) :
    PMk X (.Call (.Name x p) (e :: es) [] pos) (tMkB C sp ta) := by
  obtain ⟨B, newId, initId, bt, f, fd, ps, T, hm, iC, tI, F, hb⟩ := c.ex
  have hr' : Room (k + 1) X.A := hr.mono hk
  intro pins s σ H Q I h
  refine wpAny_Call_Name_kw (ld_glob I hg hm ?_ hdb)
  refine PySem.W.callWith_K (h₀ := X.base) I.ok.mod.kin T.kC (thn (ha.run pos pins s σ H _ I h) fun us s1 ⟨vs, H1, I1, r1, hz, q1⟩ => ⟨I1.kIn, ?_⟩) he hpl
  show wpAny _ _ (call (.ref C) us) _ _ _
  obtain ⟨nm, N, qn, bs, bm, hdct, sn, sub, ab, col, dd, k0, k1, k2, k3, k5, hC, hT⟩ := PySem.W.excInit_of I1.kIn T.ini
  obtain ⟨hp, g, dr, tk, os⟩ := s1
  have hsz : hp.objs.size ≤ hp.objs.size + 1 := Nat.le_succ _
  have hq := q1 (hp.objs.size + 1) (I1.hok.fresh hsz)
  have kk : ∀ b o, hp.get? b = some o → ((hp.push (PySem.W.kdv_tup us)).push (PySem.HandSPX.excO C hp.objs.size)).get? b = some o := fun b o q => Heap.get?_push_of_some _ (Heap.get?_push_of_some _ q)
  have hget : ((hp.push (PySem.W.kdv_tup us)).push (PySem.HandSPX.excO C hp.objs.size)).get? (hp.objs.size + 1) = some (PySem.HandSPX.excO C hp.objs.size) := by heap_get
  have I2 : Inv X pins σ (upd H1 (hp.objs.size + 1) (exo (hp.objs.size + 1) C none)) ⟨(hp.push (PySem.W.kdv_tup us)).push (PySem.HandSPX.excO C hp.objs.size), g, dr, tk, os⟩ :=
    I1.laid (t' := tk) (a := hp.objs.size + 1) (o := exo (hp.objs.size + 1) C none) (h' := (hp.push (PySem.W.kdv_tup us)).push (PySem.HandSPX.excO C hp.objs.size)) kk hsz (exo_ok hget)
  have r2 : Vals (V.ref (hp.objs.size + 1) :: vs) (Value.ref (hp.objs.size + 1) :: us) := .cons rfl r1
  have hl : (Value.ref (hp.objs.size + 1) :: us).length = ps.length := by
    have z := F.len _ _ _ _ hq
    rw [r2.length] at z
    exact z
  have hus : us.length ≤ sizeLine := by
    rw [← Paired.length r1, sizeLine_eq]
    omega
  have hbb := hb _ (Value.ref (hp.objs.size + 1) :: us) I2.kIn (by rw [List.append_nil]; exact hl)
  rw [List.append_nil] at hbb
  refine wpAny_call (PySem.HandSPX.call_own T.FB hT hC (PySem.W.looks_findIn I1.kIn iC) (fun self => PySem.W.bind_fn I1.kIn self tI) hus
    (codeAny_mono (F.run _ X.stack _ _ ⟨Value.ref (hp.objs.size + 1) :: us, []⟩ (Value.ref (hp.objs.size + 1) :: us) _ _ E0 (hr'.make C us []) (I2.env0.make C us []) hbb r2 hq) fun r s' hq' => ?_))
  cases r with
  | error er => exact False.elim hq'
  | ok fl =>
    cases fl with
    | ret u =>
      obtain ⟨v, H2, os2, bare2, un2, hok2, rv, ev, d, fs, ea, ed, hd1, q2⟩ := hq'
      subst ev
      obtain ⟨h2, g2, d2, t2, os'⟩ := s'
      exact ⟨rv, mk_end (raises_own T.exC T.tyC) I1 hsz kk un2 hok2 os2 bare2 ea ed hd1 q2⟩
    | next => exact False.elim hq'
    | brk => exact False.elim hq'
    | cont => exact False.elim hq'
end

/-! ### o.m(e, ..) in a try: what is raised is wished for at the caller's slots -/
def tMtS (C : Addr) (m : Str) (sp : Sp) (E : L2.St → XK) (ta : TE) (t : TA) : TE := fun σ H Q => ta σ H fun x H1 => ∃ a dx fs, x = .ref a ∧ H1 a = some (.ins C dx fs) ∧ fld fs m = none ∧ t σ H1 fun vs H2 => sp (.ref a :: vs) H2 Q (E σ)
theorem pe_mtS {X : Cx} {CX : CXT} {k j : Nat} {C : Addr} {m : Str} {sp : Sp} {E : L2.St → XK} {pos apos : Pos} {e o : Expr} {es : List Expr} {ta : TE} {t : TA} {pl : Sem Bool} (c : Met X.prog X.w X.K X.mg X.base CX k C m sp) (hr : Room j X.A) (hk : k ≤ j) (hx : ∀ σ, PassesAt CX X σ (E σ)) (he : PE X o ta) (ha : PA X (e :: es) t)
    (hst : starEach (e :: es) X.env = (false, eval e X.env) :: starEach es X.env := by rfl) (hpl : (backTo pos (starEach es X.env)).any (·.1) = false := by rfl)
    (ht : eval (.Call (.Attribute o m apos) (e :: es) [] pos) X.env = (do
      let ov ← eval o X.env
      standAt apos.atName
      let (f, first) ← holding [ov] (getMethod ov m pl)
      callWith pos f first (backTo pos (starEach (e :: es) X.env)) (backToKw pos (keywordEach [] X.env))) := by rfl) :
    PE X (.Call (.Attribute o m apos) (e :: es) [] pos) (tMtS C m sp E ta t) := by
  obtain ⟨f, fd, ps, hc, hm, F, b⟩ := c.ex
  refine ⟨fun pins s σ H Q I h => ?_⟩
  refine PySem.W.methodCall_KW (pl := pl) (thn (he.run pins s σ H _ I h) fun u s1 ⟨x, H1, I1, rx, a, dx, fs, ex, ea, l, q⟩ => ?_) ht
  subst ex
  obtain rfl : u = Value.ref a := rx
  refine getmeth_ok I1 ea hc hm l ?_
  refine PySem.W.callWith_K (first := [.ref a]) (h₀ := X.base) I.ok.mod.kin hm.kp (thn (ha.run pos pins s1 σ H1 _ I1 q) fun us s2 ⟨vs, H2, I2, r, q2⟩ => ⟨I2.kIn, ?_⟩) hst hpl
  exact run_fnS (us := .ref a :: us) (vs := .ref a :: vs) F (hr.mono hk) b (hx σ) I2 (.cons rfl r) q2

/-! ### isinstance of a caught error that has attributes -/
structure ExcI (K : PySem.W.Frag) (D : Addr) : Prop where
  cl : (PySem.W.clsIn K D).isSome = true
  ga : PySem.W.findIn K (.ref D) "__getattribute__" = some (some (.builtin "BaseException.__getattribute__"))
  gg : PySem.W.findIn K (.ref D) "__getattr__" = some none
  exC : PySem.W.subIn K (.ref D) (.type "BaseException") = some true
  ca : PySem.W.findIn K (.ref D) "__class__" = some (some (.builtin "object.__class__"))
  cg : PySem.W.specialIn K (.builtin "object.__class__") "__get__" = some (some (.builtin "getset_descriptor.__get__"))
  ct : PySem.W.takesIn K (.builtin "object.__class__") = some true
  mo : PySem.W.mroIn K D (.type "object") = some true
def rIsD (K : PySem.W.Frag) (D a : Addr) (cls : Value) (d : Option Addr) : List V → Hp → VK → Prop := fun xs H Q => ∃ (c : V) (cv : Value) (b : Bool) (dd : Addr) (fs : List (Str × V)), xs = [.ref a, c] ∧ ClsV c cv ∧ cls = .ref D ∧ d = some dd ∧ H dd = some (.xd fs) ∧ PySem.W.kitOne K (.ref D) cv = some b ∧ Q (.bl b) H
theorem call_isD {X : Cx} {a D : Addr} {cls : Value} {d : Option Addr} {oe : Obj} {pn : List (Addr × Obj)} (C : ExcI X.K D) (hz : Zc cls d oe) (hf : ∃ vs, oe.data = .fields vs) : CallR (X.suite a ((a, oe) :: pn)) (.builtin "isinstance") (rIsD X.K D a cls d) := by
  intro pins s σ H xs us Q I r h
  obtain ⟨c, cv, b, dd, fs, rfl, hcv, rfl, rfl, hdd, e, q⟩ := h
  cases r with
  | cons rx rr =>
    cases rr with
    | cons rt rr =>
      cases rr
      cases rx
      have ec := hcv.eq rt
      subst ec
      obtain ⟨hget, _⟩ := I.pin (a, oe) (List.mem_append_left _ List.mem_cons_self)
      obtain ⟨mA, ⟨od, es, ep, hod, _⟩, _⟩ := (show ObjOk X.prog X.w H s.heap dd (.xd fs) from I.hok dd _ hdd)
      obtain ⟨vs, hv⟩ := hf
      have J : PySem.W.InstAt s.heap a oe D (some od) := ⟨hget, hz.1, by unfold PySem.W.notCls; rw [hv] <;> rfl, by rw [hz.2]; exact hod⟩
      exact PySem.W.kia_one (PySem.W.kitx_exc C.cl C.ga C.gg C.exC C.ca C.cg C.ct C.mo) I.kIn J e (fun z => nomatch z) fun tk => ⟨.bl b, H, I.kept (t' := tk) fun _ _ z => z, rfl, q⟩
end UX
namespace UX
open PySem PySem.Spec PyProof.Rows L2 U
/-- a def that lets nothing out, calling defs that may raise where they don't -/
theorem okN {P : Program} {w : World} {K : PySem.W.Frag} {mg : Str → Option Value} {base : Heap} {x qual : Str} {st : Stmt} {f : Addr} {fd : FuncData} {N ps : List Str} {k : Nat} {sp : Sp} (F : Fun K x qual st f fd) (S : FnScope N ps (defScope st)) (len : ∀ vs H Q E, sp vs H Q E → vs.length = ps.length)
    (hbody : ∀ (cdv : Value) (A : Around) (outer : List Env) (s : Shared) (H : Hp) (vs : List V) (Q : VK) (E : XK), Room k (A.deeper (envOfC qual (defScope st) s.heap.objs.size f cdv)) → sp vs H Q E →
      ∃ t, PSs (cxOf (L2.CX P w) P w K mg base N qual (defScope st) f cdv A outer s H E).nox (defBody st) t ∧ t { nx := fun _ H' => Q .non H', rt := Q } (start N vs) H) : FnOk P w K mg base (L2.CX P w) (k + 1) f fd ps sp := by
  obtain ⟨oc, od, kV, doc, pm, an, cdv, ct, osl, rfl, lk, hcd⟩ := F.ex
  refine fn_of lk hcd S len fun A outer s H vs Q E hr hsp => ?_
  obtain ⟨t, h, q⟩ := hbody cdv A outer s H vs Q E hr hsp
  exact ⟨t, h.nox, q⟩
section
variable {X : Cx} {k j : Nat} {C : Addr} {x m : Str} {sp : Sp} {p pos apos : Pos} {e o : Expr} {es : List Expr} {ta : TE} {t : TA}
theorem pe_cL (c : Cal X.prog X.w X.K X.mg X.base (L2.CX X.prog X.w) k x sp) (hr : Room j X.A) (hk : k ≤ j) (hg : Gl X x) (ha : PA X (e :: es) t)
    (hdb : (x == ("__debug__" : Str)) = false := by decide) (he : starEach (e :: es) X.env = (false, eval e X.env) :: starEach es X.env := by rfl) (hpl : (backTo pos (starEach es X.env)).any (·.1) = false := by rfl) :
    PE X (.Call (.Name x p) (e :: es) [] pos) (tCall sp [] L2.E0 t) := by
  obtain ⟨f, fd, ps, F, hm, kp, b⟩ := c.ex
  exact pe_call F (hr.mono hk) hg hm kp b .nil passL ha hdb he hpl
theorem pe_mtL {pl : Sem Bool} (c : Met X.prog X.w X.K X.mg X.base (L2.CX X.prog X.w) k C m sp) (hr : Room j X.A) (hk : k ≤ j) (he : PE X o ta) (ha : PA X (e :: es) t)
    (hst : starEach (e :: es) X.env = (false, eval e X.env) :: starEach es X.env := by rfl) (hpl : (backTo pos (starEach es X.env)).any (·.1) = false := by rfl)
    (ht : eval (.Call (.Attribute o m apos) (e :: es) [] pos) X.env = (do
      let ov ← eval o X.env
      standAt apos.atName
      let (f, first) ← holding [ov] (getMethod ov m pl)
      callWith pos f first (backTo pos (starEach (e :: es) X.env)) (backToKw pos (keywordEach [] X.env))) := by rfl) :
    PE X (.Call (.Attribute o m apos) (e :: es) [] pos) (tMeth C m sp [] L2.E0 ta t) := by
  obtain ⟨f, fd, ps, hc, hm, F, b⟩ := c.ex
  exact pe_meth (pl := pl) he hc hm F (hr.mono hk) b .nil passL ha hst hpl ht
end
end UX
namespace UX
open PySem PySem.Spec PyProof.Rows L2 U
theorem cxF {P : Program} {w : World} {H : Hp} {s : Shared} {e : Value} {s' : Shared} (h : L2.CX P w [] H s (fun _ _ _ => False) e s') : False := by
  obtain ⟨_, _, _, _, _, _, _, _, _, _, _, _, z⟩ := h
  exact z.elim
end UX
open PySem PySem.Spec PyProof.Rows L2 U
set_option maxHeartbeats 400000
namespace UF
open Builtin Builtin.Str Builtin.Int Builtin.Float
def binT (n : Nat) : Str := PySem.Str.ofString (String.ofList (Nat.toDigits 2 n))
theorem meetsB0 (n : Nat) (hn : n < 64) (t u : Tok) (spec : PySem.Str) (hne : (spec.length == 0) = false) (hasc : ((spec.cps.toList.drop 1).any (· ≥ 128) || (spec.cps.getD 0 0 ≥ 128 && !([60, 62, 61, 94] : List Nat).contains (spec.cps.getD 1 0))) = false)
    (hp : parseFormatSpec spec.cps.toList "int" 62 = .ok { align := 62, type := some 98 }) : Meets (Builtin.«int.__format__» ⟨[.int (n : Int) t, .str spec u], []⟩) (fun _ R s => ∀ t' k, R (.ok (.ret (.str (binT n) t'))) { s with toks := k }) := by
  apply PySem.W.KPc.meets_of
  intro _ _ _ _ _ _ a
  unfold Builtin.«int.__format__»
  simp only [selfAndOne, noKeywords, Int.intOfSelf, asInt?, asStr?, List.isEmpty_nil, if_true, pure_bind, bind_pure, bind_assoc, hne, hasc, Bool.false_eq_true, if_false,
    show (Value.str spec u == Value.none) = false from rfl]
  refine wpAny_bind (wpAny_typeNameOf (T := "str") (typeIs_str _ _ _) (by decide) fun _ => ?_)
  refine wpAny_bind (wpAny_typeNameOfCut_int ?_)
  simp only [hp, Option.getD]
  refine wpAny_ite (PySem.W.KPc.ite_yes (by decide +kernel) ?_)
  refine PySem.W.KXf.ret_text (T := binT n) ?e ?l ?_
  case e => clear a; revert n; decide +kernel
  case l => clear a; revert n; decide +kernel
  exact a
/-- the rule: f'{x:b}' of a small number -/
def tFmtB (te : TE) : TE := fun σ H Q => te σ H fun x H1 => ∃ n : Nat, x = .int (n : Int) ∧ n < 64 ∧ Q (.str (binT n)) H1
theorem pe_fmtB {X : Cx} {e : Expr} {te : TE} {kk : Nat} {p1 p2 p3 : Pos} (he : PE X e te) : PE X (.FormattedValue e (-1) (some (.JoinedStr [.Constant (.str "b") kk p1] p2)) p3) (tFmtB te) := by
  refine ⟨fun pins s σ H Q I h => ?_⟩
  refine wpAny_FormattedValue_spec (thn (he.run pins s σ H _ I h) fun v s1 hv => ?_)
  obtain ⟨x, H1, I1, r1, n, rfl, hn, q⟩ := hv
  obtain ⟨t, rfl⟩ := r1
  refine thn ((pe_joined1 (X := X) pe_str).run pins s1 σ H1 (fun y H2 => y = .str "b" ∧ H2 = H1) I1 ?_) fun v2 s2 hv2 => ?_
  · exact ⟨rfl, rfl⟩
  obtain ⟨y, H2, I2, r2, rfl, rfl⟩ := hv2
  obtain ⟨t2, rfl⟩ := r2
  refine ⟨_, t2, rfl, ?_⟩
  exact PySem.W.KXf.field_int rfl (by decide +kernel) (by decide +kernel) (fun u => meetsB0 n hn t u _ (by decide +kernel) (by decide +kernel) (by rfl)) fun t' k => ⟨.str (binT n), H2, I2.tok _, ⟨_, rfl⟩, q⟩
theorem pe_joinK {X : Cx} (K : PySem.W.Frag) (hK : X.K = K) {o e : Expr} {to te : TE} {apos pos : Pos} (ho : PE X o to) (he : PE X e te) (hs : starEach [e] X.env = [(false, eval e X.env)]) (hbase : attributeBase o "join" X.env (eval o X.env) = eval o X.env) (hline : (apos.endLine == pos.line) = true) :
    PE X (.Call (.Attribute o "join" apos) [e] [] pos) (tM1 (fun x xs H Q => ∃ a p, ∃ ys : List Str, x = .str a ∧ xs = [.ref p] ∧ (SqL K H p (ys.map V.str) ∨ SqT K H p (ys.map V.str)) ∧
      (ys.map (·.length)).sum + ys.length * a.length ≤ 16777216 ∧ Q (.str (Txt.join a ys)) H) to te) := by
  subst hK; exact pe_join ho he hs hbase hline
/-- one of several readings -/
theorem pe_ex {ι : Type} {X : Cx} {e : Expr} {t : ι → TE} (h : ∀ i, PE X e (t i)) : PE X e (fun σ H Q => ∃ i, t i σ H Q) := ⟨fun pins s σ H Q I ⟨i, h1⟩ => (h i).run pins s σ H Q I h1⟩
end UF
namespace UF
theorem op_mulS {X : Cx} : OpR X (binaryOp .Mult) (fun x y H Q => ∃ (i : Str) (n : Int), x = .str i ∧ y = .int n ∧ PySem.MulOk i n ∧ Q (.str (PySem.Txt.mul i n)) H) := by
  intro pins s σ H x y v u Q I rx ry h
  obtain ⟨i, n, rfl, rfl, hz, q⟩ := h
  obtain ⟨t, rfl⟩ := rx
  obtain ⟨t', rfl⟩ := ry
  exact PySem.SB.mul hz (fun t' tk => ⟨.str (PySem.Txt.mul i n), H, I.tok _, ⟨_, rfl⟩, q⟩)
theorem cutS_le (z : Str) (lo hi : Option Int) : (cutS z lo hi).length ≤ z.length := by
  unfold cutS
  show (((z.cps.toList.drop _).take _).toArray).size ≤ z.cps.size
  rw [List.size_toArray, List.length_take, List.length_drop, Array.length_toList]
  omega
end UF
namespace UF
theorem pi_listK {X : Cx} {tg : Expr} (K : PySem.W.Frag) (hK : X.K = K) {l : Expr} {tl : TE} (hl : PE X l tl) : PI X tg l (iList K tl) := by subst hK; exact pi_list hl
end UF
set_option maxHeartbeats 3200000
/-! set(xs) of a list of any keys of one kind, and len(set(xs)) of a list of texts -/
namespace US
open PySem PySem.Spec PyProof.Rows L2 U
section
variable {T : Type} [DecidableEq T]
/-- the keys met before place i, each once -/
def dd (ks : Nat → T) : Nat → List T
  | 0 => []
  | i + 1 => if ks i ∈ dd ks i then dd ks i else dd ks i ++ [ks i]
theorem dd_mem {ks : Nat → T} {i : Nat} {x : T} : x ∈ dd ks (i + 1) ↔ x ∈ dd ks i ∨ x = ks i := by
  rw [dd]
  by_cases h : ks i ∈ dd ks i
  · rw [if_pos h]
    exact ⟨Or.inl, fun q => q.elim id fun e => e ▸ h⟩
  · rw [if_neg h, List.mem_append, List.mem_singleton]
theorem dd_le (ks : Nat → T) : ∀ i, (dd ks i).length ≤ i
  | 0 => Nat.le_refl _
  | i + 1 => by
    rw [dd]
    have := dd_le ks i
    by_cases h : ks i ∈ dd ks i
    · rw [if_pos h]; omega
    · rw [if_neg h, List.length_append]; show _ + 1 ≤ _; omega
theorem dd_len {ks : Nat → T} {i : Nat} : (dd ks (i + 1)).length = if decide (ks i ∈ dd ks i) = true then (dd ks i).length else (dd ks i).length + 1 := by
  rw [dd]
  by_cases h : ks i ∈ dd ks i
  · rw [if_pos h, if_pos (decide_eq_true h)]
  · rw [if_neg h, if_neg (by rw [decide_eq_false h]; decide), List.length_append]; rfl
end
section
variable {prog : Program} {w : World} {A : Around} {T : Type} [DecidableEq T] {knd : KeyKind prog w T}
theorem kept {h h' : Heap} {S : Addr} {f : T → Bool} {n : Nat} (q : h.SetOf knd S f n) (k : ∀ o, h.get? S = some o → h'.get? S = some o) : h'.SetOf knd S f n := by
  obtain ⟨o, es, ep, tb, at0, more⟩ := q
  exact ⟨o, es, ep, tb, k o at0, more⟩
/-- the loop that fills the set -/
theorem fill {R : Result → Shared → Prop} {I S : Addr} {fp wr : List Addr} {G : Array GenState → Array GenState → Prop} {n : Nat} {Pv : Nat → Value → Prop} {St : Nat → Shared → Prop} {ks : Nat → T}
    (W : WalksS prog w A.in1 I fp wr G n Pv St) (out : S ∉ fp) (key : ∀ i v, Pv i v → knd.is (ks i) v = true ∧ v.scannable = true) (few : n + 1 < scanBound) :
    ∀ (r i : Nat) (s : Shared), i + r = n → St i s → s.heap.SetOf knd S (fun x => decide (x ∈ dd ks i)) (dd ks i).length →
      (∀ s', Moved (S :: wr) G s s' → s'.heap.SetOf knd S (fun x => decide (x ∈ dd ks n)) (dd ks n).length → R (.ok (.ret .none)) s') →
      codeAny (model prog w) A (.builtin "set.update.loop" ⟨[.ref S, .ref I], []⟩) R s := by
  have off : S ∉ wr := fun q => out (W.sub S q)
  have more : ∀ b, b ∈ wr → b ∈ S :: wr := fun b q => .tail _ q
  intro r
  induction r with
  | zero =>
    rintro i s e st hS fin
    obtain rfl : i = n := e
    apply codeAny_builtin PyProof.Rows.F.entry_set_update_loop
    rw [Around.under_plainId PyProof.Rows.F.plain_set_update_loop]
    refine wpAny_bind (m := pyNext (.ref I)) (W.done s _ _ st fun s' mv => ?_)
    refine wpAny_pure (fin s' (mv.mono more) (kept hS fun o at0 => mv.heap S o off at0))
  | succ r ih =>
    rintro i s e st hS fin
    have lt : i < n := by omega
    apply codeAny_builtin PyProof.Rows.F.entry_set_update_loop
    rw [Around.under_plainId PyProof.Rows.F.plain_set_update_loop]
    refine wpAny_bind (m := pyNext (.ref I)) (W.item i s _ _ lt st fun v s' pv st' mv => ?_)
    obtain ⟨isk, scn⟩ := key i v pv
    refine wpAny_bind (m := holding [v] (setAdd S v)) (wpAny_holding ?_)
    unfold setAdd
    refine wpAny_holding (wpAny_bind (knd.pyHash (k := ks i) isk ?_))
    have room := dd_le ks i
    refine wpAny_setAddHashed_of isk scn (kept hS fun o at0 => mv.heap S o off at0) (by omega) fun h2 but put => ?_
    have put' : h2.SetOf knd S (fun x => decide (x ∈ dd ks (i + 1))) (dd ks (i + 1)).length := by
      rw [dd_len]
      have ef : (fun x => decide (x ∈ dd ks (i + 1))) = fun x => decide (x ∈ dd ks i) || decide (x = ks i) := by
        funext x
        by_cases h1 : x ∈ dd ks i <;> by_cases h2 : x = ks i <;> simp [dd_mem, h1, h2]
      rw [ef]
      exact put
    have far : ∀ b o, b ≠ S → s'.heap.get? b = some o → h2.get? b = some o := fun b o nb q => by rw [but.2 b nb]; exact q
    refine wpAny_pure ⟨plainId_quiet PyProof.Rows.F.plain_set_update_loop _, ih (i + 1) _ (by omega) ?_ put' fun s2 mv2 q2 => fin s2 ?_ q2⟩
    · exact W.frame _ s' _ _ st' (Nat.le_succ _) fun b inb o q => far b o (fun z => out (z ▸ inb)) q
    · exact .trans W.gtrans ((mv.mono more).then_heap (Nat.le_succ _) fun b o nb q => far b o (fun z => nb (z ▸ .head _)) q) mv2
end
section
variable {prog : Program} {w : World} {A : Around} {E : Value → Shared → Prop} {s : Shared} {T : Type} [DecidableEq T] {knd : KeyKind prog w T}
/-- a set that was just made -/
abbrev bare (led : Bool) : Obj := { cls := .type "set", dict := none, data := .set #[] 0 (.fresh 0 0 led) }
theorem set_of_list {l : Addr} {items : Array Value} {ks : Nat → T} {Q : Value → Shared → Prop} (calm : A.handled = none) (isl : s.heap.IsList l items) (key : ∀ i v, items[i]? = some v → knd.is (ks i) v = true ∧ v.scannable = true) (few : items.size + 1 < scanBound)
    (go : ∀ (h' : Heap) (tk : Nat), h'.SetOf knd s.heap.objs.size (fun x => decide (x ∈ dd ks items.size)) (dd ks items.size).length → (∀ b o, s.heap.get? b = some o → h'.get? b = some o) → Q (.ref s.heap.objs.size) { s with heap := h', toks := tk }) :
    wpAny (model prog w) A (call (.type "set") [.ref l]) Q E s := by
  obtain ⟨m1, m2, mro0⟩ := PySem.F.called_set.mro
  have made0 := PySem.F.called_set.made; have sub0 := PySem.F.called_set.sub; have nt0 := PySem.F.called_set.notType; have cc0 := PySem.F.called_set.canCreate
  have tc0 := PySem.F.typeCall_set_1 (.ref l)
  apply wpAny_call; apply codeAny_of_tree
  show wpAny _ _ (callAny (.type "set") _) _ _ _
  refine wpAny_pure ⟨Code.quiet_builtin _ (by decide +kernel), ?_⟩
  apply codeAny_builtin PySem.F.entry_type_call
  rw [Around.under_plain (weight_type_call_type "set" [.ref l] []) rfl]
  repeat (any_goals (first | assumption | wp_step))
  refine codeAny_mono (code_set_new_1 (.ref l) (E := E) (Q₁ := fun v s1 => ∃ led : Bool, v = .ref s.heap.objs.size ∧ s1 = { s with heap := s.heap.push (bare led) }) fun led => ⟨led, rfl, rfl⟩) fun r s1 got => ?_
  cases r with
  | error e => exact got
  | ok fl => cases fl with
    | ret v =>
      obtain ⟨led, rfl, rfl⟩ := got
      generalize hp0 : s.heap.push (bare led) = H0
      have at0 : H0.get? s.heap.objs.size = some (bare led) := by rw [← hp0]; exact Heap.get?_push_size _ rfl
      have old0 : ∀ b o, s.heap.get? b = some o → H0.get? b = some o := fun b o q => by rw [← hp0]; exact Heap.get?_push_of_some _ q
      have ty0 : Shared.TypeIs { s with heap := H0 } (.ref s.heap.objs.size) "set" := ⟨_, at0, rfl⟩
      have look0 := PySem.F.called_set.init.lookup; have bind0 := PySem.F.called_set.init.bind (.ref s.heap.objs.size)
      repeat (any_goals (first | assumption | wp_step))
      refine codeAny_mono (codeAny_call_builtin (R := wants (fun v s2 => v = .none ∧ ∃ h' tk, s2 = { s with heap := h', toks := tk } ∧ h'.SetOf knd s.heap.objs.size (fun x => decide (x ∈ dd ks items.size)) (dd ks items.size).length ∧ ∀ b o, s.heap.get? b = some o → h'.get? b = some o) E)
        PySem.F.called_set.init.plain PySem.F.entry_set_init (check_set_init_1 ty0 ?_)) fun r2 s2 got2 => ?_
      · obtain ⟨⟨lc, ld, lda, ls⟩, lat, lcl, ln, ldd⟩ := isl
        dsimp only at lcl ldd
        cases lcl; cases ldd
        have lat0 := old0 _ _ lat
        have nl0 := PySem.F.sub_list_set; have nf0 := PySem.F.sub_list_frozenset
        have nd0 : (Value.type "list" == Value.type "dict") = false := by decide
        have isl0 : H0.IsList l items := ⟨_, lat0, rfl, ln, rfl⟩
        unfold Builtin.«set.__init__» noKeywords Builtin.Frozenset.updateFrom
        generalize hit : pyIter = iter0
        wp_walk
        subst hit
        refine wpAny_pyIter_list isl0 ?_
        refine wpAny_bind (wpAny_runValue ?_)
        have b1 : l < s.heap.objs.size := Heap.lt_size lat
        have b2 : s.heap.objs.size < H0.objs.size := Heap.lt_size at0
        have calm3 : A.in1.in1.in1.handled = none := by simp [calm]
        refine fill ((Walks.list calm3 _ l (Nat.ne_of_lt (Nat.lt_trans b1 b2)) items).toS) (S := s.heap.objs.size) (knd := knd) ?out key few items.size 0 _ (Nat.zero_add _) ⟨⟨_, Heap.get?_push_size _ rfl, rfl, rfl⟩, isl0.push _⟩ ?start ?stop
        case out =>
          intro q
          rcases List.mem_cons.mp q with e | q
          · exact Nat.ne_of_lt b2 e
          · exact Nat.ne_of_gt b1 (List.mem_singleton.mp q)
        case start =>
          have z := (setObjOf_fresh (knd := knd) led).setOf at0 (by unfold scanBound; omega)
          refine kept (SetOf_congr z (fun x => ?_) ?_) fun o q => Heap.get?_push_of_some _ q
          · rfl
          · rfl
        case stop =>
          rintro ⟨h', g', d', tk', os'⟩ mv put
          obtain rfl : g' = s.gens := mv.gens
          obtain rfl : d' = s.drawn := mv.drawn
          obtain rfl : os' = s.os := mv.os
          refine wpAny_pure (a := ()) ?_
          refine wpAny_pure (a := Fin.done (.ret Value.none)) ⟨rfl, h', tk', rfl, put, fun b o q => mv.heap b o (fun i => ?_) (Heap.get?_push_of_some _ (old0 b o q))⟩
          have b3 : b < s.heap.objs.size := Heap.lt_size q
          rcases List.mem_cons.mp i with e | i
          · exact Nat.ne_of_lt b3 e
          · exact Nat.ne_of_lt (Nat.lt_trans b3 b2) (List.mem_singleton.mp i)
      · cases r2 with
        | error e => exact got2
        | ok fl2 => cases fl2 with
          | ret v2 =>
            obtain ⟨rfl, h', tk, rfl, put, keep⟩ := got2
            repeat (any_goals (first | assumption | wp_step))
            exact go _ _ put keep
          | _ => exact got2.elim
    | _ => exact got.elim
end
/-- the number of different texts of a list -/
def kinds (xs : List Str) : Nat := (dd (fun i => xs.getD i Str.empty) xs.length).length
def tLenSetS (K : PySem.W.Frag) (ta : TE) : TE := fun σ H Q => ta σ H fun x H1 => ∃ (l : Addr) (xs : List Str), x = .ref l ∧ SqL K H1 l (xs.map V.str) ∧ xs.length ≤ 4000 ∧ Q (.int ((kinds xs : Nat) : Int)) H1
theorem strs_at {xs : List Str} {us : List Value} (r : Vals (xs.map V.str) us) (i : Nat) (v : Value) (q : us[i]? = some v) : ∃ t, v = .str (xs.getD i Str.empty) t := by
  induction xs generalizing us i with
  | nil => cases r; cases q
  | cons x xs ih =>
    cases r with
    | cons a b =>
      obtain ⟨t, rfl⟩ := a
      cases i with
      | zero => cases q; exact ⟨t, rfl⟩
      | succ i => exact ih b i q
theorem pe_lenSetS {X : Cx} {a : Expr} {ta : TE} {p p2 q pos : Pos} (gl : Gl X "len") (ml : X.mg "len" = none) (gs : Gl X "set") (ms : X.mg "set" = none) (ha : PE X a ta) (calm : X.calm = true := by rfl) (one : starEach [a] X.env = (false, eval a X.env) :: starEach [] X.env := by rfl) :
    PE X (.Call (.Name "len" p) [.Call (.Name "set" p2) [a] [] q] [] pos) (tLenSetS X.K ta) := by
  refine ⟨fun pins s σ H Q I h => Call_ (ld_blt I gl ml boot_len ?_)⟩
  refine callWith_builtin1 (args_cons (Call_ (ld_blt I gs ms boot_set ?_)) rfl) rfl rfl
  refine callWith_type1 (args_cons (thn (ha.run pins s σ H _ I h) fun v s1 got => args_nil ?_) one) one rfl
  obtain ⟨x, H1, I1, r1, l, xs, rfl, isl, few, q1⟩ := got
  cases r1
  obtain ⟨its, r, pl, _⟩ := I1.list isl
  have size : its.toArray.size = xs.length := by rw [List.size_toArray, ← r.length, List.length_map]
  refine set_of_list (knd := PySem.strKind X.prog X.w) (ks := fun i => xs.getD i Str.empty) (I1.ok.hd calm) pl.isList (fun i v e => ?_) (by rw [size]; unfold scanBound; omega) fun h' tk put keep => args_nil ?_
  · rw [List.getElem?_toArray] at e
    obtain ⟨t, rfl⟩ := strs_at r i v e
    exact ⟨strKind_is _ _ _ _, rfl⟩
  · rw [size] at put
    obtain ⟨o, es, ep, tb, at1, ex, dt, _, _, _, fits, num⟩ := put
    have I2 : Inv X pins σ H1 { s1 with heap := h', toks := tk } := I1.kept fun b o e => keep b o e
    have le : kinds xs ≤ xs.length := dd_le _ _
    exact call_len_set at1 ex dt fits (by rw [num]; unfold kinds at le; omega) ⟨.int (kinds xs : Nat), H1, I2.tok _, ⟨_, by rw [num]; rfl⟩, q1⟩
end US
namespace UW
open PySem PySem.Spec PyProof.Rows L2 U
theorem at_strs {xs : List Str} {i : Nat} {y : V} (h : (xs.map V.str)[i]? = some y) : ∃ x, y = .str x ∧ xs[i]? = some x := by
  rw [List.getElem?_map] at h
  obtain ⟨x, hx, rfl⟩ := Option.map_eq_some_iff.mp h
  exact ⟨x, rfl, hx⟩
theorem at_refs {xs : List Addr} {i : Nat} {y : V} (h : (xs.map V.ref)[i]? = some y) : ∃ x, y = .ref x ∧ xs[i]? = some x := by
  rw [List.getElem?_map] at h
  obtain ⟨x, hx, rfl⟩ := Option.map_eq_some_iff.mp h
  exact ⟨x, rfl, hx⟩
/-- a walk over a list, whatever is done with an item (for a comprehension of two clauses) -/
theorem loopL {K : PySem.W.Frag} {a : Addr} {xs : List V} {B : V → Hp → (Hp → Prop) → Prop} {H0 : Hp} {Qd : Hp → Prop} (Pv : Nat → Hp → Prop) (h0 : Pv 0 H0) (st : ∀ i H, Pv i H → SqL K H a xs) (step : ∀ i x H, xs[i]? = some x → Pv i H → B x H (Pv (i + 1))) (fin : ∀ H, Pv xs.length H → Qd H) :
    ∃ W : Nat → Nat → Hp → Prop, (∃ m, W 0 m H0) ∧ ∀ i m H, W i m H → ((Itl K a).stop i H ∧ Qd H) ∨ ((Itl K a).go i H ∧ ∃ Nx : Hp → Prop, (∀ H', Nx H' → ∃ m', m' < m ∧ W (i + 1) m' H') ∧ ∀ x H', (Itl K a).yld i H x H' → B x H' Nx) := by
  refine ⟨fun i m H => i + m = xs.length ∧ Pv i H, ⟨_, Nat.zero_add _, h0⟩, ?_⟩
  rintro i m H ⟨e, p⟩
  have q := st i H p
  cases m with
  | zero =>
    obtain rfl : i = xs.length := e
    exact .inl ⟨⟨xs, q, Nat.le_refl _⟩, fin H p⟩
  | succ m =>
    have lt : i < xs.length := by omega
    refine .inr ⟨⟨xs, xs[i], q, List.getElem?_eq_getElem lt⟩, Pv (i + 1), fun H' p' => ⟨m, Nat.lt_succ_self m, by omega, p'⟩, ?_⟩
    rintro x _ ⟨rfl, y⟩
    exact step i x _ (y xs q) p
section
variable {X : Cx}
theorem swD {kx vx : Expr} {cs : List Comprehension} {sc : Scope} {p py : Pos} {y : Str} {n : Nat} {e : Env} (fn : e.scope.kind = .function) (loc : e.scope.names.lookup y = some .local) (line : (py.line == p.line) = true)
    (free : (sc.names.any fun (z, k) => z == y && (k == .local || k == .cell)) = false) : swapsWith (.DictComp kx vx cs sc p) (some (.Name y py)) n e = pure true := by
  have k1 : e.kindOf y = some .local := loc
  have k2 : e.blockKind = .function := by unfold Env.blockKind; rw [fn]; rfl
  unfold swapsWith; simp only [k1, k2, free, line, Expr.pos]; rfl
/-- name = {.. for ..} on one line, the name a local -/
theorem ps_setDc {i : Nat} {y : Str} {py pos spos : Pos} {kx vx tg iter : Expr} {ifs : List Expr} {sc : Scope} {own : List (Str × Nat)} {wi : TI} {g : TG} {tt : TT} {tk tv : TE} (calm : X.calm = true) (nd : X.N.Nodup) (hy : X.N[i]? = some y) (loc : X.env.scope.names.lookup y = some .local)
    (sw : swapsWith (.DictComp kx vx [⟨tg, iter, ifs, 0⟩] sc pos) (some (.Name y py)) spos.line X.env = pure true) (hi : PI X tg iter wi) (ok : BlkOk X.N X.env.scope sc own)
    (hg : ∀ (s : Shared) (H : Hp) (C : Addr) (cl : List (Str × Addr)) (fp : List Addr), PG (X.blk s H sc (compEnvC sc cl C X.env) fp) tg g) (ht : ∀ (s : Shared) (H : Hp) (C : Addr) (cl : List (Str × Addr)) (fp : List Addr), PTs (X.blk s H sc (compEnvC sc cl C X.env) fp) ifs tt)
    (hk : ∀ (s : Shared) (H : Hp) (C : Addr) (cl : List (Str × Addr)) (fp : List Addr), PE (X.blk s H sc (compEnvC sc cl C X.env) fp) kx tk) (he : ∀ (s : Shared) (H : Hp) (C : Addr) (cl : List (Str × Addr)) (fp : List Addr), PE (X.blk s H sc (compEnvC sc cl C X.env) fp) vx tv)
    (fold : ∀ x, foldedSetIterable iter X.env x = pure x := by intro _; rfl) : PS X (.Assign [.Name y py] (.DictComp kx vx [⟨tg, iter, ifs, 0⟩] sc pos) spos) (tAsg (tDc wi g tt tk tv (own.map (·.2))) (gName i)) := by
  refine ⟨fun pins s σ H D I got => ?_⟩
  rw [exec_Assign_Name_used _ _ _ _ sw]
  refine wpAny_bind (wpAny_standAt (wpAny_bind ?_))
  show wpAny _ X.A (do let _ ← comprehension (.DictComp kx vx [⟨tg, iter, ifs, 0⟩] sc pos) sc X.env (firstIterPos [⟨tg, iter, ifs, 0⟩] pos) newDict false (eval iter X.env) (some (assign (.Name y py) X.env))) _ _ s
  have got : tDc wi g tt tk tv (own.map (·.2)) σ H (fun x H1 => gName i x σ H1 D.nx) := got
  refine wpAny_bind (thn (dc_core (Qf := fun _ s1 => SP X pins D .next s1) calm nd I hi ok hg ht hk he fold got fun L C s1 m H1 I1 q1 ns f => ?_) fun _ s1 z => wpAny_pure (wpAny_pure z))
  show wpAny _ _ (assign (.Name y py) X.env (.ref L)) _ _ _
  refine wpAny_assign_Name (store_ok2 (v := V.ref L) I1 nd hy (.inl loc) rfl (fun s2 I2 ⟨b, but, hb⟩ => ?_) (.inr loc))
  obtain ⟨f0, f1, f2, f3, f4, f5⟩ := f
  have far : C ≠ b := hb.elim (fun z => by rw [z]; exact f1) fun z e => f4 y b z e.symm
  exact ⟨m, ns.sameBut but far, fun h3 but3 => ⟨_, H1, I2.turned (t' := s2.toks) (fun c o hc e => (but3.2 c hc).trans e) f0 f1 f3 f4 f5, q1⟩⟩
end
end UW
/-! What stands in the heap, as a list; one lemma for each question, so that a walk can be found by its head. -/
namespace V
open PySem PySem.Spec PyProof.Rows L2 U

/-! ### the heap as a list of cells -/
abbrev Cells := List (Bool × Addr × HO)
def Nd (a : Addr) : Cells → Prop
  | [] => True
  | c :: L => c.2.1 ≠ a ∧ Nd a L
/-- each cell stands; those that are marked may be written: they are not frozen -/
def Ok (Z H : Hp) : Cells → Prop
  | [] => True
  | c :: L => (H c.2.1 = some c.2.2 ∧ (c.1 = true → Z c.2.1 = none)) ∧ Nd c.2.1 L ∧ Ok Z H L
/-- the state of the draws: the list at S, what is left of the script at T -/
def StD (H : Hp) (S T : Addr) : Prop := S ≠ T ∧ ∃ (ns : List Int) (a b c : Int), ns.length ≤ 63 ∧ H S = some (.lst [.ref T, .int a, .int b, .int c]) ∧ H T = some (.lst (ns.map V.int))
def StO (Z H : Hp) (L : Cells) : Option (Addr × Addr) → Prop
  | none => True
  | some (S, T) => (StD H S T ∧ Z S = none ∧ Z T = none) ∧ Nd S L ∧ Nd T L
/-- what is frozen (Z) stands, the cells L stand, and the state of the draws -/
structure Hw (Z : Hp) (s : Option (Addr × Addr)) (H : Hp) (L : Cells) : Prop where
  fr : Same Z H
  ok : Ok Z H L
  st : StO Z H L s
inductive At (a : Addr) (o : HO) : Cells → Prop
  | here {f L} : At a o ((f, a, o) :: L)
  | there {c L} : At a o L → At a o (c :: L)
inductive Up (a : Addr) (o : HO) : Cells → Cells → Prop
  | here {u L} : Up a o ((true, a, u) :: L) ((true, a, o) :: L)
  | there {c L L'} : Up a o L L' → Up a o (c :: L) (c :: L')
inductive Sub : Cells → Cells → Prop
  | nil {L} : Sub [] L
  | cons {c L L'} : Sub L L' → Sub (c :: L) (c :: L')
  | skip {c L L'} : Sub L L' → Sub L (c :: L')
variable {Z Z' H H' : Hp} {s : Option (Addr × Addr)} {L L' : Cells} {a b p S T : Addr} {o u : HO} {f : Bool}
theorem Ok.get : ∀ {L : Cells}, Ok Z H L → At a o L → H a = some o
  | _, k, .here => k.1.1
  | _, k, .there h => Ok.get k.2.2 h
theorem Hw.get (w : Hw Z s H L) (h : At a o L) : H a = some o := w.ok.get h
theorem Hw.fro (w : Hw Z s H L) (h : Z a = some o) : H a = some o := w.fr _ _ h
theorem Ok.stay : ∀ {L : Cells}, Ok Z H L → (∀ b o, H b = some o → H' b = some o) → Ok Z H' L
  | [], _, _ => trivial
  | _ :: _, k, s => ⟨⟨s _ _ k.1.1, k.1.2⟩, k.2.1, Ok.stay k.2.2 s⟩
theorem Ok.nd_none : ∀ {L : Cells}, Ok Z H L → H p = none → Nd p L
  | [], _, _ => trivial
  | c :: _, k, n => ⟨fun e => (by have := k.1.1; rw [e, n] at this; cases this), Ok.nd_none k.2.2 n⟩
theorem StD.stay (k : StD H S T) (s : ∀ b o, H b = some o → b = S ∨ b = T → H' b = some o) : StD H' S T := by
  obtain ⟨n, ns, x, y, z, l, h1, h2⟩ := k
  exact ⟨n, ns, x, y, z, l, s _ _ h1 (.inl rfl), s _ _ h2 (.inr rfl)⟩
theorem StD.some1 (k : StD H S T) : ∃ o, H S = some o := by obtain ⟨n, ns, x, y, z, l, h1, h2⟩ := k; exact ⟨_, h1⟩
theorem StD.some2 (k : StD H S T) : ∃ o, H T = some o := by obtain ⟨n, ns, x, y, z, l, h1, h2⟩ := k; exact ⟨_, h2⟩
theorem Hw.new (w : Hw Z s H L) (n : H p = none) : Hw Z s (upd H p o) ((true, p, o) :: L) :=
  have k : ∀ b u, H b = some u → upd H p o b = some u := fun b u e => by rw [upd_ne (ne_of_none e n)]; exact e
  ⟨fun b u e => k b u (w.fr b u e), ⟨⟨upd_same, fun _ => w.fr.free n⟩, w.ok.nd_none n, w.ok.stay k⟩, by
    have t := w.st
    match s, t with
    | none, _ => trivial
    | some (S, T), ⟨⟨t1, t2, t3⟩, t4, t5⟩ =>
      obtain ⟨o1, e1⟩ := t1.some1
      obtain ⟨o2, e2⟩ := t1.some2
      exact ⟨⟨t1.stay fun b o e _ => k b o e, t2, t3⟩, ⟨(ne_of_none e1 n).symm, t4⟩, (ne_of_none e2 n).symm, t5⟩⟩
theorem Nd.ne : ∀ {L : Cells}, Nd a L → At b o L → b ≠ a
  | _, k, .here => k.1
  | _, k, .there h => Nd.ne k.2 h
theorem Up.nd : ∀ {L L' : Cells}, Up a o L L' → Nd b L → Nd b L'
  | _, _, .here, k => k
  | _, _, .there h, k => ⟨k.1, Up.nd h k.2⟩
theorem Up.ne : ∀ {L L' : Cells}, Up a o L L' → Nd b L → a ≠ b
  | _, _, .here, k => k.1
  | _, _, .there h, k => Up.ne h k.2
theorem Up.free : ∀ {L L' : Cells}, Up a o L L' → Ok Z H L → Z a = none
  | _, _, .here, k => k.1.2 rfl
  | _, _, .there h, k => Up.free h k.2.2
theorem Ok.away : ∀ {L : Cells}, Ok Z H L → Nd a L → Ok Z (upd H a o) L
  | [], _, _ => trivial
  | _ :: _, k, n => ⟨⟨by rw [upd_ne n.1]; exact k.1.1, k.1.2⟩, k.2.1, Ok.away k.2.2 n.2⟩
theorem Ok.up : ∀ {L L' : Cells}, Ok Z H L → Up a o L L' → Ok Z (upd H a o) L'
  | _, _, k, .here => ⟨⟨upd_same, k.1.2⟩, k.2.1, k.2.2.away k.2.1⟩
  | _, _, k, .there h => ⟨⟨by rw [upd_ne (h.ne k.2.1).symm]; exact k.1.1, k.1.2⟩, h.nd k.2.1, Ok.up k.2.2 h⟩
theorem Hw.up (w : Hw Z s H L) (h : Up a o L L') : Hw Z s (upd H a o) L' := ⟨fun b u e => by
  have n : b ≠ a := fun q => by
    subst q
    rw [h.free w.ok] at e; cases e
  rw [upd_ne n]; exact w.fr b u e, w.ok.up h, by
    have t := w.st
    match s, t with
    | none, _ => trivial
    | some (S, T), ⟨⟨t1, t2, t3⟩, t4, t5⟩ =>
      exact ⟨⟨t1.stay fun b o e q => by
        have n : b ≠ a := by
          rcases q with rfl | rfl
          · exact (h.ne t4).symm
          · exact (h.ne t5).symm
        rw [upd_ne n]; exact e, t2, t3⟩, h.nd t4, h.nd t5⟩⟩
theorem Sub.nd : ∀ {L L' : Cells}, Sub L L' → Nd b L' → Nd b L
  | _, _, .nil, _ => trivial
  | _, _, .cons h, k => ⟨k.1, Sub.nd h k.2⟩
  | _, _, .skip h, k => Sub.nd h k.2
theorem Ok.sub : ∀ {L L' : Cells}, Ok Z H L' → Sub L L' → Ok Z H L
  | _, _, _, .nil => trivial
  | _, _, k, .cons h => ⟨k.1, h.nd k.2.1, Ok.sub k.2.2 h⟩
  | _, _, k, .skip h => Ok.sub k.2.2 h
theorem Hw.sub (w : Hw Z s H L') (h : Sub L L') : Hw Z s H L := ⟨w.fr, w.ok.sub h, by
  have t := w.st
  match s, t with
  | none, _ => trivial
  | some (S, T), ⟨t1, t4, t5⟩ => exact ⟨t1, h.nd t4, h.nd t5⟩⟩
theorem Sub.refl : ∀ L : Cells, Sub L L
  | [] => .nil
  | _ :: L => .cons (Sub.refl L)
theorem Hw.start : Hw H none H [] := ⟨fun _ _ e => e, trivial, trivial⟩
/-- a heap without some places -/
def cut (H : Hp) (ds : List Addr) : Hp := fun b => if b ∈ ds then none else H b
theorem cut_some {ds : List Addr} (h : cut H ds b = some o) : b ∉ ds ∧ H b = some o := by
  unfold cut at h
  by_cases e : b ∈ ds
  · rw [if_pos e] at h; cases h
  · rw [if_neg e] at h; exact ⟨e, h⟩
theorem cut_in {ds : List Addr} (h : b ∈ ds) : cut H ds b = none := by unfold cut; rw [if_pos h]
theorem cut_not {ds : List Addr} (h : b ∉ ds) : cut H ds b = H b := by unfold cut; rw [if_neg h]
theorem cut_same {ds : List Addr} : Same (cut H ds) H := fun _ _ e => (cut_some e).2
theorem Hw.startD (k : StD H S T) : Hw (cut H [S, T]) (some (S, T)) H [] := ⟨cut_same, trivial, ⟨k, cut_in (by simp), cut_in (by simp)⟩, trivial, trivial⟩
theorem Hw.startM (ds : List Addr) : Hw (cut H ds) none H [] := ⟨cut_same, trivial, trivial⟩
/-- a thing that stands, read alone -/
theorem Hw.add (w : Hw Z none H L) (e : H a = some o) (n : Nd a L) : Hw Z none H ((false, a, o) :: L) := ⟨w.fr, ⟨⟨e, fun z => nomatch z⟩, n, w.ok⟩, trivial⟩
theorem Hw.addM (w : Hw Z none H L) (e : H a = some o) (m : Z a = none) (n : Nd a L) : Hw Z none H ((true, a, o) :: L) := ⟨w.fr, ⟨⟨e, fun _ => m⟩, n, w.ok⟩, trivial⟩
/-- what is written is not frozen -/
theorem Ok.out : ∀ {L : Cells}, Ok Z H L → (true, a, o) ∈ L → Z a = none
  | _ :: _, k, h => by
    rcases List.mem_cons.mp h with e | e
    · subst e; exact k.1.2 rfl
    · exact Ok.out k.2.2 e
/-- what a call does that changes nothing that stood -/
theorem Hw.call (w : Hw Z s H L) (e : Same H H') : Hw Z s H' L := ⟨fun b u q => e _ _ (w.fr b u q), w.ok.stay e, by
  have t := w.st
  match s, t with
  | none, _ => trivial
  | some (S, T), ⟨⟨t1, t2⟩, t4⟩ => exact ⟨⟨t1.stay fun b o q _ => e b o q, t2⟩, t4⟩⟩
/-- what stood stands but the state -/
def Keeps (S T : Addr) (H H' : Hp) : Prop := ∀ d o, H d = some o → d ≠ S → d ≠ T → H' d = some o
/-- a call that draws -/
theorem Hw.callD (w : Hw Z (some (S, T)) H L) (k : StD H' S T) (e : Keeps S T H H') : Hw Z (some (S, T)) H' L := by
  obtain ⟨w1, w2, ⟨⟨t1, t2, t3⟩, t4, t5⟩⟩ := w
  refine ⟨fun b u q => e b u (w1 b u q) (fun n => ?_) fun n => ?_, ?_, ⟨⟨k, t2, t3⟩, t4, t5⟩⟩
  · rw [n, t2] at q; cases q
  · rw [n, t3] at q; cases q
  · have g : ∀ {L : Cells}, Ok Z H L → Nd S L → Nd T L → Ok Z H' L := fun {L} => by
      induction L with
      | nil => intros; trivial
      | cons c L ih => exact fun k n1 n2 => ⟨⟨e _ _ k.1.1 n1.1 n2.1, k.1.2⟩, k.2.1, ih k.2.2 n1.2 n2.2⟩
    exact g w2 t4 t5
theorem Hw.std (w : Hw Z (some (S, T)) H L) : StD H S T := w.st.1.1
/-- at the end of a def that draws -/
theorem Hw.keeps {H0 : Hp} (w : Hw Z s H' L) (e : Same (cut H0 [S, T]) Z) : Keeps S T H0 H' := fun d o q n1 n2 => w.fr _ _ (e _ _ (by rw [cut_not (by simp [n1, n2])]; exact q))
/-- a cell that is written no more -/
theorem Hw.freeze (w : Hw Z s H ((f, a, o) :: L)) (n : Z a = none) : Hw (upd Z a o) s H L ∧ Same Z (upd Z a o) ∧ upd Z a o a = some o := by
  obtain ⟨w1, ⟨k1, k2, k3⟩, w3⟩ := w
  have g : ∀ {L : Cells}, Ok Z H L → Nd a L → Ok (upd Z a o) H L := fun {L} => by
    induction L with
    | nil => intros; trivial
    | cons c L ih => exact fun k n1 => ⟨⟨k.1.1, fun e => by rw [upd_ne n1.1]; exact k.1.2 e⟩, k.2.1, ih k.2.2 n1.2⟩
  refine ⟨⟨fun b u q => ?_, g k3 k2, ?_⟩, sameNew n, upd_same⟩
  · by_cases e : b = a
    · subst e; rw [upd_same] at q; rw [← q]; exact k1.1
    · rw [upd_ne e] at q; exact w1 b u q
  · match s, w3 with
    | none, _ => trivial
    | some (S, T), ⟨⟨t1, t2, t3⟩, t4, t5⟩ => exact ⟨⟨t1, by rw [upd_ne (fun e => t4.1 e.symm)]; exact t2, by rw [upd_ne (fun e => t5.1 e.symm)]; exact t3⟩, t4.2, t5.2⟩
/-- a thing that was made on the way was not there at the start -/
theorem Hw.fresh {H0 : Hp} (w : Hw Z (some (S, T)) H' ((true, a, o) :: L)) (e : Same (cut H0 [S, T]) Z) : H0 a = none := by
  cases q : H0 a with
  | none => rfl
  | some u =>
    have n1 : a ≠ S := w.st.2.1.1
    have n2 : a ≠ T := w.st.2.2.1
    have z : cut H0 [S, T] a = some u := by rw [cut_not (by simp [n1, n2])]; exact q
    have z2 := e _ _ z
    rw [w.ok.1.2 rfl] at z2; cases z2
theorem Hw.fresh0 {H0 : Hp} (w : Hw Z s H' ((true, a, o) :: L)) (e : Same H0 Z) : H0 a = none := by
  cases q : H0 a with
  | none => rfl
  | some u =>
    have z2 := e _ _ q
    rw [w.ok.1.2 rfl] at z2; cases z2
theorem Hw.frz (w : Hw Z s H ((true, a, o) :: L)) : Hw (upd Z a o) s H L ∧ Same Z (upd Z a o) ∧ upd Z a o a = some o := w.freeze (w.ok.1.2 rfl)
/-- what is new since Z0 -/
def nw (Z0 Z : Hp) : Hp := fun b => match Z0 b with
  | some _ => none
  | none => Z b
theorem nw_of {Z0 : Hp} (n : Z0 a = none) (e : Z a = some o) : nw Z0 Z a = some o := by unfold nw; rw [n]; exact e
theorem nw_some {Z0 : Hp} (e : nw Z0 Z a = some o) : Z0 a = none ∧ Z a = some o := by
  unfold nw at e
  cases q : Z0 a with
  | some u => rw [q] at e; cases e
  | none => rw [q] at e; exact ⟨rfl, e⟩
theorem nw_same {Z0 : Hp} (e : Same Z Z') : Same (nw Z0 Z) (nw Z0 Z') := fun b o h => nw_of (nw_some h).1 (e _ _ (nw_some h).2)
theorem nw_sub {Z0 : Hp} : Same (nw Z0 Z) Z := fun b o h => (nw_some h).2
theorem Hw.nwH {H0 : Hp} (w : Hw Z (some (S, T)) H' L) : Same (nw (cut H0 [S, T]) Z) (nw H0 H') := fun b o e => by
  obtain ⟨e1, e2⟩ := nw_some e
  refine nw_of ?_ (w.fr _ _ e2)
  cases q : H0 b with
  | none => rfl
  | some u =>
    obtain ⟨⟨_, t2, t3⟩, _⟩ := w.st
    rw [cut_not (by simp only [List.mem_cons, List.not_mem_nil, or_false]; rintro (r | r) <;> (subst r; first | (rw [t2] at e2; cases e2) | (rw [t3] at e2; cases e2)))] at e1
    rw [q] at e1; cases e1
/-- what is new in H', frozen too, but at ds -/
def uni (Z H H' : Hp) (ds : List Addr) : Hp := fun b => match Z b with
  | some o => some o
  | none => match H b with
    | some _ => none
    | none => if b ∈ ds then none else H' b
theorem uni_old {ds : List Addr} : Same Z (uni Z H H' ds) := fun b o e => by unfold uni; rw [e]
theorem uni_new {ds : List Addr} (z : Same Z H) (n : H b = none) (m : b ∉ ds) (e : H' b = some o) : uni Z H H' ds b = some o := by
  unfold uni
  rw [z.free n, n]
  show (if b ∈ ds then none else H' b) = _
  rw [if_neg m]; exact e
theorem uni_had {ds : List Addr} (e : H b = some o) : uni Z H H' ds b = Z b := by
  unfold uni
  cases q : Z b with
  | some o => rfl
  | none => rw [e]
theorem uni_in {ds : List Addr} (m : b ∈ ds) : uni Z H H' ds b = Z b := by
  unfold uni
  cases q : Z b with
  | some o => rfl
  | none =>
    cases H b with
    | some _ => rfl
    | none => show (if b ∈ ds then none else H' b) = none; rw [if_pos m]
theorem uni_sub {ds : List Addr} (z : Same Z H') : Same (uni Z H H' ds) H' := fun b o e => by
  cases q : Z b with
  | some u => unfold uni at e; rw [q] at e; cases e; exact z _ _ q
  | none =>
    unfold uni at e
    rw [q] at e
    cases h : H b with
    | some u => rw [h] at e; cases e
    | none =>
      rw [h] at e
      have e : (if b ∈ ds then none else H' b) = some o := e
      by_cases m : b ∈ ds
      · rw [if_pos m] at e; cases e
      · rw [if_neg m] at e; exact e
theorem Ok.uni {ds : List Addr} : ∀ {L : Cells}, Ok Z H L → Ok Z H' L → Ok (uni Z H H' ds) H' L
  | [], _, _ => trivial
  | _ :: _, k, k' => ⟨⟨k'.1.1, fun e => by rw [uni_had k.1.1]; exact k.1.2 e⟩, k.2.1, Ok.uni k.2.2 k'.2.2⟩
theorem StO.uni {ds : List Addr} (k : StO Z H L s) (k' : StO Z H' L s) : StO (uni Z H H' ds) H' L s := by
  match s, k, k' with
  | none, _, _ => trivial
  | some (S, T), ⟨⟨t1, t2, t3⟩, t4⟩, ⟨⟨u1, u2⟩, u4⟩ =>
    obtain ⟨o1, e1⟩ := t1.some1
    obtain ⟨o2, e2⟩ := t1.some2
    exact ⟨⟨u1, by rw [uni_had e1]; exact t2, by rw [uni_had e2]; exact t3⟩, t4⟩
/-- what a call made is frozen -/
theorem Hw.allNew (w : Hw Z s H L) (w' : Hw Z s H' L) : ∃ Z', Hw Z' s H' L ∧ Same Z Z' ∧ ∀ b o, H b = none → H' b = some o → Z' b = some o :=
  ⟨uni Z H H' [], ⟨uni_sub w'.fr, w.ok.uni w'.ok, w.st.uni w'.st⟩, uni_old, fun b o n e => uni_new w.fr n (by simp) e⟩
theorem Hw.callNew (w : Hw Z s H L) (e : Same H H') : ∃ Z', Hw Z' s H' L ∧ Same Z Z' ∧ ∀ b o, H b = none → H' b = some o → Z' b = some o := w.allNew (w.call e)
theorem Hw.callNewD (w : Hw Z (some (S, T)) H L) (k : StD H' S T) (e : Keeps S T H H') : ∃ Z', Hw Z' (some (S, T)) H' L ∧ Same Z Z' ∧ ∀ b o, H b = none → H' b = some o → Z' b = some o := w.allNew (w.callD k e)
/-- the same, for what was frozen early too -/
theorem Hw.callNew2 {Y : Hp} (w : Hw Z s H L) (e : Same H H') (y : Same Y Z) : ∃ Z' Y', Hw Z' s H' L ∧ Same Z Z' ∧ Same Y Y' ∧ Same Y' Z' ∧ (∀ b o, H b = none → H' b = some o → Y' b = some o) ∧ ∀ b o, H b = some o → Y b = none → Y' b = none :=
  have w' := w.call e
  ⟨uni Z H H' [], uni Y H H' [], ⟨uni_sub w'.fr, w.ok.uni w'.ok, w.st.uni w'.st⟩, uni_old, uni_old, fun b o q => by
    cases n : H b with
    | some u =>
      rw [uni_had n] at q ⊢
      exact y _ _ q
    | none =>
      have z := w.fr.free n
      unfold uni at q ⊢
      rw [y.free z, n] at q
      rw [z, n]; exact q, fun b o n q => uni_new (fun b o e => w.fr _ _ (y _ _ e)) n (by simp) q, fun b o q n => by rw [uni_had q]; exact n⟩
theorem Hw.thaw {Y : Hp} (w : Hw Z s H L) (y : Same Y Z) : Hw Y s H L := by
  refine ⟨fun b o e => w.fr _ _ (y _ _ e), ?_, ?_⟩
  · have g : ∀ {L : Cells}, Ok Z H L → Ok Y H L := fun {L} => by
      induction L with
      | nil => intros; trivial
      | cons c L ih => exact fun k => ⟨⟨k.1.1, fun q => y.free (k.1.2 q)⟩, k.2.1, ih k.2.2⟩
    exact g w.ok
  · have t := w.st
    match s, t with
    | none, _ => trivial
    | some (S, T), ⟨⟨t1, t2, t3⟩, t4⟩ => exact ⟨⟨t1, y.free t2, y.free t3⟩, t4⟩
/-- a store into a thing that is no cell -/
theorem Hw.write (w : Hw Z (some (S, T)) H L) (n : Z a = none) (d : Nd a L) (nS : a ≠ S) (nT : a ≠ T) : Hw Z (some (S, T)) (upd H a o) L := by
  refine ⟨fun b u e => ?_, w.ok.away d, ?_⟩
  · rw [upd_ne (fun q => by subst q; rw [n] at e; cases e)]; exact w.fr b u e
  · obtain ⟨⟨t1, t2, t3⟩, t4, t5⟩ := w.st
    exact ⟨⟨t1.stay fun b o e q => by
      rw [upd_ne (by rcases q with rfl | rfl; exact nS.symm; exact nT.symm)]; exact e, t2, t3⟩, t4, t5⟩
/-- what a call made is frozen but the thing at a, which may be written -/
theorem Hw.oneNew (w : Hw Z s H L) (w' : Hw Z s H' L) (n : H a = none) (h : H' a = some o) : ∃ Z', Hw Z' s H' ((true, a, o) :: L) ∧ Same Z Z' ∧ ∀ b o, H b = none → b ≠ a → H' b = some o → Z' b = some o := by
  refine ⟨uni Z H H' [a], ⟨uni_sub w'.fr, ⟨⟨h, fun _ => ?_⟩, w.ok.nd_none n, w.ok.uni w'.ok⟩, ?_⟩, uni_old, fun b o n m e => uni_new w.fr n (by simpa using m) e⟩
  · rw [uni_in (by simp)]; exact w.fr.free n
  · have k := w.st.uni (ds := [a]) w'.st
    have t := w.st
    match s, t, k with
    | none, _, _ => trivial
    | some (S, T), ⟨⟨t1, t2⟩, t4⟩, ⟨k1, k4, k5⟩ =>
      obtain ⟨o1, e1⟩ := t1.some1
      obtain ⟨o2, e2⟩ := t1.some2
      exact ⟨k1, ⟨(ne_of_none e1 n).symm, k4⟩, (ne_of_none e2 n).symm, k5⟩
/-- a cell of a thing that a call made, nothing frozen -/
theorem Hw.cellNew (w : Hw Z s H L) (w' : Hw Z s H' L) (n : H a = none) (h : H' a = some o) : Hw Z s H' ((true, a, o) :: L) := by
  refine ⟨w'.fr, ⟨⟨h, fun _ => w.fr.free n⟩, w.ok.nd_none n, w'.ok⟩, ?_⟩
  have t := w.st
  have t' := w'.st
  match s, t, t' with
  | none, _, _ => trivial
  | some (S, T), ⟨⟨t1, t2⟩, t4⟩, ⟨k1, k4, k5⟩ =>
    obtain ⟨o1, e1⟩ := t1.some1
    obtain ⟨o2, e2⟩ := t1.some2
    exact ⟨k1, ⟨(ne_of_none e1 n).symm, k4⟩, (ne_of_none e2 n).symm, k5⟩
end V
namespace V
open PySem PySem.Spec PyProof.Rows L2 U
/-! ### one lemma a question -/
section
variable {K : PySem.W.Frag} {Z H : Hp} {so : Option (Addr × Addr)} {L L' : Cells} {a b p C dx : Addr} {o u : HO} {σ σ' : L2.St} {Q : VK} {QB : Bool → Hp → Prop} {x y z v : V} {i j : Int} {D : Ends}
variable {ta tb tc te to : TE} {t t' : TA} {tt tt' : TT} {s s' : TS} {f m : Str} {vs ws dvs : List V} {E : XK}
inductive SetAt : L2.St → Nat → V → L2.St → Prop
  | z {w σ v} : SetAt (w :: σ) 0 v (some v :: σ)
  | s {w σ i v σ'} : SetAt σ i v σ' → SetAt (w :: σ) (i + 1) v (w :: σ')
theorem SetAt.eq : ∀ {σ : L2.St} {i : Nat} {v : V} {σ' : L2.St}, SetAt σ i v σ' → σ.set i (some v) = σ'
  | _, _, _, _, .z => rfl
  | _, _, _, _, .s h => by rw [List.set_cons_succ, h.eq]
theorem w_var {n : Nat} (h : σ[n]? = some (some v)) (q : Q v H) : tVar n σ H Q := ⟨v, h, q⟩
theorem w_c (q : Q v H) : tC v σ H Q := q
theorem w_op {r : R2} (q : ta σ H fun x H1 => tb σ H1 fun y H2 => r x y H2 Q) : tOp r ta tb σ H Q := q
theorem w_un {r : V → Hp → VK → Prop} (q : ta σ H fun x H1 => r x H1 Q) : tUn r ta σ H Q := q
theorem w_ri {c : Int → Int → Prop} {g : Int → Int → V} (h : c i j) (q : Q (g i j) H) : rI c g (.int i) (.int j) H Q := ⟨i, j, rfl, rfl, h, q⟩
theorem w_ri0 {g : Int → Int → V} (q : Q (g i j) H) : rI0 g (.int i) (.int j) H Q := ⟨i, j, rfl, rfl, q⟩
theorem w_ru {g : Int → V} (q : Q (g i) H) : rU g (.int i) H Q := ⟨i, rfl, q⟩
theorem w_eq (h : scal x y = true) (q : Q (.bl (decide (x = y))) H) : rEq x y H Q := ⟨h, q⟩
theorem w_nei (h : scal x y = true) (q : Q (.bl (!decide (x = y))) H) : rNe x y H Q := ⟨h, q⟩
theorem w_eqI (q : Q (.bl (decide (i = j))) H) : rEq (.int i) (.int j) H Q := ⟨rfl, by
  have e : decide (V.int i = V.int j) = decide (i = j) := by simp
  rw [e]; exact q⟩
theorem w_eqS {a b : Str} (q : Q (.bl (decide (a = b))) H) : rEq (.str a) (.str b) H Q := ⟨rfl, by
  have e : decide (V.str a = V.str b) = decide (a = b) := by simp
  rw [e]; exact q⟩
theorem w_neI (q : Q (.bl (!decide (i = j))) H) : rNe (.int i) (.int j) H Q := ⟨rfl, by
  have e : decide (V.int i = V.int j) = decide (i = j) := by simp
  rw [e]; exact q⟩
theorem w_neS {a b : Str} (q : Q (.bl (!decide (a = b))) H) : rNe (.str a) (.str b) H Q := ⟨rfl, by
  have e : decide (V.str a = V.str b) = decide (a = b) := by simp
  rw [e]; exact q⟩
/-- a bool at last -/
def gBl (Q : Bool → Hp → Prop) (x : V) (H : Hp) : Prop := ∃ c, x = .bl c ∧ Q c H
theorem w_bl {c : Bool} (q : QB c H) : gBl QB (.bl c) H := ⟨c, rfl, q⟩
theorem w_b (q : te σ H (gBl QB)) : tB te σ H QB := q
theorem w_test (q : te σ H (gBl QB)) : tTest te σ H QB := q
theorem w_and (q : tt σ H fun c H1 => if c = true then tt' σ H1 QB else QB false H1) : tAnd tt tt' σ H QB := q
theorem w_or (q : tt σ H fun c H1 => if c = true then QB true H1 else tt' σ H1 QB) : tOr tt tt' σ H QB := q
theorem w_not (q : tt σ H fun c H1 => QB (!c) H1) : tNot tt σ H QB := q
theorem w_andV (q : ta σ H (gBl fun c H1 => if c = true then tb σ H1 Q else Q (.bl false) H1)) : tAndV ta tb σ H Q := q
theorem w_orV (q : ta σ H (gBl fun c H1 => if c = true then Q (.bl true) H1 else tb σ H1 Q)) : tOrV ta tb σ H Q := q
theorem w_notV (q : ta σ H (gBl fun c H1 => Q (.bl (!c)) H1)) : tNotV ta σ H Q := q
theorem w_if (q : tt σ H fun c H1 => if c = true then ta σ H1 Q else tb σ H1 Q) : tIf tt ta tb σ H Q := q
theorem w_isN (q : ta σ H fun x H1 => Q (.bl (decide (x = .non))) H1) : tIsN ta σ H Q := q
theorem w_isn {A : Prop} (q : A) : V.non = V.non ∧ A := ⟨rfl, q⟩
theorem w_yes (q : QB true H) : tYes σ H QB := q
theorem w_seq (q : s { D with nx := s' D } σ H) : tSeq s s' D σ H := q
theorem w_next (q : D.nx σ H) : tNext D σ H := q
theorem w_break (q : D.bk σ H) : tBreak D σ H := q
theorem w_cont (q : D.ct σ H) : tCont D σ H := q
theorem w_drop (q : te σ H fun _ H1 => D.nx σ H1) : tDrop te D σ H := q
theorem w_ret (q : te σ H D.rt) : tRet te D σ H := q
theorem w_retN (q : D.rt .non H) : tRetN D σ H := q
theorem w_ifS (q : tt σ H fun b H1 => if b = true then s D σ H1 else s' D σ H1) : tIfS tt s s' D σ H := q
theorem w_asg {g : TG} (q : te σ H fun x H1 => g x σ H1 D.nx) : tAsg te g D σ H := q
theorem w_name {n : Nat} {R : L2.St → Hp → Prop} (h : SetAt σ n v σ') (q : R σ' H) : gName n v σ H R := by unfold gName; rw [h.eq]; exact q
theorem w_aug {n : Nat} {ti : TIp} (h : σ[n]? = some (some x)) (q : te σ H fun y H1 => ti x y H1 fun z H2 => gName n z σ H2 D.nx) : tAug n te ti D σ H := ⟨x, h, q⟩
theorem w_Dnx {nx bk ct : L2.St → Hp → Prop} {rt : VK} (q : nx σ H) : Ends.nx ⟨nx, rt, bk, ct⟩ σ H := q
theorem w_Drt {nx bk ct : L2.St → Hp → Prop} {rt : VK} (q : rt v H) : Ends.rt ⟨nx, rt, bk, ct⟩ v H := q
theorem w_Dbk {nx bk ct : L2.St → Hp → Prop} {rt : VK} (q : bk σ H) : Ends.bk ⟨nx, rt, bk, ct⟩ σ H := q
theorem w_Dct {nx bk ct : L2.St → Hp → Prop} {rt : VK} (q : ct σ H) : Ends.ct ⟨nx, rt, bk, ct⟩ σ H := q
/-! attributes -/
def gFld (K : PySem.W.Frag) (f : Str) (Q : VK) (x : V) (H1 : Hp) : Prop := ∃ a C dx fs v, x = .ref a ∧ H1 a = some (.ins C dx fs) ∧ Cls K C ∧ NoAttr K C f ∧ fs.lookup f = some v ∧ Q v H1
theorem w_fld (q : ta σ H (gFld K f Q)) : tFld K ta f σ H Q := q
theorem w_fld2 {fs : List (Str × V)} (h : H a = some (.ins C dx fs)) (c : Cls K C) (n : NoAttr K C f) (l : fs.lookup f = some v) (q : Q v H) : gFld K f Q (.ref a) H := ⟨a, C, dx, fs, v, rfl, h, c, n, l, q⟩
/-! dicts -/
def gDGet (Q : VK) (x y : V) (H2 : Hp) : Prop := ∃ a v, x = .ref a ∧ DGet H2 a y (some v) ∧ Q v H2
def gDIn (Q : VK) (x y : V) (H2 : Hp) : Prop := ∃ a o, x = .ref a ∧ DGet H2 a y o ∧ Q (.bl o.isSome) H2
def gDNotIn (Q : VK) (x y : V) (H2 : Hp) : Prop := ∃ a o, x = .ref a ∧ DGet H2 a y o ∧ Q (.bl (!o.isSome)) H2
theorem w_dget (q : ta σ H fun x H1 => tb σ H1 fun y H2 => gDGet Q x y H2) : tDGet ta tb σ H Q := q
theorem w_din (q : tb σ H fun y H1 => ta σ H1 fun x H2 => gDIn Q x y H2) : tDIn tb ta σ H Q := q
theorem w_dnin (q : tb σ H fun y H1 => ta σ H1 fun x H2 => gDNotIn Q x y H2) : tDNotIn tb ta σ H Q := q
theorem w_dgetS {kvs : List (Key × V)} {k : Str} (h : H a = some (.dK kvs)) (l : valV kvs (Sum.inr k) = some v) (q : Q v H) : gDGet Q (.ref a) (.str k) H := ⟨a, v, rfl, l ▸ DGet.k (k := Sum.inr k) h, q⟩
theorem w_dgetI {kvs : List (Key × V)} {k : Int} (h : H a = some (.dK kvs)) (l : valV kvs (Sum.inl k) = some v) (q : Q v H) : gDGet Q (.ref a) (.int k) H := ⟨a, v, rfl, l ▸ DGet.k (k := Sum.inl k) h, q⟩
theorem w_dinS {kvs : List (Key × V)} {k : Str} (h : H a = some (.dK kvs)) (q : Q (.bl (valV kvs (Sum.inr k)).isSome) H) : gDIn Q (.ref a) (.str k) H := ⟨a, _, rfl, DGet.k (k := Sum.inr k) h, q⟩
theorem w_dninS {kvs : List (Key × V)} {k : Str} (h : H a = some (.dK kvs)) (q : Q (.bl (!(valV kvs (Sum.inr k)).isSome)) H) : gDNotIn Q (.ref a) (.str k) H := ⟨a, _, rfl, DGet.k (k := Sum.inr k) h, q⟩
theorem w_dnin1 {kvs : List (Key × V)} {k : Str} (h : H a = some (.dK kvs)) (l : valV kvs (Sum.inr k) = some v) (q : Q (.bl false) H) : gDNotIn Q (.ref a) (.str k) H := w_dninS h (by rw [l]; exact q)
theorem w_dnin0 {kvs : List (Key × V)} {k : Str} (h : H a = some (.dK kvs)) (l : valV kvs (Sum.inr k) = none) (q : Q (.bl true) H) : gDNotIn Q (.ref a) (.str k) H := w_dninS h (by rw [l]; exact q)
theorem w_din1 {kvs : List (Key × V)} {k : Str} (h : H a = some (.dK kvs)) (l : valV kvs (Sum.inr k) = some v) (q : Q (.bl true) H) : gDIn Q (.ref a) (.str k) H := w_dinS h (by rw [l]; exact q)
theorem w_din0 {kvs : List (Key × V)} {k : Str} (h : H a = some (.dK kvs)) (l : valV kvs (Sum.inr k) = none) (q : Q (.bl false) H) : gDIn Q (.ref a) (.str k) H := w_dinS h (by rw [l]; exact q)
/-! new lists and tuples -/
def gTup (Q : VK) (xs : List V) (H1 : Hp) : Prop := xs.length ≤ sizeLine ∧ ∀ p, H1 p = none → Q (.ref p) (upd H1 p (.tup xs))
def gLst (Q : VK) (xs : List V) (H1 : Hp) : Prop := xs.length ≤ sizeLine ∧ ∀ p, H1 p = none → Q (.ref p) (upd H1 p (.lst xs))
theorem w_tup (q : t σ H (gTup Q)) : tTup t σ H Q := q
theorem w_lst (q : t σ H (gLst Q)) : tLst t σ H Q := q
theorem w_tup2 (w : Hw Z so H L) (l : vs.length ≤ sizeLine) (k : ∀ p H', H p = none → Hw Z so H' ((true, p, .tup vs) :: L) → Q (.ref p) H') : gTup Q vs H := ⟨l, fun p n => k p _ n (w.new n)⟩
theorem w_lst2 (w : Hw Z so H L) (l : vs.length ≤ sizeLine) (k : ∀ p H', H p = none → Hw Z so H' ((true, p, .lst vs) :: L) → Q (.ref p) H') : gLst Q vs H := ⟨l, fun p n => k p _ n (w.new n)⟩
theorem w_nil {R : List V → Hp → Prop} (q : R [] H) : tNil σ H R := q
theorem w_cons {R : List V → Hp → Prop} (q : ta σ H fun x H1 => t σ H1 fun xs H2 => R (x :: xs) H2) : tCons ta t σ H R := q
/-! sequences read -/
theorem w_ixL {xs : List V} (h : SqL K H a xs) (l : atI xs i = some v) (q : Q v H) : rIxL K (.ref a) (.int i) H Q := ⟨a, xs, i, v, rfl, rfl, h, l, q⟩
theorem w_ixT {xs : List V} (h : SqT K H a xs) (l : atI xs i = some v) (q : Q v H) : rIxT K (.ref a) (.int i) H Q := ⟨a, xs, i, v, rfl, rfl, h, l, q⟩
theorem w_ixLs {xs : List V} (h : SqL K H a xs) (l : atI xs i = some v) (q : Q v H) : rIxLT K (.ref a) (.int i) H Q := .inl (w_ixL h l q)
theorem w_ixTs {xs : List V} (h : SqT K H a xs) (l : atI xs i = some v) (q : Q v H) : rIxLT K (.ref a) (.int i) H Q := .inr (w_ixT h l q)
theorem w_sl {r : V → Option Int → Option Int → Hp → VK → Prop} {tl th : TO} (q : te σ H fun x H1 => tl σ H1 fun l H2 => th σ H2 fun u H3 => r x l u H3 Q) : tSl r te tl th σ H Q := q
theorem w_nopart {R : Option Int → Hp → Prop} (q : R none H) : tNoPart σ H R := q
def gPart (R : Option Int → Hp → Prop) (x : V) (H1 : Hp) : Prop := ∃ i, x = .int i ∧ R (some i) H1
theorem w_part {R : Option Int → Hp → Prop} (q : te σ H (gPart R)) : tPart te σ H R := q
theorem w_part2 {R : Option Int → Hp → Prop} (q : R (some i) H) : gPart R (.int i) H := ⟨i, rfl, q⟩
theorem w_slL {xs : List V} {lo hi : Option Int} (w : Hw Z so H L) (h : SqL K H a xs) (k : ∀ p H', H p = none → Hw Z so H' ((true, p, .lst (cutV xs lo hi)) :: L) → Q (.ref p) H') : rSlL K (.ref a) lo hi H Q := ⟨a, xs, rfl, h, fun p n => k p _ n (w.new n)⟩
/-! calls -/
theorem w_call {sp : Sp} (q : t σ H fun vs H1 => sp vs H1 Q E) : tCall sp [] E t σ H Q := by
  have e : (fun vs H1 => sp (vs ++ []) H1 Q E) = fun vs H1 => sp vs H1 Q E := by funext vs H1; rw [List.append_nil]
  show t σ H fun vs H1 => sp (vs ++ []) H1 Q E
  rw [e]; exact q
theorem w_cf {sp : Sp} (q : t σ H fun vs H1 => sp vs H1 Q E0) : tCF sp t σ H Q := q
def gMeth (C : Addr) (m : Str) (sp : Sp) (E : XK) (t : TA) (σ : L2.St) (Q : VK) (x : V) (H1 : Hp) : Prop := ∃ a dx fs, x = .ref a ∧ H1 a = some (.ins C dx fs) ∧ fs.lookup m = none ∧ t σ H1 fun vs H2 => sp (x :: vs) H2 Q E
theorem w_meth {sp : Sp} (q : ta σ H (gMeth C m sp E t σ Q)) : tMeth C m sp [] E ta t σ H Q := by
  unfold tMeth
  simp only [List.append_nil]
  exact q
theorem w_meth2 {sp : Sp} {fs : List (Str × V)} (h : H a = some (.ins C dx fs)) (n : fs.lookup m = none) (q : t σ H fun vs H2 => sp (.ref a :: vs) H2 Q E) : gMeth C m sp E t σ Q (.ref a) H := ⟨a, dx, fs, rfl, h, n, q⟩
theorem w_cb {r : List V → Hp → VK → Prop} (q : t σ H fun vs H1 => r vs H1 Q) : tCB r t σ H Q := q
def gMk (C : Addr) (sp : Sp) (dvs : List V) (E : XK) (Q : VK) (vs : List V) (H1 : Hp) : Prop := ∀ x dx, H1 x = none → H1 dx = none → dx ≠ x → sp (.ref x :: (vs ++ dvs)) (upd (upd H1 dx (.own x)) x (.ins C dx [])) (fun v H2 => v = .non ∧ Q (.ref x) H2) E
theorem w_mk {sp : Sp} (q : t σ H (gMk C sp dvs E Q)) : tMake C sp dvs E t σ H Q := q
def gMkK (C : Addr) (n m : Nat) (sp : Sp) (gV : List V → List V → List V) (E : XK) (Q : VK) (vs zs : List V) (H2 : Hp) : Prop := vs.length = n ∧ zs.length = m ∧ ∀ x dx, H2 x = none → H2 dx = none → dx ≠ x → sp (gV (.ref x :: vs) zs) (upd (upd H2 dx (.own x)) x (.ins C dx [])) (fun v H3 => v = .non ∧ Q (.ref x) H3) E
theorem w_mkK {n k : Nat} {sp : Sp} {gV : List V → List V → List V} {tk : TA} (q : t σ H fun vs H1 => tk σ H1 fun zs H2 => gMkK C n k sp gV E Q vs zs H2) : tMakeK C n k sp gV E t tk σ H Q := q
/-! methods of lists -/
def gBM (K : PySem.W.Frag) (T : String) (r : V → List V → Hp → VK → Prop) (t : TA) (σ : L2.St) (Q : VK) (x : V) (H1 : Hp) : Prop := tyV K T x H1 ∧ t σ H1 fun xs H2 => r x xs H2 Q
def gBM0 (K : PySem.W.Frag) (T : String) (r : V → List V → Hp → VK → Prop) (Q : VK) (x : V) (H1 : Hp) : Prop := tyV K T x H1 ∧ r x [] H1 Q
variable {T : String} {r : V → List V → Hp → VK → Prop}
theorem w_bm (q : to σ H (gBM K T r t σ Q)) : tBM K T r to t σ H Q := q
theorem w_bm0 (q : to σ H (gBM0 K T r Q)) : tBM0 K T r to σ H Q := q
theorem w_bmL {xs : List V} (h : SqL K H a xs) (q : t σ H fun ys H2 => r (.ref a) ys H2 Q) : gBM K "list" r t σ Q (.ref a) H := ⟨.inl ⟨rfl, _, h⟩, q⟩
theorem w_bm0L {xs : List V} (h : SqL K H a xs) (q : r (.ref a) [] H Q) : gBM0 K "list" r Q (.ref a) H := ⟨.inl ⟨rfl, _, h⟩, q⟩
theorem w_bmD {kvs : List (Key × V)} (h : H a = some (.dK kvs)) (q : t σ H fun ys H2 => r (.ref a) ys H2 Q) : gBM K "dict" r t σ Q (.ref a) H := ⟨.inr (.inr (.inl ⟨rfl, .inl ⟨_, h⟩⟩)), q⟩
theorem w_bm0D {kvs : List (Key × V)} (h : H a = some (.dK kvs)) (q : r (.ref a) [] H Q) : gBM0 K "dict" r Q (.ref a) H := ⟨.inr (.inr (.inl ⟨rfl, .inl ⟨_, h⟩⟩)), q⟩
theorem w_bmS {z : Str} (q : t σ H fun ys H2 => r (.str z) ys H2 Q) : gBM K "str" r t σ Q (.str z) H := ⟨rfl, q⟩
theorem w_bm0S {z : Str} (q : r (.str z) [] H Q) : gBM0 K "str" r Q (.str z) H := ⟨rfl, q⟩
theorem w_append {xs : List V} (w : Hw Z so H L) (h : At a (.lst xs) L) (u : Up a (.lst (xs ++ [y])) L L') (l : xs.length < sizeLine) (k : ∀ H', Hw Z so H' L' → Q .non H') : rAppend (.ref a) [y] H Q := ⟨a, xs, y, rfl, rfl, w.get h, l, k _ (w.up u)⟩
theorem w_pop {xs : List V} (w : Hw Z so H L) (h : At a (.lst (xs ++ [y])) L) (u : Up a (.lst xs) L L') (k : ∀ H', Hw Z so H' L' → Q y H') : rPop (.ref a) [] H Q := ⟨a, xs ++ [y], y, rfl, rfl, w.get h, by simp, by rw [List.dropLast_concat]; exact k _ (w.up u)⟩
theorem w_setL {xs : List V} {n : Nat} {k : Int} {R : Hp → Prop} (w : Hw Z so H L) (h : At a (.lst xs) L) (u : Up a (.lst (xs.set n v)) L L') (l : ixN xs.length k = some n) (q : ∀ H', Hw Z so H' L' → R H') : rSetL (.ref a) (.int k) v H R := ⟨a, xs, k, n, rfl, rfl, w.get h, l, q _ (w.up u)⟩
/-! stores -/
theorem ixN_nat {n j : Nat} (h : j < n) : ixN n (j : Int) = some j := by
  unfold ixN
  rw [if_pos (by omega), if_pos (by omega)]; simp
theorem w_gsub {ti : TE} {ts : TSet} {R : L2.St → Hp → Prop} (q : to σ H fun o H1 => ti σ H1 fun i H2 => ts o i v H2 fun H3 => R σ H3) : gSub to ti ts v σ H R := q
theorem w_setR {xs : List V} {n : Nat} {k : Int} {R : Hp → Prop} (h : H a = some (.lst xs)) (l : ixN xs.length k = some n) (q : R (upd H a (.lst (xs.set n v)))) : rSetL (.ref a) (.int k) v H R := ⟨a, xs, k, n, rfl, rfl, h, l, q⟩
theorem putLt {n : Nat} {fs : List (Str × V)} (h : fs.length < n) : (putF f y fs).length < n + 1 := Nat.lt_of_le_of_lt (putF_le _ _ _) (Nat.succ_lt_succ h)
def gSF (K : PySem.W.Frag) (f : Str) (D : Ends) (σ : L2.St) (y x : V) (H2 : Hp) : Prop := ∃ a C dx fs, x = .ref a ∧ H2 a = some (.ins C dx fs) ∧ Cls K C ∧ NoAttr K C f ∧ fs.length < 1000 ∧ D.nx σ (upd H2 a (.ins C dx (putF f y fs)))
theorem w_sfld {tv : TE} (q : tv σ H fun y H1 => ta σ H1 fun x H2 => gSF K f D σ y x H2) : sFld K ta tv f D σ H := q
theorem w_sfld2 {fs fs' : List (Str × V)} (w : Hw Z so H L) (h : At a (.ins C dx fs) L) (c : Cls K C) (n : NoAttr K C f) (l : fs.length < 1000) (e : putF f y fs = fs') (u : Up a (.ins C dx fs') L L') (q : ∀ H', Hw Z so H' L' → D.nx σ H') : gSF K f D σ y (.ref a) H := ⟨a, C, dx, fs, rfl, w.get h, c, n, l, q _ (e ▸ w.up u)⟩
def gDP (D : Ends) (σ : L2.St) (v x y : V) (H3 : Hp) : Prop := ∃ a H4, x = .ref a ∧ DPut H3 a y v H4 ∧ D.nx σ H4
theorem w_dput {td ty tv : TE} (q : tv σ H fun v H1 => td σ H1 fun x H2 => ty σ H2 fun y H3 => gDP D σ v x y H3) : sDPut td ty tv D σ H := q
theorem w_dputS {kvs kvs' : List (Key × V)} {k : Str} (w : Hw Z so H L) (h : At a (.dK kvs) L) (l : kvs.length < sizeLine) (e : putK kvs (Sum.inr k) v = kvs') (u : Up a (.dK kvs') L L') (q : ∀ H', Hw Z so H' L' → D.nx σ H') : gDP D σ v (.ref a) (.str k) H := ⟨a, _, rfl, DPut.k (k := Sum.inr k) (w.get h) l, q _ (e ▸ w.up u)⟩
/-! texts -/
def gFmt (Q : VK) (x : V) (H1 : Hp) : Prop := (∃ y : Str, x = .str y ∧ y.length ≤ sizeLine ∧ Q (.str y) H1) ∨ ∃ i : Int, x = .int i ∧ i.natAbs.log2 < 1920 ∧ Q (.str (toString i)) H1
theorem w_fmt (q : te σ H (gFmt Q)) : tFmt te σ H Q := q
theorem w_fmtS {z : Str} (l : z.length ≤ sizeLine) (q : Q (.str z) H) : gFmt Q (.str z) H := .inl ⟨z, rfl, l, q⟩
theorem w_fmtI (l : i.natAbs.log2 < 1920) (q : Q (.str (num i)) H) : gFmt Q (.int i) H := .inr ⟨i, rfl, l, q⟩
end
section
variable {A B : Prop}
theorem iTT (h : A) : if true = true then A else B := iteT h
theorem iTF (h : B) : if false = true then A else B := iteF h
theorem iNT (h : B) : if (!true) = true then A else B := iteF h
theorem iNF (h : A) : if (!false) = true then A else B := iteT h
end
/-- the ways of an if meet in B -/
theorem meetIf {s s' : TS} {D : Ends} {σ : L2.St} {H : Hp} {b : Bool} (B : L2.St → Hp → Prop) (h : ∀ D' : Ends, (∀ σ H, B σ H → D'.nx σ H) → D'.rt = D.rt → D'.bk = D.bk → D'.ct = D.ct → if b = true then s D' σ H else s' D' σ H) (k : ∀ σ H, B σ H → D.nx σ H) : if b = true then s D σ H else s' D σ H := h D k rfl rfl rfl
/-! ### int, bool, len, str, list -/
def rInt1 : List V → Hp → VK → Prop := fun xs H Q => (∃ i, xs = [.int i] ∧ Q (.int i) H) ∨ ∃ k, xs = [.bl k] ∧ Q (.int (if k then 1 else 0)) H
def rBool1 : List V → Hp → VK → Prop := fun xs H Q => (∃ i, xs = [.int i] ∧ Q (.bl (i != 0)) H) ∨ ∃ k, xs = [.bl k] ∧ Q (.bl k) H
def rStrI : List V → Hp → VK → Prop := fun xs H Q => ∃ i, xs = [.int i] ∧ i.natAbs.log2 < 1920 ∧ Q (.str (toString i)) H
def rLen (K : PySem.W.Frag) : List V → Hp → VK → Prop := fun xs H Q => ∃ p ys, xs = [V.ref p] ∧ (SqL K H p ys ∨ SqT K H p ys) ∧ Q (V.int (ys.length : Int)) H
def rListOf (K : PySem.W.Frag) : List V → Hp → VK → Prop := fun xs H Q => ∃ p ys, xs = [.ref p] ∧ (SqL K H p ys ∨ SqT K H p ys) ∧ ∀ l, H l = none → Q (.ref l) (upd H l (.lst ys))
theorem call_int1 {X : Cx} : CallR X (.type "int") rInt1 := L2.call_int1
theorem call_bool1 {X : Cx} : CallR X (.type "bool") rBool1 := L2.call_bool1
theorem call_str {X : Cx} : CallR X (.type "str") rStrI := L2.call_str_int
theorem call_len {X : Cx} (K : PySem.W.Frag) (h : X.K = K) : CallR X (.builtin "len") (rLen K) := by subst h; exact call_len_seq
theorem call_list {X : Cx} (K : PySem.W.Frag) (h : X.K = K) : CallR X (.type "list") (rListOf K) := by subst h; exact call_list_of
section
variable {K : PySem.W.Frag} {Z H : Hp} {so : Option (Addr × Addr)} {L : Cells} {a : Addr} {Q : VK} {i : Int} {b : Bool} {xs : List V}
theorem w_int1 (q : Q (.int i) H) : rInt1 [.int i] H Q := .inl ⟨i, rfl, q⟩
theorem w_int1b (q : Q (.int (if b then 1 else 0)) H) : rInt1 [.bl b] H Q := .inr ⟨b, rfl, q⟩
theorem w_bool1 (q : Q (.bl b) H) : rBool1 [.bl b] H Q := .inr ⟨b, rfl, q⟩
theorem w_str (l : i.natAbs.log2 < 1920) (q : Q (.str (num i)) H) : rStrI [.int i] H Q := ⟨i, rfl, l, q⟩
theorem w_lenL (h : SqL K H a xs) (q : Q (.int (xs.length : Int)) H) : rLen K [.ref a] H Q := ⟨a, xs, rfl, .inl (h), q⟩
theorem w_lenT (h : SqT K H a xs) (q : Q (.int (xs.length : Int)) H) : rLen K [.ref a] H Q := ⟨a, xs, rfl, .inr (h), q⟩
theorem w_listL (w : Hw Z so H L) (h : SqL K H a xs) (k : ∀ p H', H p = none → Hw Z so H' ((true, p, .lst xs) :: L) → Q (.ref p) H') : rListOf K [.ref a] H Q := ⟨a, xs, rfl, .inl (h), fun p n => k p _ n (w.new n)⟩
end
/-! ### texts -/
def rJoin (K : PySem.W.Frag) : V → List V → Hp → VK → Prop := fun x xs H Q => ∃ a p, ∃ ys : List Str, x = .str a ∧ xs = [.ref p] ∧ (SqL K H p (ys.map V.str) ∨ SqT K H p (ys.map V.str)) ∧ (ys.map (·.length)).sum + ys.length * a.length ≤ 16777216 ∧ Q (.str (Txt.join a ys)) H
section
variable {X : Cx} {o e : Expr} {to te : TE}
theorem pe_join (K : PySem.W.Frag) (hK : X.K = K) {apos pos : Pos} (ho : PE X o to) (he : PE X e te) (hs : starEach [e] X.env = [(false, eval e X.env)] := by rfl) (hbase : attributeBase o "join" X.env (eval o X.env) = eval o X.env := by rfl) (hline : (apos.endLine == pos.line) = true := by rfl) :
    PE X (.Call (.Attribute o "join" apos) [e] [] pos) (tM1 (rJoin K) to te) := by subst hK; exact L2.pe_join ho he hs hbase hline
end
theorem op_addS {X : Cx} : OpR X (binaryOp .Add) rAddS := op_add_str
theorem w_addS {a b : Str} {H : Hp} {Q : VK} (l : a.length + b.length ≤ sizeLine) (q : Q (.str (a ++ b)) H) : rAddS (.str a) (.str b) H Q := ⟨a, b, rfl, rfl, l, q⟩
theorem w_cat {Z H : Hp} {so : Option (Addr × Addr)} {L : Cells} {a b : Addr} {xs ys : List V} {Q : VK} (w : Hw Z so H L) (h1 : H a = some (.lst xs)) (h2 : H b = some (.lst ys)) (l : xs.length + ys.length ≤ sizeLine) (k : ∀ p H', H p = none → Hw Z so H' ((true, p, .lst (xs ++ ys)) :: L) → Q (.ref p) H') : rCat (.ref a) (.ref b) H Q := ⟨a, b, xs, ys, rfl, rfl, h1, h2, l, fun p n => k p _ n (w.new n)⟩
theorem w_gtup {K : PySem.W.Frag} {H : Hp} {a : Addr} {xs : List V} {n : Nat} {t : TGs} {σ : L2.St} {R : L2.St → Hp → Prop} (h : SqT K H a xs) (l : xs.length = n) (q : t xs σ H R) : L2.gTup K n t (.ref a) σ H R := ⟨a, xs, rfl, h, l, q⟩
theorem w_gcons {H : Hp} {v : V} {r : List V} {t : TG} {u : TGs} {σ : L2.St} {R : L2.St → Hp → Prop} (q : t v σ H fun σ' H' => u r σ' H' R) : gCons t u (v :: r) σ H R := ⟨v, r, rfl, q⟩
theorem w_gnil {H : Hp} {σ : L2.St} {R : L2.St → Hp → Prop} (q : R σ H) : gNil [] σ H R := ⟨rfl, q⟩
theorem w_inL {K : PySem.W.Frag} {H : Hp} {a : Addr} {x : V} {xs : List V} {Q : VK} (h : SqL K H a xs) (fx : flatV x = true) (fs : xs.all flatV = true) (q : Q (.bl (inV x xs)) H) : rIn K false x (.ref a) H Q := ⟨a, xs, rfl, .inl h, fx, fs, q⟩
theorem w_notInL {K : PySem.W.Frag} {H : Hp} {a : Addr} {x : V} {xs : List V} {Q : VK} (h : SqL K H a xs) (fx : flatV x = true) (fs : xs.all flatV = true) (q : Q (.bl (!inV x xs)) H) : rIn K true x (.ref a) H Q := ⟨a, xs, rfl, .inl h, fx, fs, q⟩
def gJs (ts : List TE) (acc : Str) (σ : L2.St) (R : Str → Hp → Prop) (x : V) (H1 : Hp) : Prop := ∃ y : Str, x = .str y ∧ (acc ++ y).length ≤ sizeLine ∧ tJs ts (acc ++ y) σ H1 R
theorem w_js0 {acc : Str} {σ : L2.St} {H : Hp} {R : Str → Hp → Prop} (q : R acc H) : tJs [] acc σ H R := q
theorem w_js1 {t : TE} {ts : List TE} {acc : Str} {σ : L2.St} {H : Hp} {R : Str → Hp → Prop} (q : t σ H (gJs ts acc σ R)) : tJs (t :: ts) acc σ H R := q
theorem w_js2 {ts : List TE} {acc y : Str} {σ : L2.St} {H : Hp} {R : Str → Hp → Prop} (l : (acc ++ y).length ≤ sizeLine) (q : tJs ts (acc ++ y) σ H R) : gJs ts acc σ R (.str y) H := ⟨y, rfl, l, q⟩
def gM1 (r : V → List V → Hp → VK → Prop) (te : TE) (σ : L2.St) (Q : VK) (x : V) (H1 : Hp) : Prop := (∃ a, x = .str a) ∧ te σ H1 fun y H2 => r x [y] H2 Q
section
variable {K : PySem.W.Frag} {H : Hp} {σ : L2.St} {Q : VK} {to te : TE} {p : Addr} {i : Int} {c : Nat} {z : Str}
theorem w_m1 {r : V → List V → Hp → VK → Prop} (q : to σ H (gM1 r te σ Q)) : tM1 r to te σ H Q := q
theorem w_m1s {r : V → List V → Hp → VK → Prop} (q : te σ H fun y H2 => r (.str z) [y] H2 Q) : gM1 r te σ Q (.str z) H := ⟨⟨z, rfl⟩, q⟩
theorem w_join {ys : List Str} (h : SqL K H p (ys.map V.str)) (l : (ys.map (·.length)).sum + ys.length * z.length ≤ 16777216) (q : Q (.str (Txt.join z ys)) H) : rJoin K (.str z) [.ref p] H Q := ⟨z, p, ys, rfl, rfl, .inl h, l, q⟩
theorem w_ixS (l : z.length ≤ sizeLine) (h : atI z.cps.toList i = some c) (q : Q (.str ⟨#[c]⟩) H) : rIxS (.str z) (.int i) H Q := ⟨z, i, c, rfl, rfl, l, h, q⟩
end
theorem seqT {K : PySem.W.Frag} {H H' : Hp} {a : Addr} {xs : List V} (e : Same H H') (h : SqT K H a xs) : SqT K H' a xs := by
  rcases h with h | h
  · refine .inl ?_
    rcases h with h | ⟨o, h⟩
    · exact .inl (e _ _ h)
    · exact .inr ⟨o, e _ _ h⟩
  · exact .inr h
/-! ### comprehensions: F i is what the new list holds ahead of turn i -/
def LcI (Z : Hp) (so : Option (Addr × Addr)) (L : Cells) (D : Addr) (xs : List V) (H : Hp) : Prop := Hw Z so H ((true, D, .lst xs) :: L)
def DcI (Z : Hp) (so : Option (Addr × Addr)) (L : Cells) (D : Addr) (kvs : List (Key × V)) (H : Hp) : Prop := Hw Z so H ((true, D, .dK kvs) :: L)
def gAcc (D : Addr) (Nx : Hp → Prop) (y : V) (H4 : Hp) : Prop := ∃ acc, H4 D = some (.lst acc) ∧ acc.length < sizeLine ∧ Nx (upd H4 D (.lst (acc ++ [y])))
def gDcc (D : Addr) (Nx : Hp → Prop) (y z : V) (H5 : Hp) : Prop := ∃ kvs k, y = kV k ∧ H5 D = some (.dK kvs) ∧ kvs.length < sizeLine ∧ Nx (upd H5 D (.dK (putK kvs k z)))
inductive Wi : L2.St → List Nat → L2.St → Prop
  | nil {σ} : Wi σ [] σ
  | cons {σ v vs σ'} (h : Wi σ vs σ') : Wi σ (v :: vs) (σ'.set v none)
theorem Wi.eq : ∀ {σ : L2.St} {vs : List Nat} {σ' : L2.St}, Wi σ vs σ' → wipe σ vs = σ'
  | _, _, _, .nil => rfl
  | _, _, _, .cons h => by rw [← h.eq]; rfl
section
variable {K : PySem.W.Frag} {Z H H' : Hp} {so : Option (Addr × Addr)} {L L' : Cells} {a D : Addr} {xs : List V} {y z : V} {g : TG} {tt : TT} {te tk tv : TE} {vs : List Nat} {σ σw : L2.St}
theorem w_acc {xs ys : List V} (w : Hw Z so H' L') (s : Sub ((true, D, .lst xs) :: L) L') (l : xs.length < sizeLine) (e : ys = xs ++ [y]) : gAcc D (LcI Z so L D ys) y H' := ⟨xs, (w.sub s).get .here, l, e ▸ (w.sub s).up .here⟩
theorem w_noacc {xs ys : List V} (w : Hw Z so H' L') (s : Sub ((true, D, .lst xs) :: L) L') (e : ys = xs) : LcI Z so L D ys H' := e ▸ w.sub s
theorem w_dccS {kvs kws : List (Key × V)} {k : Str} (w : Hw Z so H' L') (s : Sub ((true, D, .dK kvs) :: L) L') (l : kvs.length < sizeLine) (e : kws = putK kvs (Sum.inr k) z) : gDcc D (DcI Z so L D kws) (.str k) z H' := ⟨kvs, Sum.inr k, rfl, (w.sub s).get .here, l, e ▸ (w.sub s).up .here⟩
theorem w_dccI {kvs kws : List (Key × V)} {k : Int} (w : Hw Z so H' L') (s : Sub ((true, D, .dK kvs) :: L) L') (l : kvs.length < sizeLine) (e : kws = putK kvs (Sum.inl k) z) : gDcc D (DcI Z so L D kws) (.int k) z H' := ⟨kvs, Sum.inl k, rfl, (w.sub s).get .here, l, e ▸ (w.sub s).up .here⟩
theorem Hw.newU (w : Hw Z so H L) (n : H D = none) (o : HO) : Hw Z so (upd H D o) ((true, D, o) :: L) := w.new n
/-- over a list -/
theorem lcW {Qd : Addr → Hp → Prop} (F : Nat → List V) (w : Hw Z so H L) (hw : Wi σ vs σw) (hl : ∀ H', Hw Z so H' L → SqL K H' a xs) (h0 : F 0 = [])
    (hs : ∀ (i : Nat) (x : V) (D : Addr) (H' : Hp), xs[i]? = some x → Hw Z so H' ((true, D, .lst (F i)) :: L) → g x σw H' fun σ2 H2 => wipe σ2 vs = σw ∧ tt σ2 H2 fun b H3 =>
      if b = true then te σ2 H3 fun y H4 => gAcc D (LcI Z so L D (F (i + 1))) y H4 else LcI Z so L D (F (i + 1)) H3)
    (hd : ∀ (D : Addr) (H' : Hp), Hw Z so H' ((true, D, .lst (F xs.length)) :: L) → Qd D H') :
    ∀ D, H D = none → ∃ W : Nat → Nat → Hp → Prop, (∃ m, W 0 m (upd H D (.lst []))) ∧ ∀ i m H, W i m H →
      ((Itl K a).stop i H ∧ Qd D H) ∨ ((Itl K a).go i H ∧ ∃ Nx : Hp → Prop, (∀ H', Nx H' → ∃ m', m' < m ∧ W (i + 1) m' H') ∧ ∀ x H', (Itl K a).yld i H x H' → g x (wipe σ vs) H' fun σ2 H2 => wipe σ2 vs = wipe σ vs ∧ tt σ2 H2 fun b H3 =>
        if b = true then te σ2 H3 fun y H4 => ∃ acc, H4 D = some (.lst acc) ∧ acc.length < sizeLine ∧ Nx (upd H4 D (.lst (acc ++ [y]))) else Nx H3) := fun D n => by
  rw [hw.eq]
  refine UW.loopL (xs := xs) (fun i H => LcI Z so L D (F i) H) (by rw [h0]; exact w.new n) (fun i H h => hl H (h.sub (.skip (.refl _)))) (fun i x H hx h => ?_) (fun H h => hd D H h)
  exact hs i x D H hx h
/-- over lo, lo + 1, .. -/
theorem lcRW {Qd : Addr → Hp → Prop} {lo : Int} {n : Nat} (F : Nat → List V) (w : Hw Z so H L) (hw : Wi σ vs σw) (h0 : F 0 = [])
    (hs : ∀ (i : Nat) (D : Addr) (H' : Hp), i < n → Hw Z so H' ((true, D, .lst (F i)) :: L) → g (.int (lo + i)) σw H' fun σ2 H2 => wipe σ2 vs = σw ∧ tt σ2 H2 fun b H3 =>
      if b = true then te σ2 H3 fun y H4 => gAcc D (LcI Z so L D (F (i + 1))) y H4 else LcI Z so L D (F (i + 1)) H3)
    (hd : ∀ (D : Addr) (H' : Hp), Hw Z so H' ((true, D, .lst (F n)) :: L) → Qd D H') :
    ∀ D, H D = none → ∃ W : Nat → Nat → Hp → Prop, (∃ m, W 0 m (upd H D (.lst []))) ∧ ∀ i m H, W i m H →
      ((Itr lo n).stop i H ∧ Qd D H) ∨ ((Itr lo n).go i H ∧ ∃ Nx : Hp → Prop, (∀ H', Nx H' → ∃ m', m' < m ∧ W (i + 1) m' H') ∧ ∀ x H', (Itr lo n).yld i H x H' → g x (wipe σ vs) H' fun σ2 H2 => wipe σ2 vs = wipe σ vs ∧ tt σ2 H2 fun b H3 =>
        if b = true then te σ2 H3 fun y H4 => ∃ acc, H4 D = some (.lst acc) ∧ acc.length < sizeLine ∧ Nx (upd H4 D (.lst (acc ++ [y]))) else Nx H3) := fun D nn => by
  refine lc_range (fun i H => LcI Z so L D (F i) H) (by rw [h0]; exact w.new nn) (fun i H hi h => ?_) (fun H h => hd D H h)
  rw [hw.eq]
  exact hs i D H hi h
/-- a dict over lo, lo + 1, .. -/
theorem dcRW {Qd : Addr → Hp → Prop} {lo : Int} {n : Nat} (F : Nat → List (Key × V)) (w : Hw Z so H L) (hw : Wi σ vs σw) (h0 : F 0 = [])
    (hs : ∀ (i : Nat) (D : Addr) (H' : Hp), i < n → Hw Z so H' ((true, D, .dK (F i)) :: L) → g (.int (lo + i)) σw H' fun σ2 H2 => wipe σ2 vs = σw ∧ tt σ2 H2 fun b H3 =>
      if b = true then tk σ2 H3 fun y H4 => tv σ2 H4 fun z H5 => gDcc D (DcI Z so L D (F (i + 1))) y z H5 else DcI Z so L D (F (i + 1)) H3)
    (hd : ∀ (D : Addr) (H' : Hp), Hw Z so H' ((true, D, .dK (F n)) :: L) → Qd D H') :
    ∀ D, H D = none → ∃ W : Nat → Nat → Hp → Prop, (∃ m, W 0 m (upd H D (.dK []))) ∧ ∀ i m H, W i m H →
      ((Itr lo n).stop i H ∧ Qd D H) ∨ ((Itr lo n).go i H ∧ ∃ Nx : Hp → Prop, (∀ H', Nx H' → ∃ m', m' < m ∧ W (i + 1) m' H') ∧ ∀ x H', (Itr lo n).yld i H x H' → g x (wipe σ vs) H' fun σ2 H2 => wipe σ2 vs = wipe σ vs ∧ tt σ2 H2 fun b H3 =>
        if b = true then tk σ2 H3 fun y H4 => tv σ2 H4 fun z H5 => ∃ kvs k, y = kV k ∧ H5 D = some (.dK kvs) ∧ kvs.length < sizeLine ∧ Nx (upd H5 D (.dK (putK kvs k z))) else Nx H3) := fun D nn => by
  refine dc_rng (fun i H => DcI Z so L D (F i) H) (by rw [h0]; exact w.new nn) (fun i H hi h => ?_) (fun H h => hd D H h)
  rw [hw.eq]
  exact hs i D H hi h
/-- a dict over a list -/
theorem dcW {Qd : Addr → Hp → Prop} (F : Nat → List (Key × V)) (w : Hw Z so H L) (hw : Wi σ vs σw) (hl : ∀ H', Hw Z so H' L → SqL K H' a xs) (h0 : F 0 = [])
    (hs : ∀ (i : Nat) (x : V) (D : Addr) (H' : Hp), xs[i]? = some x → Hw Z so H' ((true, D, .dK (F i)) :: L) → g x σw H' fun σ2 H2 => wipe σ2 vs = σw ∧ tt σ2 H2 fun b H3 =>
      if b = true then tk σ2 H3 fun y H4 => tv σ2 H4 fun z H5 => gDcc D (DcI Z so L D (F (i + 1))) y z H5 else DcI Z so L D (F (i + 1)) H3)
    (hd : ∀ (D : Addr) (H' : Hp), Hw Z so H' ((true, D, .dK (F xs.length)) :: L) → Qd D H') :
    ∀ D, H D = none → ∃ W : Nat → Nat → Hp → Prop, (∃ m, W 0 m (upd H D (.dK []))) ∧ ∀ i m H, W i m H →
      ((Itl K a).stop i H ∧ Qd D H) ∨ ((Itl K a).go i H ∧ ∃ Nx : Hp → Prop, (∀ H', Nx H' → ∃ m', m' < m ∧ W (i + 1) m' H') ∧ ∀ x H', (Itl K a).yld i H x H' → g x (wipe σ vs) H' fun σ2 H2 => wipe σ2 vs = wipe σ vs ∧ tt σ2 H2 fun b H3 =>
        if b = true then tk σ2 H3 fun y H4 => tv σ2 H4 fun z H5 => ∃ kvs k, y = kV k ∧ H5 D = some (.dK kvs) ∧ kvs.length < sizeLine ∧ Nx (upd H5 D (.dK (putK kvs k z))) else Nx H3) := fun D n => by
  rw [hw.eq]
  refine UW.loopL (xs := xs) (fun i H => DcI Z so L D (F i) H) (by rw [h0]; exact w.new n) (fun i H h => hl H (h.sub (.skip (.refl _)))) (fun i x H hx h => ?_) (fun H h => hd D H h)
  exact hs i x D H hx h
/-! the same where the items are not told ahead, and frozen things may come along -/
def LcG (Z : Hp) (so : Option (Addr × Addr)) (L : Cells) (D : Addr) (P : Hp → List V → Prop) (H : Hp) : Prop := ∃ Z' acc, Same Z Z' ∧ P Z' acc ∧ Hw Z' so H ((true, D, .lst acc) :: L)
theorem w_accG {Z' : Hp} {P : Hp → List V → Prop} {acc : List V} (w : Hw Z' so H' L') (s : Sub ((true, D, .lst acc) :: L) L') (e : Same Z Z') (l : acc.length < sizeLine) (q : P Z' (acc ++ [y])) : gAcc D (LcG Z so L D P) y H' := ⟨acc, (w.sub s).get .here, l, Z', _, e, q, (w.sub s).up .here⟩
theorem w_noaccG {Z' : Hp} {P : Hp → List V → Prop} {acc : List V} (w : Hw Z' so H' L') (s : Sub ((true, D, .lst acc) :: L) L') (e : Same Z Z') (q : P Z' acc) : LcG Z so L D P H' := ⟨Z', _, e, q, w.sub s⟩
theorem lcG {Qd : Addr → Hp → Prop} (P : Nat → Hp → List V → Prop) (w : Hw Z so H L) (hw : Wi σ vs σw) (hl : ∀ Z' H', Same Z Z' → Hw Z' so H' L → SqL K H' a xs) (h0 : P 0 Z [])
    (hs : ∀ (i : Nat) (x : V) (D : Addr) (Z' H' : Hp) (acc : List V), xs[i]? = some x → Same Z Z' → P i Z' acc → Hw Z' so H' ((true, D, .lst acc) :: L) → g x σw H' fun σ2 H2 => wipe σ2 vs = σw ∧ tt σ2 H2 fun b H3 =>
      if b = true then te σ2 H3 fun y H4 => gAcc D (LcG Z so L D (P (i + 1))) y H4 else LcG Z so L D (P (i + 1)) H3)
    (hd : ∀ (D : Addr) (Z' H' : Hp) (acc : List V), Same Z Z' → P xs.length Z' acc → Hw Z' so H' ((true, D, .lst acc) :: L) → Qd D H') :
    ∀ D, H D = none → ∃ W : Nat → Nat → Hp → Prop, (∃ m, W 0 m (upd H D (.lst []))) ∧ ∀ i m H, W i m H →
      ((Itl K a).stop i H ∧ Qd D H) ∨ ((Itl K a).go i H ∧ ∃ Nx : Hp → Prop, (∀ H', Nx H' → ∃ m', m' < m ∧ W (i + 1) m' H') ∧ ∀ x H', (Itl K a).yld i H x H' → g x (wipe σ vs) H' fun σ2 H2 => wipe σ2 vs = wipe σ vs ∧ tt σ2 H2 fun b H3 =>
        if b = true then te σ2 H3 fun y H4 => ∃ acc, H4 D = some (.lst acc) ∧ acc.length < sizeLine ∧ Nx (upd H4 D (.lst (acc ++ [y]))) else Nx H3) := fun D n => by
  rw [hw.eq]
  refine UW.loopL (xs := xs) (fun i H => LcG Z so L D (P i) H) ⟨Z, [], fun _ _ e => e, h0, w.new n⟩ (fun i H ⟨Z', acc, e, _, h⟩ => hl Z' H e (h.sub (.skip (.refl _)))) (fun i x H hx ⟨Z', acc, e, q, h⟩ => ?_) (fun H ⟨Z', acc, e, q, h⟩ => hd D Z' H acc e q h)
  exact hs i x D Z' H acc hx e q h
theorem lcRG {Qd : Addr → Hp → Prop} {lo : Int} {n : Nat} (P : Nat → Hp → List V → Prop) (w : Hw Z so H L) (hw : Wi σ vs σw) (h0 : P 0 Z [])
    (hs : ∀ (i : Nat) (D : Addr) (Z' H' : Hp) (acc : List V), i < n → Same Z Z' → P i Z' acc → Hw Z' so H' ((true, D, .lst acc) :: L) → g (.int (lo + i)) σw H' fun σ2 H2 => wipe σ2 vs = σw ∧ tt σ2 H2 fun b H3 =>
      if b = true then te σ2 H3 fun y H4 => gAcc D (LcG Z so L D (P (i + 1))) y H4 else LcG Z so L D (P (i + 1)) H3)
    (hd : ∀ (D : Addr) (Z' H' : Hp) (acc : List V), Same Z Z' → P n Z' acc → Hw Z' so H' ((true, D, .lst acc) :: L) → Qd D H') :
    ∀ D, H D = none → ∃ W : Nat → Nat → Hp → Prop, (∃ m, W 0 m (upd H D (.lst []))) ∧ ∀ i m H, W i m H →
      ((Itr lo n).stop i H ∧ Qd D H) ∨ ((Itr lo n).go i H ∧ ∃ Nx : Hp → Prop, (∀ H', Nx H' → ∃ m', m' < m ∧ W (i + 1) m' H') ∧ ∀ x H', (Itr lo n).yld i H x H' → g x (wipe σ vs) H' fun σ2 H2 => wipe σ2 vs = wipe σ vs ∧ tt σ2 H2 fun b H3 =>
        if b = true then te σ2 H3 fun y H4 => ∃ acc, H4 D = some (.lst acc) ∧ acc.length < sizeLine ∧ Nx (upd H4 D (.lst (acc ++ [y]))) else Nx H3) := fun D nn => by
  refine lc_range (fun i H => LcG Z so L D (P i) H) ⟨Z, [], fun _ _ e => e, h0, w.new nn⟩ (fun i H hi ⟨Z', acc, e, q, h⟩ => ?_) (fun H ⟨Z', acc, e, q, h⟩ => hd D Z' H acc e q h)
  rw [hw.eq]
  exact hs i D Z' H acc hi e q h
/-- what a list comprehension walks: a list -/
def gIl (K : PySem.W.Frag) (R : It → Hp → Prop) (x : V) (H1 : Hp) : Prop := ∃ a, x = .ref a ∧ (∃ xs, SqL K H1 a xs) ∧ R (Itl K a) H1
theorem w_il {tl : TE} {R : It → Hp → Prop} (q : tl σ H (gIl K R)) : iList K tl σ H R := q
theorem w_il2 {R : It → Hp → Prop} (h : SqL K H a xs) (q : R (Itl K a) H) : gIl K R (.ref a) H := ⟨a, rfl, ⟨xs, h⟩, q⟩
def gIr1 (R : It → Hp → Prop) (vs : List V) (H1 : Hp) : Prop := ∃ j : Int, vs = [.int j] ∧ -(2 ^ 62) ≤ j ∧ j < 2 ^ 62 ∧ R (Itr 0 j.toNat) H1
theorem w_ir {ta : TA} {R : It → Hp → Prop} (q : ta σ H (gIr1 R)) : iRng1 ta σ H R := q
theorem w_ir1 {j : Int} {n : Nat} {R : It → Hp → Prop} (e : j = (n : Int)) (b : n < 4611686018427387904) (q : R (Itr 0 n) H) : gIr1 R [.int j] H := ⟨j, rfl, by omega, by omega, by rw [e]; exact q⟩
theorem w_for {wi : TI} {tb : TS} {D : Ends} (q : wi σ H fun J H1 => ∃ W : Nat → Nat → L2.St → Hp → Prop, (∃ m, W 0 m σ H1) ∧ ∀ i m σ H, W i m σ H →
  (J.stop i H ∧ D.nx σ H) ∨ (J.go i H ∧ ∃ N : L2.St → Hp → Prop, (∀ σ' H', N σ' H' → ∃ m', m' < m ∧ W (i + 1) m' σ' H') ∧ ∀ x H', J.yld i H x H' → g x σ H' fun σ2 H2 => tb { D with nx := N, ct := N, bk := D.nx } σ2 H2)) : tFor wi g tb D σ H := q
theorem w_lc {wi : TI} {Q : VK} (q : wi σ H fun J H1 => ∀ D, H1 D = none → ∃ W : Nat → Nat → Hp → Prop, (∃ m, W 0 m (upd H1 D (.lst []))) ∧ ∀ i m H, W i m H →
  (J.stop i H ∧ Q (.ref D) H) ∨ (J.go i H ∧ ∃ Nx : Hp → Prop, (∀ H', Nx H' → ∃ m', m' < m ∧ W (i + 1) m' H') ∧ ∀ x H', J.yld i H x H' → g x (wipe σ vs) H' fun σ2 H2 => wipe σ2 vs = wipe σ vs ∧ tt σ2 H2 fun b H3 =>
    if b = true then te σ2 H3 fun y H4 => ∃ acc, H4 D = some (.lst acc) ∧ acc.length < sizeLine ∧ Nx (upd H4 D (.lst (acc ++ [y]))) else Nx H3)) : tLc wi g tt te vs σ H Q := q
theorem w_dc {wi : TI} {Q : VK} (q : wi σ H fun J H1 => ∀ D, H1 D = none → ∃ W : Nat → Nat → Hp → Prop, (∃ m, W 0 m (upd H1 D (.dK []))) ∧ ∀ i m H, W i m H →
  (J.stop i H ∧ Q (.ref D) H) ∨ (J.go i H ∧ ∃ Nx : Hp → Prop, (∀ H', Nx H' → ∃ m', m' < m ∧ W (i + 1) m' H') ∧ ∀ x H', J.yld i H x H' → g x (wipe σ vs) H' fun σ2 H2 => wipe σ2 vs = wipe σ vs ∧ tt σ2 H2 fun b H3 =>
    if b = true then tk σ2 H3 fun y H4 => tv σ2 H4 fun z H5 => ∃ kvs k, y = kV k ∧ H5 D = some (.dK kvs) ∧ kvs.length < sizeLine ∧ Nx (upd H5 D (.dK (putK kvs k z))) else Nx H3)) : tDc wi g tt tk tv vs σ H Q := q
end
end V
/-! More rules. -/
namespace V
open PySem PySem.Spec PyProof.Rows L2 U
/-- a comprehension into a name that is a cell -/
theorem sw_cell {elt : Expr} {gs : List Comprehension} {scope : Scope} {pos py : Pos} {y : Str} {l : Nat} {env : Env} (hk : env.scope.kind = .function) (hy : env.scope.names.lookup y = some .cell) : swapsWith (.ListComp elt gs scope pos) (some (.Name y py)) l env = pure false := by
  have k1 : env.kindOf y = some .cell := hy
  have k2 : env.blockKind = .function := by unfold Env.blockKind; rw [hk]; rfl
  unfold swapsWith; simp only [k1, k2]; rfl
theorem sw_cellD {kx vx : Expr} {gs : List Comprehension} {scope : Scope} {pos py : Pos} {y : Str} {l : Nat} {env : Env} (hk : env.scope.kind = .function) (hy : env.scope.names.lookup y = some .cell) : swapsWith (.DictComp kx vx gs scope pos) (some (.Name y py)) l env = pure false := by
  have k1 : env.kindOf y = some .cell := hy
  have k2 : env.blockKind = .function := by unfold Env.blockKind; rw [hk]; rfl
  unfold swapsWith; simp only [k1, k2]; rfl
end V
namespace Q
open PySem L2 U UX
/-! the walk by the head of the question -/
local macro_rules | `(tactic| walk_at "at") => `(tactic| first | with_reducible exact V.At.here | ((with_reducible apply V.At.there); walk_at "at"))
local macro_rules | `(tactic| walk_at "up") => `(tactic| first | with_reducible exact V.Up.here | ((with_reducible apply V.Up.there); walk_at "up"))
local macro_rules | `(tactic| walk_at "get") => `(tactic| first
  | ((with_reducible refine' V.Hw.get ?w ?h); (case w => assumption); (case h => walk_at "at"))
  | assumption
  | ((with_reducible refine' V.Hw.fro ?w ?h); (case w => assumption); (case h => assumption)))
local macro_rules | `(tactic| walk_at "sql") => `(tactic| first
  | ((with_reducible refine' SqL.of ?g); case g => walk_at "get")
  | assumption
  | ((with_reducible refine' Same.seq (V.Hw.fr ?w) ?h); (case w => assumption); (case h => assumption)))
local macro_rules | `(tactic| walk_at "sqt") => `(tactic| first
  | ((with_reducible refine' SqT.of ?g); case g => walk_at "get")
  | assumption
  | ((with_reducible refine' V.seqT (V.Hw.fr ?w) ?h); (case w => assumption); (case h => assumption)))
local macro_rules | `(tactic| walk_at "sa") => `(tactic| first | exact V.SetAt.z | (apply V.SetAt.s; walk_at "sa"))
local macro_rules | `(tactic| walk_at "sub") => `(tactic| first | with_reducible exact V.Sub.nil | ((with_reducible refine' V.Sub.cons ?_); walk_at "sub") | ((with_reducible refine' V.Sub.skip ?_); walk_at "sub"))
local macro_rules | `(tactic| walk_at "wi") => `(tactic| repeat (first | exact V.Wi.nil | apply V.Wi.cons))
local macro_rules | `(tactic| walk_at "sz") => `(tactic| first | exact Nat.le_of_ble_eq_true rfl | assumption | (refine' U.sz ?_ (m := 1000) (Nat.le_refl _); (first | omega | (simp only [List.length_map, List.length_take, List.length_append, List.length_range, List.length_cons, List.length_nil]; omega))))
local macro_rules | `(tactic| walk_at "szl") => `(tactic| first | assumption | (refine' small1000 ?_; (first | omega | (simp only [List.length_map, List.length_take, List.length_append, List.length_range, List.length_cons, List.length_nil]; omega))))
local macro_rules | `(tactic| walk_at "num") => `(tactic| first | assumption | omega | (show (0 : Int) < _; omega) | exact ⟨by omega, by omega⟩ | exact .inl ⟨by omega, by omega⟩ | exact .inr ⟨by omega, by omega⟩ | exact ⟨by decide, by decide⟩ | exact .inr ⟨by decide, by decide⟩ | decide)
local macro_rules | `(tactic| walk_at "atI") => `(tactic| first | assumption | exact at_of (Int.zero_add _) (by assumption) | exact at_of rfl (by assumption) | rfl)
local macro_rules | `(tactic| walk_at "w") => `(tactic| first
  | ((with_reducible refine' V.w_var ?h ?_); case h => rfl)
  | with_reducible refine' V.w_op ?_
  | with_reducible refine' V.w_c ?_
  | with_reducible refine' V.w_seq ?_
  | with_reducible refine' V.w_asg ?_
  | ((with_reducible refine' V.w_name ?h ?_); case h => walk_at "sa")
  | ((with_reducible show Ends.nx _ _ _); dsimp only)
  | ((with_reducible show Ends.rt _ _ _); dsimp only)
  | with_reducible refine' V.w_ri0 ?_
  | ((with_reducible refine' V.w_ri ?h ?_); case h => walk_at "num")
  | with_reducible refine' V.w_ru ?_
  | with_reducible refine' V.w_bl ?_
  | with_reducible refine' V.w_test ?_
  | with_reducible refine' V.w_b ?_
  | with_reducible refine' V.w_eqI ?_
  | with_reducible refine' V.w_eqS ?_
  | with_reducible refine' V.w_neI ?_
  | with_reducible refine' V.w_neS ?_
  | with_reducible refine' V.w_ifS ?_
  | with_reducible refine' V.w_and ?_
  | with_reducible refine' V.w_or ?_
  | with_reducible refine' V.w_not ?_
  | with_reducible refine' V.w_andV ?_
  | with_reducible refine' V.w_orV ?_
  | with_reducible refine' V.w_notV ?_
  | with_reducible refine' V.w_if ?_
  | with_reducible refine' V.w_isN ?_
  | with_reducible refine' V.w_yes ?_
  | with_reducible refine' V.w_isn ?_
  | with_reducible refine' V.w_next ?_
  | with_reducible refine' V.w_drop ?_
  | with_reducible refine' V.w_ret ?_
  | with_reducible refine' V.w_retN ?_
  | with_reducible refine' V.w_un ?_
  | with_reducible refine' V.w_nil ?_
  | with_reducible refine' V.w_cons ?_
  | with_reducible refine' V.w_call ?_
  | with_reducible refine' V.w_cf ?_
  | with_reducible refine' V.w_cb ?_
  | with_reducible refine' V.w_meth ?_
  | with_reducible refine' V.w_mk ?_
  | with_reducible refine' V.w_mkK ?_
  | ((with_reducible refine' V.w_meth2 ?h ?n ?_); (case h => walk_at "get"); (case n => first | assumption | rfl))
  | with_reducible refine' V.w_fld ?_
  | ((with_reducible refine' V.w_fld2 ?h ?c ?n ?l ?_); (case h => walk_at "get"); (case c => assumption); (case n => assumption); (case l => first | assumption | rfl))
  | with_reducible refine' V.w_bm ?_
  | with_reducible refine' V.w_bm0 ?_
  | with_reducible refine' V.w_bmS ?_
  | with_reducible refine' V.w_bm0S ?_
  | ((with_reducible refine' V.w_bmL ?h ?_); case h => walk_at "sql")
  | ((with_reducible refine' V.w_bm0L ?h ?_); case h => walk_at "sql")
  | ((with_reducible refine' V.w_bmD ?h ?_); case h => walk_at "get")
  | with_reducible refine' V.w_tup ?_
  | with_reducible refine' V.w_lst ?_
  | ((with_reducible refine' V.w_tup2 ?w ?l ?_); (case w => assumption); (case l => walk_at "sz"))
  | ((with_reducible refine' V.w_lst2 ?w ?l ?_); (case w => assumption); (case l => walk_at "sz"))
  | ((with_reducible refine' V.w_ixL ?h ?l ?_); (case h => walk_at "sql"); (case l => walk_at "atI"))
  | ((with_reducible refine' V.w_ixT ?h ?l ?_); (case h => walk_at "sqt"); (case l => walk_at "atI"))
  | ((with_reducible refine' V.w_ixLs ?h ?l ?_); (case h => walk_at "sql"); (case l => walk_at "atI"))
  | ((with_reducible refine' V.w_ixTs ?h ?l ?_); (case h => walk_at "sqt"); (case l => walk_at "atI"))
  | ((with_reducible refine' V.w_append ?w ?h ?u ?l ?_); (case w => assumption); (case h => walk_at "at"); (case u => walk_at "up"); (case l => walk_at "szl"))
  | with_reducible refine' V.w_gsub ?_
  | ((with_reducible refine' V.w_gtup ?h ?l ?_); (case h => walk_at "sqt"); (case l => rfl))
  | with_reducible refine' V.w_gcons ?_
  | with_reducible refine' V.w_gnil ?_
  | ((with_reducible refine' V.w_setL ?w ?h ?u ?l ?_); (case w => assumption); (case h => walk_at "at"); (case u => walk_at "up"); (case l => assumption))
  | with_reducible refine' V.w_sfld ?_
  | ((with_reducible refine' V.w_sfld2 ?w ?h ?c ?n ?l ?e ?u ?_); (case w => assumption); (case h => walk_at "at"); (case c => assumption); (case n => assumption); (case l => first | omega | decide | ((repeat with_reducible apply V.putLt); first | decide | omega)); (case e => rfl); (case u => walk_at "up"))
  | with_reducible refine' V.w_dget ?_
  | with_reducible refine' V.w_din ?_
  | with_reducible refine' V.w_dnin ?_
  | ((with_reducible refine' V.w_dgetS ?h ?l ?_); (case h => walk_at "get"); (case l => assumption))
  | ((with_reducible refine' V.w_dnin1 ?h ?l ?_); (case h => walk_at "get"); (case l => assumption))
  | ((with_reducible refine' V.w_dnin0 ?h ?l ?_); (case h => walk_at "get"); (case l => assumption))
  | ((with_reducible refine' V.w_din1 ?h ?l ?_); (case h => walk_at "get"); (case l => assumption))
  | ((with_reducible refine' V.w_din0 ?h ?l ?_); (case h => walk_at "get"); (case l => assumption))
  | with_reducible refine' V.w_dput ?_
  | with_reducible refine' V.w_fmt ?_
  | ((with_reducible refine' V.w_fmtS ?l ?_); case l => first | assumption | (refine Nat.le_trans ?_ (show 1000000 ≤ sizeLine by decide); (try simp only [U.len_app]); omega))
  | ((with_reducible refine' V.w_slL ?w ?h ?_); (case w => assumption); (case h => walk_at "sql"))
  | ((with_reducible refine' V.w_listL ?w ?h ?_); (case w => assumption); (case h => walk_at "sql"))
  | with_reducible refine' V.w_sl ?_
  | with_reducible refine' V.w_nopart ?_
  | with_reducible refine' V.w_part ?_
  | with_reducible refine' V.w_part2 ?_
  | with_reducible refine' V.w_for ?_
  | with_reducible refine' V.w_lc ?_
  | with_reducible refine' V.w_dc ?_
  | with_reducible refine' V.w_il ?_
  | ((with_reducible refine' V.w_il2 ?h ?_); case h => walk_at "sql")
  | with_reducible refine' V.w_ir ?_
  | ((with_reducible refine' V.w_ir1 ?e ?b ?_); (case e => rfl); (case b => omega))
  | with_reducible refine' V.w_int1 ?_
  | with_reducible refine' V.w_bool1 ?_
  | with_reducible refine' V.w_int1b ?_
  | ((with_reducible refine' V.w_lenL ?h ?_); case h => walk_at "sql")
  | ((with_reducible refine' V.w_lenT ?h ?_); case h => walk_at "sqt")
  | with_reducible refine' V.iTT ?_
  | with_reducible refine' V.iTF ?_
  | with_reducible refine' V.iNT ?_
  | with_reducible refine' V.iNF ?_
  | ((with_reducible refine' U.ifY ?h ?_); case h => first | assumption | rfl | omega)
  | ((with_reducible refine' U.ifN ?h ?_); case h => first | assumption | omega | (intro z; cases z; done) | decide)
  | ((with_reducible refine' U.nifY ?h ?_); case h => first | assumption | rfl | omega)
  | ((with_reducible refine' U.nifN ?h ?_); case h => first | assumption | omega | (intro z; cases z; done) | decide)
  | ((with_reducible refine' V.w_addS ?l ?_); (case l => first | assumption | (refine Nat.le_trans ?_ (show 100000 ≤ sizeLine by decide); (try simp only [U.len_app]); omega)))
  | ((with_reducible refine' V.w_cat ?w ?h ?h2 ?l ?_); (case w => assumption); (case h => walk_at "get"); (case h2 => walk_at "get"); (case l => walk_at "sz"))
  | with_reducible refine' V.w_js0 ?_
  | with_reducible refine' V.w_js1 ?_
  | ((with_reducible refine' V.w_js2 ?l ?_); (case l => first | assumption | (refine Nat.le_trans ?_ (show 1000000 ≤ sizeLine by decide); (try simp only [U.len_app]); omega)))
  | with_reducible refine' V.w_m1 ?_
  | with_reducible refine' V.w_m1s ?_
  | ((with_reducible refine' V.w_ixS ?l ?h ?_); (case l => first | decide +kernel | assumption); (case h => walk_at "atI"))
  | with_reducible refine' V.w_break ?_
  | with_reducible refine' V.w_cont ?_
  | ((with_reducible show Ends.bk _ _ _); dsimp only)
  | ((with_reducible show Ends.ct _ _ _); dsimp only))
/-! ### the law's draws -/
def top (i : Nat) : Stmt := PySem.Challenge.pw_usescale_k12_sums_of_ones.main.body.getD i (.Pass ⟨0, 0, 0, 0⟩)

/-- the state of the draws: a list at S, the cells at L -/
def StA (H : Hp) (S L : Addr) : Prop := S ≠ L ∧ ∃ (ns : List Int) (a b c : Int), ns.length ≤ 63 ∧ H S = some (.lst [.ref L, .int a, .int b, .int c]) ∧ H L = some (.lst (ns.map V.int))
/-- what is not of the state stands -/
def Keeps (S L : Addr) (H H' : Hp) : Prop := ∀ b o, H b = some o → b ≠ S → b ≠ L → H' b = some o
theorem Keeps.trans {S L : Addr} {H H1 H2 : Hp} (a : Keeps S L H H1) (b : Keeps S L H1 H2) : Keeps S L H H2 := fun c o h n1 n2 => b c o (a c o h n1 n2) n1 n2
def spDraws (K : PySem.W.Frag) : Sp := fun vs H Q _ => ∃ (a : Addr) (ns : List Int), vs = [.ref a] ∧ SqL K H a (ns.map V.int) ∧ ns.length ≤ 63 ∧
  ∀ S L H', H S = none → H L = none → StA H' S L → Same H H' → Q (.ref S) H'
def spDraw : Sp := fun vs H Q _ => ∃ (S L : Addr) (m : Int), vs = [.ref S, .int m] ∧ StA H S L ∧ m.natAbs < 1606938044258990275541962092341162602522202993782792835301376 ∧
  ∀ r H', 0 ≤ r → (0 < m → r < m) → StA H' S L → Keeps S L H H' → Q (.int r) H'
structure TxL (K : PySem.W.Frag) (mg : Str → Option Value) : Prop where
  int : mg "int" = none
  len : mg "len" = none
  range : mg "range" = none
  isinstance : mg "isinstance" = none
  bool : mg "bool" = none
  str : mg "str" = none
  tuple : mg "tuple" = none
  list : mg "list" = none

section
variable {P : Program} {w : World} {K : PySem.W.Frag} {mg : Str → Option Value} {base : Heap}
theorem sc__law_draws : FnScope ["_law_script", "_law_seed", "_law_cell"] ["_law_script"] (defScope (top 31)) := ⟨rfl, rfl, rfl, by decide +kernel, rfl, by decide +kernel, by decide +kernel⟩
theorem ok_draws {f : Addr} {fd : FuncData} (F : Fun K "_law_draws" "_law_draws" (top 31) f fd) (T : TxL K mg) : FnOk P w K mg base CX0 1 f fd ["_law_script"] (spDraws K) := by
  refine F.ok sc__law_draws (fun vs H Q E h => ?_) (fun cdv A outer s H vs Q E hr h => ?_)
  · obtain ⟨a, ns, rfl, _⟩ := h
    rfl
  · obtain ⟨a, ns, rfl, hS, hlen, k⟩ := h
    refine ⟨_, (pss_cons (ps_set (i := 1) sc__law_draws.nd rfl (Or.inl rfl) pe_int)
      (pss_cons (ps_for PassesOwn.never rfl (pi_list (pv 0)) (pg_name (i := 2) sc__law_draws.nd rfl (Or.inl rfl)) (pss_one (ps_set (i := 1) sc__law_draws.nd rfl (Or.inl rfl) (pe_op op_mod (pe_callTy call_int1 (by rfl) T.int (by decide +kernel) (pa_cons (pe_op op_add (pe_op op_add (pe_op op_mul (pv 1) pe_int) (pe_op op_mul (pv 2) pe_int)) pe_int) pa_nil)) pe_int))))
      (pss_one (ps_ret (pe_lst (pa_cons (pe_lc (own := [("_law_cell", 2)]) (g := (gName 2)) (by rfl) sc__law_draws.nd (pi_list (pv 0)) (blkOk_by (own := [("_law_cell", 2)]) (N := ["_law_script", "_law_seed", "_law_cell"]) (sc := defScope (top 31)) (by decide +kernel)) (fun _ _ _ _ _ => (pg_name (i := 2) sc__law_draws.nd rfl (Or.inl rfl))) (fun _ _ _ _ _ => pts_nil) (fun _ _ _ _ _ => (pe_callTy call_int1 (by rfl) T.int (by decide +kernel) (pa_cons (pv 2) pa_nil)))) (pa_cons pe_int (pa_cons (pv 1) (pa_cons pe_int pa_nil))))))))), ?_⟩
    refine ⟨_, rfl, a, rfl, ⟨_, hS⟩, for_list (K := K) (a := a) (xs := ns.map V.int) (fun i σ H2 => ∃ (z : Int) (v : Option V), σ = [some (.ref a), some (.int z), v] ∧ H2 = H)
      ⟨7, none, rfl, rfl⟩ (fun i σ H2 _ ⟨_, _, _, e⟩ => by rw [e]; exact hS) ?_ ?_⟩
    · rintro i y σ H2 hi ⟨z, v, rfl, rfl⟩
      obtain ⟨n, rfl, hn⟩ := at_map hi
      refine ⟨_, rfl, _, _, rfl, rfl, .inr ⟨by decide, by decide⟩, _, rfl, _, _, rfl, rfl, .inr ⟨by decide, by decide⟩, _, _, rfl, rfl, _, _, rfl, rfl, .inl ⟨_, rfl, ?_⟩⟩
      refine ⟨_, _, rfl, rfl, (by show (0 : Int) < 998244353; decide), ?_⟩
      exact ⟨_, _, rfl, rfl⟩
    · rintro σ H2 ⟨z, v, rfl, rfl⟩
      refine ⟨_, rfl, a, rfl, ⟨_, hS⟩, fun D hD => lc_list (K := K) (a := a) (xs := ns.map V.int) (fun i H3 => H3 = upd H2 D (.lst ((ns.take i).map V.int))) ?_ ?_ ?_ ?_⟩
      · simp
      · rintro i H3 _ rfl
        exact (sameNew hD).seq hS
      · rintro i y H3 hi rfl
        obtain ⟨n, rfl, hn⟩ := at_map hi
        refine ⟨rfl, ?_⟩
        refine tYesI (iteT ?_)
        refine ⟨_, rfl, .inl ⟨_, rfl, _, upd_same, ?_, ?_⟩⟩
        · rw [List.length_map, List.length_take]
          exact small1000 (by omega)
        · rw [upd_upd, take_snoc hn, List.map_append]
          rfl
      · rintro H3 rfl
        refine ⟨_, rfl, (by show 4 ≤ sizeLine; decide), fun S hS' => ?_⟩
        have hDS : D ≠ S := ne_of_none upd_same hS'
        refine k S D _ ((sameNew hD).free hS') hD ⟨hDS.symm, ns, 0, z, 0, hlen, upd_same, ?_⟩ ((sameNew hD).trans (sameNew hS'))
        rw [upd_ne hDS, upd_same]
        simp [List.take_of_length_le]
theorem sc__law_draw : FnScope ["_law_state", "_law_many", "_law_cell", "_law_digit", "_law_value"] ["_law_state", "_law_many"] (defScope (top 32)) := ⟨rfl, rfl, rfl, by decide +kernel, rfl, by decide +kernel, by decide +kernel⟩
theorem ok_draw {f : Addr} {fd : FuncData} (F : Fun K "_law_draw" "_law_draw" (top 32) f fd) (T : TxL K mg) : FnOk P w K mg base CX0 1 f fd ["_law_state", "_law_many"] spDraw := by
  refine F.ok sc__law_draw (fun vs H Q E h => ?_) (fun cdv A outer s H vs Q E hr h => ?_)
  · obtain ⟨S, L, m, rfl, _⟩ := h
    rfl
  · obtain ⟨S, L, m, rfl, hst, hm, k⟩ := h
    refine ⟨_, (pss_cons (ps_if (pt_cmpR op_lt (pv 1) pe_int (nomark _)) (pss_one (ps_ret pe_int)) pss_nil)
      (pss_cons (ps_while PassesOwn.never (PW.pt (pw_and (pt_cmpR op_lt (pe_ix ix_list (pv 0) pe_int (fun _ _ => rfl)) pe_int (nomark _)) (pw_and1 (pt_cmpR op_gt (pe_callB call_len_seq (by rfl) T.len (by decide +kernel) (pa_cons (pe_ix ix_list (pv 0) pe_int (fun _ _ => rfl)) pa_nil)) pe_int (nomark _))))) (pss_cons (ps_set (i := 2) sc__law_draw.nd rfl (Or.inl rfl) (pe_bm PySem.F.plainAttrs_list PySem.F.slot_list_pop PySem.F.type_list_pop mt_popAt (pe_ix ix_list (pv 0) pe_int (fun _ _ => rfl)) (pa_cons pe_int pa_nil)))
      (pss_one (ps_asg (pe_ifExp (pt_cmpR op_gt (pv 2) pe_int (nomark _)) (pv 2) (pe_un un_neg (pv 2))) (pg_sub (pv 0) pe_int set_list)))))
      (pss_cons (ps_if (pt_cmpR op_gt (pe_ix ix_list (pv 0) pe_int (fun _ _ => rfl)) pe_int (nomark _)) (pss_cons (ps_set (i := 3) sc__law_draw.nd rfl (Or.inl rfl) (pe_op op_mod (pe_callTy call_int1 (by rfl) T.int (by decide +kernel) (pa_cons (pe_ix ix_list (pv 0) pe_int (fun _ _ => rfl)) pa_nil)) (pv 1)))
      (pss_cons (ps_asg (pe_op op_fdivW (pe_ix ix_list (pv 0) pe_int (fun _ _ => rfl)) (pv 1)) (pg_sub (pv 0) pe_int set_list))
      (pss_one (ps_ret (pv 3))))) pss_nil)
      (pss_cons (ps_augS (pv 0) pe_int get_list pe_int ip_add set_list)
      (pss_cons (ps_set (i := 4) sc__law_draw.nd rfl (Or.inl rfl) (pe_op op_mod (pe_callTy call_int1 (by rfl) T.int (by decide +kernel) (pa_cons (pe_op op_add (pe_ix ix_list (pv 0) pe_int (fun _ _ => rfl)) (pe_op op_mul (pe_ix ix_list (pv 0) pe_int (fun _ _ => rfl)) pe_int)) pa_nil)) pe_int))
      (pss_cons (ps_set (i := 4) sc__law_draw.nd rfl (Or.inl rfl) (pe_op op_mod (pe_callTy call_int1 (by rfl) T.int (by decide +kernel) (pa_cons (pe_op op_mul (pv 4) (pv 4)) pa_nil)) pe_int))
      (pss_cons (ps_set (i := 4) sc__law_draw.nd rfl (Or.inl rfl) (pe_op op_mod (pe_callTy call_int1 (by rfl) T.int (by decide +kernel) (pa_cons (pe_op op_add (pe_op op_mul (pv 4) pe_int) (pe_op op_mul (pe_ix ix_list (pv 0) pe_int (fun _ _ => rfl)) pe_int)) pa_nil)) pe_int))
      (pss_one (ps_ret (pe_op op_mod (pe_callTy call_int1 (by rfl) T.int (by decide +kernel) (pa_cons (pe_op op_fdiv (pv 4) pe_int) pa_nil)) (pv 1))))))))))), ?_⟩
    obtain ⟨nSL, ns, a, b, c, hl, h1, h2⟩ := hst
    refine ⟨_, rfl, _, _, rfl, rfl, _, rfl, ?_⟩
    refine ifD (fun hm2 => ?_) (fun hm2 => ?_)
    · exact k 0 H (Int.le_refl 0) id ⟨nSL, ns, a, b, c, hl, h1, h2⟩ (fun _ _ e _ _ => e)
    refine whileX (fun M σ H2 => ∃ (v : Option V) (ns : List Int) (a : Int), M = ns.length ∧ σ = [some (.ref S), some (.int m), v, none, none] ∧ ns.length ≤ 63 ∧ H2 S = some (.lst [.ref L, .int a, .int b, .int c]) ∧ H2 L = some (.lst (ns.map V.int)) ∧ Keeps S L H H2)
      (fun σ H2 => ∃ (v : Option V) (ns : List Int) (a : Int), σ = [some (.ref S), some (.int m), v, none, none] ∧ ns.length ≤ 63 ∧ H2 S = some (.lst [.ref L, .int a, .int b, .int c]) ∧ H2 L = some (.lst (ns.map V.int)) ∧ Keeps S L H H2)
      _ ⟨none, ns, a, rfl, rfl, hl, h1, h2, fun _ _ e _ _ => e⟩ ?_ ?_
    · rintro σ H2 ⟨v, ns, a, rfl, hl, h1, h2, kp⟩
      refine ⟨_, rfl, S, _, _, _, rfl, rfl, SqL.of h1, rfl, _, _, rfl, rfl, _, rfl, ?_⟩
      refine ifD (fun ha => ?_) (fun ha => ?_)
      · refine ⟨_, rfl, S, _, _, _, rfl, rfl, SqL.of h1, rfl, .inl ⟨_, rfl, ?_⟩⟩
        refine ⟨_, rfl, _, _, rfl, rfl, (by show (0 : Int) < m; omega), ?_⟩
        refine ⟨_, rfl, S, _, _, _, rfl, rfl, SqL.of h1, rfl, ?_⟩
        refine ⟨_, rfl, _, _, rfl, rfl, wide_div (b := 200) (by omega) hm (by decide) (by decide), ?_⟩
        refine ⟨_, rfl, S, _, _, _, rfl, rfl, h1, rfl, ?_⟩
        refine ⟨_, rfl, ?_⟩
        refine k _ _ (Int.emod_nonneg _ (by omega)) (fun h0 => Int.emod_lt_of_pos _ h0) ⟨nSL, ns, _, b, c, hl, upd_same, (by rw [upd_ne nSL.symm]; exact h2)⟩ ?_
        intro d o e n1 n2
        rw [upd_ne n1]
        exact kp d o e n1 n2
      · refine ⟨_, rfl, S, _, _, _, rfl, rfl, SqL.of h1, by decide, rfl, ?_⟩
        refine ⟨_, _, rfl, rfl, ?_⟩
        refine ⟨S, _, _, _, rfl, rfl, h1, rfl, ?_⟩
        have g1 : ∀ o, (upd H2 S o) L = some (.lst (ns.map V.int)) := fun o => by rw [upd_ne nSL.symm]; exact h2
        refine ⟨_, rfl, S, _, _, _, rfl, rfl, SqL.of upd_same, rfl, ?_⟩
        refine ⟨_, rfl, S, _, _, _, rfl, rfl, SqL.of upd_same, rfl, ?_⟩
        refine ⟨_, _, rfl, rfl, .inr ⟨by decide, by decide⟩, _, _, rfl, rfl, .inl ⟨_, rfl, ?_⟩⟩
        refine ⟨_, _, rfl, rfl, (by show (0 : Int) < 998244353; decide), ?_⟩
        have e1 : 0 ≤ (b + (c + 1) * 7919) % 998244353 := Int.emod_nonneg _ (by decide)
        have e2 : (b + (c + 1) * 7919) % 998244353 < 998244353 := Int.emod_lt_of_pos _ (by decide)
        refine ⟨_, rfl, _, rfl, _, _, rfl, rfl, .inl ⟨by show -(2 ^ 64) < (b + (c + 1) * 7919) % 998244353; omega, by show (b + (c + 1) * 7919) % 998244353 < 2 ^ 64; omega⟩, .inl ⟨_, rfl, ?_⟩⟩
        refine ⟨_, _, rfl, rfl, (by show (0 : Int) < 1000000007; decide), ?_⟩
        refine ⟨_, rfl, _, _, rfl, rfl, .inr ⟨by decide, by decide⟩, ?_⟩
        refine ⟨_, rfl, S, _, _, _, rfl, rfl, SqL.of upd_same, rfl, _, _, rfl, rfl, .inr ⟨by decide, by decide⟩, _, _, rfl, rfl, .inl ⟨_, rfl, ?_⟩⟩
        refine ⟨_, _, rfl, rfl, (by show (0 : Int) < 2147483647; decide), ?_⟩
        refine ⟨_, rfl, _, _, rfl, rfl, ⟨by decide, by decide⟩, .inl ⟨_, rfl, ?_⟩⟩
        refine ⟨_, rfl, _, _, rfl, rfl, (by show (0 : Int) < m; omega), ?_⟩
        refine k _ _ (Int.emod_nonneg _ (by omega)) (fun h0 => Int.emod_lt_of_pos _ h0) ⟨nSL, ns, a, b, _, hl, upd_same, g1 _⟩ ?_
        intro d o e n1 n2
        rw [upd_ne n1]
        exact kp d o e n1 n2
    · intro nx hnx M σ H2
      rintro ⟨v, ns, a, rfl, rfl, hl, h1, h2, kp⟩
      refine ⟨_, rfl, S, _, _, _, rfl, rfl, SqL.of h1, rfl, _, _, rfl, rfl, _, rfl, ?_⟩
      refine ifD (fun ha => ?_) (fun ha => ?_)
      · refine ⟨_, rfl, S, _, _, _, rfl, rfl, SqL.of h1, rfl, ?_⟩
        refine ⟨_, _, rfl, .inl (SqL.of h2), _, _, rfl, rfl, _, rfl, ?_⟩
        refine ifD (fun hn => ?_) (fun hn => ?_)
        · refine ⟨_, fun _ _ h => h, ?_⟩
          refine ⟨_, rfl, S, _, _, _, rfl, rfl, SqL.of h1, rfl, .inl ⟨rfl, _, SqL.of h2⟩, ?_⟩
          obtain ⟨n, ns, rfl⟩ : ∃ n ns', ns = n :: ns' := by
            cases ns with
            | nil => exact absurd hn (by decide)
            | cons n ns' => exact ⟨n, ns', rfl⟩
          have hl' : ns.length + 1 ≤ 63 := hl
          refine ⟨L, _, _, 0, _, rfl, rfl, h2, by decide, by decide, ?_, rfl, ?_⟩
          · exact seqIndex_of (k := 0) (n := ((n :: ns).map V.int).length) (by decide) (by rw [List.length_map, List.length_cons]; omega)
          have g1 : ∀ o, (upd H2 L o) S = some (.lst [.ref L, .int a, .int b, .int c]) := fun o => by rw [upd_ne nSL]; exact h1
          have fin : ∀ z : Int, ∃ m', m' < (n :: ns).length ∧ ∃ (v : Option V) (ns_1 : List Int) (a : Int), m' = ns_1.length ∧ [some (V.ref S), some (V.int m), some (V.int n), none, none] = [some (.ref S), some (.int m), v, none, none] ∧ ns_1.length ≤ 63 ∧
              (upd (upd H2 L (.lst (ns.map V.int))) S (.lst [.ref L, .int z, .int b, .int c])) S = some (.lst [.ref L, .int a, .int b, .int c]) ∧ (upd (upd H2 L (.lst (ns.map V.int))) S (.lst [.ref L, .int z, .int b, .int c])) L = some (.lst (ns_1.map V.int)) ∧
              Keeps S L H (upd (upd H2 L (.lst (ns.map V.int))) S (.lst [.ref L, .int z, .int b, .int c])) := fun z =>
            ⟨ns.length, Nat.lt_succ_self _, _, ns, z, rfl, rfl, by omega, upd_same, by rw [upd_ne nSL.symm, upd_same], fun d o e n1 n2 => by rw [upd_ne n1, upd_ne n2]; exact kp d o e n1 n2⟩
          refine ⟨_, rfl, _, _, rfl, rfl, _, rfl, ?_⟩
          refine ifD (fun hc => ?_) (fun hc => ?_)
          · refine ⟨_, rfl, _, rfl, S, _, _, _, rfl, rfl, g1 _, rfl, ?_⟩
            exact fin n
          · refine ⟨_, rfl, _, rfl, _, rfl, S, _, _, _, rfl, rfl, g1 _, rfl, ?_⟩
            exact fin (-n)
        · exact hnx _ _ ⟨v, ns, a, rfl, hl, h1, h2, kp⟩
      · exact hnx _ _ ⟨v, ns, a, rfl, hl, h1, h2, kp⟩
end
/-! ### the law's same: the same data on both sides gives True -/
inductive Da (H : Hp) : Nat → V → V → Prop
  | non {n : Nat} : Da H n .non .non
  | bl {n : Nat} (b : Bool) : Da H n (.bl b) (.bl b)
  | int {n : Nat} (i : Int) : Da H n (.int i) (.int i)
  | str {n : Nat} (x : Str) : Da H n (.str x) (.str x)
  | lst {n : Nat} {a b : Addr} {xs ys : List V} (ha : H a = some (.lst xs)) (hb : H b = some (.lst ys)) (hl : xs.length = ys.length) (hz : ys.length ≤ 1000) (hi : ∀ (i : Nat) (x y : V), xs[i]? = some x → ys[i]? = some y → Da H n x y) : Da H (n + 1) (.ref a) (.ref b)
  | tup {n : Nat} {a b : Addr} {xs ys : List V} (ha : H a = some (.tup xs)) (hb : H b = some (.tup ys)) (hl : xs.length = ys.length) (hz : ys.length ≤ 1000) (hi : ∀ (i : Nat) (x y : V), xs[i]? = some x → ys[i]? = some y → Da H n x y) : Da H (n + 1) (.ref a) (.ref b)
def spSame (n : Nat) : Sp := fun vs H Q _ => ∃ x y, vs = [x, y] ∧ Da H n x y ∧ Q (.bl true) H
/-- what its own calls ask -/
def spSameR : Nat → Sp
  | 0 => fun _ _ _ _ => False
  | n + 1 => spSame n
section
variable {P : Program} {w : World} {K : PySem.W.Frag} {mg : Str → Option Value} {base : Heap}
theorem sc__law_same : FnScope ["_law_found", "_law_due", "_law_k"] ["_law_found", "_law_due"] (defScope (top 33)) := ⟨rfl, rfl, rfl, by decide +kernel, rfl, by decide +kernel, by decide +kernel⟩
theorem ok_same1 {f : Addr} {fd : FuncData} (F : Fun K "_law_same" "_law_same" (top 33) f fd) (T : TxL K mg) (n : Nat) (c__law_same : Cal P w K mg base CX0 n "_law_same" (spSameR n)) : FnOk P w K mg base CX0 (n + 1) f fd ["_law_found", "_law_due"] (spSame n) := by
  refine F.ok sc__law_same (fun vs H Q E h => ?_) (fun cdv A outer s H vs Q E hr h => ?_)
  · obtain ⟨x, y, rfl, _⟩ := h
    rfl
  · obtain ⟨x, y, rfl, hd, k⟩ := h
    refine ⟨_, (pss_cons (ps_if (pt_cmpR op_isN (pv 1) pe_non (nomark _)) (pss_one (ps_ret (pe_cmpR op_isN (pv 0) pe_non (nomark _)))) pss_nil)
      (pss_cons (ps_if (pt_cmpR op_isBA (pv 1) pe_bl (nomark _)) (pss_one (ps_ret (pe_cmpR op_isBA (pv 0) pe_bl (nomark _)))) pss_nil)
      (pss_cons (ps_if (pt_cmpR op_isBA (pv 1) pe_bl (nomark _)) (pss_one (ps_ret (pe_cmpR op_isBA (pv 0) pe_bl (nomark _)))) pss_nil)
      (pss_cons (ps_if (pt_val (pe_callB call_isi (by rfl) T.isinstance (by decide +kernel) (pa_cons (pv 1) (pa_cons (pe_bltn (v := .ty "int") (by rfl) T.int (by decide +kernel) rfl) pa_nil)))) (pss_one (ps_ret (pe_and (pe_callB call_isi (by rfl) T.isinstance (by decide +kernel) (pa_cons (pv 0) (pa_cons (pe_bltn (v := .ty "int") (by rfl) T.int (by decide +kernel) rfl) pa_nil))) (pe_and (pe_not (pe_callB call_isi (by rfl) T.isinstance (by decide +kernel) (pa_cons (pv 0) (pa_cons (pe_bltn (v := .ty "bool") (by rfl) T.bool (by decide +kernel) rfl) pa_nil)))) (pe_one (pe_cmpR op_eq (pv 0) (pv 1) (nomark _))))))) pss_nil)
      (pss_cons (ps_if (pt_val (pe_callB call_isi (by rfl) T.isinstance (by decide +kernel) (pa_cons (pv 1) (pa_cons (pe_bltn (v := .ty "str") (by rfl) T.str (by decide +kernel) rfl) pa_nil)))) (pss_one (ps_ret (pe_and (pe_callB call_isi (by rfl) T.isinstance (by decide +kernel) (pa_cons (pv 0) (pa_cons (pe_bltn (v := .ty "str") (by rfl) T.str (by decide +kernel) rfl) pa_nil))) (pe_one (pe_cmpR op_eq (pv 0) (pv 1) (nomark _)))))) pss_nil)
      (pss_cons (ps_if (PW.pt (pw_and (pt_val (pe_callB call_isi (by rfl) T.isinstance (by decide +kernel) (pa_cons (pv 1) (pa_cons (pe_bltn (v := .ty "tuple") (by rfl) T.tuple (by decide +kernel) rfl) pa_nil)))) (pw_and1 (pt_not (pt_val (pe_callB call_isi (by rfl) T.isinstance (by decide +kernel) (pa_cons (pv 0) (pa_cons (pe_bltn (v := .ty "tuple") (by rfl) T.tuple (by decide +kernel) rfl) pa_nil)))))))) (pss_one (ps_ret pe_bl)) pss_nil)
      (pss_cons (ps_if (PW.pt (pw_and (pt_val (pe_callB call_isi (by rfl) T.isinstance (by decide +kernel) (pa_cons (pv 1) (pa_cons (pe_bltn (v := .ty "list") (by rfl) T.list (by decide +kernel) rfl) pa_nil)))) (pw_and1 (pt_not (pt_val (pe_callB call_isi (by rfl) T.isinstance (by decide +kernel) (pa_cons (pv 0) (pa_cons (pe_bltn (v := .ty "list") (by rfl) T.list (by decide +kernel) rfl) pa_nil)))))))) (pss_one (ps_ret pe_bl)) pss_nil)
      (pss_cons (ps_if (pt_cmpR op_ne (pe_callB call_len_seq (by rfl) T.len (by decide +kernel) (pa_cons (pv 0) pa_nil)) (pe_callB call_len_seq (by rfl) T.len (by decide +kernel) (pa_cons (pv 1) pa_nil)) (nomark _)) (pss_one (ps_ret pe_bl)) pss_nil)
      (pss_cons (ps_for PassesOwn.never rfl (pi_range1 (by rfl) T.range (pa_cons (pe_callB call_len_seq (by rfl) T.len (by decide +kernel) (pa_cons (pv 1) pa_nil)) pa_nil)) (pg_name (i := 2) sc__law_same.nd rfl (Or.inl rfl)) (pss_one (ps_if (pt_not (pt_val (pe_c c__law_same hr (Nat.le_refl n) (by rfl) (pa_cons (pe_ix ix_ls (pv 0) (pv 2) (fun _ _ => rfl)) (pa_cons (pe_ix ix_ls (pv 1) (pv 2) (fun _ _ => rfl)) pa_nil))))) (pss_one (ps_ret pe_bl)) pss_nil)))
      (pss_one (ps_ret pe_bl))))))))))), ?_⟩
    cases hd with
    | non =>
      refine ⟨_, rfl, rfl, _, rfl, ?_⟩
      refine ifY rfl ?_
      exact ⟨_, rfl, rfl, k⟩
    | bl b =>
      refine ⟨_, rfl, rfl, _, rfl, ?_⟩
      refine ifN (fun z => nomatch z) ?_
      refine ⟨_, rfl, _, rfl, _, rfl, ?_⟩
      cases b with
      | true =>
        refine ifY rfl ?_
        exact ⟨_, rfl, _, rfl, k⟩
      | false =>
        refine ifN (by decide) ?_
        refine ⟨_, rfl, _, rfl, _, rfl, ?_⟩
        refine ifY rfl ?_
        exact ⟨_, rfl, _, rfl, k⟩
    | int i =>
      refine ⟨_, rfl, rfl, _, rfl, ?_⟩
      refine ifN (fun z => nomatch z) ?_
      refine ⟨_, rfl, _, rfl, _, rfl, ?_⟩
      refine ifN (fun z => nomatch z) ?_
      refine ⟨_, rfl, _, rfl, _, rfl, ?_⟩
      refine ifN (fun z => nomatch z) ?_
      refine ⟨_, rfl, _, _, _, _, true, rfl, .ty _, .base (.int i), kit_ty (by decide +kernel), _, rfl, ?_⟩
      refine iteT ?_
      refine ⟨_, rfl, _, _, _, _, true, rfl, .ty _, .base (.int i), kit_ty (by decide +kernel), _, rfl, ?_⟩
      refine iteT ?_
      refine ⟨_, rfl, _, _, _, _, false, rfl, .ty _, .base (.int i), kit_ty (by decide +kernel), _, rfl, _, rfl, ?_⟩
      refine iteT ?_
      refine ⟨_, rfl, _, rfl, rfl, ?_⟩
      rw [decide_eq_true rfl]
      exact k
    | str i =>
      refine ⟨_, rfl, rfl, _, rfl, ?_⟩
      refine ifN (fun z => nomatch z) ?_
      refine ⟨_, rfl, _, rfl, _, rfl, ?_⟩
      refine ifN (fun z => nomatch z) ?_
      refine ⟨_, rfl, _, rfl, _, rfl, ?_⟩
      refine ifN (fun z => nomatch z) ?_
      refine ⟨_, rfl, _, _, _, _, false, rfl, .ty _, .base (.str i), kit_ty (by decide +kernel), _, rfl, ?_⟩
      refine iteF ?_
      refine ⟨_, rfl, _, _, _, _, true, rfl, .ty _, .base (.str i), kit_ty (by decide +kernel), _, rfl, ?_⟩
      refine iteT ?_
      refine ⟨_, rfl, _, _, _, _, true, rfl, .ty _, .base (.str i), kit_ty (by decide +kernel), _, rfl, ?_⟩
      refine iteT ?_
      refine ⟨_, rfl, _, rfl, rfl, ?_⟩
      rw [decide_eq_true rfl]
      exact k
    | @lst n a b xs ys ha hb hl hz hi =>
      refine ⟨_, rfl, rfl, _, rfl, ?_⟩
      refine ifN (fun z => nomatch z) ?_
      refine ⟨_, rfl, _, rfl, _, rfl, ?_⟩
      refine ifN (fun z => nomatch z) ?_
      refine ⟨_, rfl, _, rfl, _, rfl, ?_⟩
      refine ifN (fun z => nomatch z) ?_
      refine ⟨_, rfl, _, _, _, _, false, rfl, .ty _, .base (.lst hb), kit_ty (by decide +kernel), _, rfl, ?_⟩
      refine iteF ?_
      refine ⟨_, rfl, _, _, _, _, false, rfl, .ty _, .base (.lst hb), kit_ty (by decide +kernel), _, rfl, ?_⟩
      refine iteF ?_
      refine ⟨_, rfl, _, _, _, _, false, rfl, .ty _, .base (.lst hb), kit_ty (by decide +kernel), _, rfl, ?_⟩
      refine iteF (iteF ?_)
      refine ⟨_, rfl, _, _, _, _, true, rfl, .ty _, .base (.lst hb), kit_ty (by decide +kernel), _, rfl, ?_⟩
      refine iteT ?_
      refine ⟨_, rfl, _, _, _, _, true, rfl, .ty _, .base (.lst ha), kit_ty (by decide +kernel), _, rfl, ?_⟩
      refine iteF ?_
      refine ⟨_, rfl, _, _, rfl, .inl (SqL.of ha), _, rfl, _, _, rfl, .inl (SqL.of hb), rfl, _, rfl, ?_⟩
      refine nifY (by rw [hl]) ?_
      refine ⟨_, rfl, _, _, rfl, .inl (SqL.of hb), _, rfl, by omega, by omega, for_range (lo := 0) (n := ys.length) (fun i σ H2 => ∃ v, σ = [some (.ref a), some (.ref b), v] ∧ H2 = H) ⟨none, rfl, rfl⟩ ?_ ?_⟩
      · rintro i σ H2 hin ⟨v, rfl, rfl⟩
        have hx : xs[i]? = some xs[i] := List.getElem?_eq_getElem (by omega)
        have hy : ys[i]? = some ys[i] := List.getElem?_eq_getElem hin
        refine ⟨_, rfl, _, rfl, .inl ⟨_, _, _, _, rfl, rfl, SqL.of ha, at_of (Int.zero_add _) hx, ?_⟩⟩
        refine ⟨_, rfl, _, rfl, .inl ⟨_, _, _, _, rfl, rfl, SqL.of hb, at_of (Int.zero_add _) hy, ?_⟩⟩
        refine ⟨_, _, rfl, hi i _ _ hx hy, _, rfl, ?_⟩
        refine iteF ?_
        exact ⟨_, rfl, rfl⟩
      · rintro σ H2 ⟨v, rfl, rfl⟩
        exact k
    | @tup n a b xs ys ha hb hl hz hi =>
      refine ⟨_, rfl, rfl, _, rfl, ?_⟩
      refine ifN (fun z => nomatch z) ?_
      refine ⟨_, rfl, _, rfl, _, rfl, ?_⟩
      refine ifN (fun z => nomatch z) ?_
      refine ⟨_, rfl, _, rfl, _, rfl, ?_⟩
      refine ifN (fun z => nomatch z) ?_
      refine ⟨_, rfl, _, _, _, _, false, rfl, .ty _, .base (.tup hb), kit_ty (by decide +kernel), _, rfl, ?_⟩
      refine iteF ?_
      refine ⟨_, rfl, _, _, _, _, false, rfl, .ty _, .base (.tup hb), kit_ty (by decide +kernel), _, rfl, ?_⟩
      refine iteF ?_
      refine ⟨_, rfl, _, _, _, _, true, rfl, .ty _, .base (.tup hb), kit_ty (by decide +kernel), _, rfl, ?_⟩
      refine iteT ?_
      refine ⟨_, rfl, _, _, _, _, true, rfl, .ty _, .base (.tup ha), kit_ty (by decide +kernel), _, rfl, ?_⟩
      refine iteF ?_
      refine ⟨_, rfl, _, _, _, _, false, rfl, .ty _, .base (.tup hb), kit_ty (by decide +kernel), _, rfl, ?_⟩
      refine iteF (iteF ?_)
      refine ⟨_, rfl, _, _, rfl, .inr (SqT.of ha), _, rfl, _, _, rfl, .inr (SqT.of hb), rfl, _, rfl, ?_⟩
      refine nifY (by rw [hl]) ?_
      refine ⟨_, rfl, _, _, rfl, .inr (SqT.of hb), _, rfl, by omega, by omega, for_range (lo := 0) (n := ys.length) (fun i σ H2 => ∃ v, σ = [some (.ref a), some (.ref b), v] ∧ H2 = H) ⟨none, rfl, rfl⟩ ?_ ?_⟩
      · rintro i σ H2 hin ⟨v, rfl, rfl⟩
        have hx : xs[i]? = some xs[i] := List.getElem?_eq_getElem (by omega)
        have hy : ys[i]? = some ys[i] := List.getElem?_eq_getElem hin
        refine ⟨_, rfl, _, rfl, .inr ⟨_, _, _, _, rfl, rfl, SqT.of ha, at_of (Int.zero_add _) hx, ?_⟩⟩
        refine ⟨_, rfl, _, rfl, .inr ⟨_, _, _, _, rfl, rfl, SqT.of hb, at_of (Int.zero_add _) hy, ?_⟩⟩
        refine ⟨_, _, rfl, hi i _ _ hx hy, _, rfl, ?_⟩
        refine iteF ?_
        exact ⟨_, rfl, rfl⟩
      · rintro σ H2 ⟨v, rfl, rfl⟩
        exact k
/-- what it keeps at every depth -/
theorem ok_same {f : Addr} {fd : FuncData} (F : Fun K "_law_same" "_law_same" (top 33) f fd) (T : TxL K mg) (hm : mg "_law_same" = some (.ref f)) (b : Binds K fd ["_law_found", "_law_due"] []) : ∀ n, FnOk P w K mg base CX0 (n + 1) f fd ["_law_found", "_law_due"] (spSame n)
  | 0 => ok_same1 F T 0 (cal_false hm F.kp b)
  | n + 1 => ok_same1 F T (n + 1) ⟨f, fd, _, ok_same F T hm b n, hm, F.kp, b⟩
end
/-! ### the scales of integers brought back -/
structure TxC (K : PySem.W.Frag) (mg : Str → Option Value) : Prop extends TxL K mg where
  g_MOST_DEPTH : ∃ u, mg "MOST_DEPTH" = some u ∧ RelV (.int 20) u
  g_MOST_GRADES : ∃ u, mg "MOST_GRADES" = some u ∧ RelV (.int 64) u
/-- a class of scales: its objects' attributes may be stored and read -/
structure SCls (K : PySem.W.Frag) (C : Addr) : Prop where
  cl : Cls K C
  label : NoAttr K C "label"
  size : NoAttr K C "size"
  zero_at : NoAttr K C "zero_at"
  one_at : NoAttr K C "one_at"
  depth : NoAttr K C "depth"
def spScaleInit (K : PySem.W.Frag) : Sp := fun vs H Q _ => ∃ (p C dx : Addr) (fs : List (Str × V)) (lb : Str) (sz z o : V) (d : Int), vs = [.ref p, .str lb, sz, z, o, .int d] ∧ d ≤ 20 ∧ SCls K C ∧ H p = some (.ins C dx fs) ∧ fs.length ≤ 900 ∧
  Q .non (upd H p (.ins C dx (putF "depth" (.int d) (putF "one_at" o (putF "zero_at" z (putF "size" sz (putF "label" (.str lb) fs)))))))
section
variable {P : Program} {w : World} {K : PySem.W.Frag} {mg : Str → Option Value} {base : Heap}
theorem sc_Scale___init__ : FnScope ["self", "label", "size", "zero_at", "one_at", "depth"] ["self", "label", "size", "zero_at", "one_at", "depth"] (defScope (inClass (top 14) 0)) := ⟨rfl, rfl, rfl, by decide +kernel, rfl, by decide +kernel, by decide +kernel⟩
theorem ok_scale_init {f : Addr} {fd : FuncData} (F : Fun K "__init__" "Scale.__init__" (inClass (top 14) 0) f fd) (T : TxC K mg) : FnOk P w K mg base CX0 1 f fd ["self", "label", "size", "zero_at", "one_at", "depth"] (spScaleInit K) := by
  refine F.ok sc_Scale___init__ (fun vs H Q E h => ?_) (fun cdv A outer s H vs Q E hr h => ?_)
  · obtain ⟨p, C, dx, fs, lb, sz, z, o, d, rfl, _⟩ := h
    rfl
  · obtain ⟨p, C, dx, fs, lb, sz, z, o, d, rfl, hd, SC, hp, hk, k⟩ := h
    refine ⟨_, (pss_cons (ps_if (pt_cmpR op_gt (pv 5) (pe_gx (by rfl) T.g_MOST_DEPTH) (nomark _)) (pss_one ps_never) pss_nil)
      (pss_cons (ps_fld (pv 0) (pv 1) rfl)
      (pss_cons (ps_fld (pv 0) (pv 2) rfl)
      (pss_cons (ps_fld (pv 0) (pv 3) rfl)
      (pss_cons (ps_fld (pv 0) (pv 4) rfl)
      (pss_one (ps_fld (pv 0) (pv 5) rfl))))))), ?_⟩
    refine ⟨_, rfl, _, _, rfl, rfl, _, rfl, ?_⟩
    refine ifN (by omega) ?_
    have l1 := putF_n (f := "label") (v := .str lb) hk
    have l2 := putF_n (f := "size") (v := sz) l1
    have l3 := putF_n (f := "zero_at") (v := z) l2
    have l4 := putF_n (f := "one_at") (v := o) l3
    refine ⟨_, rfl, _, rfl, p, C, dx, _, rfl, hp, SC.cl, SC.label, by omega, ?_⟩
    refine ⟨_, rfl, _, rfl, p, C, dx, _, rfl, upd_same, SC.cl, SC.size, by omega, ?_⟩
    refine ⟨_, rfl, _, rfl, p, C, dx, _, rfl, upd_same, SC.cl, SC.zero_at, by omega, ?_⟩
    refine ⟨_, rfl, _, rfl, p, C, dx, _, rfl, upd_same, SC.cl, SC.one_at, by omega, ?_⟩
    refine ⟨_, rfl, _, rfl, p, C, dx, _, rfl, upd_same, SC.cl, SC.depth, by omega, ?_⟩
    rw [upd_upd, upd_upd, upd_upd, upd_upd]
    exact k
end
structure LCls (K : PySem.W.Frag) (C : Addr) : Prop extends SCls K C where
  _names : NoAttr K C "_names"
  _found : NoAttr K C "_found"
/-- the attributes that a listed scale gets, behind those that it has -/
def listedFs (fs : List (Str × V)) (lb : Str) (n : Nat) (z o : V) (l d : Addr) : List (Str × V) :=
  putF "_found" (.ref d) (putF "_names" (.ref l) (putF "depth" (.int 1) (putF "one_at" o (putF "zero_at" z (putF "size" (.int (n : Int)) (putF "label" (.str lb) fs))))))
def spListedInit (K : PySem.W.Frag) : Sp := fun vs H Q _ => ∃ (p C dx a : Addr) (fs : List (Str × V)) (lb : Str) (zs : List Str) (z o : V), vs = [.ref p, .str lb, .ref a, z, o] ∧ LCls K C ∧ H p = some (.ins C dx fs) ∧ fs.length ≤ 800 ∧
  H a = some (.lst (zs.map V.str)) ∧ zs.length ≤ 1000 ∧
  ∀ l d H', H l = none → H d = none → But p H H' → H' l = some (.lst (zs.map V.str)) → H' d = some (.dK (foundTo zs zs.length)) → H' p = some (.ins C dx (listedFs fs lb zs.length z o l d)) → Q .non H'
section
variable {P : Program} {w : World} {K : PySem.W.Frag} {mg : Str → Option Value} {base : Heap}
theorem sc_ListedScale___init__ : FnScope ["self", "label", "names", "zero_at", "one_at", "place"] ["self", "label", "names", "zero_at", "one_at"] (defScope (inClass (top 15) 0)) := ⟨rfl, rfl, rfl, by decide +kernel, rfl, by decide +kernel, by decide +kernel⟩
theorem ok_listed_init {f : Addr} {fd : FuncData} (F : Fun K "__init__" "ListedScale.__init__" (inClass (top 15) 0) f fd) (T : TxC K mg) (cf_Scale___init__ : CFB P w K mg base CX0 1 "Scale" "__init__" (spScaleInit K)) : FnOk P w K mg base CX0 2 f fd ["self", "label", "names", "zero_at", "one_at"] (spListedInit K) := by
  refine F.ok sc_ListedScale___init__ (fun vs H Q E h => ?_) (fun cdv A outer s H vs Q E hr h => ?_)
  · obtain ⟨p, C, dx, a, fs, lb, zs, z, o, rfl, _⟩ := h
    rfl
  · obtain ⟨p, C, dx, a, fs, lb, zs, z, o, rfl, LC, hp, hk, ha, hz, k⟩ := h
    have nap : a ≠ p := ne_of ha hp (by intro z; cases z)
    refine ⟨_, (pss_cons (ps_expr (pe_cf cf_Scale___init__ hr (by decide) (by rfl) (pa_cons (pv 0) (pa_cons (pv 1) (pa_cons (pe_callB call_len_seq (by rfl) T.len (by decide +kernel) (pa_cons (pv 2) pa_nil)) (pa_cons (pv 3) (pa_cons (pv 4) (pa_cons pe_int pa_nil))))))))
      (pss_cons (ps_fld (pv 0) (pe_callTy call_list_of (by rfl) T.list (by decide +kernel) (pa_cons (pv 2) pa_nil)) rfl)
      (pss_one (ps_fld (pv 0) (pe_dc (own := [("place", 5)]) (g := (gName 5)) (by rfl) sc_ListedScale___init__.nd (pi_range1 (by rfl) T.range (pa_cons (pe_callB call_len_seq (by rfl) T.len (by decide +kernel) (pa_cons (pv 2) pa_nil)) pa_nil)) (blkOk_by (own := [("place", 5)]) (N := ["self", "label", "names", "zero_at", "one_at", "place"]) (sc := defScope (inClass (top 15) 0)) (by decide +kernel)) (fun _ _ _ _ _ => (pg_name (i := 5) sc_ListedScale___init__.nd rfl (Or.inl rfl))) (fun _ _ _ _ _ => pts_nil) (fun _ _ _ _ _ => (pe_ix (ix_listK K rfl) (pv 2) (pv 5) (fun _ _ => rfl))) (fun _ _ _ _ _ => (pv 5))) rfl)))), ?_⟩
    refine ⟨_, rfl, _, rfl, _, rfl, a, _, rfl, .inl (SqL.of ha), _, rfl, _, rfl, ?_⟩
    refine ⟨p, C, dx, fs, lb, _, z, o, 1, rfl, by decide, LC.toSCls, hp, by omega, ?_⟩
    have l1 := putF_n (f := "label") (v := .str lb) hk
    have l2 := putF_n (f := "size") (v := .int (((zs.map V.str).length : Nat) : Int)) l1
    have l3 := putF_n (f := "zero_at") (v := z) l2
    have l4 := putF_n (f := "one_at") (v := o) l3
    have l5 := putF_n (f := "depth") (v := .int 1) l4
    -- self._names = list(names)
    refine ⟨_, rfl, a, _, rfl, .inl (SqL.of (by rw [upd_ne nap]; exact ha)), fun l hl => ?_⟩
    have npl : p ≠ l := ne_of_none upd_same hl
    have nal : a ≠ l := ne_of_none (by rw [upd_ne nap]; exact ha) hl
    refine ⟨_, rfl, p, C, dx, _, rfl, (by rw [upd_ne npl]; exact upd_same), LC.cl, LC._names, by omega, ?_⟩
    have l6 := putF_n (f := "_names") (v := .ref l) l5
    -- self._found = {..}
    have ha2 : ∀ u v w, (upd (upd (upd H p u) l v) p w) a = some (.lst (zs.map V.str)) := fun u v w => by rw [upd_ne nap, upd_ne nal, upd_ne nap]; exact ha
    refine ⟨_, rfl, a, _, rfl, .inl (SqL.of (ha2 _ _ _)), _, rfl, (by rw [List.length_map]; omega), (by rw [List.length_map]; omega), fun D hD => dcF_range (lo := 0) (n := (zs.map V.str).length) (foundTo zs) rfl ?_ ?_⟩
    · intro i hi
      rw [List.length_map] at hi
      have naD : a ≠ D := ne_of_none (ha2 _ _ _) hD
      refine ⟨rfl, ?_⟩
      refine tYesI (iteT ?_)
      refine ⟨_, rfl, _, rfl, a, _, _, _, rfl, rfl, SqL.of (by rw [upd_ne naD]; exact ha2 _ _ _), at_of (Int.zero_add _) (at_mapS hi), ?_⟩
      refine ⟨_, rfl, _, Sum.inr _, rfl, upd_same, small1000 (Nat.le_trans (foundTo_le zs i) (by omega)), ?_⟩
      rw [upd_upd, Int.zero_add]
      rfl
    · have npD : p ≠ D := ne_of_none upd_same hD
      have nlD : l ≠ D := ne_of_none (by rw [upd_ne npl.symm, upd_same]) hD
      refine ⟨_, rfl, p, C, dx, _, rfl, (by rw [upd_ne npD]; exact upd_same), LC.cl, LC._found, by omega, ?_⟩
      have hl0 : H l = none := by rw [upd_ne npl.symm] at hl; exact hl
      have hD0 : H D = none := by rw [upd_ne npD.symm, upd_ne nlD.symm, upd_ne npD.symm] at hD; exact hD
      have b3 : ∀ u v w x y, But p H (upd (upd (upd (upd (upd H p u) l v) p w) D x) p y) := fun u v w x y b o e nb => by
        have nl : b ≠ l := ne_of_none e hl0
        have nd : b ≠ D := ne_of_none e hD0
        rw [upd_ne nb, upd_ne nd, upd_ne nb, upd_ne nl, upd_ne nb]; exact e
      refine k l D _ hl0 hD0 (b3 _ _ _ _ _) ?_ ?_ ?_
      · rw [upd_ne npl.symm, upd_ne nlD, upd_ne npl.symm, upd_same]
      · rw [upd_ne npD.symm, upd_same, List.length_map]
      · rw [upd_same, List.length_map]; rfl
end
/-- the index of an endless run that comes back -/
def runIx (n : Nat) (b i : Int) : Nat := if i < (n : Int) then i.toNat else (b + (i - b) % ((n : Int) - b)).toNat
def spItem (K : PySem.W.Frag) : Sp := fun vs H Q _ => ∃ (a : Addr) (xs : List V) (b i : Int) (v : V), vs = [.ref a, .int b, .int i] ∧ SqL K H a xs ∧ 0 ≤ b ∧ b < (xs.length : Int) ∧ 0 ≤ i ∧ xs[runIx xs.length b i]? = some v ∧ Q v H
section
variable {P : Program} {w : World} {K : PySem.W.Frag} {mg : Str → Option Value} {base : Heap}
theorem sc_item_of_run : FnScope ["trail", "back", "index"] ["trail", "back", "index"] (defScope (top 3)) := ⟨rfl, rfl, rfl, by decide +kernel, rfl, by decide +kernel, by decide +kernel⟩
theorem ok_item {f : Addr} {fd : FuncData} (F : Fun K "item_of_run" "item_of_run" (top 3) f fd) (T : TxC K mg) : FnOk P w K mg base CX0 1 f fd ["trail", "back", "index"] (spItem K) := by
  refine F.ok sc_item_of_run (fun vs H Q E h => ?_) (fun cdv A outer s H vs Q E hr h => ?_)
  · obtain ⟨a, xs, b, i, v, rfl, _⟩ := h
    rfl
  · obtain ⟨a, xs, b, i, v, rfl, hS, hb, hbl, hi, hv, k⟩ := h
    refine ⟨_, (pss_cons (ps_if (pt_cmpR op_lt (pv 2) (pe_callB call_len_seq (by rfl) T.len (by decide +kernel) (pa_cons (pv 0) pa_nil)) (nomark _)) (pss_one (ps_ret (pe_ix ix_list (pv 0) (pv 2) (fun _ _ => rfl)))) pss_nil)
      (pss_one (ps_ret (pe_ix ix_list (pv 0) (pe_op op_add (pv 1) (pe_op op_mod (pe_op op_sub (pv 2) (pv 1)) (pe_op op_sub (pe_callB call_len_seq (by rfl) T.len (by decide +kernel) (pa_cons (pv 0) pa_nil)) (pv 1)))) (fun _ _ => rfl))))), ?_⟩
    refine ⟨_, rfl, _, rfl, a, _, rfl, .inl hS, _, _, rfl, rfl, _, rfl, ?_⟩
    unfold runIx at hv
    refine ifD (fun hlt => ?_) (fun hlt => ?_)
    · rw [if_pos hlt] at hv
      exact ⟨_, rfl, _, rfl, a, _, _, _, rfl, rfl, hS, at_of (Int.toNat_of_nonneg hi).symm hv, k⟩
    · rw [if_neg hlt] at hv
      refine ⟨_, rfl, _, rfl, _, rfl, _, rfl, _, _, rfl, rfl, _, rfl, a, _, rfl, .inl hS, _, rfl, _, _, rfl, rfl, _, _, rfl, rfl, (by show 0 < (xs.length : Int) - b; omega), _, _, rfl, rfl, ?_⟩
      have e0 : 0 ≤ (i - b) % ((xs.length : Int) - b) := Int.emod_nonneg _ (by omega)
      exact ⟨a, _, _, _, rfl, rfl, hS, at_of (Int.toNat_of_nonneg (by omega)).symm hv, k⟩
end
/-! ## scales of every kind: what they are (SD), how they stand in the heap (ScAt), what their methods give -/
inductive Kn | cut | lev | sub | span | rel | tab | ex | most | least | pair | turn
  deriving DecidableEq
/-- a place: a number or a pair of places -/
inductive Pl | n (i : Int) | p (a b : Pl)
  deriving DecidableEq
/-- a scale of its own, with finitely many grades, whose places are numbers -/
structure Prim where
  size : Nat
  zero : Int
  one : Int
  sum : Int → Int → Int
  prod : Int → Int → Int
  within : Int → Int → Bool
  names : List Str
  label : Str
structure PrimOk (m : Prim) : Prop where
  pos : 1 ≤ m.size
  most : m.size ≤ 64
  names : m.names.length = m.size
  inj : ∀ i < m.size, ∀ j < m.size, m.names.getD i Str.empty = m.names.getD j Str.empty → i = j
  short : ∀ z ∈ m.names, z.length ≤ 100
  zero : 0 ≤ m.zero ∧ m.zero < (m.size : Int)
  one : 0 ≤ m.one ∧ m.one < (m.size : Int)
  sum : ∀ a b, 0 ≤ a → a < (m.size : Int) → 0 ≤ b → b < (m.size : Int) → 0 ≤ m.sum a b ∧ m.sum a b < (m.size : Int)
  prod : ∀ a b, 0 ≤ a → a < (m.size : Int) → 0 ≤ b → b < (m.size : Int) → 0 ≤ m.prod a b ∧ m.prod a b < (m.size : Int)
  label : m.label.length ≤ 90002
inductive SD
  | leaf (k : Kn) (m : Prim)
  | tally (k : Kn)
  | pair (l r : SD)
  | turned (i : SD)
namespace SD
def kn : SD → Kn
  | leaf k _ => k
  | tally k => k
  | pair _ _ => .pair
  | turned _ => .turn
def size : SD → Option Nat
  | leaf _ m => some m.size
  | tally _ => none
  | pair l r => match l.size, r.size with
    | some a, some b => some (a * b)
    | _, _ => none
  | turned i => i.size
def depth : SD → Nat
  | leaf _ _ => 1
  | tally _ => 1
  | pair l r => max l.depth r.depth + 1
  | turned i => i.depth + 1
def label : SD → Str
  | leaf _ m => m.label
  | tally k => if k = .ex then "(tally same)" else if k = .most then "(tally up)" else "(tally down)"
  | pair l r => Str.empty ++ "(pair " ++ l.label ++ " " ++ r.label ++ ")"
  | turned i => Str.empty ++ "(turned " ++ i.label ++ ")"
def zero : SD → Pl
  | leaf _ m => .n m.zero
  | tally _ => .n 0
  | pair l r => .p l.zero r.zero
  | turned i => i.zero
def one : SD → Pl
  | leaf _ m => .n m.one
  | tally _ => .n 1
  | pair l r => .p l.one r.one
  | turned i => i.one
def sum : SD → Pl → Pl → Pl
  | leaf _ m, .n a, .n b => .n (m.sum a b)
  | tally _, .n a, .n b => .n (a + b)
  | pair l r, .p a b, .p c d => .p (l.sum a c) (r.sum b d)
  | turned i, a, b => i.sum a b
  | _, a, _ => a
def prod : SD → Pl → Pl → Pl
  | leaf _ m, .n a, .n b => .n (m.prod a b)
  | tally _, .n a, .n b => .n (a * b)
  | pair l r, .p a b, .p c d => .p (l.prod a c) (r.prod b d)
  | turned i, a, b => i.prod a b
  | _, a, _ => a
def within : SD → Pl → Pl → Bool
  | leaf _ m, .n a, .n b => m.within a b
  | tally k, .n a, .n b => if k = .ex then decide (a = b) else if k = .most then decide (a ≤ b) else decide (b ≤ a)
  | pair l r, .p a b, .p c d => l.within a c && r.within b d
  | turned i, a, b => i.within b a
  | _, _, _ => false
/-- the places of a scale -/
def okp : SD → Pl → Prop
  | leaf _ m, .n a => 0 ≤ a ∧ a < (m.size : Int)
  | tally _, .n a => 0 ≤ a
  | pair l r, .p a b => l.okp a ∧ r.okp b
  | turned i, a => i.okp a
  | _, _ => False
def places : SD → List Pl
  | leaf _ m => (List.range m.size).map fun (i : Nat) => Pl.n (i : Int)
  | tally _ => []
  | pair l r => l.places.flatMap fun a => r.places.map fun b => Pl.p a b
  | turned i => i.places
def nm : SD → Pl → Str
  | leaf _ m, .n a => m.names.getD a.toNat Str.empty
  | tally _, .n a => num a
  | pair l r, .p a b => Str.empty ++ "<" ++ l.nm a ++ "/" ++ r.nm b ++ ">"
  | turned i, a => i.nm a
  | _, _ => Str.empty
end SD
/-- the least bound by its definition, over the places -/
def boundP (ps : List Pl) (W : Pl → Pl → Bool) (a b : Pl) : Option Pl :=
  (ps.filter fun u => W a u && W b u).find? fun u => (ps.filter fun u => W a u && W b u).all fun x => W u x
/-- a scale's own laws of being a scale -/
def lkn : Kn → Bool
  | .ex | .most | .least | .pair | .turn => false
  | _ => true
def SD.Ok : SD → Prop
  | .leaf k m => lkn k = true ∧ PrimOk m
  | .tally k => k = .ex ∨ k = .most ∨ k = .least
  | .pair l r => l.Ok ∧ r.Ok ∧ ∀ a b, l.size = some a → r.size = some b → a * b ≤ 64
  | .turned i => i.Ok ∧ ∃ n, i.size = some n
def PlAt (H : Hp) : Pl → V → Prop
  | .n i, v => v = .int i
  | .p a b, v => ∃ q x y, v = .ref q ∧ H q = some (.tup [x, y]) ∧ PlAt H a x ∧ PlAt H b y
theorem PlAt.same {H H' : Hp} (e : Same H H') : ∀ {a : Pl} {v : V}, PlAt H a v → PlAt H' a v
  | .n _, _, h => h
  | .p _ _, _, ⟨q, x, y, h1, h2, h3, h4⟩ => ⟨q, x, y, h1, e _ _ h2, h3.same e, h4.same e⟩
def mnames : List Str := ["places", "sum_at", "product_at", "within_at", "bound_at", "within_all", "name_at", "find_at", "at_name", "times_at", "ones", "power_at", "tails_at", "turns_at"]
def NoM (fs : List (Str × V)) : Prop := ∀ m ∈ mnames, fld fs m = none
def sizeV : Option Nat → V
  | none => .non
  | some n => .int (n : Int)
structure ScHd (H : Hp) (fs : List (Str × V)) (d : SD) : Prop where
  label : fld fs "label" = some (.str d.label)
  size : fld fs "size" = some (sizeV d.size)
  zero : ∃ v, fld fs "zero_at" = some v ∧ PlAt H d.zero v
  one : ∃ v, fld fs "one_at" = some v ∧ PlAt H d.one v
  depth : fld fs "depth" = some (.int (d.depth : Int))
  nom : NoM fs
theorem ScHd.same {H H' : Hp} {fs : List (Str × V)} {d : SD} (h : ScHd H fs d) (e : Same H H') : ScHd H' fs d := by
  obtain ⟨h1, h2, ⟨z, h3, h4⟩, ⟨o, h5, h6⟩, h7, h8⟩ := h
  exact ⟨h1, h2, ⟨z, h3, h4.same e⟩, ⟨o, h5, h6.same e⟩, h7, h8⟩
/-- which classes there are, and what the scales of their own hold -/
structure SE where
  cls : Kn → Addr
  pr : Kn → Bool
  Lf : Kn → Prim → Hp → List (Str × V) → Prop
  LfS : ∀ {k m H H' fs}, Same H H' → Lf k m H fs → Lf k m H' fs
  LfN : ∀ {k m H fs}, Lf k m H fs → (∃ l, fld fs "_names" = some (.ref l) ∧ H l = some (.lst (m.names.map V.str))) ∧ ∃ d, fld fs "_found" = some (.ref d) ∧ H d = some (.dK (foundTo m.names m.names.length))
def ScAt (S : SE) (H : Hp) : SD → Addr → Prop
  | .leaf k m, p => ∃ dx fs, H p = some (.ins (S.cls k) dx fs) ∧ S.pr k = true ∧ ScHd H fs (.leaf k m) ∧ S.Lf k m H fs
  | .tally k, p => ∃ dx fs, H p = some (.ins (S.cls k) dx fs) ∧ S.pr k = true ∧ ScHd H fs (.tally k)
  | .pair l r, p => ∃ dx fs, H p = some (.ins (S.cls .pair) dx fs) ∧ S.pr .pair = true ∧ ScHd H fs (.pair l r) ∧ ∃ ql qr, fld fs "left" = some (.ref ql) ∧ fld fs "right" = some (.ref qr) ∧ ScAt S H l ql ∧ ScAt S H r qr
  | .turned i, p => ∃ dx fs, H p = some (.ins (S.cls .turn) dx fs) ∧ S.pr .turn = true ∧ ScHd H fs (.turned i) ∧ ∃ q, fld fs "inner" = some (.ref q) ∧ ScAt S H i q
theorem ScAt.same {S : SE} {H H' : Hp} (e : Same H H') : ∀ {d : SD} {p : Addr}, ScAt S H d p → ScAt S H' d p
  | .leaf _ _, _, ⟨dx, fs, h1, h2, h3, h4⟩ => ⟨dx, fs, e _ _ h1, h2, h3.same e, S.LfS e h4⟩
  | .tally _, _, ⟨dx, fs, h1, h2, h3⟩ => ⟨dx, fs, e _ _ h1, h2, h3.same e⟩
  | .pair _ _, _, ⟨dx, fs, h1, h2, h3, ql, qr, h4, h5, h6, h7⟩ => ⟨dx, fs, e _ _ h1, h2, h3.same e, ql, qr, h4, h5, h6.same e, h7.same e⟩
  | .turned _, _, ⟨dx, fs, h1, h2, h3, q, h4, h5⟩ => ⟨dx, fs, e _ _ h1, h2, h3.same e, q, h4, h5.same e⟩
theorem ScAt.hd {S : SE} {H : Hp} : ∀ {d : SD} {p : Addr}, ScAt S H d p → ∃ dx fs, H p = some (.ins (S.cls d.kn) dx fs) ∧ S.pr d.kn = true ∧ ScHd H fs d
  | .leaf _ _, _, ⟨dx, fs, h1, h2, h3, _⟩ => ⟨dx, fs, h1, h2, h3⟩
  | .tally _, _, ⟨dx, fs, h1, h2, h3⟩ => ⟨dx, fs, h1, h2, h3⟩
  | .pair _ _, _, ⟨dx, fs, h1, h2, h3, _⟩ => ⟨dx, fs, h1, h2, h3⟩
  | .turned _, _, ⟨dx, fs, h1, h2, h3, _⟩ => ⟨dx, fs, h1, h2, h3⟩
abbrev Pk (S : SE) := {k : Kn // S.pr k = true}
/-! ### what the methods promise, for the scales of kind k whose depth is at most n -/
section
variable (S : SE) (k : Kn) (n : Nat)
def spSum : Sp := fun vs H Q _ => ∃ (p : Addr) (d : SD) (a b : Pl) (x y : V), vs = [.ref p, x, y] ∧ ScAt S H d p ∧ d.kn = k ∧ d.depth ≤ n ∧ d.Ok ∧ PlAt H a x ∧ PlAt H b y ∧ d.okp a ∧ d.okp b ∧ ∀ v H', Same H H' → PlAt H' (d.sum a b) v → Q v H'
def spProd : Sp := fun vs H Q _ => ∃ (p : Addr) (d : SD) (a b : Pl) (x y : V), vs = [.ref p, x, y] ∧ ScAt S H d p ∧ d.kn = k ∧ d.depth ≤ n ∧ d.Ok ∧ PlAt H a x ∧ PlAt H b y ∧ d.okp a ∧ d.okp b ∧ ∀ v H', Same H H' → PlAt H' (d.prod a b) v → Q v H'
def spWith : Sp := fun vs H Q _ => ∃ (p : Addr) (d : SD) (a b : Pl) (x y : V), vs = [.ref p, x, y] ∧ ScAt S H d p ∧ d.kn = k ∧ d.depth ≤ n ∧ d.Ok ∧ PlAt H a x ∧ PlAt H b y ∧ d.okp a ∧ d.okp b ∧ ∀ H', Same H H' → Q (.bl (d.within a b)) H'
def spPls : Sp := fun vs H Q _ => ∃ (p : Addr) (d : SD) (m : Nat), vs = [.ref p] ∧ ScAt S H d p ∧ d.kn = k ∧ d.depth ≤ n ∧ d.Ok ∧ d.size = some m ∧ ∀ l xs H', H l = none → Same H H' → H' l = some (.lst xs) → xs.length = d.places.length → (∀ (i : Nat) x u, xs[i]? = some x → d.places[i]? = some u → PlAt H' u x) → Q (.ref l) H'
def spNm : Sp := fun vs H Q _ => ∃ (p : Addr) (d : SD) (a : Pl) (x : V), vs = [.ref p, x] ∧ ScAt S H d p ∧ d.kn = k ∧ d.depth ≤ n ∧ d.Ok ∧ PlAt H a x ∧ d.okp a ∧ ∀ H', Same H H' → Q (.str (d.nm a)) H'
end
/-- a name's place -/
def SD.find : SD → Str → Option Pl
  | .leaf _ m, z => match valV (foundTo m.names m.names.length) (Sum.inr z : Key) with
    | some (.int i) => some (.n i)
    | _ => none
  | .turned i, z => i.find z
  | _, _ => none
def OptAt (H : Hp) : Option Pl → V → Prop
  | none, v => v = .non
  | some a, v => PlAt H a v
theorem OptAt.same {H H' : Hp} (e : Same H H') : ∀ {a : Option Pl} {v : V}, OptAt H a v → OptAt H' a v
  | none, _, h => h
  | some _, _, h => PlAt.same e h
section
variable (S : SE) (k : Kn) (n : Nat)
def spFind : Sp := fun vs H Q _ => ∃ (p : Addr) (d : SD) (z : Str), vs = [.ref p, .str z] ∧ ScAt S H d p ∧ d.kn = k ∧ d.depth ≤ n ∧ d.Ok ∧ z.length ≤ 100000 ∧ ∀ v H', Same H H' → OptAt H' (d.find z) v → Q v H'
end
/-- the facts of the classes of scales -/
structure ScCls (K : PySem.W.Frag) (S : SE) : Prop where
  cls : ∀ k, S.pr k = true → SCls K (S.cls k)
structure TuCls (K : PySem.W.Frag) (S : SE) : Prop where
  sc : SCls K (S.cls .turn)
  inner : NoAttr K (S.cls .turn) "inner"
theorem nom_mem {m : Str} {fs : List (Str × V)} (h : NoM fs) (e : mnames.contains m = true) : fs.lookup m = none := h m (by simpa using e)
/-- the count-th sum of ones -/
def SD.tm (d : SD) (c : Nat) : Pl := if c = 0 then d.zero else Nat.repeat (fun x => d.sum x d.one) (c - 1) d.one
section
variable (S : SE) (k : Kn) (n : Nat)
def spTm : Sp := fun vs H Q _ => ∃ (p : Addr) (d : SD) (c : Nat), vs = [.ref p, .int (c : Int)] ∧ ScAt S H d p ∧ d.kn = k ∧ d.depth ≤ n ∧ d.Ok ∧ ∀ v H', Same H H' → PlAt H' (d.tm c) v → Q v H'
def spBd : Sp := fun vs H Q _ => ∃ (p : Addr) (d : SD) (m : Nat) (a b : Pl) (x y : V), vs = [.ref p, x, y] ∧ ScAt S H d p ∧ d.kn = k ∧ d.depth ≤ n ∧ d.Ok ∧ d.size = some m ∧ PlAt H a x ∧ PlAt H b y ∧ d.okp a ∧ d.okp b ∧ ∀ v H', Same H H' → OptAt H' (boundP d.places d.within a b) v → Q v H'
def spAll' : Sp := fun vs H Q _ => ∃ (p l : Addr) (d : SD) (u : Pl) (x : V) (us : List Pl) (xs : List V), vs = [.ref p, x, .ref l] ∧ ScAt S H d p ∧ d.kn = k ∧ d.depth ≤ n ∧ d.Ok ∧ PlAt H u x ∧ d.okp u ∧ H l = some (.lst xs) ∧ xs.length = us.length ∧ (∀ (i : Nat) y q, xs[i]? = some y → us[i]? = some q → PlAt H q y ∧ d.okp q) ∧ ∀ H', Same H H' → Q (.bl (us.all fun q => d.within u q)) H'
end
theorem SD.places_len : ∀ {d : SD} {m : Nat}, d.Ok → d.size = some m → d.places.length = m ∧ m ≤ 64
  | .leaf _ q, m, o, h => by
    obtain rfl : q.size = m := Option.some.inj h
    exact ⟨by simp [SD.places], o.2.most⟩
  | .tally _, m, _, h => by cases h
  | .turned i, m, o, h => SD.places_len (d := i) o.1 h
  | .pair l r, m, o, h => by
    cases hl : l.size with
    | none => simp [SD.size, hl] at h
    | some a =>
      cases hr : r.size with
      | none => simp [SD.size, hl, hr] at h
      | some b =>
        have e : a * b = m := by simpa [SD.size, hl, hr] using h
        have l1 := SD.places_len o.1 hl
        have r1 := SD.places_len o.2.1 hr
        have z : ∀ xs : List Pl, (xs.flatMap fun a => r.places.map fun b => Pl.p a b).length = xs.length * b := fun xs => by
          induction xs with
          | nil => simp
          | cons x xs ih => rw [List.flatMap_cons, List.length_append, ih, List.length_map, r1.1, List.length_cons, Nat.succ_mul, Nat.add_comm]
        exact ⟨by show (l.places.flatMap _).length = m; rw [z, l1.1]; exact e, by rw [← e]; exact o.2.2 a b hl hr⟩
theorem SD.places_ok : ∀ {d : SD} {u : Pl}, u ∈ d.places → d.okp u
  | .leaf _ q, u, h => by
    obtain ⟨i, hi, rfl⟩ := List.mem_map.mp h
    have := List.mem_range.mp hi
    exact ⟨by omega, by omega⟩
  | .tally _, u, h => by cases h
  | .turned i, u, h => SD.places_ok (d := i) h
  | .pair l r, u, h => by
    obtain ⟨a, ha, h2⟩ := List.mem_flatMap.mp h
    obtain ⟨b, hb, rfl⟩ := List.mem_map.mp h2
    exact ⟨SD.places_ok ha, SD.places_ok hb⟩
theorem leaf_of {S : SE} {H : Hp} {d : SD} {p : Addr} (h : ScAt S H d p) {kd : Kn} (hk : d.kn = kd) (lk : lkn kd = true) (o : d.Ok) : ∃ m, d = .leaf kd m := by
  subst hk
  cases d with
  | leaf k m => exact ⟨m, rfl⟩
  | turned i => exact absurd lk (show ¬ lkn Kn.turn = true by decide)
  | pair l r => exact absurd lk (show ¬ lkn Kn.pair = true by decide)
  | tally q => rcases o with o | o | o <;> (subst o; exact absurd lk (show ¬ _ = true by decide))
section
variable (S : SE) (CU : Addr) (k : Kn) (n : Nat)
def spAtNm : Sp := fun vs H Q E => ∃ (p : Addr) (d : SD) (z : Str), vs = [.ref p, .str z] ∧ ScAt S H d p ∧ d.kn = k ∧ d.depth ≤ n ∧ d.Ok ∧ z.length ≤ 100000 ∧
  ((∃ a, d.find z = some a ∧ ∀ v H', Same H H' → PlAt H' a v → Q v H') ∨ (d.find z = none ∧ ∀ d' H', Same H H' → H' d' = none → E (.ref CU) (some d') (upd H' d' (.xd [("name", .str z)]))))
end
/-- what every class of own, finite scales needs -/
structure LeCls (K : PySem.W.Frag) (S : SE) (kd : Kn) : Prop where
  sc : SCls K (S.cls kd)
  lk : lkn kd = true
  names : NoAttr K (S.cls kd) "_names"
  found : NoAttr K (S.cls kd) "_found"
/-! ### turned scales: their methods -/
theorem no_leaf {c : Kn} {m : Prim} (h : (SD.leaf c m).kn = .turn) (o : (SD.leaf c m).Ok) : False := by
  obtain rfl : c = .turn := h
  exact absurd o.1 (by decide)
theorem no_tally {c : Kn} (h : (SD.tally c).kn = .turn) (o : (SD.tally c).Ok) : False := by
  obtain rfl : c = .turn := h
  rcases o with o | o | o <;> cases o
section
variable {P : Program} {w : World} {K : PySem.W.Frag} {mg : Str → Option Value} {base : Heap} {S : SE} {n j : Nat}
theorem sc_TurnedScale_sum_at : FnScope ["self", "first", "second"] ["self", "first", "second"] (defScope (inClass (top 26) 2)) := ⟨rfl, rfl, rfl, by decide +kernel, rfl, by decide +kernel, by decide +kernel⟩
theorem st_TurnedScale_sum_at (v0 v1 v2 : V) : L2.start ["self", "first", "second"] [v0, v1, v2] = [some v0, some v1, some v2] := rfl
theorem ok_turn_sum {f : Addr} {fd : FuncData} (F : Fun K "sum_at" "TurnedScale.sum_at" (inClass (top 26) 2) f fd) (TC : TuCls K S) (m_sum_at : ∀ k : Pk S, Met P w K mg base CX0 j (S.cls k.1) "sum_at" (spSum S k.1 n)) : FnOk P w K mg base CX0 (j + 1) f fd ["self", "first", "second"] (spSum S .turn (n + 1)) := by
  refine F.ok sc_TurnedScale_sum_at (fun vs H Q E h => ?_) (fun cdv A outer s H vs Q E hr h => ?_)
  · obtain ⟨p, d, a, b, x, y, rfl, _⟩ := h
    rfl
  · obtain ⟨p, d, a, b, x, y, rfl, hs, hk, hd, ho, ha, hb, oa, ob, k⟩ := h
    cases d with
    | turned i =>
      obtain ⟨dx, fs, hp, _, hh, q, hq, hi⟩ := hs
      obtain ⟨dx2, fs2, hp2, pi, hh2⟩ := hi.hd
      refine ⟨_, (pss_one (ps_ret (UF.pe_ex fun (k : Pk S) => pe_mt (m_sum_at k) hr (Nat.le_refl _) (pe_fld (pv 0) rfl) (pa_cons (pv 1) (pa_cons (pv 2) pa_nil))))), ?_⟩
      rw [st_TurnedScale_sum_at]
      have w0 := V.Hw.start (H := H)
      have c1 := TC.sc.cl
      have c2 := TC.inner
      have m1 := nom_mem hh2.nom (show mnames.contains "sum_at" = true by decide +kernel)
      repeat walk_at "w"
      refine ⟨⟨i.kn, pi⟩, ?_⟩
      repeat walk_at "w"
      exact ⟨q, i, a, b, x, y, rfl, hi, rfl, by simp only [SD.depth] at hd; omega, ho.1, ha, hb, oa, ob, k⟩
    | leaf c m => exact (no_leaf hk ho).elim
    | tally c => exact (no_tally hk ho).elim
    | pair l r => cases hk
theorem sc_TurnedScale_places : FnScope ["self"] ["self"] (defScope (inClass (top 26) 1)) := ⟨rfl, rfl, rfl, by decide +kernel, rfl, by decide +kernel, by decide +kernel⟩
theorem st_TurnedScale_places (v0 : V) : L2.start ["self"] [v0] = [some v0] := rfl
theorem ok_turn_places {f : Addr} {fd : FuncData} (F : Fun K "places" "TurnedScale.places" (inClass (top 26) 1) f fd) (TC : TuCls K S) (m_places : ∀ k : Pk S, Met P w K mg base CX0 j (S.cls k.1) "places" (spPls S k.1 n)) : FnOk P w K mg base CX0 (j + 1) f fd ["self"] (spPls S .turn (n + 1)) := by
  refine F.ok sc_TurnedScale_places (fun vs H Q E h => ?_) (fun cdv A outer s H vs Q E hr h => ?_)
  · obtain ⟨p, d, z, rfl, _⟩ := h
    rfl
  · obtain ⟨p, d, z, rfl, hs, hk, hd, ho, hz, k⟩ := h
    cases d with
    | turned i =>
      obtain ⟨dx, fs, hp, _, hh, q, hq, hi⟩ := hs
      obtain ⟨dx2, fs2, hp2, pi, hh2⟩ := hi.hd
      refine ⟨_, (pss_one (ps_ret (UF.pe_ex fun (k : Pk S) => pe_mt0 (m_places k) hr (Nat.le_refl _) (pe_fld (pv 0) rfl)))), ?_⟩
      rw [st_TurnedScale_places]
      have w0 := V.Hw.start (H := H)
      have c1 := TC.sc.cl
      have c2 := TC.inner
      have m1 := nom_mem hh2.nom (show mnames.contains "places" = true by decide +kernel)
      repeat walk_at "w"
      refine ⟨⟨i.kn, pi⟩, ?_⟩
      repeat walk_at "w"
      exact ⟨q, i, z, rfl, hi, rfl, by simp only [SD.depth] at hd; omega, ho.1, hz, k⟩
    | leaf c m => exact (no_leaf hk ho).elim
    | tally c => exact (no_tally hk ho).elim
    | pair l r => cases hk
theorem sc_TurnedScale_times_at : FnScope ["self", "count"] ["self", "count"] (defScope (inClass (top 26) 7)) := ⟨rfl, rfl, rfl, by decide +kernel, rfl, by decide +kernel, by decide +kernel⟩
theorem st_TurnedScale_times_at (v0 v1 : V) : L2.start ["self", "count"] [v0, v1] = [some v0, some v1] := rfl
theorem ok_turn_times {f : Addr} {fd : FuncData} (F : Fun K "times_at" "TurnedScale.times_at" (inClass (top 26) 7) f fd) (TC : TuCls K S) (m_times_at : ∀ k : Pk S, Met P w K mg base CX0 j (S.cls k.1) "times_at" (spTm S k.1 n)) : FnOk P w K mg base CX0 (j + 1) f fd ["self", "count"] (spTm S .turn (n + 1)) := by
  refine F.ok sc_TurnedScale_times_at (fun vs H Q E h => ?_) (fun cdv A outer s H vs Q E hr h => ?_)
  · obtain ⟨p, d, c, rfl, _⟩ := h
    rfl
  · obtain ⟨p, d, c, rfl, hs, hk, hd, ho, k⟩ := h
    cases d with
    | turned i =>
      obtain ⟨dx, fs, hp, _, hh, q, hq, hi⟩ := hs
      obtain ⟨dx2, fs2, hp2, pi, hh2⟩ := hi.hd
      refine ⟨_, (pss_one (ps_ret (UF.pe_ex fun (k : Pk S) => pe_mt (m_times_at k) hr (Nat.le_refl _) (pe_fld (pv 0) rfl) (pa_cons (pv 1) pa_nil)))), ?_⟩
      rw [st_TurnedScale_times_at]
      have w0 := V.Hw.start (H := H)
      have c1 := TC.sc.cl
      have c2 := TC.inner
      have m1 := nom_mem hh2.nom (show mnames.contains "times_at" = true by decide +kernel)
      repeat walk_at "w"
      refine ⟨⟨i.kn, pi⟩, ?_⟩
      repeat walk_at "w"
      exact ⟨q, i, c, rfl, hi, rfl, by simp only [SD.depth] at hd; omega, ho.1, fun v H' e h => k v H' e h⟩
    | leaf c m => exact (no_leaf hk ho).elim
    | tally c => exact (no_tally hk ho).elim
    | pair l r => cases hk
end
/-! ### sums of ones -/
def itI (m : Prim) : Nat → Int
  | 0 => m.one
  | i + 1 => m.sum (itI m i) m.one
theorem itI_ok {m : Prim} (o : PrimOk m) : ∀ i, 0 ≤ itI m i ∧ itI m i < (m.size : Int)
  | 0 => o.one
  | i + 1 => o.sum _ _ (itI_ok o i).1 (itI_ok o i).2 o.one.1 o.one.2
theorem itI_per {m : Prim} {b t : Nat} (h : itI m t = itI m b) (lt : b < t) : ∀ i, b ≤ i → itI m (i + (t - b)) = itI m i := fun i hi => by
  obtain ⟨r, rfl⟩ : ∃ r, i = b + r := ⟨i - b, by omega⟩
  have e : b + r + (t - b) = t + r := by omega
  rw [e]
  clear e hi
  induction r with
  | zero => exact h
  | succ r ih => show m.sum (itI m (t + r)) m.one = m.sum (itI m (b + r)) m.one; rw [ih]
theorem itI_mod {m : Prim} {b t : Nat} (h : itI m t = itI m b) (lt : b < t) : ∀ (q r : Nat), itI m (b + (r + q * (t - b))) = itI m (b + r)
  | 0, r => by simp
  | q + 1, r => by
    have e : b + (r + (q + 1) * (t - b)) = (b + (r + q * (t - b))) + (t - b) := by rw [Nat.succ_mul]; omega
    rw [e, itI_per h lt _ (by omega), itI_mod h lt q r]
/-- different numbers below n are at most n -/
theorem pigeon : ∀ (n : Nat) (l : List Int), l.Nodup → (∀ x ∈ l, 0 ≤ x ∧ x < (n : Int)) → l.length ≤ n
  | 0, l, _, h => by
    cases l with
    | nil => exact Nat.le_refl _
    | cons x l => have := h x List.mem_cons_self; omega
  | n + 1, l, nd, h => by
    have e := pigeon n (l.erase (n : Int)) (nd.erase _) fun x hx => by
      have h1 := (nd.mem_erase_iff.mp hx)
      have h2 := h x h1.2
      have h3 := h1.1
      omega
    rw [List.length_erase] at e
    split at e <;> omega
theorem inV_int (x : Int) (ns : List Int) : inV (.int x) (ns.map V.int) = decide (x ∈ ns) := by
  unfold inV
  rw [List.any_map]
  by_cases h : x ∈ ns
  · rw [decide_eq_true h, List.any_eq_true]
    exact ⟨x, h, by show (x == x) = true; simp⟩
  · rw [decide_eq_false h, List.any_eq_false]
    intro y hy
    show ¬ (y == x) = true
    intro e
    have : y = x := by simpa using e
    exact h (this ▸ hy)
theorem flat_ints (ns : List Int) : (ns.map V.int).all flatV = true := by rw [List.all_map]; exact List.all_eq_true.mpr fun _ _ => rfl
def trailI (m : Prim) (t : Nat) : List Int := (List.range t).map (itI m)
theorem trail_succ (m : Prim) (t : Nat) : trailI m (t + 1) = trailI m t ++ [itI m t] := by unfold trailI; rw [List.range_succ, List.map_append]; rfl
theorem trail_at {m : Prim} {t i : Nat} (h : i < t) : (trailI m t)[i]? = some (itI m i) := by unfold trailI; rw [List.getElem?_map, range_at h]; rfl
theorem trail_len (m : Prim) (t : Nat) : (trailI m t).length = t := by unfold trailI; rw [List.length_map, List.length_range]
theorem trail_le {m : Prim} (o : PrimOk m) {t : Nat} (nd : (trailI m t).Nodup) : t ≤ m.size := by
  have h := pigeon m.size _ nd fun x hx => by
    obtain ⟨i, _, rfl⟩ := List.mem_map.mp hx
    exact itI_ok o i
  rw [trail_len] at h; exact h
section
variable (S : SE) (kd : Kn) (n : Nat)
def spOnes : Sp := fun vs H Q _ => ∃ (p : Addr) (m : Prim), vs = [.ref p] ∧ ScAt S H (.leaf kd m) p ∧ 1 ≤ n ∧ (SD.leaf kd m).Ok ∧ ∀ (l : Addr) (q : Addr) (t b : Nat) H', Same H H' → H' q = some (.tup [.ref l, .int (b : Int)]) → H' l = some (.lst ((trailI m t).map V.int)) → b < t → t ≤ m.size → itI m t = itI m b → Q (.ref q) H'
end
section
variable {P : Program} {w : World} {K : PySem.W.Frag} {mg : Str → Option Value} {base : Heap} {S : SE} {n j : Nat} {kd : Kn}
theorem sc_Scale_ones : FnScope ["self", "trail", "following"] ["self"] (defScope (inClass (top 14) 11)) := ⟨rfl, rfl, rfl, by decide +kernel, rfl, by decide +kernel, by decide +kernel⟩
theorem st_Scale_ones (v0 : V) : L2.start ["self", "trail", "following"] [v0] = [some v0, none, none] := rfl
theorem ok_ones {f : Addr} {fd : FuncData} (F : Fun K "ones" "Scale.ones" (inClass (top 14) 11) f fd) (SC : SCls K (S.cls kd)) (m_sum_at : Met P w K mg base CX0 j (S.cls kd) "sum_at" (spSum S kd n)) : FnOk P w K mg base CX0 (j + 1) f fd ["self"] (spOnes S kd n) := by
  refine F.ok sc_Scale_ones (fun vs H Q E h => ?_) (fun cdv A outer s H vs Q E hr h => ?_)
  · obtain ⟨p, m, rfl, _⟩ := h
    rfl
  · obtain ⟨p, m, rfl, hs, hn, ho, k⟩ := h
    obtain ⟨dx, fs, hp, pk, hh, lf⟩ := id hs
    have po := ho.2
    refine ⟨_, (pss_cons (ps_set (i := 1) sc_Scale_ones.nd rfl (Or.inl rfl) (pe_lst (pa_cons (pe_fld (pv 0) rfl) pa_nil)))
      (pss_cons (ps_set (i := 2) sc_Scale_ones.nd rfl (Or.inl rfl) (pe_mt m_sum_at hr (Nat.le_refl _) (pv 0) (pa_cons (pe_fld (pv 0) rfl) (pa_cons (pe_fld (pv 0) rfl) pa_nil))))
      (pss_cons (ps_while PassesOwn.never (pt_cmpR op_notIn_seq (pv 2) (pv 1) (by rfl)) (pss_cons (ps_expr (pe_bm PySem.F.plainAttrs_list PySem.F.slot_list_append PySem.F.type_list_append mt_append (pv 1) (pa_cons (pv 2) pa_nil)))
      (pss_one (ps_set (i := 2) sc_Scale_ones.nd rfl (Or.inl rfl) (pe_mt m_sum_at hr (Nat.le_refl _) (pv 0) (pa_cons (pv 2) (pa_cons (pe_fld (pv 0) rfl) pa_nil)))))))
      (pss_one (ps_ret (pe_tup (pa_cons (pv 1) (pa_cons (pe_bm PySem.F.plainAttrs_list PySem.F.slot_list_index PySem.F.type_list_index mt_index (pv 1) (pa_cons (pv 2) pa_nil)) pa_nil)))))))), ?_⟩
    rw [st_Scale_ones]
    have w0 := V.Hw.start (H := H)
    have c1 := SC.cl
    have c2 := SC.one_at
    have m1 := nom_mem hh.nom (show mnames.contains "sum_at" = true by decide +kernel)
    obtain ⟨o, ho1, ho2⟩ := hh.one
    obtain rfl : o = .int m.one := ho2
    have okone : (SD.leaf kd m).okp (.n m.one) := po.one
    repeat walk_at "w"
    intro T H1 nT w1
    repeat walk_at "w"
    refine ⟨p, .leaf kd m, .n m.one, .n m.one, _, _, rfl, hs.same w1.fr, rfl, hn, ho, rfl, rfl, okone, okone, fun v H2 s2 hv => ?_⟩
    obtain rfl : v = .int (itI m 1) := hv
    have w2 := w1.call s2
    repeat walk_at "w"
    refine whileX (fun M σ H' => ∃ t : Nat, M = 70 - t ∧ 1 ≤ t ∧ (trailI m t).Nodup ∧ σ = [some (.ref p), some (.ref T), some (.int (itI m t))] ∧ V.Hw H none H' [(true, T, .lst ((trailI m t).map V.int))])
      (fun σ H' => ∃ t b : Nat, b < t ∧ t ≤ m.size ∧ itI m t = itI m b ∧ (∀ i < b, itI m i ≠ itI m t) ∧ σ = [some (.ref p), some (.ref T), some (.int (itI m t))] ∧ V.Hw H none H' [(true, T, .lst ((trailI m t).map V.int))]) _ ⟨1, rfl, Nat.le_refl _, by simp [trailI], rfl, w2⟩ ?_ ?_
    · rintro σ H3 ⟨t, b, lt, le, eb, fst, rfl, w3⟩
      repeat walk_at "w"
      have lf := trail_at (m := m) lt
      refine ⟨T, (trailI m t).map V.int, .int (itI m t), b, .int (itI m b), rfl, rfl, SqL.of (w3.get .here), rfl, flat_ints _, by rw [List.getElem?_map, lf]; rfl, by rw [eb]; show (itI m b == itI m b) = true; simp, fun i z hi hz => ?_, ?_⟩
      · rw [List.getElem?_map, trail_at (by omega)] at hz
        cases hz
        show (itI m i == itI m t) = false
        rw [Bool.eq_false_iff]
        intro e
        exact fst i hi (by simpa using e)
      repeat walk_at "w"
      intro q H4 _ w4
      repeat walk_at "w"
      exact k T q t b H4 w4.fr (w4.get .here) (w4.get (.there .here)) lt le eb
    · rintro nx hnx M σ H3 ⟨t, rfl, t1, nd, rfl, w3⟩
      have tl := trail_le po nd
      have t64 := po.most
      repeat walk_at "w"
      refine V.w_notInL (SqL.of (w3.get .here)) rfl (flat_ints _) ?_
      rw [inV_int]
      repeat walk_at "w"
      refine U.ifB (fun c => ?_) (fun c => ?_)
      · have c : itI m t ∉ trailI m t := by simpa using c
        have nd2 : (trailI m (t + 1)).Nodup := by
          rw [trail_succ, List.nodup_append]
          exact ⟨nd, by simp, fun a ha b hb => by rw [List.mem_singleton] at hb; subst hb; intro e; subst e; exact c ha⟩
        have lt2 : (trailI m t).length ≤ 64 := by rw [trail_len]; omega
        refine ⟨_, fun _ _ h => h, ?_⟩
        repeat walk_at "w"
        intro H4 w4
        repeat walk_at "w"
        refine ⟨p, .leaf kd m, .n (itI m t), .n m.one, _, _, rfl, hs.same w4.fr, rfl, hn, ho, rfl, rfl, itI_ok po t, okone, fun v H5 s5 hv => ?_⟩
        obtain rfl : v = .int (itI m (t + 1)) := hv
        have w5 := w4.call s5
        repeat walk_at "w"
        refine ⟨70 - (t + 1), by omega, t + 1, rfl, by omega, nd2, rfl, ?_⟩
        rw [trail_succ, List.map_append]; exact w5
      · have c : itI m t ∈ trailI m t := by simpa using c
        obtain ⟨i, hi, e⟩ := List.mem_map.mp c
        have hi := List.mem_range.mp hi
        -- the first such place
        have ex : ∃ b, b < t ∧ itI m b = itI m t ∧ ∀ i < b, itI m i ≠ itI m t := by
          clear e
          have g : ∀ i, (∃ c ≤ i, itI m c = itI m t) → ∃ b ≤ i, itI m b = itI m t ∧ ∀ i < b, itI m i ≠ itI m t := fun i => by
            induction i with
            | zero => rintro ⟨c, h, e⟩; obtain rfl : c = 0 := by omega
                      exact ⟨0, Nat.le_refl _, e, fun i h => by omega⟩
            | succ i ih =>
              rintro ⟨c, h, e⟩
              by_cases q : ∃ c ≤ i, itI m c = itI m t
              · obtain ⟨b, h1, h2⟩ := ih q
                exact ⟨b, by omega, h2⟩
              · obtain rfl : c = i + 1 := by
                  by_cases z : c ≤ i
                  · exact absurd ⟨c, z, e⟩ q
                  · omega
                exact ⟨i + 1, Nat.le_refl _, e, fun a ha he => q ⟨a, by omega, he⟩⟩
          obtain ⟨i, hi, e⟩ := List.mem_map.mp c
          have hi := List.mem_range.mp hi
          obtain ⟨b, h1, h2, h3⟩ := g i ⟨i, Nat.le_refl _, e⟩
          exact ⟨b, by omega, h2, h3⟩
        obtain ⟨b, b1, b2, b3⟩ := ex
        exact hnx _ _ ⟨t, b, b1, tl, b2.symm, b3, rfl, w3⟩
theorem sc_Scale_times_at : FnScope ["self", "count", "trail", "back"] ["self", "count"] (defScope (inClass (top 14) 10)) := ⟨rfl, rfl, rfl, by decide +kernel, rfl, by decide +kernel, by decide +kernel⟩
theorem st_Scale_times_at (v0 v1 : V) : L2.start ["self", "count", "trail", "back"] [v0, v1] = [some v0, some v1, none, none] := rfl
theorem ok_times {f : Addr} {fd : FuncData} (F : Fun K "times_at" "Scale.times_at" (inClass (top 14) 10) f fd) (SC : SCls K (S.cls kd)) (lk : lkn kd = true) (m_ones : Met P w K mg base CX0 j (S.cls kd) "ones" (spOnes S kd n)) (c_item_of_run : Cal P w K mg base CX0 1 "item_of_run" (spItem K)) (hj : 1 ≤ j) : FnOk P w K mg base CX0 (j + 1) f fd ["self", "count"] (spTm S kd n) := by
  refine F.ok sc_Scale_times_at (fun vs H Q E h => ?_) (fun cdv A outer s H vs Q E hr h => ?_)
  · obtain ⟨p, d, c, rfl, _⟩ := h
    rfl
  · obtain ⟨p, d, c, rfl, hs, hk, hd, ho, k⟩ := h
    cases d with
    | turned i => subst hk; exact absurd lk (show ¬ lkn Kn.turn = true by decide)
    | pair l r => subst hk; exact absurd lk (show ¬ lkn Kn.pair = true by decide)
    | tally q => subst hk; rcases ho with o | o | o <;> (subst o; exact absurd lk (by decide))
    | leaf k2 m =>
      obtain rfl : k2 = kd := hk
      obtain ⟨dx, fs, hp, pk, hh, lf⟩ := id hs
      have po := ho.2
      refine ⟨_, (pss_cons (ps_if (pt_cmpR op_eq (pv 1) pe_int (nomark _)) (pss_one (ps_ret (pe_fld (pv 0) rfl))) pss_nil)
      (pss_cons (ps_asg (pe_mt0 m_ones hr (Nat.le_refl _) (pv 0)) (pg_tup rfl (pgs_cons (pg_name (i := 2) sc_Scale_times_at.nd rfl (Or.inl rfl)) (pgs_cons (pg_name (i := 3) sc_Scale_times_at.nd rfl (Or.inl rfl)) pgs_nil))))
      (pss_one (ps_ret (pe_c c_item_of_run hr hj (by rfl) (pa_cons (pv 2) (pa_cons (pv 3) (pa_cons (pe_op op_sub (pv 1) pe_int) pa_nil)))))))), ?_⟩
      rw [st_Scale_times_at]
      have w0 := V.Hw.start (H := H)
      have c1 := SC.cl
      have c2 := SC.zero_at
      have m1 := nom_mem hh.nom (show mnames.contains "ones" = true by decide +kernel)
      obtain ⟨z, hz1, hz2⟩ := hh.zero
      obtain rfl : z = .int m.zero := hz2
      repeat walk_at "w"
      refine ifD (fun e => ?_) (fun e => ?_)
      · obtain rfl : c = 0 := by omega
        repeat walk_at "w"
        exact k _ H w0.fr rfl
      · repeat walk_at "w"
        refine ⟨p, m, rfl, hs, Nat.le_trans (Nat.le_refl 1) hd, ho, fun l q t b H1 s1 hq hl lt le eb => ?_⟩
        have w1 := V.Hw.start (H := H1)
        repeat walk_at "w"
        have tl : ((trailI m t).map V.int).length = t := by rw [List.length_map, trail_len]
        have ix : ((trailI m t).map V.int)[runIx t (b : Int) ((c : Int) - 1)]? = some (.int (itI m (c - 1))) := by
          unfold runIx
          by_cases h : (c : Int) - 1 < (t : Int)
          · rw [if_pos h, List.getElem?_map, trail_at (by omega)]
            have : ((c : Int) - 1).toNat = c - 1 := by omega
            rw [this]; rfl
          · rw [if_neg h]
            have pt : (0 : Int) < (t : Int) - (b : Int) := by omega
            obtain ⟨a, ha⟩ : ∃ a : Nat, c - 1 = b + a := ⟨c - 1 - b, by omega⟩
            have e1 : (c : Int) - 1 - (b : Int) = (a : Int) := by omega
            have e2 : (t : Int) - (b : Int) = ((t - b : Nat) : Int) := by omega
            rw [e1, e2, ← Int.natCast_emod]
            have e3 : ((b : Int) + ((a % (t - b) : Nat) : Int)).toNat = b + a % (t - b) := by omega
            have lm : a % (t - b) < t - b := Nat.mod_lt _ (by omega)
            rw [e3, List.getElem?_map, trail_at (by omega)]
            have e4 := itI_mod eb lt (a / (t - b)) (a % (t - b))
            rw [Nat.mul_comm, Nat.mod_add_div] at e4
            rw [ha, e4]; rfl
        refine ⟨l, (trailI m t).map V.int, b, (c : Int) - 1, _, rfl, SqL.of hl, by omega, by rw [tl]; omega, by omega, by rw [tl]; exact ix, ?_⟩
        repeat walk_at "w"
        refine k _ H1 s1 ?_
        have e5 : ∀ i : Nat, Nat.repeat (fun x => (SD.leaf k2 m).sum x (SD.leaf k2 m).one) i (.n m.one) = .n (itI m i) := fun i => by
          induction i with
          | zero => rfl
          | succ i ih => rw [Nat.repeat, ih]; rfl
        unfold SD.tm
        rw [if_neg (by omega)]
        have e6 := e5 (c - 1)
        show PlAt H1 (Nat.repeat (fun x => (SD.leaf k2 m).sum x (SD.leaf k2 m).one) (c - 1) (.n m.one)) _
        rw [e6]; rfl
end
/-! ### tables: names and tables that keep the rules -/
structure TxN (K : PySem.W.Frag) (mg : Str → Option Value) : Prop extends TxC K mg where
  set : mg "set" = none
  any : mg "any" = none
  all : mg "all" = none
  g_MOST_NAMES : ∃ u, mg "MOST_NAMES" = some u ∧ RelV (.int 16) u
  g_MOST_SIGNS : ∃ u, mg "MOST_SIGNS" = some u ∧ RelV (.int 12) u
  g_NAME_SIGNS : ∃ u, mg "NAME_SIGNS" = some u ∧ RelV (.str "abcdefghijklmnopqrstuvwxyz0123456789") u
def okName (z : Str) : Prop := 1 ≤ z.length ∧ z.length ≤ 12 ∧ ∀ c ∈ z.cps.toList, c ∈ ("abcdefghijklmnopqrstuvwxyz0123456789" : Str).cps.toList
/-- names that a table may have -/
structure OkNames (xs : List Str) : Prop where
  one : 1 ≤ xs.length
  most : xs.length ≤ 16
  dist : US.kinds xs = xs.length
  each : ∀ x ∈ xs, okName x
def spNames : Sp := fun vs H Q _ => ∃ (a : Addr) (xs : List Str), vs = [.ref a] ∧ H a = some (.lst (xs.map V.str)) ∧ OkNames xs ∧ ∀ H', Same H H' → Q .non H'
/-- a table of n rows of n entries: the rows stand at the places as -/
def spTable : Sp := fun vs H Q _ => ∃ (a : Addr) (n : Nat) (as : List Addr), vs = [.ref a, .int (n : Int)] ∧ H a = some (.lst (as.map V.ref)) ∧ as.length = n ∧ n ≤ 16 ∧ (∀ r ∈ as, ∃ xs : List V, H r = some (.lst xs) ∧ xs.length = n) ∧ ∀ H', Same H H' → Q .non H'
section
variable {P : Program} {w : World} {K : PySem.W.Frag} {mg : Str → Option Value} {base : Heap} {C : Addr}
theorem sc_check_names : FnScope ["names", "name", "sign"] ["names"] (defScope (top 17)) := ⟨rfl, rfl, rfl, by decide +kernel, rfl, by decide +kernel, by decide +kernel⟩
theorem ok_check_names {f : Addr} {fd : FuncData} (F : Fun K "check_names" "check_names" (top 17) f fd) (T : TxN K mg) : FnOk P w K mg base CX0 1 f fd ["names"] spNames := by
  refine F.ok sc_check_names (fun vs H Q E h => ?_) (fun cdv A outer s H vs Q E hr h => ?_)
  · obtain ⟨a, xs, rfl, _⟩ := h
    rfl
  · obtain ⟨a, xs, rfl, ha, ok, k⟩ := h
    refine ⟨_, (pss_cons (ps_if (PW.pt (pw_or (pt_not (pt_chain op_le op_le pe_int (pe_callB call_len_seq (by rfl) T.len (by decide +kernel) (pa_cons (pv 0) pa_nil)) (pe_gx (by rfl) T.g_MOST_NAMES))) (pw_or1 (pt_cmpR op_ne (US.pe_lenSetS (by rfl) T.len (by rfl) T.set (pv 0)) (pe_callB call_len_seq (by rfl) T.len (by decide +kernel) (pa_cons (pv 0) pa_nil)) (nomark _))))) (pss_one ps_never) pss_nil)
      (pss_one (ps_for PassesOwn.never rfl (pi_list (pv 0)) (pg_name (i := 1) sc_check_names.nd rfl (Or.inl rfl)) (pss_one (ps_if (PW.pt (pw_or (pt_not (pt_chain op_le op_le pe_int (pe_callB call_len_str (by rfl) T.len (by decide +kernel) (pa_cons (pv 1) pa_nil)) (pe_gx (by rfl) T.g_MOST_SIGNS))) (pw_or1 (pt_not (pt_val (pe_callB (cr_all rfl) (by rfl) T.all (by decide +kernel) (pa_cons (pe_lc (own := [("sign", 2)]) (g := gName 2) (by rfl) sc_check_names.nd (pi_str (pv 1)) (blkOk_by (own := [("sign", 2)]) (N := ["names", "name", "sign"]) (sc := defScope (top 17)) (by decide +kernel)) (fun _ _ _ _ _ => pg_name (i := 2) sc_check_names.nd rfl (Or.inl rfl)) (fun _ _ _ _ _ => pts_nil) (fun _ _ _ _ _ => pe_cmpR op_in_sign (pv 2) (pe_gx (by rfl) T.g_NAME_SIGNS) (by rfl))) pa_nil))))))) (pss_one ps_never) pss_nil))))), ?_⟩
    have l1 : (xs.map V.str).length = xs.length := List.length_map _
    have o1 := ok.one
    have o2 := ok.most
    refine ⟨_, rfl, a, _, rfl, .inl (SqL.of ha), _, _, rfl, rfl, _, rfl, ?_⟩
    refine ifY (by omega) ?_
    refine ⟨_, _, rfl, rfl, _, rfl, ?_⟩
    refine nifY (by omega) ?_
    refine ⟨_, rfl, a, xs, rfl, SqL.of ha, by omega, _, rfl, a, _, rfl, .inl (SqL.of ha), rfl, _, rfl, ?_⟩
    refine nifY (by rw [ok.dist, l1]) ?_
    refine tNextI ?_
    dsimp only
    refine ⟨_, rfl, a, rfl, ⟨_, SqL.of ha⟩, for_list (K := K) (a := a) (xs := xs.map V.str) (fun i σ H2 => ∃ v, σ = [some (.ref a), v, none] ∧ Same H H2)
      ⟨none, rfl, fun _ _ e => e⟩ (fun i σ H2 _ ⟨_, _, e⟩ => SqL.of (e _ _ ha)) ?_ ?_⟩
    · rintro i y σ H2 hi ⟨v, rfl, sm⟩
      obtain ⟨x, rfl, hx⟩ := UW.at_strs hi
      have ox := ok.each x (List.mem_of_getElem? hx)
      obtain ⟨x1, x2, xc⟩ := ox
      have x3 : x.cps.size ≤ 12 := x2
      have xl : x.length ≤ sizeLine := sz x2 (by decide)
      refine ⟨_, rfl, x, rfl, xl, _, _, rfl, rfl, _, rfl, ?_⟩
      refine ifY (by omega) ?_
      refine ⟨_, _, rfl, rfl, _, rfl, ?_⟩
      refine nifY (by omega) ?_
      refine ⟨_, rfl, x, rfl, fun D hD => lc_it walk_str (fun j H' => H' = upd H2 D (.lst ((x.cps.toList.take j).map fun c => V.bl true))) rfl (fun _ _ _ _ => trivial) ?_ ?_⟩
      · rintro j y H' H3 hj rfl ⟨rfl, c, hc, rfl⟩
        have hc2 : x.cps.toList[j]? = some c := by rw [Array.getElem?_toList]; exact hc
        refine ⟨rfl, tYesI (iteT ?_)⟩
        refine ⟨_, rfl, c, _, rfl, rfl, ?_⟩
        rw [decide_eq_true (xc c (List.mem_of_getElem? hc2))]
        refine ⟨_, upd_same, (by rw [List.length_map, List.length_take]; exact small1000 (by omega)), ?_⟩
        rw [upd_upd, take_snoc hc2, List.map_append]; rfl
      · rintro H' rfl
        have e : ((x.cps.toList.take x.cps.size).map fun _ => true).all id = true := by rw [List.all_map]; exact List.all_eq_true.mpr fun _ _ => rfl
        refine ⟨D, (x.cps.toList.take x.cps.size).map fun _ => true, rfl, SqL.of (by rw [upd_same, List.map_map]; rfl), _, rfl, ?_⟩
        rw [e]
        refine iteF ?_
        exact ⟨_, rfl, sm.trans (sameNew hD)⟩
    · rintro σ H2 ⟨v, rfl, sm⟩
      exact k H2 sm
theorem sc_check_table : FnScope ["table", "size", "row"] ["table", "size"] (defScope (top 18)) := ⟨rfl, rfl, rfl, by decide +kernel, rfl, by decide +kernel, by decide +kernel⟩
theorem ok_check_table {f : Addr} {fd : FuncData} (F : Fun K "check_table" "check_table" (top 18) f fd) (T : TxN K mg) : FnOk P w K mg base CX0 1 f fd ["table", "size"] spTable := by
  refine F.ok sc_check_table (fun vs H Q E h => ?_) (fun cdv A outer s H vs Q E hr h => ?_)
  · obtain ⟨a, n, as, rfl, _⟩ := h
    rfl
  · obtain ⟨a, n, as, rfl, ha, hl, hn, hr0, k⟩ := h
    refine ⟨_, (pss_one (ps_if (PW.pt (pw_or (pt_cmpR op_ne (pe_callB call_len_seq (by rfl) T.len (by decide +kernel) (pa_cons (pv 0) pa_nil)) (pv 1) (nomark _)) (pw_or1 (pt_val (pe_callB (cr_any rfl) (by rfl) T.any (by decide +kernel) (pa_cons (pe_lc (own := [("row", 2)]) (g := (gName 2)) (by rfl) sc_check_table.nd (pi_list (pv 0)) (blkOk_by (own := [("row", 2)]) (N := ["table", "size", "row"]) (sc := defScope (top 18)) (by decide +kernel)) (fun _ _ _ _ _ => (pg_name (i := 2) sc_check_table.nd rfl (Or.inl rfl))) (fun _ _ _ _ _ => pts_nil) (fun _ _ _ _ _ => (pe_cmpR op_ne (pe_callB (call_lenK K rfl) (by rfl) T.len (by decide +kernel) (pa_cons (pv 2) pa_nil)) (pv 1) (nomark _)))) pa_nil)))))) (pss_one ps_never) pss_nil)), ?_⟩
    refine ⟨_, rfl, a, _, rfl, .inl (SqL.of ha), _, rfl, rfl, _, rfl, ?_⟩
    refine nifY (by rw [List.length_map, hl]) ?_
    refine ⟨_, rfl, a, rfl, ⟨_, SqL.of ha⟩, fun D hD => lcF_list (xs := as.map V.ref) (fun i => (as.take i).map fun _ => V.bl false) hD (SqL.of ha) rfl ?_ ?_⟩
    · intro i x hx
      obtain ⟨r, rfl, hr1⟩ := UW.at_refs hx
      obtain ⟨ys, hy, ly⟩ := hr0 r (List.mem_of_getElem? hr1)
      have nrD : r ≠ D := ne_of_none hy hD
      refine ⟨rfl, tYesI (iteT ?_)⟩
      refine ⟨_, rfl, r, ys, rfl, .inl (SqL.of (by rw [upd_ne nrD]; exact hy)), _, rfl, rfl, ?_⟩
      have e0 : (!decide (V.int (ys.length : Int) = V.int (n : Int))) = false := by rw [ly, decide_eq_true rfl]; rfl
      rw [e0]
      refine ⟨_, upd_same, (by rw [List.length_map, List.length_take]; exact small1000 (by omega)), ?_⟩
      rw [upd_upd, take_snoc hr1, List.map_append]; rfl
    · refine ⟨D, (as.take (as.map V.ref).length).map fun _ => false, rfl, SqL.of (by rw [upd_same, List.map_map]; rfl), _, rfl, ?_⟩
      have e : ((as.take (as.map V.ref).length).map fun _ => false).any id = false := by rw [List.any_map]; exact List.any_eq_false.mpr fun _ _ => by simp
      rw [e]
      refine iteF ?_
      exact k _ (sameNew hD)
/-- a table of names, the rows at the places as -/
def spPlacesIn : Sp := fun vs H Q _ => ∃ (a d : Addr) (as : List Addr) (zs : List Str) (ts : List (List Nat)), vs = [.ref a, .ref d] ∧ H a = some (.lst (as.map V.ref)) ∧ as.length = zs.length ∧ zs.length ≤ 16 ∧ H d = some (.dK (foundTo zs zs.length)) ∧
  (∀ i < zs.length, ∀ j < zs.length, zs.getD i Str.empty = zs.getD j Str.empty → i = j) ∧ (foundTo zs zs.length).length = zs.length ∧ ts.length = zs.length ∧
  (∀ (i : Nat) (r : Addr) (t : List Nat), as[i]? = some r → ts[i]? = some t → H r = some (.lst (t.map fun j => V.str (zs.getD j Str.empty))) ∧ t.length = zs.length ∧ ∀ j ∈ t, j < zs.length) ∧
  ∀ (l : Addr) (ls : List Addr) (H' : Hp), H l = none → Same H H' → H' l = some (.lst (ls.map V.ref)) → ls.length = zs.length →
    (∀ (i : Nat) (r : Addr) (t : List Nat), ls[i]? = some r → ts[i]? = some t → H r = none ∧ H' r = some (.lst (t.map fun (j : Nat) => V.int (j : Int)))) → Q (.ref l) H'
theorem sc_places_in : FnScope ["table", "found", "row", "entry"] ["table", "found"] (defScope (top 19)) := ⟨rfl, rfl, rfl, by decide +kernel, rfl, by decide +kernel, by decide +kernel⟩
theorem ok_places_in {f : Addr} {fd : FuncData} (F : Fun K "places_in" "places_in" (top 19) f fd) (T : TxN K mg) (c_check_table : Cal P w K mg base CX0 1 "check_table" spTable) : FnOk P w K mg base CX0 2 f fd ["table", "found"] spPlacesIn := by
  refine F.ok sc_places_in (fun vs H Q E h => ?_) (fun cdv A outer s H vs Q E hr h => ?_)
  · obtain ⟨a, d, as, zs, ts, rfl, _⟩ := h
    rfl
  · obtain ⟨a, d, as, zs, ts, rfl, ha, hla, hz, hd, inj, hfl, hlt, rows, k⟩ := h
    have hu := hu_of hr
    refine ⟨_, (pss_cons (ps_expr (pe_c c_check_table hr (by decide) (by rfl) (pa_cons (pv 0) (pa_cons (pe_callB call_lenD (by rfl) T.len (by decide +kernel) (pa_cons (pv 1) pa_nil)) pa_nil))))
      (pss_cons (ps_if (pt_val (pe_callB (cr_any rfl) (by rfl) T.any (by decide +kernel) (pa_cons (pe_lc2 (own := [("row", 2), ("entry", 3)]) (vs1 := [3]) (g := (gName 2)) (g1 := (gName 3)) (by rfl) sc_places_in.nd (pi_list (pv 0)) (blkOk_by (own := [("row", 2), ("entry", 3)]) (N := ["table", "found", "row", "entry"]) (sc := defScope (top 19)) (by decide +kernel)) (by decide) (fun _ _ _ _ _ => (pg_name (i := 2) sc_places_in.nd rfl (Or.inl rfl))) (fun _ _ _ _ _ => pts_nil) (fun _ _ _ _ _ => (UF.pi_listK K rfl (pv 2))) (fun _ _ _ _ _ => (pg_name (i := 3) sc_places_in.nd rfl (Or.inl rfl))) (fun _ _ _ _ _ => pts_nil) (fun _ _ _ _ _ => (pe_cmp (pc_dnotin hu (pv 3) (pv 1)) (by rfl)))) pa_nil))) (pss_one ps_never) pss_nil)
      (pss_one (ps_ret (pe_lc (own := [("row", 2)]) (g := (gName 2)) (by rfl) sc_places_in.nd (pi_list (pv 0)) (blkOk_by (own := [("row", 2)]) (N := ["table", "found", "row", "entry"]) (sc := defScope (top 19)) (by decide +kernel)) (fun _ _ _ _ _ => (pg_name (i := 2) sc_places_in.nd rfl (Or.inl rfl))) (fun _ _ _ _ _ => pts_nil) (fun _ _ _ _ _ => (pe_lc (own := [("entry", 3)]) (g := (gName 3)) (by rfl) sc_places_in.nd (UF.pi_listK K rfl (pv 2)) (blkOk_by (own := [("entry", 3)]) (by exact rfl)) (fun _ _ _ _ _ => (pg_name (i := 3) sc_places_in.nd rfl (Or.inl rfl))) (fun _ _ _ _ _ => pts_nil) (fun _ _ _ _ _ => (pe_dget hu (pv 1) (pv 3) (fun _ _ => rfl)))))))))), ?_⟩
    have row : ∀ (i : Nat) (r : Addr), as[i]? = some r → ∃ t : List Nat, ts[i]? = some t ∧ H r = some (.lst (t.map fun j => V.str (zs.getD j Str.empty))) ∧ t.length = zs.length ∧ ∀ j ∈ t, j < zs.length := fun i r hr1 => by
      have li : i < ts.length := by rw [hlt, ← hla]; exact (List.getElem?_eq_some_iff.mp hr1).1
      exact ⟨ts[i], List.getElem?_eq_getElem li, rows i r _ hr1 (List.getElem?_eq_getElem li)⟩
    have get : ∀ j, j < zs.length → valV (foundTo zs zs.length) (Sum.inr (zs.getD j Str.empty) : Key) = some (.int (j : Int)) := fun j hj =>
      found_at zs j (fun i hi e => inj i hi j hj e) _ (Nat.le_refl _) hj
    refine ⟨_, rfl, _, rfl, d, _, rfl, hd, a, zs.length, as, (by rw [hfl]; rfl), ha, hla, hz, ?_, fun H1 s1 => ?_⟩
    · intro r hr1
      obtain ⟨i, hi⟩ := List.mem_iff_getElem?.mp hr1
      obtain ⟨t, _, h2, h3, _⟩ := row i r hi
      exact ⟨_, h2, by rw [List.length_map]; exact h3⟩
    have ha1 := s1 _ _ ha
    have hd1 := s1 _ _ hd
    refine ⟨_, rfl, a, rfl, ⟨_, SqL.of ha1⟩, fun D hD => UW.loopL (xs := as.map V.ref) (fun i H2 => ∃ n, n ≤ 16 * i ∧ H2 = upd H1 D (.lst (List.replicate n (V.bl false)))) ⟨0, Nat.le_refl _, rfl⟩ (fun i H2 ⟨_, _, e⟩ => by rw [e]; exact (sameNew hD).seq (SqL.of ha1)) ?_ ?_⟩
    · rintro i x H2 hx ⟨n, hn, rfl⟩
      obtain ⟨r, rfl, hr1⟩ := UW.at_refs hx
      obtain ⟨t, _, hr2, ht, htz⟩ := row i r hr1
      have hr3 := sameNew (o := .lst (List.replicate n (V.bl false))) hD _ _ (s1 _ _ hr2)
      have li : i < as.length := (List.getElem?_eq_some_iff.mp hr1).1
      refine ⟨rfl, tYesI (iteT ?_)⟩
      have d3 : ∀ o, upd H1 D o d = some (.dK (foundTo zs zs.length)) := fun o => sameNew hD _ _ hd1
      have r3 : ∀ o, upd H1 D o r = some (.lst (t.map fun j => V.str (zs.getD j Str.empty))) := fun o => sameNew hD _ _ (s1 _ _ hr2)
      refine ⟨_, rfl, r, rfl, ⟨_, SqL.of hr3⟩, UW.loopL (xs := t.map fun j => V.str (zs.getD j Str.empty)) (fun j H2 => H2 = upd H1 D (.lst (List.replicate (n + j) (V.bl false)))) rfl (fun j H2 e => by rw [e]; exact SqL.of (r3 _)) ?_ ?_⟩
      · rintro j x H2 hx rfl
        rw [List.getElem?_map] at hx
        obtain ⟨q, hq, rfl⟩ := Option.map_eq_some_iff.mp hx
        have lj : j < t.length := (List.getElem?_eq_some_iff.mp hq).1
        refine ⟨rfl, tYesI (iteT ?_)⟩
        refine ⟨_, rfl, _, rfl, d, _, rfl, DGet.k (k := Sum.inr (zs.getD q Str.empty)) (d3 _), ?_⟩
        rw [get q (htz q (List.mem_of_getElem? hq))]
        refine ⟨_, upd_same, (by rw [List.length_replicate]; exact small1000 (by omega)), ?_⟩
        rw [upd_upd, ← Nat.add_assoc, List.replicate_succ']; rfl
      · rintro H2 rfl
        exact ⟨n + t.length, by omega, by rw [List.length_map]⟩
    · rintro H2 ⟨n, _, rfl⟩
      refine ⟨D, List.replicate n false, rfl, SqL.of (by rw [upd_same, List.map_replicate]), _, rfl, ?_⟩
      have e : (List.replicate n false).any id = false := List.any_eq_false.mpr fun x hx => by rw [List.eq_of_mem_replicate hx]; decide
      rw [e]
      refine iteF ?_
      have ha2 := sameNew (o := .lst (List.replicate n (V.bl false))) hD _ _ ha1
      have s2 : Same H (upd H1 D (.lst (List.replicate n (V.bl false)))) := s1.trans (sameNew hD)
      generalize upd H1 D (.lst (List.replicate n (V.bl false))) = H3 at ha2 s2 ⊢
      refine ⟨_, rfl, a, rfl, ⟨_, SqL.of ha2⟩, fun L hL => lc_list (K := K) (a := a) (xs := as.map V.ref) (fun i H4 => ∃ ls : List Addr, ls.length = i ∧ H4 L = some (.lst (ls.map V.ref)) ∧ (∀ b o, H3 b = some o → H4 b = some o) ∧
        ∀ (i' : Nat) (r : Addr) (t : List Nat), ls[i']? = some r → ts[i']? = some t → H r = none ∧ r ≠ L ∧ H4 r = some (.lst (t.map fun (j : Nat) => V.int (j : Int))))
        ⟨[], rfl, upd_same, fun b o e => sameNew hL _ _ e, fun i' r t e => by cases e⟩ (fun i H4 _ ⟨_, _, _, kp, _⟩ => SqL.of (kp _ _ ha2)) ?_ ?_⟩
      · rintro i x H4 hx ⟨ls, hls, hL4, kp, each⟩
        obtain ⟨r, rfl, hr1⟩ := UW.at_refs hx
        obtain ⟨t, hti, hr2, ht, htz⟩ := row i r hr1
        have r4 := kp _ _ (s2 _ _ hr2)
        have d4 := kp _ _ (s2 _ _ hd)
        have li : i < as.length := (List.getElem?_eq_some_iff.mp hr1).1
        refine ⟨rfl, tYesI (iteT ?_)⟩
        refine ⟨_, rfl, r, rfl, ⟨_, SqL.of r4⟩, fun D2 hD2 => lcF_list (xs := t.map fun j => V.str (zs.getD j Str.empty)) (fun j => (t.take j).map fun (q : Nat) => V.int (q : Int)) hD2 (SqL.of r4) rfl ?_ ?_⟩
        · intro j x hx
          rw [List.getElem?_map] at hx
          obtain ⟨q, hq, rfl⟩ := Option.map_eq_some_iff.mp hx
          have lj : j < t.length := (List.getElem?_eq_some_iff.mp hq).1
          have dg := DGet.k (k := Sum.inr (zs.getD q Str.empty)) (sameNew (o := .lst ((t.take j).map fun (q : Nat) => V.int (q : Int))) hD2 _ _ d4)
          rw [get q (htz q (List.mem_of_getElem? hq))] at dg
          refine ⟨rfl, tYesI (iteT ?_)⟩
          refine ⟨_, rfl, _, rfl, d, _, rfl, dg, ?_⟩
          refine ⟨_, upd_same, (by rw [List.length_map, List.length_take]; exact small1000 (by omega)), ?_⟩
          rw [upd_upd, take_snoc hq, List.map_append]; rfl
        · have nLD : L ≠ D2 := ne_of_none hL4 hD2
          have e : (t.take (t.map fun j => V.str (zs.getD j Str.empty)).length).map (fun (q : Nat) => V.int (q : Int)) = t.map fun (q : Nat) => V.int (q : Int) := by rw [List.length_map, List.take_of_length_le (Nat.le_refl _)]
          rw [e]
          have hD0 : H D2 = none := by
            cases z : H D2 with
            | none => rfl
            | some o => rw [kp _ _ (s2 _ _ z)] at hD2; cases hD2
          refine ⟨ls.map V.ref, (by rw [upd_ne nLD]; exact hL4), (by rw [List.length_map]; exact small1000 (by omega)), ls ++ [D2], (by rw [List.length_append, hls]; rfl), (by rw [upd_same, List.map_append]; rfl), ?_, ?_⟩
          · intro b o eb
            have nb : b ≠ L := ne_of_none eb hL
            rw [upd_ne nb]
            exact sameNew hD2 _ _ (kp _ _ eb)
          · intro i' r' t' e1 e2
            by_cases lt : i' < ls.length
            · rw [List.getElem?_append_left lt] at e1
              obtain ⟨x1, x2, x3⟩ := each i' r' t' e1 e2
              exact ⟨x1, x2, by rw [upd_ne x2]; exact sameNew hD2 _ _ x3⟩
            · rw [List.getElem?_append_right (by omega)] at e1
              have i0 : i' - ls.length = 0 := by
                by_cases z : i' - ls.length = 0
                · exact z
                · rw [List.getElem?_eq_none (by show 1 ≤ i' - ls.length; omega)] at e1; cases e1
              have ei : i' = i := by omega
              subst ei
              rw [i0] at e1
              obtain rfl : D2 = r' := Option.some.inj e1
              rw [hti] at e2
              obtain rfl : t = t' := Option.some.inj e2
              exact ⟨hD0, nLD.symm, by rw [upd_ne nLD.symm, upd_same]⟩
      · rintro H4 ⟨ls, hls, hL4, kp, each⟩
        refine k L ls H4 (s2.free hL) (fun b o e => kp _ _ (s2 _ _ e)) hL4 (by rw [hls, List.length_map]; exact hla) (fun i' r t e1 e2 => ?_)
        obtain ⟨x1, _, x3⟩ := each i' r t e1 e2
        exact ⟨x1, x3⟩
end
/-! ### tables: texts in brackets, and the reads -/
def rowT (ws : List Str) : Str := Str.empty ++ "(" ++ Txt.join " " ws ++ ")"
def wgt (ws : List Str) : Nat := (ws.map (·.length)).sum + ws.length
theorem rowT_len (ws : List Str) : (Txt.join " " ws).length ≤ wgt ws := by
  rw [TL.join_eq]
  refine Nat.le_trans (PySem.StrLaws.join_length_le _ _) ?_
  have e : (" " : Str).length = 1 := by decide +kernel
  rw [e, Nat.mul_one]
  exact Nat.le_refl _
def spRow (K : PySem.W.Frag) : Sp := fun vs H Q _ => ∃ (a : Addr) (ws : List Str), vs = [.ref a] ∧ SqL K H a (ws.map V.str) ∧ wgt ws ≤ 90000 ∧ Q (.str (rowT ws)) H
def spRows (K : PySem.W.Frag) : Sp := fun vs H Q _ => ∃ (a : Addr) (as : List Addr) (ws : List (List Str)), vs = [.ref a] ∧ H a = some (.lst (as.map V.ref)) ∧ as.length = ws.length ∧ ws.length ≤ 16 ∧
  (∀ (i : Nat) (r : Addr) (t : List Str), as[i]? = some r → ws[i]? = some t → H r = some (.lst (t.map V.str)) ∧ t.length ≤ 16) ∧ wgt ws.flatten ≤ 90000 ∧ ∀ H', Same H H' → Q (.str (rowT ws.flatten)) H'
section
variable {P : Program} {w : World} {K : PySem.W.Frag} {mg : Str → Option Value} {base : Heap} {C : Addr}
theorem sc_in_row : FnScope ["words", "row"] ["words"] (defScope (top 20)) := ⟨rfl, rfl, rfl, by decide +kernel, rfl, by decide +kernel, by decide +kernel⟩
theorem ok_in_row {f : Addr} {fd : FuncData} (F : Fun K "in_row" "in_row" (top 20) f fd) : FnOk P w K mg base CX0 1 f fd ["words"] (spRow K) := by
  refine F.ok sc_in_row (fun vs H Q E h => ?_) (fun cdv A outer s H vs Q E hr h => ?_)
  · obtain ⟨a, ws, rfl, _⟩ := h
    rfl
  · obtain ⟨a, ws, rfl, hS, hw, k⟩ := h
    refine ⟨_, (pss_cons (ps_set (i := 1) sc_in_row.nd rfl (Or.inl rfl) (pe_join pe_str (pv 0)))
      (pss_one (ps_ret (pe_joined (PJ.cons pe_str (PJ.cons (pe_fmt (pv 1)) (PJ.cons pe_str PJ.nil))))))), ?_⟩
    have e1 : (" " : Str).length = 1 := by decide +kernel
    have jl := rowT_len ws
    have c1 : (Str.empty ++ ("(" : Str)).length ≤ 1 := by decide +kernel
    have c2 := app_le c1 (Nat.le_trans jl hw)
    have c3 := app_le c2 (show (")" : Str).length ≤ 1 by decide +kernel)
    refine ⟨⟨_, rfl⟩, _, rfl, _, a, ws, rfl, rfl, .inl hS, (by rw [e1, Nat.mul_one]; unfold wgt at hw; omega), ?_⟩
    refine ⟨_, rfl, Nat.le_trans c1 (by decide), ?_⟩
    refine ⟨_, rfl, .inl ⟨_, rfl, Nat.le_trans (Nat.le_trans jl hw) (by decide), _, rfl, Nat.le_trans c2 (by decide), ?_⟩⟩
    exact ⟨_, rfl, Nat.le_trans c3 (by decide), k⟩
theorem sc_in_rows : FnScope ["table", "row", "entry"] ["table"] (defScope (top 21)) := ⟨rfl, rfl, rfl, by decide +kernel, rfl, by decide +kernel, by decide +kernel⟩
theorem ok_in_rows {f : Addr} {fd : FuncData} (F : Fun K "in_rows" "in_rows" (top 21) f fd) (c_in_row : Cal P w K mg base CX0 1 "in_row" (spRow K)) : FnOk P w K mg base CX0 2 f fd ["table"] (spRows K) := by
  refine F.ok sc_in_rows (fun vs H Q E h => ?_) (fun cdv A outer s H vs Q E hr h => ?_)
  · obtain ⟨a, as, ws, rfl, _⟩ := h
    rfl
  · obtain ⟨a, as, ws, rfl, ha, hl, h16, rows, hw, k⟩ := h
    refine ⟨_, (pss_one (ps_ret (pe_c c_in_row hr (by decide) (by rfl) (pa_cons (pe_lc2 (own := [("row", 1), ("entry", 2)]) (vs1 := [2]) (g := (gName 1)) (g1 := (gName 2)) (by rfl) sc_in_rows.nd (pi_list (pv 0)) (blkOk_by (own := [("row", 1), ("entry", 2)]) (N := ["table", "row", "entry"]) (sc := defScope (top 21)) (by decide +kernel)) (by decide) (fun _ _ _ _ _ => (pg_name (i := 1) sc_in_rows.nd rfl (Or.inl rfl))) (fun _ _ _ _ _ => pts_nil) (fun _ _ _ _ _ => (UF.pi_listK K rfl (pv 1))) (fun _ _ _ _ _ => (pg_name (i := 2) sc_in_rows.nd rfl (Or.inl rfl))) (fun _ _ _ _ _ => pts_nil) (fun _ _ _ _ _ => (pv 2))) pa_nil)))), ?_⟩
    have full : ((ws.take (as.map V.ref).length).flatten) = ws.flatten := by rw [List.length_map, hl, List.take_of_length_le (Nat.le_refl _)]
    refine ⟨_, rfl, a, rfl, ⟨_, SqL.of ha⟩, fun D hD => UW.loopL (xs := as.map V.ref) (fun i H2 => H2 = upd H D (.lst ((ws.take i).flatten.map V.str)) ∧ (ws.take i).flatten.length ≤ 16 * i) ⟨rfl, Nat.le_refl _⟩ (fun i H2 e => by rw [e.1]; exact (sameNew hD).seq (SqL.of ha)) ?_ ?_⟩
    · rintro i x H2 hx ⟨rfl, hi16⟩
      obtain ⟨r, rfl, hr1⟩ := UW.at_refs hx
      have li : i < ws.length := by rw [← hl]; exact (List.getElem?_eq_some_iff.mp hr1).1
      have hti : ws[i]? = some ws[i] := List.getElem?_eq_getElem li
      obtain ⟨hr2, ht⟩ := rows i r _ hr1 hti
      have ft : (ws.take (i + 1)).flatten = (ws.take i).flatten ++ ws[i] := by rw [take_snoc hti, List.flatten_append]; simp
      have r3 : ∀ o, upd H D o r = some (.lst (ws[i].map V.str)) := fun o => sameNew hD _ _ hr2
      refine ⟨rfl, tYesI (iteT ?_)⟩
      refine ⟨_, rfl, r, rfl, ⟨_, SqL.of (r3 _)⟩, UW.loopL (xs := ws[i].map V.str) (fun j H2 => H2 = upd H D (.lst (((ws.take i).flatten ++ ws[i].take j).map V.str))) (by rw [List.take_zero, List.append_nil]) (fun j H2 e => by rw [e]; exact SqL.of (r3 _)) ?_ ?_⟩
      · rintro j x H2 hx rfl
        obtain ⟨q, rfl, hq⟩ := UW.at_strs hx
        have lj : j < ws[i].length := (List.getElem?_eq_some_iff.mp hq).1
        refine ⟨rfl, tYesI (iteT ?_)⟩
        refine ⟨_, rfl, _, upd_same, (by rw [List.length_map, List.length_append, List.length_take]; exact small1000 (by omega)), ?_⟩
        rw [upd_upd, take_snoc hq, ← List.append_assoc, List.map_append (l₂ := [q])]; rfl
      · rintro H2 rfl
        refine ⟨?_, ?_⟩
        · rw [ft, List.length_map, List.take_of_length_le (Nat.le_refl _)]
        · rw [ft, List.length_append]; omega
    · rintro H2 ⟨rfl, _⟩
      rw [full]
      exact ⟨D, ws.flatten, rfl, SqL.of upd_same, hw, k _ (sameNew hD)⟩
end
/-! ### tables: the scale -/
structure TCls (K : PySem.W.Frag) (C : Addr) : Prop extends LCls K C where
  _within : NoAttr K C "_within"
  _sums : NoAttr K C "_sums"
  _products : NoAttr K C "_products"
/-- a list of lists -/
def Grid (H : Hp) (l : Addr) (m : List (List V)) : Prop := ∃ ls : List Addr, H l = some (.lst (ls.map V.ref)) ∧ ls.length = m.length ∧ ∀ (i : Nat) (r : Addr) (t : List V), ls[i]? = some r → m[i]? = some t → H r = some (.lst t)
theorem Grid.same {H H' : Hp} {l : Addr} {m : List (List V)} (g : Grid H l m) (e : Same H H') : Grid H' l m := by
  obtain ⟨ls, h1, h2, h3⟩ := g
  exact ⟨ls, e _ _ h1, h2, fun i r t a b => e _ _ (h3 i r t a b)⟩
def spGrid (C : Addr) (f : Str) : Sp := fun vs H Q _ => ∃ (p dx l : Addr) (fs : List (Str × V)) (m : List (List V)) (i j : Nat) (t : List V) (v : V), vs = [.ref p, .int (i : Int), .int (j : Int)] ∧ H p = some (.ins C dx fs) ∧ fld fs f = some (.ref l) ∧ Grid H l m ∧ m[i]? = some t ∧ t[j]? = some v ∧ Q v H
section
variable {P : Program} {w : World} {K : PySem.W.Frag} {mg : Str → Option Value} {base : Heap} {C : Addr}
theorem grid_at {H : Hp} {l : Addr} {m : List (List V)} {i : Nat} {t : List V} (g : Grid H l m) (h : m[i]? = some t) : ∃ (ls : List Addr) (r : Addr), H l = some (.lst (ls.map V.ref)) ∧ (ls.map V.ref)[i]? = some (.ref r) ∧ H r = some (.lst t) := by
  obtain ⟨ls, h1, h2, h3⟩ := g
  have li : i < ls.length := by rw [h2]; exact (List.getElem?_eq_some_iff.mp h).1
  have hi : ls[i]? = some ls[i] := List.getElem?_eq_getElem li
  exact ⟨ls, ls[i], h1, by rw [List.getElem?_map, hi]; rfl, h3 i _ t hi h⟩
theorem sc_TableScale_sum_at : FnScope ["self", "first", "second"] ["self", "first", "second"] (defScope (inClass (top 16) 1)) := ⟨rfl, rfl, rfl, by decide +kernel, rfl, by decide +kernel, by decide +kernel⟩
theorem ok_tab_sum {f : Addr} {fd : FuncData} (F : Fun K "sum_at" "TableScale.sum_at" (inClass (top 16) 1) f fd) (TC : TCls K C) : FnOk P w K mg base CX0 1 f fd ["self", "first", "second"] (spGrid C "_sums") := by
  refine F.ok sc_TableScale_sum_at (fun vs H Q E h => ?_) (fun cdv A outer s H vs Q E hr h => ?_)
  · obtain ⟨p, dx, l, fs, m, i, j, t, v, rfl, _⟩ := h
    rfl
  · obtain ⟨p, dx, l, fs, m, i, j, t, v, rfl, hp, h1, g, h2, h3, k⟩ := h
    obtain ⟨ls, r, hl, hi, hr1⟩ := grid_at g h2
    refine ⟨_, (pss_one (ps_ret (pe_ix ix_list (pe_ix ix_list (pe_fld (pv 0) rfl) (pv 1) (fun _ _ => rfl)) (pv 2) (fun _ _ => rfl)))), ?_⟩
    exact ⟨_, rfl, p, C, dx, _, _, rfl, hp, TC.cl, TC._sums, h1, _, rfl, l, _, (i : Int), _, rfl, rfl, SqL.of hl, at_of rfl hi, _, rfl, r, _, (j : Int), v, rfl, rfl, SqL.of hr1, at_of rfl h3, k⟩
end
def tabFs0 (lw ls lp : Addr) : List (Str × V) := putF "_products" (.ref lp) (putF "_sums" (.ref ls) (putF "_within" (.ref lw) []))
def nmG (zs : List Str) (m : List (List Nat)) : List (List V) := m.map fun t => t.map fun j => V.str (zs.getD j Str.empty)
def ixG (m : List (List Nat)) : List (List V) := m.map fun t => t.map fun (j : Nat) => V.int (j : Int)
def blG (m : List (List Bool)) : List (List V) := m.map fun t => t.map V.bl
structure Sq (n : Nat) {α : Type} (m : List (List α)) : Prop where
  len : m.length = n
  row : ∀ t ∈ m, t.length = n
structure OkTab (zs : List Str) (bm : List (List Bool)) (sm pm : List (List Nat)) (zi oi : Nat) : Prop where
  ok : OkNames zs
  inj : ∀ i < zs.length, ∀ j < zs.length, zs.getD i Str.empty = zs.getD j Str.empty → i = j
  fl : (foundTo zs zs.length).length = zs.length
  sb : Sq zs.length bm
  ss : Sq zs.length sm
  sp : Sq zs.length pm
  ls : ∀ t ∈ sm, ∀ j ∈ t, j < zs.length
  lp : ∀ t ∈ pm, ∀ j ∈ t, j < zs.length
  hz : zi < zs.length
  ho : oi < zs.length
def tabLabel (zs : List Str) (bm : List (List Bool)) (sm pm : List (List Nat)) (zi oi : Nat) : Str :=
  rowT ["table", rowT zs, zs.getD zi Str.empty, zs.getD oi Str.empty, rowT (bm.map fun t => Txt.join "" (t.map fun b => if b = true then ("1" : Str) else "0")), rowT ((sm.map fun t => t.map fun j => zs.getD j Str.empty).flatten), rowT ((pm.map fun t => t.map fun j => zs.getD j Str.empty).flatten)]
structure TabIs (C : Addr) (H : Hp) (p dx l d lw ls lp : Addr) (zs : List Str) (bm : List (List Bool)) (sm pm : List (List Nat)) (zi oi : Nat) : Prop where
  ob : H p = some (.ins C dx (listedFs (tabFs0 lw ls lp) (tabLabel zs bm sm pm zi oi) zs.length (.int (zi : Int)) (.int (oi : Int)) l d))
  nl : H l = some (.lst (zs.map V.str))
  fd : H d = some (.dK (foundTo zs zs.length))
  gw : Grid H lw (blG bm)
  gs : Grid H ls (ixG sm)
  gp : Grid H lp (ixG pm)
def spTabInit (C : Addr) : Sp := fun vs H Q _ => ∃ (p dx an aw as ap : Addr) (zs : List Str) (bm : List (List Bool)) (sm pm : List (List Nat)) (zi oi : Nat), vs = [.ref p, .ref an, .ref aw, .ref as, .ref ap, .str (zs.getD zi Str.empty), .str (zs.getD oi Str.empty)] ∧ OkTab zs bm sm pm zi oi ∧
  H an = some (.lst (zs.map V.str)) ∧ Grid H aw (blG bm) ∧ Grid H as (nmG zs sm) ∧ Grid H ap (nmG zs pm) ∧ H p = some (.ins C dx []) ∧ ∀ (l d lw ls lp : Addr) (H' : Hp), But p H H' → TabIs C (V.nw (V.cut H [p]) H') p dx l d lw ls lp zs bm sm pm zi oi → Q .non H'
theorem Grid.of_cut {H : Hp} {p l : Addr} {C dx : Addr} {fs : List (Str × V)} {m : List (List V)} (hp : H p = some (.ins C dx fs)) (g : Grid H l m) : Grid (V.cut H [p]) l m := by
  have z : ∀ {a : Addr} {xs : List V}, H a = some (.lst xs) → V.cut H [p] a = some (.lst xs) := fun {a xs} e => by
    rw [V.cut_not]; exact e
    intro q
    rw [List.mem_singleton] at q
    subst q; rw [hp] at e; cases e
  obtain ⟨ls, h1, h2, h3⟩ := g
  exact ⟨ls, z h1, h2, fun i r t a b => z (h3 i r t a b)⟩
section
variable {Z H : Hp} {so : Option (Addr × Addr)} {L : V.Cells} {Q : VK} {E : XK} {a : Addr} {xs : List Str}
theorem w_check_names (w : V.Hw Z so H L) (h : H a = some (.lst (xs.map V.str))) (o : OkNames xs) (k : ∀ H', V.Hw Z so H' L → Q .non H') : spNames [.ref a] H Q E := ⟨a, xs, rfl, h, o, fun H' e => k H' (w.call e)⟩
theorem w_places_in {Z0 : Hp} {d : Addr} {zs : List Str} {ts : List (List Nat)} (w : V.Hw Z so H L) (g : Grid Z a (nmG zs ts)) (n16 : zs.length ≤ 16) (hd : H d = some (.dK (foundTo zs zs.length))) (inj : ∀ i < zs.length, ∀ j < zs.length, zs.getD i Str.empty = zs.getD j Str.empty → i = j)
    (fl : (foundTo zs zs.length).length = zs.length) (sq : Sq zs.length ts) (lt : ∀ t ∈ ts, ∀ j ∈ t, j < zs.length) (z0 : Same Z0 Z) (k : ∀ l Z' H', V.Hw Z' so H' L → Same Z Z' → Grid (V.nw Z0 Z') l (ixG ts) → Q (.ref l) H') : spPlacesIn [.ref a, .ref d] H Q E := by
  obtain ⟨as, h1, h2, h3⟩ := g
  refine ⟨a, d, as, zs, ts, rfl, w.fro h1, h2.trans (by unfold nmG; rw [List.length_map, sq.len]), n16, hd, inj, fl, sq.len, fun i r t e1 e2 => ⟨w.fro (h3 i r _ e1 (by unfold nmG; rw [List.getElem?_map, e2]; rfl)), sq.row t (List.mem_of_getElem? e2), lt t (List.mem_of_getElem? e2)⟩, ?_⟩
  intro l ls H' nl s1 hl hls rows
  obtain ⟨Z', w', e', n'⟩ := w.callNew s1
  have fz : ∀ {b : Addr}, H b = none → Z0 b = none := fun n => z0.free (w.fr.free n)
  refine k l Z' H' w' e' ⟨ls, V.nw_of (fz nl) (n' _ _ nl hl), by unfold ixG; rw [List.length_map, hls, sq.len], fun i r t e1 e2 => ?_⟩
  unfold ixG at e2
  rw [List.getElem?_map] at e2
  obtain ⟨t', ht', rfl⟩ := Option.map_eq_some_iff.mp e2
  exact V.nw_of (fz (rows i r t' e1 ht').1) (n' _ _ (rows i r t' e1 ht').1 (rows i r t' e1 ht').2)
theorem w_row {K : PySem.W.Frag} {ws : List Str} (h : SqL K H a (ws.map V.str)) (l : wgt ws ≤ 90000) (q : Q (.str (rowT ws)) H) : spRow K [.ref a] H Q E := ⟨a, ws, rfl, h, l, q⟩
theorem w_rows {K : PySem.W.Frag} {ws : List (List Str)} (w : V.Hw Z so H L) (g : Grid Z a (ws.map fun t => t.map V.str)) (n : ws.length ≤ 16) (n2 : ∀ t ∈ ws, t.length ≤ 16) (l : wgt ws.flatten ≤ 90000) (k : ∀ H', V.Hw Z so H' L → Q (.str (rowT ws.flatten)) H') : spRows K [.ref a] H Q E := by
  obtain ⟨as, h1, h2, h3⟩ := g
  exact ⟨a, as, ws, rfl, w.fro h1, h2.trans (List.length_map _), n, fun i r t e1 e2 => ⟨w.fro (h3 i r _ e1 (by rw [List.getElem?_map, e2]; rfl)), n2 t (List.mem_of_getElem? e2)⟩, l, fun H' s => k H' (w.call s)⟩
theorem wgt_le {m : Nat} : ∀ {ws : List Str}, (∀ x ∈ ws, x.length ≤ m) → wgt ws ≤ ws.length * (m + 1)
  | [], _ => Nat.zero_le _
  | x :: ws, h => by
    have h1 := h x List.mem_cons_self
    have h2 := wgt_le fun y hy => h y (List.mem_cons_of_mem _ hy)
    unfold wgt at h2 ⊢
    rw [List.map_cons, List.sum_cons, List.length_cons, Nat.succ_mul]
    omega
theorem rowT_le (ws : List Str) : (rowT ws).length ≤ wgt ws + 2 := by
  have h := rowT_len ws
  have c1 : (Str.empty ++ ("(" : Str)).length ≤ 1 := by decide +kernel
  have c3 : (")" : Str).length ≤ 1 := by decide +kernel
  unfold rowT
  rw [len_app, len_app]; omega
theorem sum_le3 : ∀ (ys : List Str) (m : Nat), (∀ y ∈ ys, y.length ≤ m) → (ys.map (·.length)).sum ≤ m * ys.length
  | [], _, _ => Nat.le_refl _
  | y :: ys, m, h => by
    have h1 := h y List.mem_cons_self
    have h2 := sum_le3 ys m fun z hz => h z (List.mem_cons_of_mem _ hz)
    rw [List.map_cons, List.sum_cons, List.length_cons, Nat.mul_succ]
    omega
def bitT (t : List Bool) : Str := Txt.join "" (t.map fun b => if b = true then ("1" : Str) else "0")
def tabWs (zs : List Str) (bm : List (List Bool)) (sm pm : List (List Nat)) (zi oi : Nat) : List Str := ["table", rowT zs, zs.getD zi Str.empty, zs.getD oi Str.empty, rowT (bm.map bitT), rowT (sm.map fun t => t.map fun j => zs.getD j Str.empty).flatten, rowT (pm.map fun t => t.map fun j => zs.getD j Str.empty).flatten]
theorem tabWs_map (zs : List Str) (bm : List (List Bool)) (sm pm : List (List Nat)) (zi oi : Nat) : (tabWs zs bm sm pm zi oi).map V.str = [.str "table", .str (rowT zs), .str (zs.getD zi Str.empty), .str (zs.getD oi Str.empty), .str (rowT (bm.map bitT)), .str (rowT (sm.map fun t => t.map fun j => zs.getD j Str.empty).flatten), .str (rowT (pm.map fun t => t.map fun j => zs.getD j Str.empty).flatten)] := by
  unfold tabWs; simp only [List.map_cons, List.map_nil]
theorem flat_len {α : Type} {n : Nat} : ∀ {m : List (List α)}, (∀ t ∈ m, t.length = n) → m.flatten.length = m.length * n
  | [], _ => by simp
  | t :: m, h => by
    rw [List.flatten_cons, List.length_append, h t List.mem_cons_self, flat_len fun y hy => h y (List.mem_cons_of_mem _ hy), List.length_cons, Nat.succ_mul, Nat.add_comm]
end
section
variable {P : Program} {w : World} {K : PySem.W.Frag} {mg : Str → Option Value} {base : Heap} {C : Addr}
theorem sc_TableScale___init__ : FnScope ["self", "names", "within", "sums", "products", "zero", "one", "found", "rows", "label", "place", "row", "entry"] ["self", "names", "within", "sums", "products", "zero", "one"] (defScope (inClass (top 16) 0)) := ⟨rfl, rfl, rfl, by decide +kernel, rfl, by decide +kernel, by decide +kernel⟩
theorem st_TableScale___init__ (v0 v1 v2 v3 v4 v5 v6 : V) : L2.start ["self", "names", "within", "sums", "products", "zero", "one", "found", "rows", "label", "place", "row", "entry"] [v0, v1, v2, v3, v4, v5, v6] = [some v0, some v1, some v2, some v3, some v4, some v5, some v6, none, none, none, none, none, none] := rfl
theorem ok_tab_init {f : Addr} {fd : FuncData} (F : Fun K "__init__" "TableScale.__init__" (inClass (top 16) 0) f fd) (T : TxN K mg) (TC : TCls K C) (c_check_names : Cal P w K mg base CX0 1 "check_names" spNames) (c_check_table : Cal P w K mg base CX0 1 "check_table" spTable)
    (c_places_in : Cal P w K mg base CX0 2 "places_in" spPlacesIn) (c_in_row : Cal P w K mg base CX0 1 "in_row" (spRow K)) (c_in_rows : Cal P w K mg base CX0 2 "in_rows" (spRows K)) (cf_ListedScale___init__ : CFB P w K mg base CX0 2 "ListedScale" "__init__" (spListedInit K)) :
    FnOk P w K mg base CX0 3 f fd ["self", "names", "within", "sums", "products", "zero", "one"] (spTabInit C) := by
  refine F.ok sc_TableScale___init__ (fun vs H Q E h => ?_) (fun cdv A outer s H vs Q E hr h => ?_)
  · obtain ⟨p, dx, an, aw, as, ap, zs, bm, sm, pm, zi, oi, rfl, _⟩ := h
    rfl
  · obtain ⟨p, dx, an, aw, as, ap, zs, bm, sm, pm, zi, oi, rfl, O, han, gw, gs, gp, hp, k⟩ := h
    have hu := hu_of hr
    have c1 := TC.cl
    have c2 := TC._within
    have c3 := TC._sums
    have c4 := TC._products
    refine ⟨_, (pss_cons (ps_expr (pe_c c_check_names hr (by decide) (by rfl) (pa_cons (pv 1) pa_nil)))
      (pss_cons (ps_expr (pe_c c_check_table hr (by decide) (by rfl) (pa_cons (pv 2) (pa_cons (pe_callB (V.call_len K rfl) (by rfl) T.len (by decide +kernel) (pa_cons (pv 1) pa_nil)) pa_nil))))
      (pss_cons (UW.ps_setDc (i := 7) (own := [("place", 10)]) (g := (gName 10)) (by rfl) sc_TableScale___init__.nd rfl rfl (UW.swD rfl rfl rfl (by decide +kernel)) (pi_range1 (by rfl) T.range (pa_cons (pe_callB (V.call_len K rfl) (by rfl) T.len (by decide +kernel) (pa_cons (pv 1) pa_nil)) pa_nil)) (blkOk_by (own := [("place", 10)]) (N := ["self", "names", "within", "sums", "products", "zero", "one", "found", "rows", "label", "place", "row", "entry"]) (sc := defScope (inClass (top 16) 0)) (by decide +kernel)) (fun _ _ _ _ _ => (pg_name (i := 10) sc_TableScale___init__.nd rfl (Or.inl rfl))) (fun _ _ _ _ _ => pts_nil) (fun _ _ _ _ _ => (pe_ix (ix_listK K rfl) (pv 1) (pv 10) (fun _ _ => rfl))) (fun _ _ _ _ _ => (pv 10)))
      (pss_cons (ps_fld (pv 0) (pe_lc (own := [("row", 11)]) (g := (gName 11)) (by rfl) sc_TableScale___init__.nd (pi_list (pv 2)) (blkOk_by (own := [("row", 11)]) (N := ["self", "names", "within", "sums", "products", "zero", "one", "found", "rows", "label", "place", "row", "entry"]) (sc := defScope (inClass (top 16) 0)) (by decide +kernel)) (fun _ _ _ _ _ => (pg_name (i := 11) sc_TableScale___init__.nd rfl (Or.inl rfl))) (fun _ _ _ _ _ => pts_nil) (fun _ _ _ _ _ => (pe_lc (own := [("entry", 12)]) (g := (gName 12)) (by rfl) sc_TableScale___init__.nd (UF.pi_listK K rfl (pv 11)) (blkOk_by (own := [("entry", 12)]) (by exact rfl)) (fun _ _ _ _ _ => (pg_name (i := 12) sc_TableScale___init__.nd rfl (Or.inl rfl))) (fun _ _ _ _ _ => pts_nil) (fun _ _ _ _ _ => (pe_callTy V.call_bool1 (by rfl) T.bool (by decide +kernel) (pa_cons (pv 12) pa_nil)))))) rfl)
      (pss_cons (ps_fld (pv 0) (pe_c c_places_in hr (by decide) (by rfl) (pa_cons (pv 3) (pa_cons (pv 7) pa_nil))) rfl)
      (pss_cons (ps_fld (pv 0) (pe_c c_places_in hr (by decide) (by rfl) (pa_cons (pv 4) (pa_cons (pv 7) pa_nil))) rfl)
      (pss_cons (ps_if (PW.pt (pw_or (pt_cmp (pc_dnotin hu (pv 5) (pv 7)) (by rfl)) (pw_or1 (pt_cmp (pc_dnotin hu (pv 6) (pv 7)) (by rfl))))) (pss_one ps_never) pss_nil)
      (pss_cons (ps_setLc (i := 8) (own := [("row", 11)]) (g := (gName 11)) (by rfl) sc_TableScale___init__.nd rfl rfl (sw_true rfl rfl rfl (by decide +kernel)) (pi_list (pv 2)) (blkOk_by (own := [("row", 11)]) (N := ["self", "names", "within", "sums", "products", "zero", "one", "found", "rows", "label", "place", "row", "entry"]) (sc := defScope (inClass (top 16) 0)) (by decide +kernel)) (fun _ _ _ _ _ => (pg_name (i := 11) sc_TableScale___init__.nd rfl (Or.inl rfl))) (fun _ _ _ _ _ => pts_nil) (fun _ _ _ _ _ => (V.pe_join K rfl pe_str (pe_lc (own := [("entry", 12)]) (g := (gName 12)) (by rfl) sc_TableScale___init__.nd (UF.pi_listK K rfl (pv 11)) (blkOk_by (own := [("entry", 12)]) (by exact rfl)) (fun _ _ _ _ _ => (pg_name (i := 12) sc_TableScale___init__.nd rfl (Or.inl rfl))) (fun _ _ _ _ _ => pts_nil) (fun _ _ _ _ _ => (pe_ifExp (pt_val (pv 12)) pe_str pe_str))))))
      (pss_cons (ps_set (i := 9) sc_TableScale___init__.nd rfl (Or.inl rfl) (pe_c c_in_row hr (by decide) (by rfl) (pa_cons (pe_lst (pa_cons pe_str (pa_cons (pe_c c_in_row hr (by decide) (by rfl) (pa_cons (pv 1) pa_nil)) (pa_cons (pv 5) (pa_cons (pv 6) (pa_cons (pe_c c_in_row hr (by decide) (by rfl) (pa_cons (pv 8) pa_nil)) (pa_cons (pe_c c_in_rows hr (by decide) (by rfl) (pa_cons (pv 3) pa_nil)) (pa_cons (pe_c c_in_rows hr (by decide) (by rfl) (pa_cons (pv 4) pa_nil)) pa_nil)))))))) pa_nil)))
      (pss_one (ps_expr (pe_cf cf_ListedScale___init__ hr (by decide) (by rfl) (pa_cons (pv 0) (pa_cons (pv 9) (pa_cons (pv 1) (pa_cons (pe_dget hu (pv 7) (pv 5) (fun _ _ => rfl)) (pa_cons (pe_dget hu (pv 7) (pv 6) (fun _ _ => rfl)) pa_nil))))))))))))))))), ?_⟩
    rw [st_TableScale___init__]
    have n16 := O.ok.most
    have n1 := O.ok.one
    have nap : an ≠ p := ne_of han hp (by intro z; cases z)
    have w0 := ((V.Hw.startM (H := H) [p]).addM hp (V.cut_in (by simp)) trivial)
    have zan : V.cut H [p] an = some (.lst (zs.map V.str)) := by rw [V.cut_not (by simpa using nap)]; exact han
    have zw := gw.of_cut hp
    have zs0 := gs.of_cut hp
    have zp0 := gp.of_cut hp
    repeat walk_at "w"
    refine w_check_names w0 (w0.fr _ _ zan) O.ok fun H1 w1 => ?_
    repeat walk_at "w"
    obtain ⟨ws, w2, w3, w4⟩ := zw
    have wl : ws.length = zs.length := w3.trans ((List.length_map _).trans O.sb.len)
    have wrow : ∀ (i : Nat) (r : Addr), ws[i]? = some r → ∃ t : List Bool, bm[i]? = some t ∧ V.cut H [p] r = some (.lst (t.map V.bl)) ∧ t.length = zs.length := fun i r e => by
      have li : i < bm.length := by rw [O.sb.len, ← wl]; exact (List.getElem?_eq_some_iff.mp e).1
      refine ⟨bm[i], List.getElem?_eq_getElem li, w4 i r _ e ?_, O.sb.row _ (List.getElem_mem li)⟩
      unfold blG; rw [List.getElem?_map, List.getElem?_eq_getElem li]; rfl
    refine ⟨aw, zs.length, ws, by rw [List.length_map], w1.fro w2, wl, n16, fun r hr1 => ?_, fun H2 s2 => ?_⟩
    · obtain ⟨i, hi⟩ := List.mem_iff_getElem?.mp hr1
      obtain ⟨t, _, h2, h3⟩ := wrow i r hi
      exact ⟨_, w1.fro h2, by rw [List.length_map]; exact h3⟩
    have w5 := w1.call s2
    have lz : (zs.map V.str).length = zs.length := List.length_map _
    repeat walk_at "w"
    refine V.dcRW (n := (zs.map V.str).length) (foundTo zs) w5 (by walk_at "wi") rfl (fun i D H' hi w6 => ?_) (fun D H' w6 => ?_)
    · rw [lz] at hi
      have ai : (zs.map V.str)[i]? = some (.str (zs.getD i Str.empty)) := at_mapS hi
      repeat walk_at "w"
      refine ⟨rfl, ?_⟩
      repeat walk_at "w"
      refine V.w_dccS w6 (by walk_at "sub") (small1000 (Nat.le_trans (foundTo_le zs i) (by omega))) ?_
      rw [Int.zero_add]; rfl
    rw [lz] at w6
    have dF : V.cut H [p] D = none := w6.ok.1.2 rfl
    obtain ⟨w7, e7, z7⟩ := w6.frz
    generalize upd (V.cut H [p]) D (.dK (foundTo zs zs.length)) = Z2 at w7 e7 z7
    have zan2 := e7 _ _ zan
    have wz2 := e7 _ _ w2
    repeat walk_at "w"
    refine V.lcG (xs := ws.map V.ref) (fun i Z' acc => ∃ rs : List Addr, acc = rs.map V.ref ∧ rs.length = i ∧ ∀ (j : Nat) (r : Addr) (t : List Bool), rs[j]? = some r → bm[j]? = some t → V.nw (V.cut H [p]) Z' r = some (.lst (t.map V.bl))) w7 (by walk_at "wi") (fun Z' H' e w => SqL.of (w.fro (e _ _ (e7 _ _ w2)))) ⟨[], rfl, rfl, fun j r t e => by simp at e⟩ ?_ ?_
    · rintro i x D2 Z3 H3 acc hx e3 ⟨rs, rfl, hrl, hrs⟩ w8
      obtain ⟨r, rfl, hr1⟩ := UW.at_refs hx
      obtain ⟨t, ht, h2, h3⟩ := wrow i r hr1
      have h4 := e3 _ _ (e7 _ _ h2)
      have li : i < ws.length := (List.getElem?_eq_some_iff.mp hr1).1
      repeat walk_at "w"
      refine ⟨rfl, ?_⟩
      repeat walk_at "w"
      refine V.lcW (xs := t.map V.bl) (fun k => (t.take k).map V.bl) w8 (by walk_at "wi") (fun H' w => SqL.of (w.fro h4)) rfl ?_ ?_
      · intro k y D3 H4 hy w9
        rw [List.getElem?_map] at hy
        obtain ⟨b, hb, rfl⟩ := Option.map_eq_some_iff.mp hy
        repeat walk_at "w"
        refine ⟨rfl, ?_⟩
        repeat walk_at "w"
        exact V.w_acc w9 (by walk_at "sub") (by refine small1000 ?_; simp only [List.length_map, List.length_take]; omega) (by rw [take_snoc hb, List.map_append]; rfl)
      · intro D3 H4 w9
        rw [List.length_map, List.take_of_length_le (Nat.le_refl _)] at w9
        obtain ⟨wa, ea, za⟩ := w9.frz
        refine V.w_accG wa (by walk_at "sub") (e3.trans ea) (by walk_at "szl") ⟨rs ++ [D3], by rw [List.map_append]; rfl, by rw [List.length_append, hrl]; rfl, fun j r2 t2 a b => ?_⟩
        by_cases lt : j < rs.length
        · rw [List.getElem?_append_left lt] at a; exact V.nw_same ea _ _ (hrs j r2 t2 a b)
        · rw [List.getElem?_append_right (by omega)] at a
          have l0 : j - rs.length < 1 := (List.getElem?_eq_some_iff.mp a).1
          obtain rfl : j = i := by omega
          rw [hrl, Nat.sub_self] at a
          cases a
          rw [ht] at b; cases b
          exact V.nw_of ((e7.trans e3).free (w9.ok.1.2 rfl)) za
    rintro lw Z3 H3 acc e3 ⟨rs, rfl, hrl, hrs⟩ w8
    obtain ⟨wb, eb, zb⟩ := w8.frz
    have gB : Grid (V.nw (V.cut H [p]) (upd Z3 lw (.lst (rs.map V.ref)))) lw (blG bm) := ⟨rs, V.nw_of ((e7.trans e3).free (w8.ok.1.2 rfl)) zb, by rw [hrl, List.length_map]; unfold blG; rw [List.length_map, wl, O.sb.len], fun i r t a b => by
      unfold blG at b
      rw [List.getElem?_map] at b
      obtain ⟨t', ht', rfl⟩ := Option.map_eq_some_iff.mp b
      exact V.nw_same eb _ _ (hrs i r t' a ht')⟩
    have eZ : Same (V.cut H [p]) (upd Z3 lw (.lst (rs.map V.ref))) := (e7.trans e3).trans eb
    have zD := eb _ _ (e3 _ _ z7)
    generalize upd Z3 lw (.lst (rs.map V.ref)) = Z4 at wb gB eZ zD
    clear eb zb hrs w8 w7 w6 w5 w1
    have zan4 := eZ _ _ zan
    have zw4 := eZ _ _ w2
    have gs4 := zs0.same eZ
    have gp4 := zp0.same eZ
    repeat walk_at "w"
    intro H4 w10
    repeat walk_at "w"
    have gz : valV (foundTo zs zs.length) (Sum.inr (zs.getD zi Str.empty) : Key) = some (.int (zi : Int)) := found_at zs zi (fun i hi e => O.inj i hi zi O.hz e) _ (Nat.le_refl _) O.hz
    have go : valV (foundTo zs zs.length) (Sum.inr (zs.getD oi Str.empty) : Key) = some (.int (oi : Int)) := found_at zs oi (fun i hi e => O.inj i hi oi O.ho e) _ (Nat.le_refl _) O.ho
    refine w_places_in w10 gs4 n16 (w10.fro zD) O.inj O.fl O.ss O.ls eZ fun ls Z5 H5 w11 e5 g5 => ?_
    repeat walk_at "w"
    intro H6 w12
    repeat walk_at "w"
    refine w_places_in w12 (gp4.same e5) n16 (w12.fro (e5 _ _ zD)) O.inj O.fl O.sp O.lp (eZ.trans e5) fun lp Z6 H7 w13 e6 g6 => ?_
    have e46 := e5.trans e6
    have zD6 := e46 _ _ zD
    have zan6 := e46 _ _ zan4
    have zw6 := e46 _ _ zw4
    have gs6 := gs4.same e46
    have gp6 := gp4.same e46
    have gB6 := gB.same (V.nw_same e46)
    have g56 := g5.same (V.nw_same e6)
    repeat walk_at "w"
    intro H8 w14
    repeat walk_at "w"
    refine V.lcW (xs := ws.map V.ref) (fun i => ((bm.take i).map bitT).map V.str) w14 (by walk_at "wi") (fun H' w => SqL.of (w.fro zw6)) rfl ?_ ?_
    · intro i x D2 H9 hx w15
      obtain ⟨r, rfl, hr1⟩ := UW.at_refs hx
      obtain ⟨t, ht, h2, h3⟩ := wrow i r hr1
      have h4 := e46 _ _ (eZ _ _ h2)
      have li : i < ws.length := (List.getElem?_eq_some_iff.mp hr1).1
      repeat walk_at "w"
      refine ⟨rfl, ?_⟩
      repeat walk_at "w"
      refine V.lcW (xs := t.map V.bl) (fun k => ((t.take k).map fun b => if b = true then ("1" : Str) else "0").map V.str) w15 (by walk_at "wi") (fun H' w => SqL.of (w.fro h4)) rfl ?_ ?_
      · intro k y D3 Ha hy wa
        rw [List.getElem?_map] at hy
        obtain ⟨b, hb, rfl⟩ := Option.map_eq_some_iff.mp hy
        repeat walk_at "w"
        refine ⟨rfl, ?_⟩
        repeat walk_at "w"
        cases b with
        | true =>
          repeat walk_at "w"
          exact V.w_acc wa (by walk_at "sub") (by walk_at "szl") (by rw [take_snoc hb, List.map_append, List.map_append]; rfl)
        | false =>
          repeat walk_at "w"
          exact V.w_acc wa (by walk_at "sub") (by walk_at "szl") (by rw [take_snoc hb, List.map_append, List.map_append]; rfl)
      · intro D3 Ha wa
        rw [List.length_map, List.take_of_length_le (Nat.le_refl _)] at wa
        refine V.w_join (ys := t.map fun b => if b = true then ("1" : Str) else "0") (SqL.of (wa.get .here)) ?_ ?_
        · have e0 : ("" : Str).length = 0 := by decide +kernel
          have := sum_le3 (t.map fun b => if b = true then ("1" : Str) else "0") 1 fun y hy => by
            obtain ⟨b, _, rfl⟩ := List.mem_map.mp hy
            cases b <;> decide +kernel
          rw [List.length_map] at this
          rw [e0]; omega
        · exact V.w_acc wa (by walk_at "sub") (by walk_at "szl") (by rw [take_snoc ht, List.map_append, List.map_append]; rfl)
    intro D2 H9 w15
    rw [List.length_map, List.take_of_length_le (by rw [wl, O.sb.len]; exact Nat.le_refl _)] at w15
    have b12 : ∀ z ∈ zs, z.length ≤ 12 := fun z hz => (O.ok.each z hz).2.1
    have g12 : ∀ j, (zs.getD j Str.empty).length ≤ 12 := fun j => by
      rw [List.getD_eq_getElem?_getD]
      cases q : zs[j]? with
      | none => decide +kernel
      | some z => exact b12 z (List.mem_of_getElem? q)
    have bt : ∀ t ∈ bm, (bitT t).length ≤ 16 := fun t ht => by
      have hl := O.sb.row t ht
      unfold bitT
      have j := TL.join_eq ("" : Str) (t.map fun b => if b = true then ("1" : Str) else "0")
      rw [j]
      refine Nat.le_trans (PySem.StrLaws.join_length_le _ _) ?_
      have e0 : ("" : Str).length = 0 := by decide +kernel
      have := sum_le3 (t.map fun b => if b = true then ("1" : Str) else "0") 1 fun y hy => by
        obtain ⟨b, _, rfl⟩ := List.mem_map.mp hy
        cases b <;> decide +kernel
      rw [List.length_map] at this
      rw [e0]; omega
    have nm : ∀ (m : List (List Nat)), Sq zs.length m → wgt (m.map fun t => t.map fun j => zs.getD j Str.empty).flatten ≤ 256 * 13 := fun m sq => by
      refine Nat.le_trans (wgt_le (m := 12) fun x hx => ?_) (Nat.mul_le_mul_right _ ?_)
      · obtain ⟨t', ht', hx'⟩ := List.mem_flatten.mp hx
        obtain ⟨t, _, rfl⟩ := List.mem_map.mp ht'
        obtain ⟨j, _, rfl⟩ := List.mem_map.mp hx'
        exact g12 j
      · rw [flat_len (n := zs.length) fun t' ht' => by
          obtain ⟨t, ht, rfl⟩ := List.mem_map.mp ht'
          rw [List.length_map]; exact sq.row t ht, List.length_map, sq.len]
        exact Nat.mul_le_mul n16 n16
    have gn : ∀ (l : Addr) (m : List (List Nat)), Grid Z6 l (nmG zs m) → Grid Z6 l ((m.map fun t => t.map fun j => zs.getD j Str.empty).map fun t => t.map V.str) := fun l m g => by
      have e : nmG zs m = (m.map fun t => t.map fun j => zs.getD j Str.empty).map fun t => t.map V.str := by
        unfold nmG; rw [List.map_map]; refine List.map_congr_left fun t _ => ?_
        show _ = (t.map _).map V.str
        rw [List.map_map]; rfl
      rw [← e]; exact g
    have rl : ∀ (m : List (List Nat)), Sq zs.length m → ∀ t ∈ (m.map fun t => t.map fun j => zs.getD j Str.empty), t.length ≤ 16 := fun m sq t ht => by
      obtain ⟨t', ht', rfl⟩ := List.mem_map.mp ht
      rw [List.length_map, sq.row t' ht']; exact n16
    have m1 : wgt zs ≤ 16 * 13 := Nat.le_trans (wgt_le b12) (Nat.mul_le_mul_right _ n16)
    have m2 : wgt (bm.map bitT) ≤ 16 * 17 := by
      refine Nat.le_trans (wgt_le (m := 16) fun x hx => ?_) ?_
      · obtain ⟨t, ht, rfl⟩ := List.mem_map.mp hx; exact bt t ht
      · rw [List.length_map, O.sb.len]; exact Nat.mul_le_mul_right _ n16
    have m3 := nm sm O.ss
    have m4 := nm pm O.sp
    repeat walk_at "w"
    refine w_row (ws := zs) (SqL.of (w15.fro zan6)) (by omega) ?_
    repeat walk_at "w"
    refine w_row (ws := bm.map bitT) (SqL.of (w15.get .here)) (by omega) ?_
    repeat walk_at "w"
    refine w_rows w15 (gn _ _ gs6) (by rw [List.length_map, O.ss.len]; exact n16) (rl sm O.ss) (by omega) fun Ha wa => ?_
    repeat walk_at "w"
    refine w_rows wa (gn _ _ gp6) (by rw [List.length_map, O.sp.len]; exact n16) (rl pm O.sp) (by omega) fun Hb wb2 => ?_
    repeat walk_at "w"
    intro R Hc nR wc
    repeat walk_at "w"
    have wgl : wgt (tabWs zs bm sm pm zi oi) ≤ 90000 := by
      have r1 := rowT_le zs
      have r2 := rowT_le (bm.map bitT)
      have r3 := rowT_le (sm.map fun t => t.map fun j => zs.getD j Str.empty).flatten
      have r4 := rowT_le (pm.map fun t => t.map fun j => zs.getD j Str.empty).flatten
      have r5 := g12 zi
      have r6 := g12 oi
      have r7 : ("table" : Str).length = 5 := by decide +kernel
      unfold wgt tabWs at *
      simp only [List.map_cons, List.map_nil, List.sum_cons, List.sum_nil, List.length_cons, List.length_nil]
      omega
    refine w_row (ws := tabWs zs bm sm pm zi oi) (SqL.of (by rw [tabWs_map]; exact wc.get .here)) wgl ?_
    repeat walk_at "w"
    have wp := wc.get (.there (.there .here))
    have zp : Z6 p = none := wc.ok.2.2.2.2.1.2 rfl
    refine ⟨p, C, dx, an, _, _, zs, _, _, rfl, TC.toLCls, wp, ?_, wc.fro zan6, by omega, ?_⟩
    · exact Nat.le_trans (putF_n (putF_n (putF_n (Nat.le_refl _)))) (by decide)
    intro l d H' nl nd bt2 hl hd hp'
    repeat walk_at "w"
    have e6' : Same Z6 H' := fun b o e => bt2 b o (wc.fro e) (fun q => by subst q; rw [zp] at e; cases e)
    refine k l d lw ls lp H' (fun b o e n => ?_) ⟨V.nw_of (V.cut_in (by simp)) hp', V.nw_of ((eZ.trans e46).free (wc.fr.free nl)) hl, V.nw_of ((eZ.trans e46).free (wc.fr.free nd)) hd, gB6.same (V.nw_same e6'), g56.same (V.nw_same e6'), g6.same (V.nw_same e6')⟩
    refine e6' _ _ (e46 _ _ (eZ _ _ ?_))
    rw [V.cut_not (by simpa using n)]; exact e
end
/-! ### tables as scales -/
def tabPrim (zs : List Str) (bm : List (List Bool)) (sm pm : List (List Nat)) (zi oi : Nat) : Prim where
  size := zs.length
  zero := (zi : Int)
  one := (oi : Int)
  sum := fun a b => (((sm.getD a.toNat []).getD b.toNat 0 : Nat) : Int)
  prod := fun a b => (((pm.getD a.toNat []).getD b.toNat 0 : Nat) : Int)
  within := fun a b => (bm.getD a.toNat []).getD b.toNat false
  names := zs
  label := tabLabel zs bm sm pm zi oi
theorem tab_label_le {zs : List Str} {bm : List (List Bool)} {sm pm : List (List Nat)} {zi oi : Nat} (O : OkTab zs bm sm pm zi oi) : (tabLabel zs bm sm pm zi oi).length ≤ 90002 := by
  have n16 := O.ok.most
  have n1 := O.ok.one
  have b12 : ∀ z ∈ zs, z.length ≤ 12 := fun z hz => (O.ok.each z hz).2.1
  have g12 : ∀ j, (zs.getD j Str.empty).length ≤ 12 := fun j => by
    rw [List.getD_eq_getElem?_getD]
    cases q : zs[j]? with
    | none => decide +kernel
    | some z => exact b12 z (List.mem_of_getElem? q)
  have bt : ∀ t ∈ bm, (bitT t).length ≤ 16 := fun t ht => by
    have hl := O.sb.row t ht
    unfold bitT
    have j := TL.join_eq ("" : Str) (t.map fun b => if b = true then ("1" : Str) else "0")
    rw [j]
    refine Nat.le_trans (PySem.StrLaws.join_length_le _ _) ?_
    have e0 : ("" : Str).length = 0 := by decide +kernel
    have := sum_le3 (t.map fun b => if b = true then ("1" : Str) else "0") 1 fun y hy => by
      obtain ⟨b, _, rfl⟩ := List.mem_map.mp hy
      cases b <;> decide +kernel
    rw [List.length_map] at this
    rw [e0]; omega
  have nm : ∀ (m : List (List Nat)), Sq zs.length m → wgt (m.map fun t => t.map fun j => zs.getD j Str.empty).flatten ≤ 256 * 13 := fun m sq => by
    refine Nat.le_trans (wgt_le (m := 12) fun x hx => ?_) (Nat.mul_le_mul_right _ ?_)
    · obtain ⟨t', ht', hx'⟩ := List.mem_flatten.mp hx
      obtain ⟨t, _, rfl⟩ := List.mem_map.mp ht'
      obtain ⟨j, _, rfl⟩ := List.mem_map.mp hx'
      exact g12 j
    · rw [flat_len (n := zs.length) fun t' ht' => by
        obtain ⟨t, ht, rfl⟩ := List.mem_map.mp ht'
        rw [List.length_map]; exact sq.row t ht, List.length_map, sq.len]
      exact Nat.mul_le_mul n16 n16
  have m1 : wgt zs ≤ 16 * 13 := Nat.le_trans (wgt_le b12) (Nat.mul_le_mul_right _ n16)
  have m2 : wgt (bm.map bitT) ≤ 16 * 17 := by
    refine Nat.le_trans (wgt_le (m := 16) fun x hx => ?_) ?_
    · obtain ⟨t, ht, rfl⟩ := List.mem_map.mp hx; exact bt t ht
    · rw [List.length_map, O.sb.len]; exact Nat.mul_le_mul_right _ n16
  have m3 := nm sm O.ss
  have m4 := nm pm O.sp
  have wgl : wgt (tabWs zs bm sm pm zi oi) ≤ 90000 := by
    have r1 := rowT_le zs
    have r2 := rowT_le (bm.map bitT)
    have r3 := rowT_le (sm.map fun t => t.map fun j => zs.getD j Str.empty).flatten
    have r4 := rowT_le (pm.map fun t => t.map fun j => zs.getD j Str.empty).flatten
    have r5 := g12 zi
    have r6 := g12 oi
    have r7 : ("table" : Str).length = 5 := by decide +kernel
    unfold wgt tabWs at *
    simp only [List.map_cons, List.map_nil, List.sum_cons, List.sum_nil, List.length_cons, List.length_nil]
    omega

  exact Nat.le_trans (rowT_le (tabWs zs bm sm pm zi oi)) (by omega)
theorem sq_at2 {α : Type} {n : Nat} {m : List (List α)} (s : Sq n m) {i j : Int} (d : α) (i0 : 0 ≤ i) (i1 : i < (n : Int)) (j0 : 0 ≤ j) (j1 : j < (n : Int)) : ∃ (t : List α) (x : α), m[i.toNat]? = some t ∧ t[j.toNat]? = some x ∧ t ∈ m ∧ x ∈ t ∧ (m.getD i.toNat []).getD j.toNat d = x := by
  have h1 : i.toNat < m.length := by rw [s.len]; omega
  have h2 : j.toNat < m[i.toNat].length := by rw [s.row _ (List.getElem_mem h1)]; omega
  refine ⟨m[i.toNat], m[i.toNat][j.toNat], List.getElem?_eq_getElem h1, List.getElem?_eq_getElem h2, List.getElem_mem h1, List.getElem_mem h2, ?_⟩
  rw [List.getD_eq_getElem?_getD, List.getD_eq_getElem?_getD, List.getElem?_eq_getElem h1, Option.getD_some, List.getElem?_eq_getElem h2, Option.getD_some]
theorem tabPrim_ok {zs : List Str} {bm : List (List Bool)} {sm pm : List (List Nat)} {zi oi : Nat} (O : OkTab zs bm sm pm zi oi) : PrimOk (tabPrim zs bm sm pm zi oi) := by
  have n16 := O.ok.most
  refine ⟨O.ok.one, Nat.le_trans n16 (by decide), rfl, O.inj, fun z hz => Nat.le_trans (O.ok.each z hz).2.1 (by decide), ⟨Int.natCast_nonneg _, by show (zi : Int) < (zs.length : Int); have := O.hz; omega⟩, ⟨Int.natCast_nonneg _, by show (oi : Int) < (zs.length : Int); have := O.ho; omega⟩, fun a b a0 a1 b0 b1 => ?_, fun a b a0 a1 b0 b1 => ?_, tab_label_le O⟩
  · obtain ⟨t, x, _, _, ht, hx, e⟩ := sq_at2 O.ss 0 a0 a1 b0 b1
    have := O.ls t ht x hx
    show 0 ≤ (((sm.getD a.toNat []).getD b.toNat 0 : Nat) : Int) ∧ (((sm.getD a.toNat []).getD b.toNat 0 : Nat) : Int) < (zs.length : Int)
    rw [e]; omega
  · obtain ⟨t, x, _, _, ht, hx, e⟩ := sq_at2 O.sp 0 a0 a1 b0 b1
    have := O.lp t ht x hx
    show 0 ≤ (((pm.getD a.toNat []).getD b.toNat 0 : Nat) : Int) ∧ (((pm.getD a.toNat []).getD b.toNat 0 : Nat) : Int) < (zs.length : Int)
    rw [e]; omega
/-- what a table scale holds of its own -/
def LfTab (m : Prim) (H : Hp) (fs : List (Str × V)) : Prop := ∃ (zs : List Str) (bm : List (List Bool)) (sm pm : List (List Nat)) (zi oi : Nat), OkTab zs bm sm pm zi oi ∧ m = tabPrim zs bm sm pm zi oi ∧
  (∃ l, fld fs "_names" = some (.ref l) ∧ H l = some (.lst (zs.map V.str))) ∧ (∃ d, fld fs "_found" = some (.ref d) ∧ H d = some (.dK (foundTo zs zs.length))) ∧
  (∃ l, fld fs "_within" = some (.ref l) ∧ Grid H l (blG bm)) ∧ (∃ l, fld fs "_sums" = some (.ref l) ∧ Grid H l (ixG sm)) ∧ ∃ l, fld fs "_products" = some (.ref l) ∧ Grid H l (ixG pm)
theorem LfTab.same {m : Prim} {H H' : Hp} {fs : List (Str × V)} (e : Same H H') (h : LfTab m H fs) : LfTab m H' fs := by
  obtain ⟨zs, bm, sm, pm, zi, oi, O, em, ⟨l, a1, a2⟩, ⟨d, b1, b2⟩, ⟨x, c1, c2⟩, ⟨y, d1, d2⟩, ⟨z, e1, e2⟩⟩ := h
  exact ⟨zs, bm, sm, pm, zi, oi, O, em, ⟨l, a1, e _ _ a2⟩, ⟨d, b1, e _ _ b2⟩, ⟨x, c1, c2.same e⟩, ⟨y, d1, d2.same e⟩, ⟨z, e1, e2.same e⟩⟩
theorem tab_none {m lb : Str} {n : Nat} {z o : V} {l d lw ls lp : Addr} (h : ["_within", "_sums", "_products", "label", "size", "zero_at", "one_at", "depth", "_names", "_found"].all (fun f => decide (m ≠ Str.ofString f)) = true) : fld (listedFs (tabFs0 lw ls lp) lb n z o l d) m = none := by
  simp only [List.all_cons, List.all_nil, Bool.and_true, Bool.and_eq_true, decide_eq_true_eq] at h
  obtain ⟨h1, h2, h3, h4, h5, h6, h7, h8, h9, h10⟩ := h
  unfold listedFs tabFs0
  rw [fld_put, if_neg h10, fld_put, if_neg h9, fld_put, if_neg h8, fld_put, if_neg h7, fld_put, if_neg h6, fld_put, if_neg h5, fld_put, if_neg h4, fld_put, if_neg h3, fld_put, if_neg h2, fld_put, if_neg h1]
  rfl
theorem tab_nom {lb : Str} {n : Nat} {z o : V} {l d lw ls lp : Addr} : NoM (listedFs (tabFs0 lw ls lp) lb n z o l d) := fun m hm => by
  have g : ∀ m ∈ mnames, (["_within", "_sums", "_products", "label", "size", "zero_at", "one_at", "depth", "_names", "_found"].all (fun f => decide (m ≠ Str.ofString f)) = true) := by decide +kernel
  exact tab_none (g m hm)
theorem TabIs.same {C : Addr} {H H' : Hp} {p dx l d lw ls lp : Addr} {zs : List Str} {bm : List (List Bool)} {sm pm : List (List Nat)} {zi oi : Nat} (t : TabIs C H p dx l d lw ls lp zs bm sm pm zi oi) (e : Same H H') : TabIs C H' p dx l d lw ls lp zs bm sm pm zi oi :=
  ⟨e _ _ t.ob, e _ _ t.nl, e _ _ t.fd, t.gw.same e, t.gs.same e, t.gp.same e⟩
theorem TabIs.sc {S : SE} {H : Hp} {p dx l d lw ls lp : Addr} {zs : List Str} {bm : List (List Bool)} {sm pm : List (List Nat)} {zi oi : Nat} (t : TabIs (S.cls .tab) H p dx l d lw ls lp zs bm sm pm zi oi) (O : OkTab zs bm sm pm zi oi) (hp : S.pr .tab = true) (hL : S.Lf .tab = LfTab) : ScAt S H (.leaf .tab (tabPrim zs bm sm pm zi oi)) p := by
  refine ⟨dx, _, t.ob, hp, ⟨?_, ?_, ⟨_, ?_, rfl⟩, ⟨_, ?_, rfl⟩, ?_, tab_nom⟩, ?_⟩
  rotate_left 5
  · rw [hL]
    refine ⟨zs, bm, sm, pm, zi, oi, O, rfl, ⟨l, ?_, t.nl⟩, ⟨d, ?_, t.fd⟩, ⟨lw, ?_, t.gw⟩, ⟨ls, ?_, t.gs⟩, ⟨lp, ?_, t.gp⟩⟩
    all_goals
      unfold listedFs tabFs0
      repeat (first | rw [fld_put, if_pos rfl] | rw [fld_put, if_neg (by decide +kernel)])
  all_goals
    unfold listedFs tabFs0
    repeat (first | rw [fld_put, if_pos rfl] | rw [fld_put, if_neg (by decide +kernel)])
    try rfl
section
variable {P : Program} {w : World} {K : PySem.W.Frag} {mg : Str → Option Value} {base : Heap} {S : SE} {n : Nat}
theorem st_TableScale_sum_at (v0 v1 v2 : V) : L2.start ["self", "first", "second"] [v0, v1, v2] = [some v0, some v1, some v2] := rfl
theorem ok_stab_sum {f : Addr} {fd : FuncData} (F : Fun K "sum_at" "TableScale.sum_at" (inClass (top 16) 1) f fd) (TC : TCls K (S.cls .tab)) (hL : S.Lf .tab = LfTab) : FnOk P w K mg base CX0 1 f fd ["self", "first", "second"] (spSum S .tab n) := by
  refine F.ok sc_TableScale_sum_at (fun vs H Q E h => ?_) (fun cdv A outer s H vs Q E hr h => ?_)
  · obtain ⟨p, d, a, b, x, y, rfl, _⟩ := h
    rfl
  · obtain ⟨p, d, a, b, x, y, rfl, hs, hk, hd, ho, ha, hb, oa, ob, k⟩ := h
    obtain ⟨m, rfl⟩ := leaf_of hs hk (by decide) ho
    obtain ⟨dx, fs, hp, pk, hh, lf⟩ := id hs
    rw [hL] at lf
    obtain ⟨zs, bm, sm, pm, zi, oi, O, rfl, _, _, ⟨lw, lw1, lw2⟩, ⟨ls, ls1, ls2⟩, ⟨lp, lp1, lp2⟩⟩ := lf
    cases a with
    | p a b => exact oa.elim
    | n i =>
      cases b with
      | p a b => exact ob.elim
      | n i2 =>
        obtain rfl : x = .int i := ha
        obtain rfl : y = .int i2 := hb
        obtain ⟨t, q, e1, e2, _, _, e3⟩ := sq_at2 O.ss 0 oa.1 oa.2 ob.1 ob.2
        have g1 : (ixG sm)[i.toNat]? = some (t.map (fun (j : Nat) => V.int (j : Int))) := by unfold ixG; rw [List.getElem?_map, e1]; rfl
        have g2 : (t.map (fun (j : Nat) => V.int (j : Int)))[i2.toNat]? = some (.int (q : Int)) := by rw [List.getElem?_map, e2]; rfl
        obtain ⟨u, r, u1, u2, u3⟩ := grid_at ls2 g1
        have a1 : atI (u.map V.ref) i = some (.ref r) := at_of (Int.toNat_of_nonneg oa.1).symm u2
        have a2 : atI (t.map (fun (j : Nat) => V.int (j : Int))) i2 = some (.int (q : Int)) := at_of (Int.toNat_of_nonneg ob.1).symm g2
        refine ⟨_, (pss_one (ps_ret (pe_ix ix_list (pe_ix ix_list (pe_fld (pv 0) rfl) (pv 1) (fun _ _ => rfl)) (pv 2) (fun _ _ => rfl)))), ?_⟩
        rw [st_TableScale_sum_at]
        have w0 := V.Hw.start (H := H)
        have c1 := TC.cl
        have c2 := TC._sums
        repeat walk_at "w"
        exact k _ H w0.fr (by rw [← e3]; rfl)
end
theorem foundTo_len {zs : List Str} (inj : ∀ i < zs.length, ∀ j < zs.length, zs.getD i Str.empty = zs.getD j Str.empty → i = j) : ∀ n, n ≤ zs.length → (foundTo zs n).length = n
  | 0, _ => rfl
  | n + 1, h => by
    show (putK (foundTo zs n) (Sum.inr (zs.getD n Str.empty)) (.int (n : Int))).length = n + 1
    rw [putK_new _ (found_get zs _ n (by omega) fun i hi e => by have := inj i (by omega) n (by omega) e; omega), List.length_append, foundTo_len inj n (by omega)]
    rfl
def mxI (a b : Int) : Int := if b ≤ a then a else b
def spI2 (g : Int → Int → Int) : Sp := fun vs H Q _ => ∃ a b : Int, vs = [.int a, .int b] ∧ Q (.int (g a b)) H
section
variable {P : Program} {w : World} {K : PySem.W.Frag} {mg : Str → Option Value} {base : Heap} {C : Addr}
theorem sc_greater : FnScope ["first", "second"] ["first", "second"] (defScope (top 2)) := ⟨rfl, rfl, rfl, by decide +kernel, rfl, by decide +kernel, by decide +kernel⟩
theorem ok_greater {f : Addr} {fd : FuncData} (F : Fun K "greater" "greater" (top 2) f fd) : FnOk P w K mg base CX0 1 f fd ["first", "second"] (spI2 mxI) := by
  refine F.ok sc_greater (fun vs H Q E h => ?_) (fun cdv A outer s H vs Q E hr h => ?_)
  · obtain ⟨a, b, rfl, _⟩ := h
    rfl
  · obtain ⟨a, b, rfl, k⟩ := h
    refine ⟨_, (pss_one (ps_ret (pe_ifExp (pt_cmpR op_ge (pv 0) (pv 1) (nomark _)) (pv 0) (pv 1)))), ?_⟩
    refine ⟨_, rfl, _, rfl, _, _, rfl, rfl, _, rfl, ?_⟩
    unfold mxI at k
    refine ifD (fun e => ?_) (fun e => ?_)
    · rw [if_pos e] at k; exact ⟨_, rfl, k⟩
    · rw [if_neg e] at k; exact ⟨_, rfl, k⟩
end
/-- the word of an order -/
inductive Ord
  | same | up | down
  deriving DecidableEq
def Ord.txt : Ord → Str
  | .same => "same"
  | .up => "up"
  | .down => "down"
structure TxF (K : PySem.W.Frag) (mg : Str → Option Value) (aO : Addr) : Prop extends TxC K mg where
  g_ORDERS : ∃ u, mg "ORDERS" = some u ∧ RelV (.ref aO) u
  orders : ∀ H, SqT K H aO [.str "same", .str "up", .str "down"]
structure CCls (K : PySem.W.Frag) (C : Addr) : Prop extends LCls K C where
  _numbers : NoAttr K C "_numbers"
  _start : NoAttr K C "_start"
  _order : NoAttr K C "_order"
/-- an integer brought back -/
def backI (s q z : Int) : Int := if z < s + q then z else s + (z - s) % q
def cutName (s q : Int) (i : Nat) : Str := if q = 1 ∧ (i : Int) = s then "many" else num (i : Int)
def cutNames (s q : Int) : List Str := (List.range (s + q).toNat).map (cutName s q)
/-- the attributes ahead of ListedScale.__init__ -/
def cutFs0 (s : Int) (o : Ord) (nm : Addr) : List (Str × V) := putF "_order" (.str o.txt) (putF "_start" (.int s) (putF "_numbers" (.ref nm) []))
def cutLabel (s q : Int) (o : Ord) : Str := Str.empty ++ "(cut " ++ num s ++ " " ++ num q ++ " " ++ o.txt ++ ")"
def cutFs (s q : Int) (o : Ord) (nm l d : Addr) : List (Str × V) := listedFs (cutFs0 s o nm) (cutLabel s q o) (s + q).toNat (.int 0) (.int (backI s q 1)) l d
/-- a CutScale stands at p -/
structure CutIs (C : Addr) (H : Hp) (p dx nm l d : Addr) (s q : Int) (o : Ord) : Prop where
  ob : H p = some (.ins C dx (cutFs s q o nm l d))
  nm : H nm = some (.lst (rgV 0 (s + q)))
  nl : H l = some (.lst ((cutNames s q).map V.str))
  fd : H d = some (.dK (foundTo (cutNames s q) (s + q).toNat))
def spBack (K : PySem.W.Frag) (C : Addr) : Sp := fun vs H Q _ => ∃ (p dx nm : Addr) (fs : List (Str × V)) (s q z : Int), vs = [.ref p, .int z] ∧ H p = some (.ins C dx fs) ∧ fld fs "_numbers" = some (.ref nm) ∧ fld fs "_start" = some (.int s) ∧
  H nm = some (.lst (rgV 0 (s + q))) ∧ 0 ≤ s ∧ 1 ≤ q ∧ 0 ≤ z ∧ Q (.int (backI s q z)) H
def spCutInit (C : Addr) : Sp := fun vs H Q _ => ∃ (p dx : Addr) (s q : Int) (o : Ord), vs = [.ref p, .int s, .int q, .str o.txt] ∧ 0 ≤ s ∧ 1 ≤ q ∧ s + q ≤ 64 ∧ (o ≠ .same → q = 1) ∧ H p = some (.ins C dx []) ∧
  ∀ dx nm l d H', H nm = none → H l = none → H d = none → But p H H' → CutIs C H' p dx nm l d s q o → Q .non H'
theorem run_back {s q z : Int} (hs : 0 ≤ s) (hq : 1 ≤ q) (hz : 0 ≤ z) : (rgV 0 (s + q))[runIx (rgV 0 (s + q)).length s z]? = some (.int (backI s q z)) := by
  rw [rgV_length]
  unfold runIx backI
  have e : (((s + q - 0).toNat : Nat) : Int) = s + q := by omega
  rw [e]
  by_cases h : z < s + q
  · rw [if_pos h, if_pos h, rg_at (by omega)]
    congr 2; omega
  · rw [if_neg h, if_neg h]
    have e1 : s + q - s = q := by omega
    rw [e1]
    have h0 : 0 ≤ (z - s) % q := Int.emod_nonneg _ (by omega)
    have h1 : (z - s) % q < q := Int.emod_lt_of_pos _ (by omega)
    rw [rg_at (by omega)]
    congr 2; omega
section
variable {P : Program} {w : World} {K : PySem.W.Frag} {mg : Str → Option Value} {base : Heap} {aO C : Addr}
theorem sc_CutScale_brought_back : FnScope ["self", "number"] ["self", "number"] (defScope (inClass (top 24) 1)) := ⟨rfl, rfl, rfl, by decide +kernel, rfl, by decide +kernel, by decide +kernel⟩
theorem ok_back {f : Addr} {fd : FuncData} (F : Fun K "brought_back" "CutScale.brought_back" (inClass (top 24) 1) f fd) (T : TxC K mg) (CC : CCls K C) (c_item_of_run : Cal P w K mg base CX0 1 "item_of_run" (spItem K)) : FnOk P w K mg base CX0 2 f fd ["self", "number"] (spBack K C) := by
  refine F.ok sc_CutScale_brought_back (fun vs H Q E h => ?_) (fun cdv A outer s H vs Q E hr h => ?_)
  · obtain ⟨p, dx, nm, fs, s, q, z, rfl, _⟩ := h
    rfl
  · obtain ⟨p, dx, nm, fs, s, q, z, rfl, hp, l1, l2, hn, hs, hq, hz, k⟩ := h
    refine ⟨_, (pss_one (ps_ret (pe_c c_item_of_run hr (by decide) (by rfl) (pa_cons (pe_fld (pv 0) rfl) (pa_cons (pe_fld (pv 0) rfl) (pa_cons (pv 1) pa_nil)))))), ?_⟩
    refine ⟨_, rfl, p, C, dx, _, _, rfl, hp, CC.cl, CC._numbers, l1, ?_⟩
    refine ⟨_, rfl, p, C, dx, _, _, rfl, hp, CC.cl, CC._start, l2, ?_⟩
    refine ⟨_, rfl, ?_⟩
    exact ⟨nm, _, s, z, _, rfl, SqL.of hn, hs, (by rw [rgV_length]; omega), hz, run_back hs hq hz, k⟩
theorem sc_CutScale___init__ : FnScope ["self", "start", "period", "order", "names", "number"] ["self", "start", "period", "order"] (defScope (inClass (top 24) 0)) := ⟨rfl, rfl, rfl, by decide +kernel, rfl, by decide +kernel, by decide +kernel⟩
theorem ok_cut_init {f : Addr} {fd : FuncData} (F : Fun K "__init__" "CutScale.__init__" (inClass (top 24) 0) f fd) (T : TxF K mg aO) (CC : CCls K C) (cf_ListedScale___init__ : CFB P w K mg base CX0 2 "ListedScale" "__init__" (spListedInit K))
    (m_brought_back : Met P w K mg base CX0 2 C "brought_back" (spBack K C)) : FnOk P w K mg base CX0 3 f fd ["self", "start", "period", "order"] (spCutInit C) := by
  refine F.ok sc_CutScale___init__ (fun vs H Q E h => ?_) (fun cdv A outer s H vs Q E hr h => ?_)
  · obtain ⟨p, dx, s, q, o, rfl, _⟩ := h
    rfl
  · obtain ⟨p, dx, s, q, o, rfl, hs, hq, hsq, ho, hp, k⟩ := h
    refine ⟨_, (pss_cons (ps_if (PW.pt (pw_or (pt_cmpR op_lt (pv 1) pe_int (nomark _)) (pw_or (pt_cmpR op_lt (pv 2) pe_int (nomark _)) (pw_or (pt_cmpR op_gt (pe_op op_add (pv 1) (pv 2)) (pe_gx (by rfl) T.g_MOST_GRADES) (nomark _)) (pw_or1 (pt_cmpR op_notIn_seq (pv 3) (pe_gx (by rfl) T.g_ORDERS) (by rfl))))))) (pss_one ps_never) pss_nil)
      (pss_cons (ps_if (PW.pt (pw_and (pt_cmpR op_ne (pv 3) pe_str (nomark _)) (pw_and1 (pt_cmpR op_ne (pv 2) pe_int (nomark _))))) (pss_one ps_never) pss_nil)
      (pss_cons (ps_fld (pv 0) (pe_listRg (by rfl) (by rfl) T.list (prg_1 (by rfl) T.range (pe_op op_add (pv 1) (pv 2)))) rfl)
      (pss_cons (ps_fld (pv 0) (pv 1) rfl)
      (pss_cons (ps_fld (pv 0) (pv 3) rfl)
      (pss_cons (ps_setLc (i := 4) (own := [("number", 5)]) (g := (gName 5)) (by rfl) sc_CutScale___init__.nd rfl rfl (sw_true rfl rfl rfl (by decide +kernel)) (pi_list (pe_fld (pv 0) rfl)) (blkOk_by (own := [("number", 5)]) (N := ["self", "start", "period", "order", "names", "number"]) (sc := defScope (inClass (top 24) 0)) (by decide +kernel)) (fun _ _ _ _ _ => (pg_name (i := 5) sc_CutScale___init__.nd rfl (Or.inl rfl))) (fun _ _ _ _ _ => pts_nil) (fun _ _ _ _ _ => (pe_callTy call_str_int (by rfl) T.str (by decide +kernel) (pa_cons (pv 5) pa_nil))))
      (pss_cons (ps_if (pt_cmpR op_eq (pv 2) pe_int (nomark _)) (pss_one (ps_asg pe_str (pg_sub (pv 4) (pv 1) set_list))) pss_nil)
      (pss_one (ps_expr (pe_cf cf_ListedScale___init__ hr (by decide) (by rfl) (pa_cons (pv 0) (pa_cons (pe_joined (PJ.cons pe_str (PJ.cons (pe_fmt (pv 1)) (PJ.cons pe_str (PJ.cons (pe_fmt (pv 2)) (PJ.cons pe_str (PJ.cons (pe_fmt (pv 3)) (PJ.cons pe_str PJ.nil)))))))) (pa_cons (pv 4) (pa_cons pe_int (pa_cons (pe_mt m_brought_back hr (by decide) (pv 0) (pa_cons pe_int pa_nil)) pa_nil))))))))))))))), ?_⟩
    refine ⟨_, rfl, _, _, rfl, rfl, _, rfl, ?_⟩
    refine ifN (by omega) ?_
    refine ⟨_, rfl, _, _, rfl, rfl, _, rfl, ?_⟩
    refine ifN (by omega) ?_
    refine ⟨_, rfl, _, rfl, _, _, rfl, rfl, _, _, rfl, rfl, _, rfl, ?_⟩
    refine ifN (by omega) ?_
    refine ⟨_, rfl, aO, _, rfl, .inr (T.orders H), rfl, rfl, _, rfl, ?_⟩
    refine ifF (by cases o <;> decide +kernel) ?_
    refine tNextI ?_
    dsimp only
    refine st_seq (st_no ?_ ?_)
    · intro Q q'
      refine ⟨_, rfl, rfl, _, rfl, ?_⟩
      by_cases e : o = .same
      · subst e
        exact nifY rfl q'
      · refine nifN (fun z => ?_) ?_
        · cases o
          · exact e rfl
          · exact absurd (V.str.inj z) (by decide +kernel)
          · exact absurd (V.str.inj z) (by decide +kernel)
        · refine ⟨_, rfl, rfl, _, rfl, ?_⟩
          rw [decide_eq_true (show V.int q = V.int 1 by rw [ho e])]
          exact q'
    refine ⟨_, rfl, _, rfl, _, _, rfl, rfl, _, rfl, RgOk.of_le (by decide) (by omega) (by decide) (by omega), fun nm hnm => ?_⟩
    have npn : p ≠ nm := ne_of_none hp hnm
    refine ⟨_, rfl, p, C, dx, _, rfl, (by rw [upd_ne npn]; exact hp), CC.cl, CC._numbers, by decide, ?_⟩
    refine ⟨_, rfl, _, rfl, p, C, dx, _, rfl, upd_same, CC.cl, CC._start, (Nat.lt_of_le_of_lt (putF_n (Nat.zero_le 0)) (by decide)), ?_⟩
    refine ⟨_, rfl, _, rfl, p, C, dx, _, rfl, upd_same, CC.cl, CC._order, (Nat.lt_of_le_of_lt (putF_n (putF_n (Nat.zero_le 0))) (by decide)), ?_⟩
    rw [upd_upd, upd_upd]
    dsimp only
    have k1 : fld (cutFs0 s o nm) "_numbers" = some (.ref nm) := by
      unfold cutFs0; rw [fld_put, if_neg (by decide +kernel), fld_put, if_neg (by decide +kernel), fld_put, if_pos rfl]
    have k2 : fld (cutFs0 s o nm) "_start" = some (.int s) := by
      unfold cutFs0; rw [fld_put, if_neg (by decide +kernel), fld_put, if_pos rfl]
    have k3 : fld (cutFs0 s o nm) "brought_back" = none := by
      unfold cutFs0; rw [fld_put, if_neg (by decide +kernel), fld_put, if_neg (by decide +kernel), fld_put, if_neg (by decide +kernel)]; rfl
    have bn : ∀ u, (upd (upd H nm (.lst (rgV 0 (s + q)))) p u) nm = some (.lst (rgV 0 (s + q))) := fun u => by rw [upd_ne npn.symm, upd_same]
    refine ⟨_, rfl, p, C, dx, _, _, rfl, upd_same, CC.cl, CC._numbers, k1, nm, rfl, ⟨_, SqL.of (bn _)⟩, fun N hN => lcF_list (xs := rgV 0 (s + q)) (fun i => (List.range i).map fun (j : Nat) => V.str (num (j : Int))) hN (SqL.of (bn _)) rfl ?_ ?_⟩
    · intro i x hx
      obtain ⟨rfl, hi⟩ := rg_inv hx
      refine ⟨rfl, ?_⟩
      refine tYesI (iteT ?_)
      refine ⟨_, rfl, _, rfl, num_log _ (by omega) (by omega), _, upd_same, (by rw [List.length_map, List.length_range]; exact small1000 (by omega)), ?_⟩
      rw [upd_upd, range_map_snoc]
    have npN : p ≠ N := ne_of_none upd_same hN
    have nnN : nm ≠ N := ne_of_none (bn _) hN
    have eN : (rgV 0 (s + q)).length = (s + q).toNat := by rw [rgV_length]; congr 1; omega
    rw [eN]
    refine gNameI ?_
    dsimp only
    refine st_seq (join (fun σ' H' => σ' = [some (.ref p), some (.int s), some (.int q), some (.str o.txt), some (.ref N), none] ∧ H' = upd (upd (upd H nm (.lst (rgV 0 (s + q)))) p (.ins C dx (cutFs0 s o nm))) N (.lst ((cutNames s q).map V.str))) ?_ ?_)
    · intro D' hD'
      refine ⟨_, rfl, rfl, _, rfl, ?_⟩
      refine ifD (fun e => ?_) (fun e => ?_)
      · obtain rfl : q = 1 := V.int.inj e
        refine ⟨_, rfl, _, rfl, N, _, s, s.toNat, rfl, rfl, upd_same, ?_, ?_⟩
        · unfold ixN
          rw [if_pos hs, if_pos (by rw [List.length_map, List.length_range]; omega)]
        · refine hD' _ _ ⟨rfl, ?_⟩
          rw [upd_upd]
          congr 2
          apply List.ext_getElem?
          intro i
          unfold cutNames
          rw [List.map_map, List.getElem?_set, List.length_map, List.length_range]
          by_cases hi : s.toNat = i
          · subst hi
            rw [if_pos rfl, if_pos (by omega), List.getElem?_map, range_at (by omega)]
            show some (V.str "many") = some (V.str (cutName s 1 s.toNat))
            unfold cutName
            rw [if_pos ⟨rfl, by omega⟩]
          · rw [if_neg hi, List.getElem?_map, List.getElem?_map]
            by_cases hlt : i < (s + 1).toNat
            · rw [range_at hlt]
              show some (V.str (num (i : Int))) = some (V.str (cutName s 1 i))
              unfold cutName
              rw [if_neg (by omega)]
            · rw [List.getElem?_eq_none (by rw [List.length_range]; omega)]; rfl
      · refine hD' _ _ ⟨rfl, ?_⟩
        congr 2
        unfold cutNames
        rw [List.map_map]
        apply List.map_congr_left
        intro i _
        show V.str (num (i : Int)) = V.str (cutName s q i)
        unfold cutName
        rw [if_neg (fun z => e (by rw [z.1]))]
    · rintro σ' H' ⟨rfl, rfl⟩
      have c1 : (Str.empty ++ ("(cut " : Str)).length ≤ 5 := by decide +kernel
      have c2 := app_le c1 (num_short s hs (by omega))
      have c3 := app_le c2 (show (" " : Str).length ≤ 1 by decide +kernel)
      have c4 := app_le c3 (num_short q (by omega) (by omega))
      have c5 := app_le c4 (show (" " : Str).length ≤ 1 by decide +kernel)
      have c6 := app_le c5 (show o.txt.length ≤ 4 by cases o <;> decide +kernel)
      have c7 := app_le c6 (show (")" : Str).length ≤ 1 by decide +kernel)
      have gp : ∀ u, (upd (upd (upd H nm (.lst (rgV 0 (s + q)))) p (.ins C dx (cutFs0 s o nm))) N u) p = some (.ins C dx (cutFs0 s o nm)) := fun u => by rw [upd_ne npN, upd_same]
      have gn : ∀ u, (upd (upd (upd H nm (.lst (rgV 0 (s + q)))) p (.ins C dx (cutFs0 s o nm))) N u) nm = some (.lst (rgV 0 (s + q))) := fun u => by rw [upd_ne nnN, bn]
      refine ⟨_, rfl, ?_⟩
      refine ⟨_, rfl, sz c1 (by decide), ?_⟩
      refine ⟨_, rfl, .inr ⟨_, rfl, num_log s hs (by omega), _, rfl, sz c2 (by decide), ?_⟩⟩
      refine ⟨_, rfl, sz c3 (by decide), ?_⟩
      refine ⟨_, rfl, .inr ⟨_, rfl, num_log q (by omega) (by omega), _, rfl, sz c4 (by decide), ?_⟩⟩
      refine ⟨_, rfl, sz c5 (by decide), ?_⟩
      refine ⟨_, rfl, .inl ⟨_, rfl, (by cases o <;> decide +kernel), _, rfl, sz c6 (by decide), ?_⟩⟩
      refine ⟨_, rfl, sz c7 (by decide), ?_⟩
      refine ⟨_, rfl, _, rfl, p, dx, _, rfl, gp _, k3, ?_⟩
      refine ⟨p, dx, nm, _, s, q, 1, rfl, gp _, k1, k2, gn _, hs, hq, by decide, ?_⟩
      have lN : (cutNames s q).length = (s + q).toNat := by unfold cutNames; rw [List.length_map, List.length_range]
      refine ⟨p, C, dx, N, _, _, cutNames s q, .int 0, _, rfl, CC.toLCls, gp _, Nat.le_trans (putF_n (putF_n (putF_n (Nat.zero_le 0)))) (by decide), upd_same, by omega, fun l d H' hl hd b e1 e2 e3 => ?_⟩
      refine k dx nm l d H' hnm (upd_none (upd_none (upd_none hl).2).2).2 (upd_none (upd_none (upd_none hd).2).2).2 (fun b' o' e nb => ?_) ⟨?_, ?_, e1, ?_⟩
      · refine b _ _ ?_ nb
        have x1 : b' ≠ nm := ne_of_none e hnm
        have x2 : b' ≠ N := ne_of_none (show (upd (upd H nm (.lst (rgV 0 (s + q)))) p (.ins C dx (cutFs0 s o nm))) b' = some o' by rw [upd_ne nb, upd_ne x1]; exact e) hN
        rw [upd_ne x2, upd_ne nb, upd_ne x1]; exact e
      · rw [e3, lN]; rfl
      · exact b _ _ (gn _) npn.symm
      · rw [e2, lN]
end
/-! ### scales of integers brought back, as scales -/
theorem back_ex {s q z : Int} (hs : 0 ≤ s) (hq : 1 ≤ q) (hz : 0 ≤ z) : 0 ≤ backI s q z ∧ backI s q z < s + q ∧ ∃ k : Int, 0 ≤ k ∧ z = backI s q z + k * q ∧ (0 < k → s ≤ backI s q z) := by
  unfold backI
  by_cases h : z < s + q
  · rw [if_pos h]; exact ⟨hz, h, 0, Int.le_refl _, by omega, fun h => absurd h (by decide)⟩
  · rw [if_neg h]
    have h0 : 0 ≤ (z - s) % q := Int.emod_nonneg _ (by omega)
    have h1 : (z - s) % q < q := Int.emod_lt_of_pos _ (by omega)
    have h2 : 0 ≤ (z - s) / q := Int.ediv_nonneg (by omega) (by omega)
    have h3 := Int.mul_ediv_add_emod (z - s) q
    refine ⟨by omega, by omega, (z - s) / q, h2, ?_, fun _ => by omega⟩
    rw [Int.mul_comm] at h3; omega
theorem back_un {s q x r k : Int} (hq : 1 ≤ q) (h0 : 0 ≤ r) (h1 : r < s + q) (hk : 0 ≤ k) (e : x = r + k * q) (h : 0 < k → s ≤ r) : backI s q x = r := by
  unfold backI
  by_cases k0 : k = 0
  · subst k0
    rw [Int.zero_mul] at e
    rw [if_pos (by omega)]; omega
  · have sr := h (by omega)
    have kq : 1 * q ≤ k * q := Int.mul_le_mul_of_nonneg_right (by omega) (by omega)
    rw [if_neg (by omega)]
    have e2 : x - s = (r - s) + k * q := by omega
    rw [e2, Int.add_mul_emod_self_right, Int.emod_eq_of_lt (by omega) (by omega)]
    omega
theorem back_add {s q a b : Int} (hs : 0 ≤ s) (hq : 1 ≤ q) (ha : 0 ≤ a) (hb : 0 ≤ b) : backI s q (backI s q a + backI s q b) = backI s q (a + b) := by
  obtain ⟨a0, a1, k1, k10, ea, ga⟩ := back_ex hs hq ha
  obtain ⟨b0, b1, k2, k20, eb, gb⟩ := back_ex hs hq hb
  obtain ⟨y0, y1, k3, k30, ey, gy⟩ := back_ex (z := backI s q a + backI s q b) hs hq (by omega)
  have big : 0 < k1 ∨ 0 < k2 ∨ 0 < k3 → s ≤ backI s q (backI s q a + backI s q b) := fun h => by
    by_cases z : 0 < k3
    · exact gy z
    · have : k3 = 0 := by omega
      rw [this, Int.zero_mul] at ey
      rcases h with h | h | h
      · have := ga h; omega
      · have := gb h; omega
      · exact absurd h z
  refine (back_un (k := k1 + k2 + k3) hq y0 y1 (by omega) ?_ fun h => big ?_).symm
  · rw [Int.add_mul, Int.add_mul]; omega
  · omega
theorem back_small {s q z : Int} (h : z < s + q) : backI s q z = z := by unfold backI; rw [if_pos h]
def cutPrim (s q : Int) (o : Ord) : Prim where
  size := (s + q).toNat
  zero := 0
  one := backI s q 1
  sum := fun a b => backI s q (a + b)
  prod := fun a b => backI s q (a * b)
  within := fun a b => match o with | .up => decide (a ≤ b) | .down => decide (b ≤ a) | .same => decide (a = b)
  names := cutNames s q
  label := cutLabel s q o
structure CutOk (s q : Int) (o : Ord) : Prop where
  s0 : 0 ≤ s
  q1 : 1 ≤ q
  most : s + q ≤ 64
  ord : o ≠ .same → q = 1
theorem cutNames_len2 (s q : Int) : (cutNames s q).length = (s + q).toNat := by unfold cutNames; rw [List.length_map, List.length_range]
theorem cutNames_at2 {s q : Int} {i : Nat} (h : i < (s + q).toNat) : (cutNames s q).getD i Str.empty = cutName s q i := by
  unfold cutNames
  rw [List.getD_eq_getElem?_getD, List.getElem?_map, range_at h]; rfl
theorem cutName_short2 (s q : Int) (i : Nat) (h : i < 65) : (cutName s q i).length ≤ 4 := by
  unfold cutName
  split
  · decide +kernel
  · exact Nat.le_trans (num_short _ (by omega) (by omega)) (by decide)
theorem cutName_inj2 {s q : Int} (hs : 0 ≤ s) (hsq : s + q ≤ 64) {i j : Nat} (hi : i < (s + q).toNat) (hj : j < (s + q).toNat) (e : cutName s q i = cutName s q j) : i = j := by
  unfold cutName at e
  split at e
  · split at e
    · omega
    · exact absurd e.symm (num_not j (by omega) "many" (by simp))
  · split at e
    · exact absurd e (num_not i (by omega) "many" (by simp))
    · exact num_inj i (by omega) j (by omega) e
theorem cut_label_le {s q : Int} {o : Ord} (O : CutOk s q o) : (cutLabel s q o).length ≤ 100 := by
  have s0 := O.s0
  have q1 := O.q1
  have sq := O.most
  have c1 : (Str.empty ++ ("(cut " : Str)).length ≤ 5 := by decide +kernel
  have c2 := app_le c1 (num_short s s0 (by omega))
  have c3 := app_le c2 (show (" " : Str).length ≤ 1 by decide +kernel)
  have c4 := app_le c3 (num_short q (by omega) (by omega))
  have c5 := app_le c4 (show (" " : Str).length ≤ 1 by decide +kernel)
  have c6 := app_le c5 (show o.txt.length ≤ 4 by cases o <;> decide +kernel)
  have c7 := app_le c6 (show (")" : Str).length ≤ 1 by decide +kernel)
  exact Nat.le_trans c7 (by decide)
theorem cutPrim_ok {s q : Int} {o : Ord} (O : CutOk s q o) : PrimOk (cutPrim s q o) := by
  have s0 := O.s0
  have q1 := O.q1
  have sq := O.most
  have tn : (((s + q).toNat : Nat) : Int) = s + q := Int.toNat_of_nonneg (by omega)
  refine ⟨by show 1 ≤ (s + q).toNat; omega, by show (s + q).toNat ≤ 64; omega, cutNames_len2 s q, fun i hi j hj e => ?_, fun z hz => ?_, ⟨Int.le_refl 0, by show (0 : Int) < ((s + q).toNat : Int); omega⟩, ?_, fun a b a0 a1 b0 b1 => ?_, fun a b a0 a1 b0 b1 => ?_, Nat.le_trans (cut_label_le O) (by decide)⟩
  · have hi : i < (s + q).toNat := hi
    have hj : j < (s + q).toNat := hj
    have e : (cutNames s q).getD i Str.empty = (cutNames s q).getD j Str.empty := e
    rw [cutNames_at2 hi, cutNames_at2 hj] at e
    exact cutName_inj2 s0 sq hi hj e
  · have hz : z ∈ cutNames s q := hz
    unfold cutNames at hz
    obtain ⟨i, hi, rfl⟩ := List.mem_map.mp hz
    have := List.mem_range.mp hi
    exact Nat.le_trans (cutName_short2 s q i (by omega)) (by decide)
  · show 0 ≤ backI s q 1 ∧ backI s q 1 < ((s + q).toNat : Int)
    rw [tn]
    have := back_ex s0 q1 (show (0 : Int) ≤ 1 by decide); exact ⟨this.1, this.2.1⟩
  · show 0 ≤ backI s q (a + b) ∧ backI s q (a + b) < ((s + q).toNat : Int)
    rw [tn]
    have := back_ex (z := a + b) s0 q1 (by omega); exact ⟨this.1, this.2.1⟩
  · show 0 ≤ backI s q (a * b) ∧ backI s q (a * b) < ((s + q).toNat : Int)
    rw [tn]
    have := back_ex (z := a * b) s0 q1 (Int.mul_nonneg a0 b0); exact ⟨this.1, this.2.1⟩
theorem it_cut {s q : Int} {o : Ord} (O : CutOk s q o) : ∀ i : Nat, itI (cutPrim s q o) i = backI s q ((i : Int) + 1)
  | 0 => rfl
  | i + 1 => by
    have e : itI (cutPrim s q o) (i + 1) = backI s q (itI (cutPrim s q o) i + backI s q 1) := rfl
    rw [e, it_cut O i, back_add O.s0 O.q1 (by omega) (by decide), Int.natCast_add]; rfl
/-- what a scale of integers holds of its own -/
def LfCut (m : Prim) (H : Hp) (fs : List (Str × V)) : Prop := ∃ (s q : Int) (o : Ord), CutOk s q o ∧ m = cutPrim s q o ∧
  (∃ l, fld fs "_names" = some (.ref l) ∧ H l = some (.lst ((cutNames s q).map V.str))) ∧ (∃ d, fld fs "_found" = some (.ref d) ∧ H d = some (.dK (foundTo (cutNames s q) (cutNames s q).length))) ∧
  (∃ nm, fld fs "_numbers" = some (.ref nm) ∧ H nm = some (.lst (rgV 0 (s + q)))) ∧ fld fs "_start" = some (.int s) ∧ fld fs "_order" = some (.str o.txt) ∧ fld fs "brought_back" = none
theorem LfCut.same {m : Prim} {H H' : Hp} {fs : List (Str × V)} (e : Same H H') (h : LfCut m H fs) : LfCut m H' fs := by
  obtain ⟨s, q, o, O, em, ⟨l, a1, a2⟩, ⟨d, b1, b2⟩, ⟨x, c1, c2⟩, d1⟩ := h
  exact ⟨s, q, o, O, em, ⟨l, a1, e _ _ a2⟩, ⟨d, b1, e _ _ b2⟩, ⟨x, c1, e _ _ c2⟩, d1⟩
theorem cut_none2 {s q : Int} {o : Ord} {nm l d : Addr} {m : Str} (h : ["_numbers", "_start", "_order", "label", "size", "zero_at", "one_at", "depth", "_names", "_found"].all (fun f => decide (m ≠ Str.ofString f)) = true) : fld (cutFs s q o nm l d) m = none := by
  simp only [List.all_cons, List.all_nil, Bool.and_true, Bool.and_eq_true, decide_eq_true_eq] at h
  obtain ⟨h1, h2, h3, h4, h5, h6, h7, h8, h9, h10⟩ := h
  unfold cutFs listedFs cutFs0
  rw [fld_put, if_neg h10, fld_put, if_neg h9, fld_put, if_neg h8, fld_put, if_neg h7, fld_put, if_neg h6, fld_put, if_neg h5, fld_put, if_neg h4, fld_put, if_neg h3, fld_put, if_neg h2, fld_put, if_neg h1]
  rfl
theorem cut_m : ∀ m ∈ mnames, (["_numbers", "_start", "_order", "label", "size", "zero_at", "one_at", "depth", "_names", "_found"].all (fun f => decide (m ≠ Str.ofString f)) = true) := by decide +kernel
theorem CutIs.sc {S : SE} {H : Hp} {p dx nm l d : Addr} {s q : Int} {o : Ord} (t : CutIs (S.cls .cut) H p dx nm l d s q o) (O : CutOk s q o) (hp : S.pr .cut = true) (hL : S.Lf .cut = LfCut) : ScAt S H (.leaf .cut (cutPrim s q o)) p := by
  refine ⟨dx, _, t.ob, hp, ⟨?_, ?_, ⟨_, ?_, rfl⟩, ⟨_, ?_, rfl⟩, ?_, fun m hm => cut_none2 (cut_m m hm)⟩, ?_⟩
  rotate_left 5
  · rw [hL]
    refine ⟨s, q, o, O, rfl, ⟨l, ?_, t.nl⟩, ⟨d, ?_, by rw [cutNames_len2]; exact t.fd⟩, ⟨nm, ?_, t.nm⟩, ?_, ?_, cut_none2 (by decide +kernel)⟩
    all_goals
      unfold cutFs listedFs cutFs0
      repeat (first | rw [fld_put, if_pos rfl] | rw [fld_put, if_neg (by decide +kernel)])
  all_goals
    unfold cutFs listedFs cutFs0
    repeat (first | rw [fld_put, if_pos rfl] | rw [fld_put, if_neg (by decide +kernel)])
    try rfl
section
variable {P : Program} {w : World} {K : PySem.W.Frag} {mg : Str → Option Value} {base : Heap} {S : SE} {n : Nat}
theorem sc_CutScale_sum_at : FnScope ["self", "first", "second"] ["self", "first", "second"] (defScope (inClass (top 24) 2)) := ⟨rfl, rfl, rfl, by decide +kernel, rfl, by decide +kernel, by decide +kernel⟩
theorem st_CutScale_sum_at (v0 v1 v2 : V) : L2.start ["self", "first", "second"] [v0, v1, v2] = [some v0, some v1, some v2] := rfl
theorem ok_scut_sum {f : Addr} {fd : FuncData} (F : Fun K "sum_at" "CutScale.sum_at" (inClass (top 24) 2) f fd) (hL : S.Lf .cut = LfCut) (m_brought_back : Met P w K mg base CX0 2 (S.cls .cut) "brought_back" (spBack K (S.cls .cut))) : FnOk P w K mg base CX0 3 f fd ["self", "first", "second"] (spSum S .cut n) := by
  refine F.ok sc_CutScale_sum_at (fun vs H Q E h => ?_) (fun cdv A outer s H vs Q E hr h => ?_)
  · obtain ⟨p, d, a, b, x, y, rfl, _⟩ := h
    rfl
  · obtain ⟨p, d, a, b, x, y, rfl, hs, hk, hd, ho, ha, hb, oa, ob, k⟩ := h
    obtain ⟨m, rfl⟩ := leaf_of hs hk (by decide) ho
    obtain ⟨dx, fs, hp, pk, hh, lf⟩ := id hs
    rw [hL] at lf
    obtain ⟨s, q, o, O, rfl, _, _, ⟨nm, n1, n2⟩, s1, _, bb⟩ := lf
    cases a with
    | p a b => exact oa.elim
    | n i =>
      cases b with
      | p a b => exact ob.elim
      | n i2 =>
        obtain rfl : x = .int i := ha
        obtain rfl : y = .int i2 := hb
        refine ⟨_, (pss_one (ps_ret (pe_mt m_brought_back hr (by decide) (pv 0) (pa_cons (pe_op op_add (pv 1) (pv 2)) pa_nil)))), ?_⟩
        rw [st_CutScale_sum_at]
        have w0 := V.Hw.start (H := H)
        have bb2 : fs.lookup (Str.ofString "brought_back") = none := bb
        have o1 : 0 ≤ i := oa.1
        have o2 : 0 ≤ i2 := ob.1
        repeat walk_at "w"
        exact ⟨p, dx, nm, fs, s, q, i + i2, rfl, hp, n1, s1, n2, O.s0, O.q1, by omega, k _ H w0.fr rfl⟩
end
section
variable {S : SE} {Z H : Hp} {so : Option (Addr × Addr)} {L : V.Cells} {Q : VK} {E : XK} {s q : Int}
theorem w_cutP (w : V.Hw Z so H L) (O : CutOk s q .same) (pC : S.pr .cut = true) (hL : S.Lf .cut = LfCut) (k : ∀ p Z' H', V.Hw Z' so H' L → Same Z Z' → ScAt S Z' (.leaf .cut (cutPrim s q .same)) p → Q (.ref p) H') : V.gMkK (S.cls .cut) 1 1 (spCutInit (S.cls .cut)) (fun vs zs => vs ++ zs ++ [.str "same"]) E Q [.int s] [.int q] H := by
  refine ⟨rfl, rfl, fun x dx nx ndx ne => ?_⟩
  have sB : Same H (upd (upd H dx (.own x)) x (.ins (S.cls .cut) dx [])) := fun b o e => by rw [upd_ne (ne_of_none e nx), upd_ne (ne_of_none e ndx)]; exact e
  refine ⟨x, dx, s, q, .same, rfl, O.s0, O.q1, O.most, O.ord, upd_same, fun dx' nm l d H' n1 n2 n3 bt ci => ⟨rfl, ?_⟩⟩
  have sC : Same H H' := fun b o e => bt b o (sB b o e) (ne_of_none e nx)
  obtain ⟨Z', w', e', new'⟩ := w.callNew sC
  have z : ∀ {b : Addr}, (upd (upd H dx (.own x)) x (.ins (S.cls .cut) dx [])) b = none → H b = none := fun h => (upd_none (upd_none h).2).2
  exact k x Z' H' w' e' (CutIs.sc ⟨new' _ _ nx ci.ob, new' _ _ (z n1) ci.nm, new' _ _ (z n2) ci.nl, new' _ _ (z n3) ci.fd⟩ O pC hL)
end
/-! ### a turned scale is made -/
def spTurnInit (S : SE) : Sp := fun vs H Q _ => ∃ (Z : Hp) (p dx q : Addr) (d : SD) (m : Nat), vs = [.ref p, .ref q] ∧ Same Z H ∧ Z p = none ∧ ScAt S Z d q ∧ d.Ok ∧ d.size = some m ∧ d.depth < 20 ∧ d.label.length ≤ 200000 ∧ H p = some (.ins (S.cls .turn) dx []) ∧
  ∀ fs H', But p H H' → H' p = some (.ins (S.cls .turn) dx fs) → ScHd Z fs (.turned d) → fld fs "inner" = some (.ref q) → Q .non H'
theorem tu_none {m lb : Str} {q : Addr} {sz z o dd : V} (h : ["inner", "label", "size", "zero_at", "one_at", "depth"].all (fun f => decide (m ≠ Str.ofString f)) = true) : fld (putF "depth" dd (putF "one_at" o (putF "zero_at" z (putF "size" sz (putF "label" (.str lb) (putF "inner" (.ref q) [])))))) m = none := by
  simp only [List.all_cons, List.all_nil, Bool.and_true, Bool.and_eq_true, decide_eq_true_eq] at h
  obtain ⟨h1, h2, h3, h4, h5, h6⟩ := h
  rw [fld_put, if_neg h6, fld_put, if_neg h5, fld_put, if_neg h4, fld_put, if_neg h3, fld_put, if_neg h2, fld_put, if_neg h1]
  rfl
theorem tu_m : ∀ m ∈ mnames, (["inner", "label", "size", "zero_at", "one_at", "depth"].all (fun f => decide (m ≠ Str.ofString f)) = true) := by decide +kernel
section
variable {P : Program} {w : World} {K : PySem.W.Frag} {mg : Str → Option Value} {base : Heap} {S : SE}
theorem sc_TurnedScale___init__ : FnScope ["self", "inner"] ["self", "inner"] (defScope (inClass (top 26) 0)) := ⟨rfl, rfl, rfl, by decide +kernel, rfl, by decide +kernel, by decide +kernel⟩
theorem st_TurnedScale___init__ (v0 v1 : V) : L2.start ["self", "inner"] [v0, v1] = [some v0, some v1] := rfl
theorem ok_turn_init {f : Addr} {fd : FuncData} (F : Fun K "__init__" "TurnedScale.__init__" (inClass (top 26) 0) f fd) (TC : TuCls K S) (SC : ScCls K S) (cf_Scale___init__ : CFB P w K mg base CX0 1 "Scale" "__init__" (spScaleInit K)) : FnOk P w K mg base CX0 2 f fd ["self", "inner"] (spTurnInit S) := by
  refine F.ok sc_TurnedScale___init__ (fun vs H Q E h => ?_) (fun cdv A outer s H vs Q E hr h => ?_)
  · obtain ⟨Z, p, dx, q, d, m, rfl, _⟩ := h
    rfl
  · obtain ⟨Z, p, dx, q, d, m, rfl, sZ, zp, hs, ho, hm, hd, hlb, hp, k⟩ := h
    have sZ2 : Same Z (V.cut H [p]) := fun b o e => by
      rw [V.cut_not (by rw [List.mem_singleton]; exact fun r => by subst r; rw [zp] at e; cases e)]; exact sZ _ _ e
    have hs2 := hs.same sZ2
    obtain ⟨dx2, fs2, hq, pk, hh⟩ := hs2.hd
    obtain ⟨dx3, fs3, hq3, _, hh3⟩ := hs.hd
    have ef : fs2 = fs3 := by
      have := sZ2 _ _ hq3
      rw [hq] at this; cases this; rfl
    subst ef
    have sc := SC.cls _ pk
    refine ⟨_, (pss_cons (ps_if (pt_cmpR op_isN (pe_fld (pv 1) rfl) pe_non (nomark _)) (pss_one ps_never) pss_nil)
      (pss_cons (ps_fld (pv 0) (pv 1) rfl)
      (pss_one (ps_expr (pe_cf cf_Scale___init__ hr (by decide) (by rfl) (pa_cons (pv 0) (pa_cons (pe_joined (PJ.cons pe_str (PJ.cons (pe_fmt (pe_fld (pv 1) rfl)) (PJ.cons pe_str PJ.nil)))) (pa_cons (pe_fld (pv 1) rfl) (pa_cons (pe_fld (pv 1) rfl) (pa_cons (pe_fld (pv 1) rfl) (pa_cons (pe_op op_add (pe_fld (pv 1) rfl) pe_int) pa_nil))))))))))), ?_⟩
    rw [st_TurnedScale___init__]
    have w0 := ((V.Hw.startM (H := H) [p]).addM hp (V.cut_in (by simp)) trivial)
    have c1 := sc.cl
    have c2 := sc.label
    have c3 := sc.size
    have c4 := sc.zero_at
    have c5 := sc.one_at
    have c6 := sc.depth
    have c7 := TC.sc.cl
    have c8 := TC.inner
    have h1 := hh.label
    have h2 := hh.size
    rw [hm] at h2
    simp only [sizeV] at h2
    obtain ⟨zv, h3, h3'⟩ := hh3.zero
    obtain ⟨ov, h4, h4'⟩ := hh3.one
    have h5 := hh.depth
    have z1 : ("(turned " : Str).length = 8 := by decide +kernel
    have z0 : (Str.empty : Str).length = 0 := by decide +kernel
    have z2 : (")" : Str).length = 1 := by decide +kernel
    repeat walk_at "w"
    intro H1 w1
    repeat walk_at "w"
    refine ⟨p, _, dx, _, _, .int (m : Int), zv, ov, _, rfl, by omega, TC.sc, w1.get .here, Nat.le_trans (putF_n (Nat.le_refl _)) (by decide), ?_⟩
    have w2 := w1.up (o := .ins (S.cls .turn) dx (putF "depth" (.int ((d.depth : Int) + 1)) (putF "one_at" ov (putF "zero_at" zv (putF "size" (.int (m : Int)) (putF "label" (.str (Str.empty ++ "(turned " ++ d.label ++ ")")) (putF "inner" (.ref q) []))))))) .here
    generalize upd H1 p _ = H2 at w2 ⊢
    repeat walk_at "w"
    refine k _ H2 (fun b o e n => w2.fro (by rw [V.cut_not (by simpa using n)]; exact e)) (w2.get .here) ⟨?_, ?_, ⟨zv, ?_, h3'⟩, ⟨ov, ?_, h4'⟩, ?_, fun m hm => tu_none (tu_m m hm)⟩ ?_
    all_goals repeat (first | rw [fld_put, if_pos rfl] | rw [fld_put, if_neg (by decide +kernel)])
    · rfl
    · show _ = some (sizeV d.size); rw [hm]; rfl
    · show some (V.int ((d.depth : Int) + 1)) = some (V.int ((d.depth + 1 : Nat) : Int)); rw [Int.natCast_add]; rfl
end
section
variable {S : SE} {Z H : Hp} {so : Option (Addr × Addr)} {L : V.Cells} {Q : VK} {E : XK} {q : Addr} {d : SD} {m : Nat}
theorem w_turn (w : V.Hw Z so H L) (hs : ScAt S Z d q) (ho : d.Ok) (hm : d.size = some m) (hd : d.depth < 20) (hl : d.label.length ≤ 200000) (pU : S.pr .turn = true) (k : ∀ p Z' H', V.Hw Z' so H' L → Same Z Z' → ScAt S Z' (.turned d) p → (∃ dx fs, Z' p = some (.ins (S.cls .turn) dx fs) ∧ ScHd Z' fs (.turned d) ∧ fld fs "inner" = some (.ref q)) → Q (.ref p) H') : V.gMk (S.cls .turn) (spTurnInit S) [] E Q [.ref q] H := by
  intro x dx nx ndx ne
  have sB : Same H (upd (upd H dx (.own x)) x (.ins (S.cls .turn) dx [])) := fun b o e => by rw [upd_ne (ne_of_none e nx), upd_ne (ne_of_none e ndx)]; exact e
  refine ⟨Z, x, dx, q, d, m, rfl, fun b o e => sB _ _ (w.fr _ _ e), w.fr.free nx, hs, ho, hm, hd, hl, upd_same, fun fs H' bt hp hh hi => ⟨rfl, ?_⟩⟩
  have sC : Same H H' := fun b o e => bt b o (sB b o e) (ne_of_none e nx)
  obtain ⟨Z', w', e', new'⟩ := w.callNew sC
  have hx := new' _ _ nx hp
  exact k x Z' H' w' e' ⟨dx, fs, hx, pU, hh.same e', q, hi, hs.same e'⟩ ⟨dx, fs, hx, hh.same e', hi⟩
end
/-! ### tallies -/
theorem pe_mk0 {X : Cx} {k j : Nat} {C : Addr} {x : Str} {sp : Sp} {p pos : Pos} (c : Mak X.prog X.w X.K X.mg X.base CX0 k x C sp) (hr : Room j X.A) (hk : k + 1 ≤ j) (hg : Gl X x) (hdb : (x == ("__debug__" : Str)) = false := by decide) : PE X (.Call (.Name x p) [] [] pos) (tMake C sp [] E0 tNil) := by
  obtain ⟨f, fd, ps, M, F, hm, b⟩ := c.ex
  exact pe_make0 M F (hr.mono hk) hg hm b .nil pass0 hdb
structure TaCls (K : PySem.W.Frag) (S : SE) (kd : Kn) : Prop where
  sc : SCls K (S.cls kd)
def talW (o : Str) : Str := Str.empty ++ "(tally " ++ o ++ ")"
def talFs (o : Str) : List (Str × V) := putF "depth" (.int 1) (putF "one_at" (.int 1) (putF "zero_at" (.int 0) (putF "size" .non (putF "label" (.str (talW o)) []))))
def spTalInit (K : PySem.W.Frag) : Sp := fun vs H Q _ => ∃ (p C dx : Addr) (o : Str), vs = [.ref p, .str o] ∧ o.length ≤ 100 ∧ SCls K C ∧ H p = some (.ins C dx []) ∧ Q .non (upd H p (.ins C dx (talFs o)))
def spExInit (K : PySem.W.Frag) (C : Addr) (o : Str) : Sp := fun vs H Q _ => ∃ (p dx : Addr), vs = [.ref p] ∧ H p = some (.ins C dx []) ∧ Q .non (upd H p (.ins C dx (talFs o)))
theorem tm_tally (k : Kn) (c : Nat) : (SD.tally k).tm c = .n (c : Int) := by
  unfold SD.tm
  have g : ∀ i : Nat, Nat.repeat (fun x => (SD.tally k).sum x (SD.tally k).one) i (SD.tally k).one = .n ((i : Int) + 1) := fun i => by
    induction i with
    | zero => rfl
    | succ i ih =>
      rw [Nat.repeat, ih]
      show Pl.n ((i : Int) + 1 + 1) = Pl.n (((i + 1 : Nat) : Int) + 1)
      rw [Int.natCast_add]; rfl
  by_cases h : c = 0
  · subst h; rfl
  · rw [if_neg h, g]; congr 1; omega
theorem tal_none {m o : Str} (h : ["label", "size", "zero_at", "one_at", "depth"].all (fun f => decide (m ≠ Str.ofString f)) = true) : fld (talFs o) m = none := by
  simp only [List.all_cons, List.all_nil, Bool.and_true, Bool.and_eq_true, decide_eq_true_eq] at h
  obtain ⟨h2, h3, h4, h5, h6⟩ := h
  unfold talFs
  rw [fld_put, if_neg h6, fld_put, if_neg h5, fld_put, if_neg h4, fld_put, if_neg h3, fld_put, if_neg h2]
  rfl
theorem tal_m : ∀ m ∈ mnames, (["label", "size", "zero_at", "one_at", "depth"].all (fun f => decide (m ≠ Str.ofString f)) = true) := by decide +kernel
theorem tal_hd {H : Hp} {k : Kn} {o : Str} (e : (SD.tally k).label = talW o) : ScHd H (talFs o) (.tally k) := by
  refine ⟨?_, ?_, ⟨.int 0, ?_, rfl⟩, ⟨.int 1, ?_, rfl⟩, ?_, fun m hm => tal_none (tal_m m hm)⟩
  all_goals
    unfold talFs
    repeat (first | rw [fld_put, if_pos rfl] | rw [fld_put, if_neg (by decide +kernel)])
  · rw [e]
  · rfl
  · rfl
section
variable {P : Program} {w : World} {K : PySem.W.Frag} {mg : Str → Option Value} {base : Heap} {S : SE} {n : Nat} {C : Addr}
theorem sc_Tally___init__ : FnScope ["self", "order"] ["self", "order"] (defScope (inClass (top 28) 0)) := ⟨rfl, rfl, rfl, by decide +kernel, rfl, by decide +kernel, by decide +kernel⟩
theorem st_Tally___init__ (v0 v1 : V) : L2.start ["self", "order"] [v0, v1] = [some v0, some v1] := rfl
theorem ok_tal_init {f : Addr} {fd : FuncData} (F : Fun K "__init__" "Tally.__init__" (inClass (top 28) 0) f fd) (cf_Scale___init__ : CFB P w K mg base CX0 1 "Scale" "__init__" (spScaleInit K)) : FnOk P w K mg base CX0 2 f fd ["self", "order"] (spTalInit K) := by
  refine F.ok sc_Tally___init__ (fun vs H Q E h => ?_) (fun cdv A outer s H vs Q E hr h => ?_)
  · obtain ⟨p, C, dx, o, rfl, _⟩ := h
    rfl
  · obtain ⟨p, C, dx, o, rfl, lo, SC, hp, k⟩ := h
    refine ⟨_, (pss_one (ps_expr (pe_cf cf_Scale___init__ hr (by decide) (by rfl) (pa_cons (pv 0) (pa_cons (pe_joined (PJ.cons pe_str (PJ.cons (pe_fmt (pv 1)) (PJ.cons pe_str PJ.nil)))) (pa_cons pe_non (pa_cons pe_int (pa_cons pe_int (pa_cons pe_int pa_nil))))))))), ?_⟩
    rw [st_Tally___init__]
    have w0 := V.Hw.start (H := H)
    have z1 : ("(tally " : Str).length = 7 := by decide +kernel
    have z0 : (Str.empty : Str).length = 0 := by decide +kernel
    have z2 : (")" : Str).length = 1 := by decide +kernel
    repeat walk_at "w"
    exact ⟨p, C, dx, [], _, .non, .int 0, .int 1, 1, rfl, by decide, SC, hp, by decide, k⟩
theorem sc_ExactTally___init__ : FnScope ["self"] ["self"] (defScope (inClass (top 29) 0)) := ⟨rfl, rfl, rfl, by decide +kernel, rfl, by decide +kernel, by decide +kernel⟩
theorem st_ExactTally___init__ (v0 : V) : L2.start ["self"] [v0] = [some v0] := rfl
theorem ok_ex_init {f : Addr} {fd : FuncData} (F : Fun K "__init__" "ExactTally.__init__" (inClass (top 29) 0) f fd) (SC : SCls K C) (cf_Tally___init__ : CFB P w K mg base CX0 2 "Tally" "__init__" (spTalInit K)) : FnOk P w K mg base CX0 3 f fd ["self"] (spExInit K C "same") := by
  refine F.ok sc_ExactTally___init__ (fun vs H Q E h => ?_) (fun cdv A outer s H vs Q E hr h => ?_)
  · obtain ⟨p, dx, rfl, _⟩ := h
    rfl
  · obtain ⟨p, dx, rfl, hp, k⟩ := h
    refine ⟨_, (pss_one (ps_expr (pe_cf cf_Tally___init__ hr (by decide) (by rfl) (pa_cons (pv 0) (pa_cons pe_str pa_nil))))), ?_⟩
    rw [st_ExactTally___init__]
    have w0 := V.Hw.start (H := H)
    repeat walk_at "w"
    refine ⟨p, C, dx, "same", rfl, by decide +kernel, SC, hp, ?_⟩
    repeat walk_at "w"
    exact k
theorem sc_Tally_times_at : FnScope ["self", "count"] ["self", "count"] (defScope (inClass (top 28) 6)) := ⟨rfl, rfl, rfl, by decide +kernel, rfl, by decide +kernel, by decide +kernel⟩
theorem st_Tally_times_at (v0 v1 : V) : L2.start ["self", "count"] [v0, v1] = [some v0, some v1] := rfl
theorem ok_tal_times {f : Addr} {fd : FuncData} {kd : Kn} (F : Fun K "times_at" "Tally.times_at" (inClass (top 28) 6) f fd) (hk : kd = .ex ∨ kd = .most ∨ kd = .least) : FnOk P w K mg base CX0 1 f fd ["self", "count"] (spTm S kd n) := by
  refine F.ok sc_Tally_times_at (fun vs H Q E h => ?_) (fun cdv A outer s H vs Q E hr h => ?_)
  · obtain ⟨p, d, c, rfl, _⟩ := h
    rfl
  · obtain ⟨p, d, c, rfl, hs, e, hd, ho, k⟩ := h
    obtain ⟨q, rfl⟩ : ∃ q, d = .tally q := by
      cases d with
      | tally q => exact ⟨q, rfl⟩
      | leaf q m => have l : lkn q = true := ho.1; have e : q = kd := e; subst e; rcases hk with r | r | r <;> (subst r; exact absurd l (by decide))
      | pair l r => have e : Kn.pair = kd := e; subst e; rcases hk with r | r | r <;> cases r
      | turned i => have e : Kn.turn = kd := e; subst e; rcases hk with r | r | r <;> cases r
    refine ⟨_, (pss_one (ps_ret (pv 1))), ?_⟩
    rw [st_Tally_times_at]
    have w0 := V.Hw.start (H := H)
    repeat walk_at "w"
    exact k _ H w0.fr (by rw [tm_tally]; rfl)
end
section
variable {S : SE} {K : PySem.W.Frag} {Z H : Hp} {so : Option (Addr × Addr)} {L : V.Cells} {Q : VK} {E : XK} {kd : Kn} {o : Str}
theorem w_tal (w : V.Hw Z so H L) (e : (SD.tally kd).label = talW o) (pU : S.pr kd = true) (k : ∀ p Z' H', V.Hw Z' so H' L → Same Z Z' → ScAt S Z' (.tally kd) p → H p = none → Q (.ref p) H') : V.gMk (S.cls kd) (spExInit K (S.cls kd) o) [] E Q [] H := by
  intro x dx nx ndx ne
  refine ⟨x, dx, rfl, upd_same, rfl, ?_⟩
  rw [upd_upd]
  have sC : Same H (upd (upd H dx (.own x)) x (.ins (S.cls kd) dx (talFs o))) := fun b o e => by rw [upd_ne (ne_of_none e nx), upd_ne (ne_of_none e ndx)]; exact e
  obtain ⟨Z', w', e', new'⟩ := w.callNew sC
  exact k x Z' _ w' e' ⟨dx, talFs o, new' _ _ nx upd_same, pU, tal_hd e⟩ nx
end
/-! ### pairs of scales -/
structure PaCls (K : PySem.W.Frag) (S : SE) : Prop where
  sc : SCls K (S.cls .pair)
  left : NoAttr K (S.cls .pair) "left"
  right : NoAttr K (S.cls .pair) "right"
theorem tm_pair (l r : SD) (c : Nat) : (SD.pair l r).tm c = .p (l.tm c) (r.tm c) := by
  unfold SD.tm
  by_cases h : c = 0
  · rw [if_pos h, if_pos h, if_pos h]; rfl
  · rw [if_neg h, if_neg h, if_neg h]
    generalize c - 1 = i
    induction i with
    | zero => rfl
    | succ i ih => rw [Nat.repeat, ih]; rfl
def spPairInit (S : SE) : Sp := fun vs H Q _ => ∃ (Z : Hp) (p dx ql qr : Addr) (l r : SD), vs = [.ref p, .ref ql, .ref qr] ∧ Same Z H ∧ Z p = none ∧ ScAt S Z l ql ∧ ScAt S Z r qr ∧ (SD.pair l r).Ok ∧ l.depth < 20 ∧ r.depth < 20 ∧ l.label.length ≤ 100000 ∧ r.label.length ≤ 100000 ∧ H p = some (.ins (S.cls .pair) dx []) ∧
  ∀ W fs H', Same Z W → (∀ b o, W b = some o → Z b = some o ∨ (H b = none ∧ H' b = some o)) → But p H H' → H' p = some (.ins (S.cls .pair) dx fs) → ScHd W fs (.pair l r) → fld fs "left" = some (.ref ql) → fld fs "right" = some (.ref qr) → Q .non H'
theorem pa_none {m lb : Str} {ql qr : Addr} {sz z o dd : V} (h : ["left", "right", "label", "size", "zero_at", "one_at", "depth"].all (fun f => decide (m ≠ Str.ofString f)) = true) : fld (putF "depth" dd (putF "one_at" o (putF "zero_at" z (putF "size" sz (putF "label" (.str lb) (putF "right" (.ref qr) (putF "left" (.ref ql) []))))))) m = none := by
  simp only [List.all_cons, List.all_nil, Bool.and_true, Bool.and_eq_true, decide_eq_true_eq] at h
  obtain ⟨h0, h1, h2, h3, h4, h5, h6⟩ := h
  rw [fld_put, if_neg h6, fld_put, if_neg h5, fld_put, if_neg h4, fld_put, if_neg h3, fld_put, if_neg h2, fld_put, if_neg h1, fld_put, if_neg h0]
  rfl
theorem pa_m : ∀ m ∈ mnames, (["left", "right", "label", "size", "zero_at", "one_at", "depth"].all (fun f => decide (m ≠ Str.ofString f)) = true) := by decide +kernel
section
variable {P : Program} {w : World} {K : PySem.W.Frag} {mg : Str → Option Value} {base : Heap} {S : SE} {n j : Nat}
theorem sc_PairScale_times_at : FnScope ["self", "count"] ["self", "count"] (defScope (inClass (top 25) 8)) := ⟨rfl, rfl, rfl, by decide +kernel, rfl, by decide +kernel, by decide +kernel⟩
theorem st_PairScale_times_at (v0 v1 : V) : L2.start ["self", "count"] [v0, v1] = [some v0, some v1] := rfl
theorem ok_pair_times {f : Addr} {fd : FuncData} (F : Fun K "times_at" "PairScale.times_at" (inClass (top 25) 8) f fd) (PC : PaCls K S) (m_times_at : ∀ k : Pk S, Met P w K mg base CX0 j (S.cls k.1) "times_at" (spTm S k.1 n)) : FnOk P w K mg base CX0 (j + 1) f fd ["self", "count"] (spTm S .pair (n + 1)) := by
  refine F.ok sc_PairScale_times_at (fun vs H Q E h => ?_) (fun cdv A outer s H vs Q E hr h => ?_)
  · obtain ⟨p, d, c, rfl, _⟩ := h
    rfl
  · obtain ⟨p, d, c, rfl, hs, hk, hd, ho, k⟩ := h
    cases d with
    | pair l r =>
      obtain ⟨dx, fs, hp, _, hh, ql, qr, hl, hq, sl, sr⟩ := hs
      obtain ⟨dx2, fs2, hp2, pl, hh2⟩ := sl.hd
      obtain ⟨dx3, fs3, hp3, pr, hh3⟩ := sr.hd
      refine ⟨_, (pss_one (ps_ret (pe_tup (pa_cons (UF.pe_ex fun (k : Pk S) => pe_mt (m_times_at k) hr (Nat.le_refl _) (pe_fld (pv 0) rfl) (pa_cons (pv 1) pa_nil)) (pa_cons (UF.pe_ex fun (k : Pk S) => pe_mt (m_times_at k) hr (Nat.le_refl _) (pe_fld (pv 0) rfl) (pa_cons (pv 1) pa_nil)) pa_nil))))), ?_⟩
      rw [st_PairScale_times_at]
      have w0 := V.Hw.start (H := H)
      have c1 := PC.sc.cl
      have c2 := PC.left
      have c3 := PC.right
      have m1 := nom_mem hh2.nom (show mnames.contains "times_at" = true by decide +kernel)
      have m2 := nom_mem hh3.nom (show mnames.contains "times_at" = true by decide +kernel)
      simp only [SD.depth] at hd
      repeat walk_at "w"
      refine ⟨⟨l.kn, pl⟩, ?_⟩
      repeat walk_at "w"
      refine ⟨ql, l, c, rfl, sl, rfl, by omega, ho.1, fun v H1 s1 hv => ?_⟩
      clear w0
      have w1 := V.Hw.start (H := H1)
      have hp' := s1 _ _ hp
      have hp3' := s1 _ _ hp3
      repeat walk_at "w"
      refine ⟨⟨r.kn, pr⟩, ?_⟩
      repeat walk_at "w"
      refine ⟨qr, r, c, rfl, sr.same s1, rfl, by omega, ho.2.1, fun v2 H2 s2 hv2 => ?_⟩
      clear w1
      have w2 := V.Hw.start (H := H2)
      repeat walk_at "w"
      intro t H3 nt w3
      have e3 := w3.fr
      repeat walk_at "w"
      refine k _ H3 (s1.trans (s2.trans e3)) ?_
      rw [tm_pair]
      exact ⟨t, v, v2, rfl, w3.get .here, (hv.same s2).same e3, hv2.same e3⟩
    | leaf c m => subst hk; exact absurd ho.1 (by decide)
    | tally c => have hk : c = .pair := hk; subst hk; rcases ho with o | o | o <;> cases o
    | turned i => cases hk
theorem sc_PairScale___init__ : FnScope ["self", "left", "right", "size", "zero_at", "one_at", "depth"] ["self", "left", "right"] (defScope (inClass (top 25) 0)) := ⟨rfl, rfl, rfl, by decide +kernel, rfl, by decide +kernel, by decide +kernel⟩
theorem st_PairScale___init__ (v0 v1 v2 : V) : L2.start ["self", "left", "right", "size", "zero_at", "one_at", "depth"] [v0, v1, v2] = [some v0, some v1, some v2, none, none, none, none] := rfl
theorem ok_pair_init {f : Addr} {fd : FuncData} (F : Fun K "__init__" "PairScale.__init__" (inClass (top 25) 0) f fd) (T : TxC K mg) (PC : PaCls K S) (SC : ScCls K S) (cf_Scale___init__ : CFB P w K mg base CX0 1 "Scale" "__init__" (spScaleInit K)) (c_greater : Cal P w K mg base CX0 1 "greater" (spI2 mxI)) : FnOk P w K mg base CX0 2 f fd ["self", "left", "right"] (spPairInit S) := by
  refine F.ok sc_PairScale___init__ (fun vs H Q E h => ?_) (fun cdv A outer s H vs Q E hr h => ?_)
  · obtain ⟨Z, p, dx, ql, qr, l, r, rfl, _⟩ := h
    rfl
  · obtain ⟨Z, p, dx, ql, qr, l, r, rfl, sZ, zp, hsl, hsr, ho, hdl, hdr, hll, hlr, hp, k⟩ := h
    have sZ2 : Same Z (V.cut H [p]) := fun b o e => by
      rw [V.cut_not (by rw [List.mem_singleton]; exact fun r => by subst r; rw [zp] at e; cases e)]; exact sZ _ _ e
    obtain ⟨dx2, fs2, hq0, pl, hh⟩ := hsl.hd
    obtain ⟨dx3, fs3, hq1, pr, hh1⟩ := hsr.hd
    have hq := sZ2 _ _ hq0
    have hq2 := sZ2 _ _ hq1
    have scl := SC.cls _ pl
    have scr := SC.cls _ pr
    refine ⟨_, (pss_cons (ps_set (i := 3) sc_PairScale___init__.nd rfl (Or.inl rfl) pe_non)
      (pss_cons (ps_if (PW.pt (pw_and (pt_cmpR op_notN (pe_fld (pv 1) rfl) pe_non (nomark _)) (pw_and1 (pt_cmpR op_notN (pe_fld (pv 2) rfl) pe_non (nomark _))))) (pss_cons (ps_set (i := 3) sc_PairScale___init__.nd rfl (Or.inl rfl) (pe_op op_mul (pe_fld (pv 1) rfl) (pe_fld (pv 2) rfl)))
      (pss_one (ps_if (pt_cmpR op_gt (pv 3) (pe_gx (by rfl) T.g_MOST_GRADES) (nomark _)) (pss_one ps_never) pss_nil))) pss_nil)
      (pss_cons (ps_fld (pv 0) (pv 1) rfl)
      (pss_cons (ps_fld (pv 0) (pv 2) rfl)
      (pss_cons (ps_set (i := 4) sc_PairScale___init__.nd rfl (Or.inl rfl) (pe_tup (pa_cons (pe_fld (pv 1) rfl) (pa_cons (pe_fld (pv 2) rfl) pa_nil))))
      (pss_cons (ps_set (i := 5) sc_PairScale___init__.nd rfl (Or.inl rfl) (pe_tup (pa_cons (pe_fld (pv 1) rfl) (pa_cons (pe_fld (pv 2) rfl) pa_nil))))
      (pss_cons (ps_set (i := 6) sc_PairScale___init__.nd rfl (Or.inl rfl) (pe_op op_add (pe_c c_greater hr (by decide) (by rfl) (pa_cons (pe_fld (pv 1) rfl) (pa_cons (pe_fld (pv 2) rfl) pa_nil))) pe_int))
      (pss_one (ps_expr (pe_cf cf_Scale___init__ hr (by decide) (by rfl) (pa_cons (pv 0) (pa_cons (pe_joined (PJ.cons pe_str (PJ.cons (pe_fmt (pe_fld (pv 1) rfl)) (PJ.cons pe_str (PJ.cons (pe_fmt (pe_fld (pv 2) rfl)) (PJ.cons pe_str PJ.nil)))))) (pa_cons (pv 3) (pa_cons (pv 4) (pa_cons (pv 5) (pa_cons (pv 6) pa_nil)))))))))))))))), ?_⟩
    rw [st_PairScale___init__]
    have w0 := ((V.Hw.startM (H := H) [p]).addM hp (V.cut_in (by simp)) trivial)
    have c1 := scl.cl
    have c2 := scl.label
    have c3 := scl.size
    have c4 := scl.zero_at
    have c5 := scl.one_at
    have c6 := scl.depth
    have d1 := scr.cl
    have d2 := scr.label
    have d3 := scr.size
    have d4 := scr.zero_at
    have d5 := scr.one_at
    have d6 := scr.depth
    have c7 := PC.sc.cl
    have c8 := PC.left
    have c9 := PC.right
    have h1 := hh.label
    have h2 := hh.size
    obtain ⟨zv, h3, h3'⟩ := hh.zero
    obtain ⟨ov, h4, h4'⟩ := hh.one
    have h5 := hh.depth
    have g1 := hh1.label
    have g2 := hh1.size
    obtain ⟨zv2, g3, g3'⟩ := hh1.zero
    obtain ⟨ov2, g4, g4'⟩ := hh1.one
    have g5 := hh1.depth
    have z1 : ("(pair " : Str).length = 6 := by decide +kernel
    have z0 : (Str.empty : Str).length = 0 := by decide +kernel
    have z2 : (")" : Str).length = 1 := by decide +kernel
    have z3 : (" " : Str).length = 1 := by decide +kernel
    iterate 5 walk_at "w"
    refine join (fun σ' H' => σ' = [some (.ref p), some (.ref ql), some (.ref qr), some (sizeV (SD.pair l r).size), none, none, none] ∧ H' = H) ?_ ?_
    · intro D' hD'
      cases el : l.size with
      | none =>
        rw [el] at h2
        have e : (SD.pair l r).size = none := by simp only [SD.size, el]
        rw [e] at hD'
        repeat walk_at "w"
        exact hD' _ _ ⟨rfl, rfl⟩
      | some a =>
        rw [el] at h2
        cases er : r.size with
        | none =>
          rw [er] at g2
          have e : (SD.pair l r).size = none := by simp only [SD.size, el, er]
          rw [e] at hD'
          repeat walk_at "w"
          exact hD' _ _ ⟨rfl, rfl⟩
        | some b =>
          rw [er] at g2
          have e : (SD.pair l r).size = some (a * b) := by simp only [SD.size, el, er]
          have le := ho.2.2 a b el er
          have lei : ((a : Int) * (b : Int)) ≤ 64 := by rw [← Int.natCast_mul]; omega
          have la := (SD.places_len ho.1 el).2
          have lb := (SD.places_len ho.2.1 er).2
          rw [e] at hD'
          repeat walk_at "w"
          simp only [sizeV]
          repeat walk_at "w"
          exact hD' _ _ ⟨by rw [← Int.natCast_mul]; rfl, rfl⟩
    rintro σ1 H1 ⟨rfl, rfl⟩
    repeat walk_at "w"
    intro H2 w2
    repeat walk_at "w"
    intro H3 w3
    repeat walk_at "w"
    intro t1 H4 n1 w4
    repeat walk_at "w"
    intro t2 H5 n2 w5
    repeat walk_at "w"
    refine ⟨_, _, rfl, ?_⟩
    repeat walk_at "w"
    have dle : mxI (l.depth : Int) (r.depth : Int) ≤ 19 := by unfold mxI; split <;> omega
    refine ⟨p, _, dx, _, _, _, _, _, _, rfl, by omega, PC.sc, w5.get (.there (.there .here)), Nat.le_trans (putF_n (putF_n (Nat.le_refl _))) (by decide), ?_⟩
    have np1 : t1 ≠ p := fun e => by
      have := w3.get (.here : V.At p _ _)
      rw [← e, n1] at this; cases this
    have np2 : t2 ≠ p := fun e => by
      have := w4.get (.there .here : V.At p _ _)
      rw [← e, n2] at this; cases this
    have nt : t2 ≠ t1 := fun e => by
      have := w4.get (.here : V.At t1 _ _)
      rw [← e, n2] at this; cases this
    have f1 : H1 t1 = none := by
      have := w3.fr.free n1
      rwa [V.cut_not (by simpa using np1)] at this
    have f2 : H1 t2 = none := by
      have := w4.fr.free n2
      rwa [V.cut_not (by simpa using np2)] at this
    have y1 : Z t1 = none := sZ.free f1
    have y2 : Z t2 = none := sZ.free f2
    have sW : Same Z (upd (upd Z t1 (.tup [zv, zv2])) t2 (.tup [ov, ov2])) := fun b o e => by rw [upd_ne (ne_of_none e y2), upd_ne (ne_of_none e y1)]; exact e
    have wt1 : upd (upd Z t1 (.tup [zv, zv2])) t2 (.tup [ov, ov2]) t1 = some (.tup [zv, zv2]) := by rw [upd_ne nt.symm, upd_same]
    have e5 : ∀ u, (upd H5 p u) t1 = some (.tup [zv, zv2]) := fun u => by rw [upd_ne np1]; exact w5.get (.there .here)
    have e6 : ∀ u, (upd H5 p u) t2 = some (.tup [ov, ov2]) := fun u => by rw [upd_ne np2]; exact w5.get .here
    refine k _ _ _ sW (fun b o e => ?_) (fun b o e n => ?_) upd_same ⟨?_, ?_, ⟨.ref t1, ?_, t1, zv, zv2, rfl, wt1, h3'.same sW, g3'.same sW⟩, ⟨.ref t2, ?_, t2, ov, ov2, rfl, upd_same, h4'.same sW, g4'.same sW⟩, ?_, fun m hm => pa_none (pa_m m hm)⟩ ?_ ?_
    · by_cases q2 : b = t2
      · subst q2; rw [upd_same] at e; rw [← e]; exact .inr ⟨f2, e6 _⟩
      · rw [upd_ne q2] at e
        by_cases q1 : b = t1
        · subst q1; rw [upd_same] at e; rw [← e]; exact .inr ⟨f1, e5 _⟩
        · rw [upd_ne q1] at e; exact .inl e
    · rw [upd_ne n]; exact w5.fro (by rw [V.cut_not (by simpa using n)]; exact e)
    all_goals repeat (first | rw [fld_put, if_pos rfl] | rw [fld_put, if_neg (by decide +kernel)])
    · rfl
    · show some (V.int (mxI (l.depth : Int) (r.depth : Int) + 1)) = some (V.int ((max l.depth r.depth + 1 : Nat) : Int))
      congr 2
      unfold mxI
      split <;> omega
end
section
variable {S : SE} {Z H : Hp} {so : Option (Addr × Addr)} {L : V.Cells} {Q : VK} {E : XK} {ql qr : Addr} {l r : SD}
theorem w_pair (w : V.Hw Z so H L) (hl : ScAt S Z l ql) (hr : ScAt S Z r qr) (ho : (SD.pair l r).Ok) (dl : l.depth < 20) (dr : r.depth < 20) (ll : l.label.length ≤ 100000) (lr : r.label.length ≤ 100000) (pU : S.pr .pair = true) (k : ∀ p Z' H', V.Hw Z' so H' L → Same Z Z' → ScAt S Z' (.pair l r) p → Q (.ref p) H') : V.gMk (S.cls .pair) (spPairInit S) [] E Q [.ref ql, .ref qr] H := by
  intro x dx nx ndx ne
  have sB : Same H (upd (upd H dx (.own x)) x (.ins (S.cls .pair) dx [])) := fun b o e => by rw [upd_ne (ne_of_none e nx), upd_ne (ne_of_none e ndx)]; exact e
  refine ⟨Z, x, dx, ql, qr, l, r, rfl, fun b o e => sB _ _ (w.fr _ _ e), w.fr.free nx, hl, hr, ho, dl, dr, ll, lr, upd_same, fun W fs H' sW nW bt hp hh f1 f2 => ⟨rfl, ?_⟩⟩
  have sC : Same H H' := fun b o e => bt b o (sB b o e) (ne_of_none e nx)
  obtain ⟨Z', w', e', new'⟩ := w.callNew sC
  have z : ∀ {b : Addr}, (upd (upd H dx (.own x)) x (.ins (S.cls .pair) dx [])) b = none → H b = none := fun h => (upd_none (upd_none h).2).2
  have sZ : Same W Z' := fun b o e => by
    rcases nW b o e with h | ⟨h1, h2⟩
    · exact e' _ _ h
    · exact new' _ _ (z h1) h2
  exact k x Z' H' w' e' ⟨dx, fs, new' _ _ nx hp, pU, hh.same sZ, ql, qr, f1, f2, hl.same e', hr.same e'⟩
end
/-! ### k06: the drawn tables -/
structure RwI {α : Type} (f : α → V) (ok : α → Prop) (k : Nat) (acc : List V) : Prop where
  ex : ∃ t : List α, acc = t.map f ∧ t.length = k ∧ ∀ x ∈ t, ok x
theorem RwI.nil {α : Type} {f : α → V} {ok : α → Prop} : RwI f ok 0 [] := ⟨[], rfl, rfl, by simp⟩
theorem RwI.snoc {α : Type} {f : α → V} {ok : α → Prop} {k : Nat} {acc : List V} {y : V} (h : RwI f ok k acc) (x : α) (e : y = f x) (o : ok x) : RwI f ok (k + 1) (acc ++ [y]) := by
  obtain ⟨t, rfl, l, a⟩ := h.ex
  refine ⟨t ++ [x], by rw [List.map_append, e]; rfl, by rw [List.length_append, l]; rfl, fun z hz => ?_⟩
  rcases List.mem_append.mp hz with q | q
  · exact a z q
  · rw [List.mem_singleton] at q; subst q; exact o
theorem RwI.len {α : Type} {f : α → V} {ok : α → Prop} {k : Nat} {acc : List V} (h : RwI f ok k acc) : acc.length = k := by
  obtain ⟨t, rfl, l, _⟩ := h.ex
  rw [List.length_map, l]
structure GrI {α : Type} (f : α → V) (ok : α → Prop) (n i : Nat) (Z : Hp) (acc : List V) : Prop where
  ex : ∃ (rs : List Addr) (m : List (List α)), acc = rs.map V.ref ∧ rs.length = i ∧ m.length = i ∧ (∀ t ∈ m, t.length = n ∧ ∀ x ∈ t, ok x) ∧ ∀ (j : Nat) (r : Addr) (t : List α), rs[j]? = some r → m[j]? = some t → Z r = some (.lst (t.map f))
theorem GrI.nil {α : Type} {f : α → V} {ok : α → Prop} {n : Nat} {Z : Hp} : GrI f ok n 0 Z [] := ⟨[], [], rfl, rfl, rfl, by simp, fun j r t e => by simp at e⟩
theorem GrI.len {α : Type} {f : α → V} {ok : α → Prop} {n i : Nat} {Z : Hp} {acc : List V} (h : GrI f ok n i Z acc) : acc.length = i := by
  obtain ⟨rs, m, rfl, l, _⟩ := h.ex
  rw [List.length_map, l]
theorem GrI.snoc {α : Type} {f : α → V} {ok : α → Prop} {n i : Nat} {Z Z' : Hp} {acc xs : List V} {r : Addr} (h : GrI f ok n i Z acc) (e : Same Z Z') (hr : Z' r = some (.lst xs)) (q : RwI f ok n xs) : GrI f ok n (i + 1) Z' (acc ++ [.ref r]) := by
  obtain ⟨rs, m, rfl, l1, l2, a, b⟩ := h.ex
  obtain ⟨t, rfl, l3, c⟩ := q.ex
  refine ⟨rs ++ [r], m ++ [t], by rw [List.map_append]; rfl, by rw [List.length_append, l1]; rfl, by rw [List.length_append, l2]; rfl, fun z hz => ?_, fun j r2 t2 h1 h2 => ?_⟩
  · rcases List.mem_append.mp hz with q | q
    · exact a z q
    · rw [List.mem_singleton] at q; subst q; exact ⟨l3, c⟩
  · by_cases lt : j < i
    · rw [List.getElem?_append_left (by omega)] at h1 h2; exact e _ _ (b j r2 t2 h1 h2)
    · rw [List.getElem?_append_right (by omega)] at h1 h2
      have l0 : j - rs.length < 1 := (List.getElem?_eq_some_iff.mp h1).1
      obtain rfl : j = i := by omega
      rw [l1, Nat.sub_self] at h1
      rw [l2, Nat.sub_self] at h2
      cases h1; cases h2
      exact hr
theorem GrI.done {α : Type} {f : α → V} {ok : α → Prop} {n : Nat} {Z Z' : Hp} {acc : List V} {l : Addr} (h : GrI f ok n n Z acc) (e : Same Z Z') (hl : Z' l = some (.lst acc)) : ∃ m : List (List α), Grid Z' l (m.map fun t => t.map f) ∧ Sq n m ∧ ∀ t ∈ m, ∀ x ∈ t, ok x := by
  obtain ⟨rs, m, rfl, l1, l2, a, b⟩ := h.ex
  refine ⟨m, ⟨rs, hl, by rw [List.length_map, l1, l2], fun i r t h1 h2 => ?_⟩, ⟨l2, fun t ht => (a t ht).1⟩, fun t ht => (a t ht).2⟩
  rw [List.getElem?_map] at h2
  obtain ⟨t', h3, rfl⟩ := Option.map_eq_some_iff.mp h2
  exact e _ _ (b i r t' h1 h3)
/-- copies of rows, new since Z0 -/
structure CpI (m : List (List V)) (Z0 : Hp) (i : Nat) (Z : Hp) (acc : List V) : Prop where
  ex : ∃ rs : List Addr, acc = rs.map V.ref ∧ rs.length = i ∧ ∀ (j : Nat) (r : Addr) (t : List V), rs[j]? = some r → m[j]? = some t → V.nw Z0 Z r = some (.lst t)
theorem CpI.nil {m : List (List V)} {Z0 Z : Hp} : CpI m Z0 0 Z [] := ⟨[], rfl, rfl, fun j r t e => by simp at e⟩
theorem CpI.len {m : List (List V)} {Z0 Z : Hp} {i : Nat} {acc : List V} (h : CpI m Z0 i Z acc) : acc.length = i := by
  obtain ⟨rs, rfl, l, _⟩ := h.ex
  rw [List.length_map, l]
theorem CpI.snoc {m : List (List V)} {Z0 Z Z' : Hp} {i : Nat} {acc t : List V} {r : Addr} (h : CpI m Z0 i Z acc) (e : Same Z Z') (ht : m[i]? = some t) (hr : V.nw Z0 Z' r = some (.lst t)) : CpI m Z0 (i + 1) Z' (acc ++ [.ref r]) := by
  obtain ⟨rs, rfl, l1, b⟩ := h.ex
  refine ⟨rs ++ [r], by rw [List.map_append]; rfl, by rw [List.length_append, l1]; rfl, fun j r2 t2 h1 h2 => ?_⟩
  by_cases lt : j < i
  · rw [List.getElem?_append_left (by omega)] at h1; exact V.nw_same e _ _ (b j r2 t2 h1 h2)
  · rw [List.getElem?_append_right (by omega)] at h1
    have l0 : j - rs.length < 1 := (List.getElem?_eq_some_iff.mp h1).1
    obtain rfl : j = i := by omega
    rw [l1, Nat.sub_self] at h1
    cases h1
    rw [ht] at h2; cases h2
    exact hr
theorem CpI.done {m : List (List V)} {Z0 Z Z' : Hp} {acc : List V} {l : Addr} (h : CpI m Z0 m.length Z acc) (e : Same Z Z') (hl : V.nw Z0 Z' l = some (.lst acc)) : Grid (V.nw Z0 Z') l m := by
  obtain ⟨rs, rfl, l1, b⟩ := h.ex
  exact ⟨rs, hl, l1, fun i r t h1 h2 => V.nw_same e _ _ (b i r t h1 h2)⟩
/-! ### k12: sums of ones, as the law finds them -/
def spLOnes : Sp := fun vs H Q _ => ∃ (l : Addr) (zs : List Str) (bm : List (List Bool)) (sm pm : List (List Nat)) (zi oi c : Nat), vs = [.ref l, .int (zi : Int), .int (oi : Int), .int (c : Int)] ∧ OkTab zs bm sm pm zi oi ∧ Grid H l (ixG sm) ∧
  ∀ H', Same H H' → Q (.int (if c = 0 then (zi : Int) else itI (tabPrim zs bm sm pm zi oi) (c - 1))) H'
theorem first_of {f : Nat → Int} {t : Nat} {v : Int} (h : ∃ i < t, f i = v) : ∃ b, b < t ∧ f b = v ∧ ∀ i < b, f i ≠ v := by
  obtain ⟨i, hi, e⟩ := h
  have g : ∀ i, (∃ c ≤ i, f c = v) → ∃ b ≤ i, f b = v ∧ ∀ i < b, f i ≠ v := fun i => by
    induction i with
    | zero => rintro ⟨c, h, e⟩; obtain rfl : c = 0 := by omega
              exact ⟨0, Nat.le_refl _, e, fun i h => by omega⟩
    | succ i ih =>
      rintro ⟨c, h, e⟩
      by_cases q : ∃ c ≤ i, f c = v
      · obtain ⟨b, h1, h2⟩ := ih q
        exact ⟨b, by omega, h2⟩
      · obtain rfl : c = i + 1 := by
          by_cases z : c ≤ i
          · exact absurd ⟨c, z, e⟩ q
          · omega
        exact ⟨i + 1, Nat.le_refl _, e, fun a ha he => q ⟨a, by omega, he⟩⟩
  obtain ⟨b, h1, h2, h3⟩ := g i ⟨i, Nat.le_refl _, e⟩
  exact ⟨b, by omega, h2, h3⟩
section
variable {P : Program} {w : World} {K : PySem.W.Frag} {mg : Str → Option Value} {base : Heap}
theorem sc__law_ones : FnScope ["_law_sums", "_law_least", "_law_unit", "_law_count", "_law_row", "_law_following", "_law_back"] ["_law_sums", "_law_least", "_law_unit", "_law_count"] (defScope (top 34)) := ⟨rfl, rfl, rfl, by decide +kernel, rfl, by decide +kernel, by decide +kernel⟩
theorem st__law_ones (v0 v1 v2 v3 : V) : L2.start ["_law_sums", "_law_least", "_law_unit", "_law_count", "_law_row", "_law_following", "_law_back"] [v0, v1, v2, v3] = [some v0, some v1, some v2, some v3, none, none, none] := rfl
theorem ok_lones {f : Addr} {fd : FuncData} (F : Fun K "_law_ones" "_law_ones" (top 34) f fd) (T : TxL K mg) : FnOk P w K mg base CX0 1 f fd ["_law_sums", "_law_least", "_law_unit", "_law_count"] spLOnes := by
  refine F.ok sc__law_ones (fun vs H Q E h => ?_) (fun cdv A outer s H vs Q E hr h => ?_)
  · obtain ⟨l, zs, bm, sm, pm, zi, oi, c, rfl, _⟩ := h
    rfl
  · obtain ⟨l, zs, bm, sm, pm, zi, oi, c, rfl, O, g, k⟩ := h
    refine ⟨_, (pss_cons (ps_if (pt_cmpR op_eq (pv 3) pe_int (nomark _)) (pss_one (ps_ret (pv 1))) pss_nil)
      (pss_cons (ps_set (i := 4) sc__law_ones.nd rfl (Or.inl rfl) (pe_lst (pa_cons (pv 2) pa_nil)))
      (pss_cons (ps_while PassesOwn.never (pt_cmpR op_lt (pe_callB (V.call_len K rfl) (by rfl) T.len (by decide +kernel) (pa_cons (pv 4) pa_nil)) (pv 3) (nomark _)) (pss_cons (ps_set (i := 5) sc__law_ones.nd rfl (Or.inl rfl) (pe_ix ix_list (pe_ix ix_list (pv 0) (pe_ix ix_list (pv 4) (pe_un un_neg pe_int) (fun _ _ => rfl)) (fun _ _ => rfl)) (pv 2) (fun _ _ => rfl)))
      (pss_cons (ps_if (pt_cmpR op_in_seq (pv 5) (pv 4) (by rfl)) (pss_cons (ps_set (i := 6) sc__law_ones.nd rfl (Or.inl rfl) (pe_bm PySem.F.plainAttrs_list PySem.F.slot_list_index PySem.F.type_list_index mt_index (pv 4) (pa_cons (pv 5) pa_nil)))
      (pss_one (ps_ret (pe_ix ix_list (pv 4) (pe_op op_add (pv 6) (pe_op op_mod (pe_callTy V.call_int1 (by rfl) T.int (by decide +kernel) (pa_cons (pe_op op_sub (pe_op op_sub (pv 3) pe_int) (pv 6)) pa_nil)) (pe_op op_sub (pe_callB (V.call_len K rfl) (by rfl) T.len (by decide +kernel) (pa_cons (pv 4) pa_nil)) (pv 6)))) (fun _ _ => rfl))))) pss_nil)
      (pss_one (ps_expr (pe_bm PySem.F.plainAttrs_list PySem.F.slot_list_append PySem.F.type_list_append mt_append (pv 4) (pa_cons (pv 5) pa_nil)))))))
      (pss_one (ps_ret (pe_ix ix_list (pv 4) (pe_op op_sub (pv 3) pe_int) (fun _ _ => rfl))))))), ?_⟩
    rw [st__law_ones]
    have w0 := V.Hw.start (H := H)
    have po := tabPrim_ok O
    have stp : ∀ i, ∃ (u : List Addr) (r : Addr) (t : List Nat), H l = some (.lst (u.map V.ref)) ∧ atI (u.map V.ref) (itI (tabPrim zs bm sm pm zi oi) i) = some (.ref r) ∧ H r = some (.lst (t.map fun (j : Nat) => V.int (j : Int))) ∧ atI (t.map fun (j : Nat) => V.int (j : Int)) (oi : Int) = some (.int (itI (tabPrim zs bm sm pm zi oi) (i + 1))) := fun i => by
      have ii := itI_ok po i
      obtain ⟨t, x1, e1, e2, _, _, e3⟩ := sq_at2 O.ss 0 ii.1 ii.2 po.one.1 po.one.2
      have p1 : (ixG sm)[(itI (tabPrim zs bm sm pm zi oi) i).toNat]? = some (t.map fun (j : Nat) => V.int (j : Int)) := by unfold ixG; rw [List.getElem?_map, e1]; rfl
      obtain ⟨u, r, u1, u2, u3⟩ := grid_at g p1
      refine ⟨u, r, t, u1, at_of (Int.toNat_of_nonneg ii.1).symm u2, u3, at_of (j := oi) rfl ?_⟩
      rw [List.getElem?_map]
      have : t[oi]? = some x1 := e2
      rw [this]
      have e4 : itI (tabPrim zs bm sm pm zi oi) (i + 1) = (x1 : Int) := by
        show (((sm.getD (itI (tabPrim zs bm sm pm zi oi) i).toNat []).getD (oi : Int).toNat 0 : Nat) : Int) = _
        rw [show (sm.getD (itI (tabPrim zs bm sm pm zi oi) i).toNat []).getD (oi : Int).toNat 0 = x1 from e3]
      rw [e4]; rfl
    have m1 : (tabPrim zs bm sm pm zi oi).one = (oi : Int) := rfl
    generalize tabPrim zs bm sm pm zi oi = m at po stp k m1
    have t1 : (trailI m 1).map V.int = [.int (oi : Int)] := by simp [trailI, itI, m1]
    repeat walk_at "w"
    refine ifD (fun q => ?_) (fun q => ?_)
    · repeat walk_at "w"
      have z := k H w0.fr
      rw [if_pos (by omega)] at z
      exact z
    · repeat walk_at "w"
      intro T H1 nT w1
      repeat walk_at "w"
      rw [← t1] at w1
      refine whileX (fun M σ H' => ∃ t : Nat, M = 70 - t ∧ 1 ≤ t ∧ t ≤ c ∧ (trailI m t).Nodup ∧ ∃ x y, σ = [some (.ref l), some (.int (zi : Int)), some (.int (oi : Int)), some (.int (c : Int)), some (.ref T), x, y] ∧ V.Hw H none H' [(true, T, .lst ((trailI m t).map V.int))])
        (fun σ H' => ∃ x y, σ = [some (.ref l), some (.int (zi : Int)), some (.int (oi : Int)), some (.int (c : Int)), some (.ref T), x, y] ∧ V.Hw H none H' [(true, T, .lst ((trailI m c).map V.int))]) _ ⟨1, rfl, Nat.le_refl _, by omega, by simp [trailI], _, _, rfl, w1⟩ ?_ ?_
      · rintro σ H3 ⟨x, y, rfl, w3⟩
        have a1 : atI ((trailI m c).map V.int) ((c : Int) - 1) = some (.int (itI m (c - 1))) := at_of (j := c - 1) (by omega) (by rw [List.getElem?_map, trail_at (by omega)]; rfl)
        repeat walk_at "w"
        have z := k H3 w3.fr
        rw [if_neg (by omega)] at z
        exact z
      · rintro nx hnx M σ H3 ⟨t, rfl, t1', tc, nd, x, y, rfl, w3⟩
        have tl := trail_le po nd
        have t64 := po.most
        have tn : ((trailI m t).map V.int).length = t := by rw [List.length_map, trail_len]
        obtain ⟨u, r, ts, u1, u2, u3, u4⟩ := stp (t - 1)
        rw [show t - 1 + 1 = t by omega] at u4
        have a0 : atI ((trailI m t).map V.int) (-1) = some (.int (itI m (t - 1))) := by
          obtain ⟨t', rfl⟩ : ∃ t', t = t' + 1 := ⟨t - 1, by omega⟩
          rw [trail_succ, List.map_append]
          exact atI_last _ _
        repeat walk_at "w"
        refine ifD (fun e => ?_) (fun e => ?_)
        · refine ⟨_, fun _ _ h => h, ?_⟩
          repeat walk_at "w"
          refine V.w_inL (SqL.of (w3.get .here)) rfl (flat_ints _) ?_
          rw [inV_int]
          repeat walk_at "w"
          refine U.ifB (fun cc => ?_) (fun cc => ?_)
          · have cc : itI m t ∈ trailI m t := by simpa using cc
            obtain ⟨i, hi, e0⟩ := List.mem_map.mp cc
            have hi := List.mem_range.mp hi
            obtain ⟨b, b1, b2, b3⟩ := first_of ⟨i, hi, e0⟩
            have lf := trail_at (m := m) b1
            have ix : atI ((trailI m t).map V.int) ((b : Int) + ((c : Int) - 1 - (b : Int)) % ((((trailI m t).map V.int).length : Int) - (b : Int))) = some (.int (itI m (c - 1))) := by
              rw [tn]
              obtain ⟨a, ha⟩ : ∃ a : Nat, c - 1 = b + a := ⟨c - 1 - b, by omega⟩
              have e1 : (c : Int) - 1 - (b : Int) = (a : Int) := by omega
              have e2 : (t : Int) - (b : Int) = ((t - b : Nat) : Int) := by omega
              have lm : a % (t - b) < t - b := Nat.mod_lt _ (by omega)
              rw [e1, e2, ← Int.natCast_emod]
              refine at_of (j := b + a % (t - b)) (by omega) ?_
              rw [List.getElem?_map, trail_at (by omega)]
              have e4 := itI_mod b2.symm b1 (a / (t - b)) (a % (t - b))
              rw [Nat.mul_comm, Nat.mod_add_div] at e4
              rw [ha, e4]; rfl
            repeat walk_at "w"
            refine ⟨T, (trailI m t).map V.int, .int (itI m t), b, .int (itI m b), rfl, rfl, SqL.of (w3.get .here), rfl, flat_ints _, by rw [List.getElem?_map, lf]; rfl, by rw [b2]; show (itI m t == itI m t) = true; simp, fun i z hi hz => ?_, ?_⟩
            · rw [List.getElem?_map, trail_at (by omega)] at hz
              cases hz
              show (itI m i == itI m t) = false
              rw [Bool.eq_false_iff]
              intro e
              exact b3 i hi (by simpa using e)
            repeat walk_at "w"
            have z := k H3 w3.fr
            rw [if_neg (by omega)] at z
            exact z
          · have cc : itI m t ∉ trailI m t := by simpa using cc
            have nd2 : (trailI m (t + 1)).Nodup := by
              rw [trail_succ, List.nodup_append]
              exact ⟨nd, by simp, fun a ha b hb => by rw [List.mem_singleton] at hb; subst hb; intro e; subst e; exact cc ha⟩
            have lt2 : (trailI m t).length ≤ 64 := by rw [trail_len]; omega
            repeat walk_at "w"
            intro H4 w4
            repeat walk_at "w"
            refine ⟨70 - (t + 1), by omega, t + 1, rfl, by omega, by omega, nd2, _, _, rfl, ?_⟩
            rw [trail_succ, List.map_append]; exact w4
        · have e2 : t = c := by omega
          subst e2
          exact hnx _ _ ⟨_, _, rfl, w3⟩
end
/-! ### draws, in the walk -/
section
variable {Z H : Hp} {S T : Addr} {L : V.Cells} {Q : VK} {E : XK} {m : Int}
theorem w_draw (w : V.Hw Z (some (S, T)) H L) (p : 0 < m) (b : m < 1606938044258990275541962092341162602522202993782792835301376) (k : ∀ i H', 0 ≤ i → i < m → V.Hw Z (some (S, T)) H' L → Q (.int i) H') : spDraw [.ref S, .int m] H Q E :=
  ⟨S, T, m, rfl, w.std, by omega, fun r H' h0 h1 st kp => k r H' h0 (h1 p) (w.callD st kp)⟩
theorem w_draw0 (w : V.Hw Z (some (S, T)) H L) (p : 0 ≤ m) (b : m < 1606938044258990275541962092341162602522202993782792835301376) (k : ∀ i H', 0 ≤ i → (0 < m → i < m) → V.Hw Z (some (S, T)) H' L → Q (.int i) H') : spDraw [.ref S, .int m] H Q E :=
  ⟨S, T, m, rfl, w.std, by omega, fun r H' h0 h1 st kp => k r H' h0 h1 (w.callD st kp)⟩
end
local macro_rules | `(tactic| walk_at "w") => `(tactic| ((with_reducible refine' w_draw ?w ?p ?b ?_); (case w => assumption); (case p => first | omega | decide); (case b => first | omega | decide)))
def spLaw (K : PySem.W.Frag) : Sp := fun vs H Q _ => ∃ (a : Addr) (ns : List Int), vs = [.ref a] ∧ SqL K H a (ns.map V.int) ∧ ns.length ≤ 63 ∧ ∀ H', Q (.bl true) H'
/-! ### a table scale is made -/
section
variable {S : SE} {Z H : Hp} {so : Option (Addr × Addr)} {L : V.Cells} {Q : VK} {E : XK}
theorem w_tab {an aw as ap : Addr} {zs : List Str} {bm : List (List Bool)} {sm pm : List (List Nat)} {zi oi : Nat} (w : V.Hw Z so H L) (O : OkTab zs bm sm pm zi oi) (hz : Z an = some (.lst (zs.map V.str))) (hb : Grid Z aw (blG bm)) (hs : Grid Z as (nmG zs sm)) (hp : Grid Z ap (nmG zs pm)) (pT : S.pr .tab = true) (hL : S.Lf .tab = LfTab)
    (k : ∀ p Z' H', V.Hw Z' so H' L → Same Z Z' → ScAt S Z' (.leaf .tab (tabPrim zs bm sm pm zi oi)) p → (SD.leaf .tab (tabPrim zs bm sm pm zi oi)).Ok → Q (.ref p) H') : V.gMkK (S.cls .tab) 4 2 (spTabInit (S.cls .tab)) (fun vs zs => vs ++ zs) E Q [.ref an, .ref aw, .ref as, .ref ap] [.str (zs.getD zi Str.empty), .str (zs.getD oi Str.empty)] H := by
  refine ⟨rfl, rfl, fun x dx nx ndx nedx => ?_⟩
  have sB : Same H (upd (upd H dx (.own x)) x (.ins (S.cls .tab) dx [])) := fun b o e => by rw [upd_ne (ne_of_none e nx), upd_ne (ne_of_none e ndx)]; exact e
  have sZ : Same Z (upd (upd H dx (.own x)) x (.ins (S.cls .tab) dx [])) := fun b o e => sB _ _ (w.fr _ _ e)
  refine ⟨x, dx, an, aw, as, ap, zs, bm, sm, pm, zi, oi, rfl, O, sZ _ _ hz, hb.same sZ, hs.same sZ, hp.same sZ, upd_same, fun l d lw ls lp Hc bt ti => ⟨rfl, ?_⟩⟩
  have sC : Same H Hc := fun b o e => bt b o (sB b o e) (ne_of_none e nx)
  obtain ⟨Z9, w9, e9, new9⟩ := w.callNew sC
  have ti2 := ti.same (H' := Z9) fun b o q => by
    obtain ⟨q1, q2⟩ := V.nw_some q
    refine new9 b o ?_ q2
    cases n : H b with
    | none => rfl
    | some u =>
      rw [V.cut_not (by rw [List.mem_singleton]; exact ne_of_none n nx), sB _ _ n] at q1
      cases q1
  exact k x Z9 Hc w9 e9 (ti2.sc O pT hL) ⟨rfl, tabPrim_ok O⟩
end
/-! ### k12: the law -/
def nmK (n : Nat) (j : Nat) : Str := "n" ++ num ((n : Int) - (j : Int))
def nmsK (n : Nat) : List Str := (List.range n).map (nmK n)
def nmsK_b (n : Nat) : Bool := decide (US.kinds (nmsK n) = (nmsK n).length) && (nmsK n).all (fun x => decide (1 ≤ x.length) && decide (x.length ≤ 12) && x.cps.toList.all fun c => decide (c ∈ ("abcdefghijklmnopqrstuvwxyz0123456789" : Str).cps.toList)) && (List.range n).all fun i => (List.range n).all fun j => !decide ((nmsK n).getD i Str.empty = (nmsK n).getD j Str.empty) || decide (i = j)
theorem nmsK_dec : ∀ n : Nat, n < 10 → 1 ≤ n → nmsK_b n = true := by decide +kernel
theorem nmsK_len (n : Nat) : (nmsK n).length = n := by unfold nmsK; rw [List.length_map, List.length_range]
theorem nmsK_ok {n : Nat} (h1 : 1 ≤ n) (h9 : n ≤ 9) : OkNames (nmsK n) := by
  have h := nmsK_dec n (by omega) h1
  unfold nmsK_b at h
  simp only [Bool.and_eq_true, decide_eq_true_eq, List.all_eq_true] at h
  exact ⟨by rw [nmsK_len]; exact h1, by rw [nmsK_len]; omega, h.1.1, fun x hx => ⟨(h.1.2 x hx).1.1, (h.1.2 x hx).1.2, (h.1.2 x hx).2⟩⟩
theorem nmsK_inj {n : Nat} (h1 : 1 ≤ n) (h9 : n ≤ 9) : ∀ i < (nmsK n).length, ∀ j < (nmsK n).length, (nmsK n).getD i Str.empty = (nmsK n).getD j Str.empty → i = j := by
  have h := nmsK_dec n (by omega) h1
  unfold nmsK_b at h
  rw [Bool.and_eq_true] at h
  have h2 := h.2
  rw [nmsK_len]
  intro i hi j hj e
  have h3 := List.all_eq_true.mp (List.all_eq_true.mp h2 i (List.mem_range.mpr hi)) j (List.mem_range.mpr hj)
  rw [decide_eq_true e] at h3
  simpa using h3
theorem tm_leaf (k : Kn) (m : Prim) (c : Nat) : (SD.leaf k m).tm c = .n (if c = 0 then m.zero else itI m (c - 1)) := by
  unfold SD.tm
  by_cases h : c = 0
  · rw [if_pos h, if_pos h]; rfl
  · rw [if_neg h, if_neg h]
    have e5 : ∀ i : Nat, Nat.repeat (fun x => (SD.leaf k m).sum x (SD.leaf k m).one) i (.n m.one) = .n (itI m i) := fun i => by
      induction i with
      | zero => rfl
      | succ i ih => rw [Nat.repeat, ih]; rfl
    exact e5 (c - 1)
theorem hwTup {Z H : Hp} {S T a : Addr} {xs : List V} (w : V.Hw Z (some (S, T)) H []) (h : H a = some (.tup xs)) : ∃ Z', V.Hw Z' (some (S, T)) H [] ∧ Same Z Z' ∧ Z' a = some (.tup xs) := by
  cases e : Z a with
  | some o =>
    have := w.fr _ _ e
    rw [h] at this; cases this
    exact ⟨Z, w, fun _ _ e => e, e⟩
  | none =>
    obtain ⟨fr, ok, ⟨sd, z1, z2⟩, n1, n2⟩ := w
    obtain ⟨ne, ns, x, y, z, l, h1, h2⟩ := id sd
    have a1 : S ≠ a := fun q => by subst q; rw [h] at h1; cases h1
    have a2 : T ≠ a := fun q => by subst q; rw [h] at h2; cases h2
    refine ⟨upd Z a (.tup xs), ⟨fun b o q => ?_, trivial, ⟨sd, by rw [upd_ne a1]; exact z1, by rw [upd_ne a2]; exact z2⟩, trivial, trivial⟩, fun b o q => ?_, upd_same⟩
    · by_cases r : b = a
      · subst r; rw [upd_same] at q; rw [← q]; exact h
      · rw [upd_ne r] at q; exact fr _ _ q
    · rw [upd_ne (ne_of_none q e)]; exact q
theorem w_drawL {Z H : Hp} {S T : Addr} {L : V.Cells} {Q : VK} {E : XK} {m : Int} (w : V.Hw Z (some (S, T)) H L) (p : 0 < m) (b : m.natAbs < 1606938044258990275541962092341162602522202993782792835301376) (k : ∀ i H', 0 ≤ i → i < m → V.Hw Z (some (S, T)) H' L → Q (.int i) H') : spDraw [.ref S, .int m] H Q E :=
  ⟨S, T, m, rfl, w.std, b, fun r H' h0 h1 st kp => k r H' h0 (h1 p) (w.callD st kp)⟩
theorem many_at {i : Int} (h0 : 0 ≤ i) (h1 : i < 4) : ∃ mm : Int, atI [V.int 1, V.int 12, V.int 90, V.int (10 ^ (60 : Int).toNat)] i = some (.int mm) ∧ 0 < mm ∧ mm.natAbs < 1606938044258990275541962092341162602522202993782792835301376 := by
  have : i = 0 ∨ i = 1 ∨ i = 2 ∨ i = 3 := by omega
  rcases this with rfl | rfl | rfl | rfl
  · exact ⟨1, rfl, by decide, by decide⟩
  · exact ⟨12, rfl, by decide, by decide⟩
  · exact ⟨90, rfl, by decide, by decide⟩
  · exact ⟨10 ^ (60 : Int).toNat, rfl, by decide +kernel, by decide +kernel⟩
section
variable {P : Program} {w : World} {K : PySem.W.Frag} {mg : Str → Option Value} {base : Heap} {S : SE}
theorem sc_law : FnScope ["_law_script", "_law_state", "_law_many", "_law_start", "_law_length", "_law_least", "_law_unit", "_law_names", "_law_sums", "_law_rows", "_law_words", "_law_products", "_law_table", "_law_turned", "_law_cut", "_law_pair", "_law_k", "_law_count", "_law_due", "_law_number", "_law_found", "_law_a", "_law_b", "_law_row"] ["_law_script"] (defScope (top 35)) := ⟨rfl, rfl, rfl, by decide +kernel, rfl, by decide +kernel, by decide +kernel⟩
theorem st_law (v0 : V) : L2.start ["_law_script", "_law_state", "_law_many", "_law_start", "_law_length", "_law_least", "_law_unit", "_law_names", "_law_sums", "_law_rows", "_law_words", "_law_products", "_law_table", "_law_turned", "_law_cut", "_law_pair", "_law_k", "_law_count", "_law_due", "_law_number", "_law_found", "_law_a", "_law_b", "_law_row"] [v0] = [some v0, none, none, none, none, none, none, none, none, none, none, none, none, none, none, none, none, none, none, none, none, none, none, none] := rfl
theorem ok_law {f : Addr} {fd : FuncData} (F : Fun K "law" "law" (top 35) f fd) (T : TxL K mg) (SC : ScCls K S) (hL : S.Lf .tab = LfTab) (hL0 : S.Lf .cut = LfCut) (pT : S.pr .tab = true) (pU : S.pr .turn = true) (pC : S.pr .cut = true) (pP : S.pr .pair = true) (pX : S.pr .ex = true)
    (c__law_draws : Cal P w K mg base CX0 1 "_law_draws" (spDraws K)) (c__law_draw : Cal P w K mg base CX0 1 "_law_draw" spDraw) (c__law_ones : Cal P w K mg base CX0 1 "_law_ones" spLOnes)
    (mkK_TableScale : MakK P w K mg base CX0 3 "TableScale" (S.cls .tab) (spTabInit (S.cls .tab)) 4 ["zero", "one"] (fun vs zs => vs ++ zs)) (mk_TurnedScale : Mak P w K mg base CX0 2 "TurnedScale" (S.cls .turn) (spTurnInit S))
    (mkK_CutScale : MakK P w K mg base CX0 3 "CutScale" (S.cls .cut) (spCutInit (S.cls .cut)) 1 ["period"] (fun vs zs => vs ++ zs ++ [.str "same"])) (mk_PairScale : Mak P w K mg base CX0 2 "PairScale" (S.cls .pair) (spPairInit S)) (mk_ExactTally : Mak P w K mg base CX0 3 "ExactTally" (S.cls .ex) (spExInit K (S.cls .ex) "same"))
    (c__law_same : ∀ n, Cal P w K mg base CX0 (n + 1) "_law_same" (spSame n)) (m_times_at : ∀ k : Pk S, Met P w K mg base CX0 18 (S.cls k.1) "times_at" (spTm S k.1 4)) :
    FnOk P w K mg base CX0 24 f fd ["_law_script"] (spLaw K) := by
  refine F.ok sc_law (fun vs H Q E h => ?_) (fun cdv A outer s H vs Q E hr h => ?_)
  · obtain ⟨a, ns, rfl, _⟩ := h
    rfl
  · obtain ⟨a, ns, rfl, hS, hlen, k⟩ := h
    have mt_tab := m_times_at ⟨.tab, pT⟩
    have mt_turn := m_times_at ⟨.turn, pU⟩
    have mt_cut := m_times_at ⟨.cut, pC⟩
    have mt_pair := m_times_at ⟨.pair, pP⟩
    refine ⟨_, (pss_cons (ps_set (i := 1) sc_law.nd rfl (Or.inr rfl) (pe_c c__law_draws hr (by decide) (by rfl) (pa_cons (pv 0) pa_nil)))
      (pss_cons (ps_set (i := 2) sc_law.nd rfl (Or.inr rfl) (pe_op op_add pe_int (pe_c c__law_draw hr (by decide) (by rfl) (pa_cons (pv 1) (pa_cons pe_int pa_nil)))))
      (pss_cons (ps_set (i := 3) sc_law.nd rfl (Or.inl rfl) (pe_c c__law_draw hr (by decide) (by rfl) (pa_cons (pv 1) (pa_cons pe_int pa_nil))))
      (pss_cons (ps_set (i := 4) sc_law.nd rfl (Or.inl rfl) (pe_op op_add pe_int (pe_c c__law_draw hr (by decide) (by rfl) (pa_cons (pv 1) (pa_cons pe_int pa_nil)))))
      (pss_cons (ps_set (i := 5) sc_law.nd rfl (Or.inl rfl) (pe_c c__law_draw hr (by decide) (by rfl) (pa_cons (pv 1) (pa_cons (pv 2) pa_nil))))
      (pss_cons (ps_set (i := 6) sc_law.nd rfl (Or.inl rfl) (pe_c c__law_draw hr (by decide) (by rfl) (pa_cons (pv 1) (pa_cons (pv 2) pa_nil))))
      (pss_cons (ps_set (i := 7) sc_law.nd rfl (Or.inr rfl) (pe_lc (own := [("_law_k", 16)]) (g := (gName 16)) (by rfl) sc_law.nd (pi_range1 (by rfl) T.range (pa_cons (pv 2) pa_nil)) (blkOk_by (own := [("_law_k", 16)]) (N := ["_law_script", "_law_state", "_law_many", "_law_start", "_law_length", "_law_least", "_law_unit", "_law_names", "_law_sums", "_law_rows", "_law_words", "_law_products", "_law_table", "_law_turned", "_law_cut", "_law_pair", "_law_k", "_law_count", "_law_due", "_law_number", "_law_found", "_law_a", "_law_b", "_law_row"]) (sc := defScope (top 35)) (by decide +kernel)) (fun _ _ _ _ _ => (pg_name (i := 16) sc_law.nd rfl (Or.inl rfl))) (fun _ _ _ _ _ => pts_nil) (fun _ _ _ _ _ => (pe_op V.op_addS pe_str (pe_callTy V.call_str (by rfl) T.str (by decide +kernel) (pa_cons (pe_op op_sub (pv 2) (pv 16)) pa_nil))))) (V.sw_cell rfl rfl))
      (pss_cons (ps_setLc (i := 8) (own := [("_law_a", 21)]) (g := (gName 21)) (by rfl) sc_law.nd rfl rfl (sw_true rfl rfl rfl (by decide +kernel)) (pi_list (pv 7)) (blkOk_by (own := [("_law_a", 21)]) (N := ["_law_script", "_law_state", "_law_many", "_law_start", "_law_length", "_law_least", "_law_unit", "_law_names", "_law_sums", "_law_rows", "_law_words", "_law_products", "_law_table", "_law_turned", "_law_cut", "_law_pair", "_law_k", "_law_count", "_law_due", "_law_number", "_law_found", "_law_a", "_law_b", "_law_row"]) (sc := defScope (top 35)) (by decide +kernel)) (fun _ _ _ _ _ => (pg_name (i := 21) sc_law.nd rfl (Or.inl rfl))) (fun _ _ _ _ _ => pts_nil) (fun _ _ _ _ _ => (pe_lc (own := [("_law_b", 22)]) (g := (gName 22)) (by rfl) sc_law.nd (UF.pi_listK K rfl (pv 7)) (blkOk_by (own := [("_law_b", 22)]) (by exact rfl)) (fun _ _ _ _ _ => (pg_name (i := 22) sc_law.nd rfl (Or.inl rfl))) (fun _ _ _ _ _ => pts_nil) (fun _ _ _ _ _ => (pe_c c__law_draw hr (by decide) (by rfl) (pa_cons (pv 1) (pa_cons (pv 2) pa_nil)))))))
      (pss_cons (ps_setLc (i := 9) (own := [("_law_a", 21)]) (g := (gName 21)) (by rfl) sc_law.nd rfl rfl (sw_true rfl rfl rfl (by decide +kernel)) (pi_list (pv 7)) (blkOk_by (own := [("_law_a", 21)]) (N := ["_law_script", "_law_state", "_law_many", "_law_start", "_law_length", "_law_least", "_law_unit", "_law_names", "_law_sums", "_law_rows", "_law_words", "_law_products", "_law_table", "_law_turned", "_law_cut", "_law_pair", "_law_k", "_law_count", "_law_due", "_law_number", "_law_found", "_law_a", "_law_b", "_law_row"]) (sc := defScope (top 35)) (by decide +kernel)) (fun _ _ _ _ _ => (pg_name (i := 21) sc_law.nd rfl (Or.inl rfl))) (fun _ _ _ _ _ => pts_nil) (fun _ _ _ _ _ => (pe_lc (own := [("_law_b", 22)]) (g := (gName 22)) (by rfl) sc_law.nd (UF.pi_listK K rfl (pv 7)) (blkOk_by (own := [("_law_b", 22)]) (by exact rfl)) (fun _ _ _ _ _ => (pg_name (i := 22) sc_law.nd rfl (Or.inl rfl))) (fun _ _ _ _ _ => pts_nil) (fun _ _ _ _ _ => (pe_cmpR op_eq (pe_c c__law_draw hr (by decide) (by rfl) (pa_cons (pv 1) (pa_cons pe_int pa_nil))) pe_int (nomark _))))))
      (pss_cons (ps_setLc (i := 10) (own := [("_law_row", 23)]) (g := (gName 23)) (by rfl) sc_law.nd rfl rfl (sw_true rfl rfl rfl (by decide +kernel)) (pi_list (pv 8)) (blkOk_by (own := [("_law_row", 23)]) (N := ["_law_script", "_law_state", "_law_many", "_law_start", "_law_length", "_law_least", "_law_unit", "_law_names", "_law_sums", "_law_rows", "_law_words", "_law_products", "_law_table", "_law_turned", "_law_cut", "_law_pair", "_law_k", "_law_count", "_law_due", "_law_number", "_law_found", "_law_a", "_law_b", "_law_row"]) (sc := defScope (top 35)) (by decide +kernel)) (fun _ _ _ _ _ => (pg_name (i := 23) sc_law.nd rfl (Or.inl rfl))) (fun _ _ _ _ _ => pts_nil) (fun _ _ _ _ _ => (pe_lc (own := [("_law_k", 16)]) (g := (gName 16)) (by rfl) sc_law.nd (UF.pi_listK K rfl (pv 23)) (blkOk_by (own := [("_law_k", 16)]) (by exact rfl)) (fun _ _ _ _ _ => (pg_name (i := 16) sc_law.nd rfl (Or.inl rfl))) (fun _ _ _ _ _ => pts_nil) (fun _ _ _ _ _ => (pe_ix (ix_listK K rfl) (pv 7) (pv 16) (fun _ _ => rfl))))))
      (pss_cons (ps_setLc (i := 11) (own := [("_law_a", 21)]) (g := (gName 21)) (by rfl) sc_law.nd rfl rfl (sw_true rfl rfl rfl (by decide +kernel)) (pi_list (pv 7)) (blkOk_by (own := [("_law_a", 21)]) (N := ["_law_script", "_law_state", "_law_many", "_law_start", "_law_length", "_law_least", "_law_unit", "_law_names", "_law_sums", "_law_rows", "_law_words", "_law_products", "_law_table", "_law_turned", "_law_cut", "_law_pair", "_law_k", "_law_count", "_law_due", "_law_number", "_law_found", "_law_a", "_law_b", "_law_row"]) (sc := defScope (top 35)) (by decide +kernel)) (fun _ _ _ _ _ => (pg_name (i := 21) sc_law.nd rfl (Or.inl rfl))) (fun _ _ _ _ _ => pts_nil) (fun _ _ _ _ _ => (pe_lc (own := [("_law_b", 22)]) (g := (gName 22)) (by rfl) sc_law.nd (UF.pi_listK K rfl (pv 7)) (blkOk_by (own := [("_law_b", 22)]) (by exact rfl)) (fun _ _ _ _ _ => (pg_name (i := 22) sc_law.nd rfl (Or.inl rfl))) (fun _ _ _ _ _ => pts_nil) (fun _ _ _ _ _ => (pe_ix (ix_listK K rfl) (pv 7) (pe_c c__law_draw hr (by decide) (by rfl) (pa_cons (pv 1) (pa_cons (pv 2) pa_nil))) (fun _ _ => rfl))))))
      (pss_cons (ps_set (i := 12) sc_law.nd rfl (Or.inl rfl) (pe_mkK mkK_TableScale hr (by decide) (by rfl) (pa_cons (pv 7) (pa_cons (pv 9) (pa_cons (pv 10) (pa_cons (pv 11) pa_nil)))) (pk_cons (pe_ix ix_list (pv 7) (pv 5) (fun _ _ => rfl)) (pk_cons (pe_ix ix_list (pv 7) (pv 6) (fun _ _ => rfl)) pk_nil))))
      (pss_cons (ps_set (i := 13) sc_law.nd rfl (Or.inl rfl) (pe_mk mk_TurnedScale hr (by decide) (by rfl) (pa_cons (pv 12) pa_nil)))
      (pss_cons (ps_set (i := 14) sc_law.nd rfl (Or.inl rfl) (pe_mkK mkK_CutScale hr (by decide) (by rfl) (pa_cons (pv 3) pa_nil) (pk_cons (pv 4) pk_nil)))
      (pss_cons (ps_set (i := 15) sc_law.nd rfl (Or.inl rfl) (pe_mk mk_PairScale hr (by decide) (by rfl) (pa_cons (pv 12) (pa_cons (pe_mk0 mk_ExactTally hr (by decide) (by rfl)) pa_nil))))
      (pss_cons (ps_for PassesOwn.never rfl (pi_range1 (by rfl) T.range (pa_cons (pe_op op_add pe_int (pe_c c__law_draw hr (by decide) (by rfl) (pa_cons (pv 1) (pa_cons pe_int pa_nil)))) pa_nil)) (pg_name (i := 16) sc_law.nd rfl (Or.inl rfl)) (pss_cons (ps_set (i := 17) sc_law.nd rfl (Or.inl rfl) (pe_c c__law_draw hr (by decide) (by rfl) (pa_cons (pv 1) (pa_cons (pe_ix ix_list (pe_lst (pa_cons pe_int (pa_cons pe_int (pa_cons pe_int (pa_cons (pe_op op_pow pe_int pe_int) pa_nil))))) (pe_c c__law_draw hr (by decide) (by rfl) (pa_cons (pv 1) (pa_cons pe_int pa_nil))) (fun _ _ => rfl)) pa_nil))))
      (pss_cons (ps_set (i := 18) sc_law.nd rfl (Or.inl rfl) (pe_c c__law_ones hr (by decide) (by rfl) (pa_cons (pv 8) (pa_cons (pv 5) (pa_cons (pv 6) (pa_cons (pv 17) pa_nil))))))
      (pss_cons (ps_set (i := 19) sc_law.nd rfl (Or.inl rfl) (pv 17))
      (pss_cons (ps_if (pt_cmpR op_ge (pv 19) (pe_op op_add (pv 3) (pv 4)) (nomark _)) (pss_one (ps_set (i := 19) sc_law.nd rfl (Or.inl rfl) (pe_op op_add (pv 3) (pe_op op_mod (pe_callTy V.call_int1 (by rfl) T.int (by decide +kernel) (pa_cons (pe_op op_sub (pv 17) (pv 3)) pa_nil)) (pv 4))))) pss_nil)
      (pss_cons (ps_set (i := 20) sc_law.nd rfl (Or.inl rfl) (pe_lst (pa_cons (pe_mt mt_tab hr (by decide) (pv 12) (pa_cons (pv 17) pa_nil)) (pa_cons (pe_mt mt_turn hr (by decide) (pv 13) (pa_cons (pv 17) pa_nil)) (pa_cons (pe_mt mt_cut hr (by decide) (pv 14) (pa_cons (pv 17) pa_nil)) (pa_cons (pe_mt mt_pair hr (by decide) (pv 15) (pa_cons (pv 17) pa_nil)) pa_nil))))))
      (pss_one (ps_if (pt_not (pt_val (pe_c (c__law_same 2) hr (by decide) (by rfl) (pa_cons (pv 20) (pa_cons (pe_lst (pa_cons (pv 18) (pa_cons (pv 18) (pa_cons (pv 19) (pa_cons (pe_tup (pa_cons (pv 18) (pa_cons (pv 17) pa_nil))) pa_nil))))) pa_nil))))) (pss_one (ps_ret pe_bl)) pss_nil))))))))
      (pss_one (ps_ret pe_bl)))))))))))))))))), ?_⟩
    rw [st_law]
    have w00 := V.Hw.start (H := H)
    repeat walk_at "w"
    refine ⟨a, ns, rfl, hS, hlen, fun S0 T2 H0 _ _ st0 _ => ?_⟩
    have w0 := V.Hw.startD st0
    repeat walk_at "w"
    intro many0 H1 m0 m1 w1
    repeat walk_at "w"
    intro start H2 s0 s1 w2
    repeat walk_at "w"
    intro len0 H3 l0 l1 w3
    repeat walk_at "w"
    obtain ⟨n, hn⟩ := Int.eq_ofNat_of_zero_le (show 0 ≤ 1 + many0 by omega)
    rw [hn]
    have n1 : 1 ≤ n := by omega
    have n9 : n ≤ 9 := by omega
    repeat walk_at "w"
    intro zi0 H4 z0 z1 w4
    obtain ⟨zi, rfl⟩ := Int.eq_ofNat_of_zero_le z0
    repeat walk_at "w"
    intro oi0 H5 o0 o1 w5
    obtain ⟨oi, rfl⟩ := Int.eq_ofNat_of_zero_le o0
    clear w00 w0 w1 w2 w3 w4
    repeat walk_at "w"
    refine V.lcRW (n := n) (fun i => ((List.range i).map (nmK n)).map V.str) w5 (by walk_at "wi") rfl ?_ ?_
    · intro i D H6 hi w6
      have el : (n : Int) - (0 + (i : Int)) = (n : Int) - (i : Int) := by omega
      repeat walk_at "w"
      refine ⟨rfl, ?_⟩
      repeat walk_at "w"
      rw [el]
      refine V.w_str (num_log _ (by omega) (by omega)) ?_
      have ln := num_short ((n : Int) - (i : Int)) (by omega) (by omega)
      have l1 : ("n" : Str).length = 1 := by decide +kernel
      repeat walk_at "w"
      exact V.w_acc w6 (by walk_at "sub") (by walk_at "szl") (by rw [List.range_succ, List.map_append, List.map_append]; rfl)
    intro nD nH nw
    obtain ⟨w7, e7, z7⟩ := nw.frz
    have lzn := nmsK_len n
    have okn := nmsK_ok n1 n9
    have inj := nmsK_inj n1 n9
    have hz7 : upd (V.cut H0 [S0, T2]) nD (.lst (((List.range n).map (nmK n)).map V.str)) nD = some (.lst ((nmsK n).map V.str)) := z7
    generalize nmsK n = zs at lzn okn inj hz7
    generalize upd (V.cut H0 [S0, T2]) nD (.lst (((List.range n).map (nmK n)).map V.str)) = Z7 at w7 e7 hz7
    clear z7 nw w5
    have lz : (zs.map V.str).length = n := by rw [List.length_map, lzn]
    repeat walk_at "w"
    refine V.lcG (xs := zs.map V.str) (fun i Z' acc => GrI (fun (j : Nat) => V.int (j : Int)) (fun j => j < n) n i Z' acc) w7 (by walk_at "wi") (fun Z' H' e w => SqL.of (w.fro (e _ _ hz7))) .nil ?_ ?_
    · intro i x D Z1 H1 acc hx e1 g w1
      have li : i < n := by rw [← lz]; exact (List.getElem?_eq_some_iff.mp hx).1
      have gl := g.len
      have zan1 := e1 _ _ hz7
      repeat walk_at "w"
      refine ⟨rfl, ?_⟩
      repeat walk_at "w"
      refine V.lcG (xs := zs.map V.str) (fun k _ acc => RwI (fun (j : Nat) => V.int (j : Int)) (fun j => j < n) k acc) w1 (by walk_at "wi") (fun Z' H' e w => SqL.of (w.fro (e _ _ zan1))) .nil ?_ ?_
      · intro k y D2 Z2 H2 acc2 hy e2 q w2
        have lk : k < n := by rw [← lz]; exact (List.getElem?_eq_some_iff.mp hy).1
        have ql := q.len
        have zan2 := e2 _ _ zan1
        repeat walk_at "w"
        refine ⟨rfl, ?_⟩
        repeat walk_at "w"
        intro r Hr r0 r1 wr
        exact V.w_accG wr (by walk_at "sub") e2 (by walk_at "szl") (q.snoc r.toNat (by rw [Int.toNat_of_nonneg r0]) (by show r.toNat < n; omega))
      · intro D2 Z2 H2 acc2 e2 q w2
        rw [lz] at q
        obtain ⟨w3, e3, z3⟩ := w2.frz
        exact V.w_accG w3 (by walk_at "sub") (e1.trans (e2.trans e3)) (by walk_at "szl") (g.snoc (e2.trans e3) z3 q)
    intro sD sZ sH sacc se sg sw
    rw [lz] at sg
    obtain ⟨sw2, se2, sz⟩ := sw.frz
    obtain ⟨sm, sG, sS, sO⟩ := sg.done se2 sz
    have sE := se.trans se2
    generalize upd sZ sD (.lst sacc) = sZ2 at sw2 sG sE
    clear sw sg sz se2 se
    have zan3 := sE _ _ hz7
    repeat walk_at "w"
    refine V.lcG (xs := zs.map V.str) (fun i Z' acc => GrI (V.bl) (fun _ => True) n i Z' acc) sw2 (by walk_at "wi") (fun Z' H' e w => SqL.of (w.fro (e _ _ zan3))) .nil ?_ ?_
    · intro i x D Z1 H1 acc hx e1 g w1
      have li : i < n := by rw [← lz]; exact (List.getElem?_eq_some_iff.mp hx).1
      have gl := g.len
      have zan1 := e1 _ _ zan3
      repeat walk_at "w"
      refine ⟨rfl, ?_⟩
      repeat walk_at "w"
      refine V.lcG (xs := zs.map V.str) (fun k _ acc => RwI (V.bl) (fun _ => True) k acc) w1 (by walk_at "wi") (fun Z' H' e w => SqL.of (w.fro (e _ _ zan1))) .nil ?_ ?_
      · intro k y D2 Z2 H2 acc2 hy e2 q w2
        have lk : k < n := by rw [← lz]; exact (List.getElem?_eq_some_iff.mp hy).1
        have ql := q.len
        have zan2 := e2 _ _ zan1
        repeat walk_at "w"
        refine ⟨rfl, ?_⟩
        repeat walk_at "w"
        intro r Hr r0 r1 wr
        repeat walk_at "w"
        exact V.w_accG wr (by walk_at "sub") e2 (by walk_at "szl") (q.snoc (decide (r = 1)) rfl trivial)
      · intro D2 Z2 H2 acc2 e2 q w2
        rw [lz] at q
        obtain ⟨w3, e3, z3⟩ := w2.frz
        exact V.w_accG w3 (by walk_at "sub") (e1.trans (e2.trans e3)) (by walk_at "szl") (g.snoc (e2.trans e3) z3 q)
    intro bD bZ bH bacc be bg bw
    rw [lz] at bg
    obtain ⟨bw2, be2, bz⟩ := bw.frz
    obtain ⟨bm, bG, bS, bO⟩ := bg.done be2 bz
    have bE := be.trans be2
    generalize upd bZ bD (.lst bacc) = bZ2 at bw2 bG bE
    clear bw bg bz be2 be
    have zan4 := bE _ _ zan3
    have sG4 : Grid bZ2 sD (ixG sm) := sG.same bE
    have nlx : (nmG zs sm).length ≤ 16 := by unfold nmG; rw [List.length_map, sS.len]; omega
    have zanq := zan4
    obtain ⟨xws, x1, x2, x3⟩ := id sG4
    repeat walk_at "w"
    refine V.lcG (xs := xws.map V.ref) (fun i Z' acc => CpI (nmG zs sm) bZ2 i Z' acc) bw2 (by walk_at "wi") (fun Z' H' e w => SqL.of (w.fro (e _ _ x1))) .nil ?_ ?_
    · intro i x D Z1 H1 acc hx e1 g w1
      obtain ⟨r, rfl, hr1⟩ := UW.at_refs hx
      have li : i < xws.length := (List.getElem?_eq_some_iff.mp hr1).1
      have l1 : (ixG sm).length = (nmG zs sm).length := by unfold ixG nmG; rw [List.length_map, List.length_map]
      have hm0 : (ixG sm)[i]? = some (ixG sm)[i] := List.getElem?_eq_getElem (by omega)
      have hm : (nmG zs sm)[i]? = some (nmG zs sm)[i] := List.getElem?_eq_getElem (by omega)
      have hr2 := e1 _ _ (x3 i r _ hr1 hm0)
      have gl := g.len
      have nl : (nmG zs sm).length ≤ 16 := nlx
      repeat walk_at "w"
      refine ⟨rfl, ?_⟩
      repeat walk_at "w"
      have lm : i < sm.length := by have := (List.getElem?_eq_some_iff.mp hm).1; unfold nmG at this; rw [List.length_map] at this; exact this
      have hrow : (sm[i].map fun (j : Nat) => V.int (j : Int)) = (ixG sm)[i]'(by unfold ixG; rw [List.length_map]; exact lm) := by unfold ixG; rw [List.getElem_map]
      have hrow2 : (sm[i].map fun j => V.str (zs.getD j Str.empty)) = (nmG zs sm)[i]'(by unfold nmG; rw [List.length_map]; exact lm) := by unfold nmG; rw [List.getElem_map]
      rw [← hrow] at hr2
      rw [← hrow2] at hm
      have tl : sm[i].length = n := sS.row _ (List.getElem_mem lm)
      have tb : ∀ j ∈ sm[i], j < n := sO _ (List.getElem_mem lm)
      generalize sm[i] = t at hr2 hm tl tb
      have zan5 := e1 _ _ zanq
      refine V.lcW (xs := t.map fun (j : Nat) => V.int (j : Int)) (fun k => (t.take k).map fun j => V.str (zs.getD j Str.empty)) w1 (by walk_at "wi") (fun H' w => SqL.of (w.fro hr2)) rfl ?_ ?_
      · intro k y D2 H2 hy w2
        rw [List.getElem?_map] at hy
        obtain ⟨j, hj, rfl⟩ := Option.map_eq_some_iff.mp hy
        have jn := tb j (List.mem_of_getElem? hj)
        have aj : atI (zs.map V.str) (j : Int) = some (.str (zs.getD j Str.empty)) := at_of (j := j) rfl (at_mapS (by omega))
        repeat walk_at "w"
        refine ⟨rfl, ?_⟩
        repeat walk_at "w"
        exact V.w_acc w2 (by walk_at "sub") (by rw [List.length_map, List.length_take]; exact small1000 (by omega)) (by rw [take_snoc hj, List.map_append]; rfl)
      · intro D2 H2 w2
        rw [List.length_map, List.take_of_length_le (Nat.le_refl _)] at w2
        obtain ⟨w3, e3, z3⟩ := w2.frz
        exact V.w_accG w3 (by walk_at "sub") (e1.trans e3) (by walk_at "szl") (g.snoc e3 hm (V.nw_of (e1.free (w2.ok.1.2 rfl)) z3))
    intro xD xZ xH xacc xe xg xw
    have l1x : (ixG sm).length = (nmG zs sm).length := by unfold ixG nmG; rw [List.length_map, List.length_map]
    rw [List.length_map, x2, l1x] at xg
    obtain ⟨xw2, xe2, xz⟩ := xw.frz
    have xG := (xg.done xe2 (V.nw_of (xe.free (xw.ok.1.2 rfl)) xz)).same V.nw_sub
    have xE := xe.trans xe2
    generalize upd xZ xD (.lst xacc) = xZ2 at xw2 xG xE
    clear xw xg xz xe2 xe x1 x2 x3
    have zan5 := xE _ _ zan4
    repeat walk_at "w"
    refine V.lcG (xs := zs.map V.str) (fun i Z' acc => GrI (fun (j : Nat) => V.str (zs.getD j Str.empty)) (fun j => j < n) n i Z' acc) xw2 (by walk_at "wi") (fun Z' H' e w => SqL.of (w.fro (e _ _ zan5))) .nil ?_ ?_
    · intro i x D Z1 H1 acc hx e1 g w1
      have li : i < n := by rw [← lz]; exact (List.getElem?_eq_some_iff.mp hx).1
      have gl := g.len
      have zan1 := e1 _ _ zan5
      repeat walk_at "w"
      refine ⟨rfl, ?_⟩
      repeat walk_at "w"
      refine V.lcG (xs := zs.map V.str) (fun k _ acc => RwI (fun (j : Nat) => V.str (zs.getD j Str.empty)) (fun j => j < n) k acc) w1 (by walk_at "wi") (fun Z' H' e w => SqL.of (w.fro (e _ _ zan1))) .nil ?_ ?_
      · intro k y D2 Z2 H2 acc2 hy e2 q w2
        have lk : k < n := by rw [← lz]; exact (List.getElem?_eq_some_iff.mp hy).1
        have ql := q.len
        have zan2 := e2 _ _ zan1
        repeat walk_at "w"
        refine ⟨rfl, ?_⟩
        repeat walk_at "w"
        intro r Hr r0 r1 wr
        have ar : atI (zs.map V.str) r = some (.str (zs.getD r.toNat Str.empty)) := at_of (Int.toNat_of_nonneg r0).symm (at_mapS (by omega))
        repeat walk_at "w"
        exact V.w_accG wr (by walk_at "sub") e2 (by walk_at "szl") (q.snoc r.toNat rfl (by show r.toNat < n; omega))
      · intro D2 Z2 H2 acc2 e2 q w2
        rw [lz] at q
        obtain ⟨w3, e3, z3⟩ := w2.frz
        exact V.w_accG w3 (by walk_at "sub") (e1.trans (e2.trans e3)) (by walk_at "szl") (g.snoc (e2.trans e3) z3 q)
    intro pD pZ pH pacc pe pg pw
    rw [lz] at pg
    obtain ⟨pw2, pe2, pz⟩ := pw.frz
    obtain ⟨pm, pG, pS, pO⟩ := pg.done pe2 pz
    have pE := pe.trans pe2
    generalize upd pZ pD (.lst pacc) = pZ2 at pw2 pG pE
    clear pw pg pz pe2 pe
    have zan6 := pE _ _ zan5
    have O : OkTab zs bm sm pm zi oi := ⟨okn, inj, foundTo_len inj _ (Nat.le_refl _), by rw [lzn]; exact bS, by rw [lzn]; exact sS, by rw [lzn]; exact pS, by rw [lzn]; exact sO, by rw [lzn]; exact pO, by omega, by omega⟩
    have az : atI (zs.map V.str) (zi : Int) = some (.str (zs.getD zi Str.empty)) := at_of (j := zi) rfl (at_mapS (by omega))
    have ao : atI (zs.map V.str) (oi : Int) = some (.str (zs.getD oi Str.empty)) := at_of (j := oi) rfl (at_mapS (by omega))
    repeat walk_at "w"
    refine w_tab pw2 O zan6 (hb := (bG.same xE).same pE) (hs := xG.same pE) (hp := pG) pT hL fun tb Zt Ht wt et scT okT => ?_
    have po := tabPrim_ok O
    have lbl : (SD.leaf .tab (tabPrim zs bm sm pm zi oi)).label.length ≤ 90002 := po.label
    have sz1 : (SD.leaf .tab (tabPrim zs bm sm pm zi oi)).size = some n := by rw [← lzn]; rfl
    have sGt := ((sG4.same xE).same pE).same et
    clear pw2 xw2 bw2 sw2 sG bG xG pG zan6 zan5 zan4 zan3 zanq
    repeat walk_at "w"
    refine w_turn wt scT okT sz1 (by show 1 < 20; decide) (by omega) pU fun tu Zu Hu wu eu scU tf => ?_
    have okU : (SD.turned (SD.leaf .tab (tabPrim zs bm sm pm zi oi))).Ok := ⟨okT, n, sz1⟩
    obtain ⟨q0, hq0⟩ : ∃ q0 : Int, q0 = 1 + len0 := ⟨_, rfl⟩
    rw [← hq0]
    have OC : CutOk start q0 .same := ⟨s0, by omega, by omega, fun z => absurd rfl z⟩
    repeat walk_at "w"
    refine w_cutP wu OC pC hL0 fun cu Zc Hc wc ec scC => ?_
    have okC : (SD.leaf .cut (cutPrim start q0 .same)).Ok := ⟨rfl, cutPrim_ok OC⟩
    repeat walk_at "w"
    refine w_tal wc (kd := .ex) (o := "same") (by decide +kernel) pX fun xu Zx Hx wx ex scX _ => ?_
    repeat walk_at "w"
    have okP : (SD.pair (.leaf .tab (tabPrim zs bm sm pm zi oi)) (.tally .ex)).Ok := ⟨okT, .inl rfl, fun a b _ h => by cases h⟩
    refine w_pair wx (((scT.same eu).same ec).same ex) scX okP (by show 1 < 20; decide) (by show 1 < 20; decide) (by omega) (by decide +kernel) pP fun pu Zp Hp wp ep scP => ?_
    have fT := (((scT.same eu).same ec).same ex).same ep
    have fU := ((scU.same ec).same ex).same ep
    have fC := (scC.same ex).same ep
    have fS := (((sGt.same eu).same ec).same ex).same ep
    have dpT : (SD.leaf .tab (tabPrim zs bm sm pm zi oi)).depth = 1 := rfl
    clear wx wc wu wt sGt scT scU scC scX sG4
    repeat walk_at "w"
    intro i0 Hr r0 r1 wr
    obtain ⟨mm, hmm⟩ := Int.eq_ofNat_of_zero_le (show 0 ≤ 1 + i0 by omega)
    repeat walk_at "w"
    rw [hmm]
    repeat walk_at "w"
    refine for_range (n := mm) (fun i σ H' => ∃ x1 x2 x3 x4 x5, σ = [some (V.ref a), some (V.ref S0), some (V.int (n : Int)), some (V.int start), some (V.int q0), some (V.int (zi : Int)),
          some (V.int (oi : Int)), some (V.ref nD), some (V.ref sD), some (V.ref bD), some (V.ref xD), some (V.ref pD),
          some (V.ref tb), some (V.ref tu), some (V.ref cu), some (V.ref pu), x1, x2, x3, x4, x5, none, none, none] ∧ V.Hw Zp (some (S0, T2)) H' []) ⟨_, _, _, _, _, rfl, wr⟩ ?_ ?_
    · rintro i σ H1 hi ⟨x1, x2, x3, x4, x5, rfl, w1⟩
      repeat walk_at "w"
      intro mL H2 _ w2
      repeat walk_at "w"
      intro di H3 d0 d1 w3
      obtain ⟨mn, hmn, mn0, mnb⟩ := many_at d0 d1
      repeat walk_at "w"
      intro ci H4 c0 c1 w4'
      obtain ⟨c, rfl⟩ := Int.eq_ofNat_of_zero_le c0
      have w4 := w4'.sub (L := []) .nil
      clear w1 w2 w3 w4'
      repeat walk_at "w"
      refine ⟨sD, zs, bm, sm, pm, zi, oi, c, rfl, O, fS.same w4.fr, fun H5 s5 => ?_⟩
      have w5 := w4.call s5
      clear w4
      repeat walk_at "w"
      generalize hdue : (if c = 0 then (zi : Int) else itI (tabPrim zs bm sm pm zi oi) (c - 1)) = due
      refine V.meetIf (fun σ' H' => σ' = [some (V.ref a), some (V.ref S0), some (V.int (n : Int)), some (V.int start), some (V.int q0), some (V.int (zi : Int)),
          some (V.int (oi : Int)), some (V.ref nD), some (V.ref sD), some (V.ref bD), some (V.ref xD), some (V.ref pD),
          some (V.ref tb), some (V.ref tu), some (V.ref cu), some (V.ref pu), some (V.int (0 + (i : Int))), some (V.int (c : Int)), some (V.int due), some (V.int (backI start q0 c)), x5, none, none, none] ∧ H' = H5) (fun D' hD _ _ _ => ?_) ?_
      · refine ifD (fun q => ?_) (fun q => ?_)
        · repeat walk_at "w"
          exact hD _ _ ⟨by unfold backI; rw [if_neg (by omega)], rfl⟩
        · repeat walk_at "w"
          exact hD _ _ ⟨by unfold backI; rw [if_pos (by omega)], rfl⟩
      rintro σ1 _ ⟨rfl, rfl⟩
      obtain ⟨dx1, fs1, hT1, _, hh1⟩ := fT.hd
      obtain ⟨dx2, fs2, hT2, _, hh2⟩ := fU.hd
      obtain ⟨dx3, fs3, hT3, _, hh3⟩ := fC.hd
      obtain ⟨dx4, fs4, hT4, _, hh4⟩ := scP.hd
      have hT1 : Zp tb = some (.ins (S.cls .tab) dx1 fs1) := hT1
      have hT2 : Zp tu = some (.ins (S.cls .turn) dx2 fs2) := hT2
      have hT3 : Zp cu = some (.ins (S.cls .cut) dx3 fs3) := hT3
      have hT4 : Zp pu = some (.ins (S.cls .pair) dx4 fs4) := hT4
      have g1 := nom_mem hh1.nom (show mnames.contains "times_at" = true by decide +kernel)
      have g2 := nom_mem hh2.nom (show mnames.contains "times_at" = true by decide +kernel)
      have g3 := nom_mem hh3.nom (show mnames.contains "times_at" = true by decide +kernel)
      have g4 := nom_mem hh4.nom (show mnames.contains "times_at" = true by decide +kernel)
      have ecut : (if c = 0 then (cutPrim start q0 .same).zero else itI (cutPrim start q0 .same) (c - 1)) = backI start q0 c := by
        by_cases h : c = 0
        · rw [if_pos h, h]; unfold backI; rw [if_pos (by omega)]; rfl
        · rw [if_neg h, it_cut OC]; congr 1; omega
      repeat walk_at "w"
      refine ⟨tb, _, c, rfl, fT.same w5.fr, rfl, (show 1 ≤ 4 by decide), okT, fun v1 H6 s6 hv1 => ?_⟩
      rw [tm_leaf] at hv1
      obtain rfl : v1 = .int due := by rw [← hdue]; exact hv1
      have w6 := w5.call s6
      repeat walk_at "w"
      refine ⟨tu, _, c, rfl, fU.same w6.fr, rfl, (show 2 ≤ 4 by decide), okU, fun v2 H7 s7 hv2 => ?_⟩
      have hv2 : PlAt H7 ((SD.leaf .tab (tabPrim zs bm sm pm zi oi)).tm c) v2 := hv2
      rw [tm_leaf] at hv2
      obtain rfl : v2 = .int due := by rw [← hdue]; exact hv2
      have w7 := w6.call s7
      repeat walk_at "w"
      refine ⟨cu, _, c, rfl, fC.same w7.fr, rfl, (show 1 ≤ 4 by decide), okC, fun v3 H8 s8 hv3 => ?_⟩
      rw [tm_leaf, ecut] at hv3
      obtain rfl : v3 = .int (backI start q0 c) := hv3
      have w8 := w7.call s8
      repeat walk_at "w"
      refine ⟨pu, _, c, rfl, scP.same w8.fr, rfl, (show 2 ≤ 4 by decide), okP, fun v4 H9 s9 hv4 => ?_⟩
      rw [tm_pair, tm_leaf, tm_tally] at hv4
      obtain ⟨tq, y1, y2, rfl, htq, hy1, rfl⟩ := hv4
      obtain rfl : y1 = .int due := by rw [← hdue]; exact hy1
      obtain ⟨Zq, w9, eq9, hq9⟩ := hwTup (w8.call s9) htq
      clear w5 w6 w7 w8
      repeat walk_at "w"
      intro f1 Ha _ wa
      repeat walk_at "w"
      intro f2 Hb _ wb
      repeat walk_at "w"
      intro f3 Hc' _ wc'
      repeat walk_at "w"
      refine ⟨_, _, rfl, .lst (wc'.get (.there (.there .here))) (wc'.get .here) rfl (Nat.le_of_ble_eq_true rfl) (fun i x y hx hy => ?_), ?_⟩
      · match i, hx, hy with
        | 0, hx, hy => cases hx; cases hy; exact .int _
        | 1, hx, hy => cases hx; cases hy; exact .int _
        | 2, hx, hy => cases hx; cases hy; exact .int _
        | 3, hx, hy =>
          cases hx; cases hy
          refine   .tup (wc'.fro hq9) (wc'.get (.there .here)) rfl (Nat.le_of_ble_eq_true rfl) fun i x y hx hy => ?_
          match i, hx, hy with
          | 0, hx, hy => cases hx; cases hy; exact .int _
          | 1, hx, hy => cases hx; cases hy; exact .int _
          | i + 2, hx, hy => simp at hx
        | i + 4, hx, hy => simp at hx
      have wz := (wc'.sub (L := []) .nil).thaw eq9
      repeat walk_at "w"
      exact ⟨_, _, _, _, _, rfl, wz⟩
    · rintro σ H1 ⟨x1, x2, x3, x4, x5, rfl, w1⟩
      repeat walk_at "w"
      exact k H1
end
/-! ### every class at every depth -/
theorem fn_vac {P : Program} {w : World} {K : PySem.W.Frag} {mg : Str → Option Value} {base : Heap} {CX : CXT} {k : Nat} {f : Addr} {fd : FuncData} {ps : List Str} {sp : Sp} (h : ∀ vs H Q E, sp vs H Q E → False) : FnOk P w K mg base CX k f fd ps sp :=
  ⟨fun _ _ _ _ z => (h _ _ _ _ z).elim, fun _ _ _ _ _ _ _ _ _ _ _ _ _ z => (h _ _ _ _ z).elim⟩
theorem met_mono {P : Program} {w : World} {K : PySem.W.Frag} {mg : Str → Option Value} {base : Heap} {CX : CXT} {i j : Nat} {C : Addr} {m : Str} {sp : Sp} (h : Met P w K mg base CX i C m sp) (l : i ≤ j) : Met P w K mg base CX j C m sp := by
  obtain ⟨f, fd, ps, c, me, F, b⟩ := h.ex
  exact ⟨f, fd, ps, c, me, F.mono l, b⟩
theorem SD.depth_pos : ∀ d : SD, 1 ≤ d.depth
  | .leaf _ _ => Nat.le_refl _
  | .tally _ => Nat.le_refl _
  | .pair _ _ => Nat.succ_le_succ (Nat.zero_le _)
  | .turned _ => Nat.succ_le_succ (Nat.zero_le _)
theorem met_all {P : Program} {w : World} {K : PySem.W.Frag} {mg : Str → Option Value} {base : Heap} {S : SE} {m : Str} {sp : SE → Kn → Nat → Sp} (b : Nat) (hl : ∀ k : Pk S, k.1 ≠ .turn → ∀ n, Met P w K mg base CX0 b (S.cls k.1) m (sp S k.1 n)) (h0 : Met P w K mg base CX0 b (S.cls .turn) m (sp S .turn 0))
    (ht : ∀ n j, (∀ k : Pk S, Met P w K mg base CX0 j (S.cls k.1) m (sp S k.1 n)) → Met P w K mg base CX0 (j + 1) (S.cls .turn) m (sp S .turn (n + 1))) : ∀ n, ∀ k : Pk S, Met P w K mg base CX0 (n + b) (S.cls k.1) m (sp S k.1 n)
  | 0, ⟨k, pk⟩ => by
    by_cases e : k = .turn
    · subst e; exact met_mono h0 (by omega)
    · exact met_mono (hl ⟨k, pk⟩ e 0) (by omega)
  | n + 1, ⟨k, pk⟩ => by
    by_cases e : k = .turn
    · subst e
      have z := ht n (n + b) (met_all b hl h0 ht n)
      exact met_mono z (by omega)
    · exact met_mono (hl ⟨k, pk⟩ e (n + 1)) (by omega)
theorem no0 {d : SD} (h : d.depth ≤ 0) : False := by have := d.depth_pos; omega
section
variable {S : SE} {k : Kn} {vs : List V} {H : Hp} {Q : VK} {E : XK}
theorem v_sum (h : spSum S k 0 vs H Q E) : False := by obtain ⟨_, _, _, _, _, _, _, _, _, h, _⟩ := h; exact no0 h
theorem v_prod (h : spProd S k 0 vs H Q E) : False := by obtain ⟨_, _, _, _, _, _, _, _, _, h, _⟩ := h; exact no0 h
theorem v_with (h : spWith S k 0 vs H Q E) : False := by obtain ⟨_, _, _, _, _, _, _, _, _, h, _⟩ := h; exact no0 h
theorem v_pls (h : spPls S k 0 vs H Q E) : False := by obtain ⟨_, _, _, _, _, _, h, _⟩ := h; exact no0 h
theorem v_nm (h : spNm S k 0 vs H Q E) : False := by obtain ⟨_, _, _, _, _, _, _, h, _⟩ := h; exact no0 h
theorem v_find (h : spFind S k 0 vs H Q E) : False := by obtain ⟨_, _, _, _, _, _, h, _⟩ := h; exact no0 h
theorem v_tm (h : spTm S k 0 vs H Q E) : False := by obtain ⟨_, _, _, _, _, _, h, _⟩ := h; exact no0 h
end
theorem met_all2 {P : Program} {w : World} {K : PySem.W.Frag} {mg : Str → Option Value} {base : Heap} {S : SE} {m : Str} {sp : SE → Kn → Nat → Sp} (b : Nat) (hl : ∀ k : Pk S, k.1 ≠ .turn → k.1 ≠ .pair → ∀ n, Met P w K mg base CX0 b (S.cls k.1) m (sp S k.1 n)) (h0 : Met P w K mg base CX0 b (S.cls .turn) m (sp S .turn 0)) (h1 : Met P w K mg base CX0 b (S.cls .pair) m (sp S .pair 0))
    (ht : ∀ n j, (∀ k : Pk S, Met P w K mg base CX0 j (S.cls k.1) m (sp S k.1 n)) → Met P w K mg base CX0 (j + 1) (S.cls .turn) m (sp S .turn (n + 1)))
    (hp : ∀ n j, (∀ k : Pk S, Met P w K mg base CX0 j (S.cls k.1) m (sp S k.1 n)) → Met P w K mg base CX0 (j + 1) (S.cls .pair) m (sp S .pair (n + 1))) : ∀ n, ∀ k : Pk S, Met P w K mg base CX0 (n + b) (S.cls k.1) m (sp S k.1 n)
  | 0, ⟨k, pk⟩ => by
    by_cases e : k = .turn
    · subst e; exact met_mono h0 (by omega)
    · by_cases e2 : k = .pair
      · subst e2; exact met_mono h1 (by omega)
      · exact met_mono (hl ⟨k, pk⟩ e e2 0) (by omega)
  | n + 1, ⟨k, pk⟩ => by
    by_cases e : k = .turn
    · subst e
      have z := ht n (n + b) (met_all2 b hl h0 h1 ht hp n)
      exact met_mono z (by omega)
    · by_cases e2 : k = .pair
      · subst e2
        have z := hp n (n + b) (met_all2 b hl h0 h1 ht hp n)
        exact met_mono z (by omega)
      · exact met_mono (hl ⟨k, pk⟩ e e2 (n + 1)) (by omega)
def S12 (ct cu cc cp cx : Addr) : SE where
  cls := fun k => match k with | .tab => ct | .turn => cu | .cut => cc | .pair => cp | .ex => cx | _ => ct
  pr := fun k => match k with | .tab => true | .turn => true | .cut => true | .pair => true | .ex => true | _ => false
  Lf := fun k => match k with | .tab => LfTab | .cut => LfCut | _ => fun _ _ _ => False
  LfS := fun {k m H H' fs} e h => by
    cases k <;> first | exact LfTab.same e h | exact LfCut.same e h | exact h.elim
  LfN := fun {k m H fs} h => by
    cases k <;> first | exact h.elim | (obtain ⟨zs, bm, sm, pm, zi, oi, O, rfl, h1, h2, _⟩ := h; exact ⟨h1, h2⟩) | (obtain ⟨s, q, o, O, rfl, h1, h2, _⟩ := h; exact ⟨h1, h2⟩)
theorem pk12 {ct cu cc cp cx : Addr} {p : (k : Kn) → Prop} (h1 : p .tab) (h2 : p .turn) (h3 : p .cut) (h4 : p .pair) (h5 : p .ex) : ∀ k : Pk (S12 ct cu cc cp cx), p k.1
  | ⟨.tab, _⟩ => h1
  | ⟨.turn, _⟩ => h2
  | ⟨.cut, _⟩ => h3
  | ⟨.pair, _⟩ => h4
  | ⟨.ex, _⟩ => h5
theorem pk12l {ct cu cc cp cx : Addr} {p : (k : Kn) → Prop} (h1 : p .tab) (h3 : p .cut) (h5 : p .ex) : ∀ k : Pk (S12 ct cu cc cp cx), k.1 ≠ .turn → k.1 ≠ .pair → p k.1
  | ⟨.tab, _⟩, _, _ => h1
  | ⟨.turn, _⟩, e, _ => absurd rfl e
  | ⟨.cut, _⟩, _, _ => h3
  | ⟨.pair, _⟩, _, e => absurd rfl e
  | ⟨.ex, _⟩, _, _ => h5
theorem all_mk {l : PySem.W.OpenLaw} {w : World} {K : PySem.W.Frag} {h : Heap} {mg : Str → Option Value} {fa : Addr} (X : K.In h) (G : h.Ns mainGlobals mg) (hfa : mg "law" = some (.ref fa))
    {C_TableScale : Addr}
    {C_TurnedScale : Addr}
    {C_CutScale : Addr}
    {C_PairScale : Addr}
    {C_ExactTally : Addr}
    {C_Scale : Addr}
    {C_ListedScale : Addr}
    {C_Tally : Addr}
    {f_item_of_run : Addr} {oc_item_of_run kV_item_of_run dc_item_of_run pm_item_of_run cd_item_of_run ct_item_of_run : Value} {od_item_of_run an_item_of_run : Option Addr} {sl_item_of_run : Array (Option Value)}
    {f_greater : Addr} {oc_greater kV_greater dc_greater pm_greater cd_greater ct_greater : Value} {od_greater an_greater : Option Addr} {sl_greater : Array (Option Value)}
    {f_check_names : Addr} {oc_check_names kV_check_names dc_check_names pm_check_names cd_check_names ct_check_names : Value} {od_check_names an_check_names : Option Addr} {sl_check_names : Array (Option Value)}
    {f_check_table : Addr} {oc_check_table kV_check_table dc_check_table pm_check_table cd_check_table ct_check_table : Value} {od_check_table an_check_table : Option Addr} {sl_check_table : Array (Option Value)}
    {f_places_in : Addr} {oc_places_in kV_places_in dc_places_in pm_places_in cd_places_in ct_places_in : Value} {od_places_in an_places_in : Option Addr} {sl_places_in : Array (Option Value)}
    {f_in_row : Addr} {oc_in_row kV_in_row dc_in_row pm_in_row cd_in_row ct_in_row : Value} {od_in_row an_in_row : Option Addr} {sl_in_row : Array (Option Value)}
    {f_in_rows : Addr} {oc_in_rows kV_in_rows dc_in_rows pm_in_rows cd_in_rows ct_in_rows : Value} {od_in_rows an_in_rows : Option Addr} {sl_in_rows : Array (Option Value)}
    {f__law_draws : Addr} {oc__law_draws kV__law_draws dc__law_draws pm__law_draws cd__law_draws ct__law_draws : Value} {od__law_draws an__law_draws : Option Addr} {sl__law_draws : Array (Option Value)}
    {f__law_draw : Addr} {oc__law_draw kV__law_draw dc__law_draw pm__law_draw cd__law_draw ct__law_draw : Value} {od__law_draw an__law_draw : Option Addr} {sl__law_draw : Array (Option Value)}
    {f__law_same : Addr} {oc__law_same kV__law_same dc__law_same pm__law_same cd__law_same ct__law_same : Value} {od__law_same an__law_same : Option Addr} {sl__law_same : Array (Option Value)}
    {f__law_ones : Addr} {oc__law_ones kV__law_ones dc__law_ones pm__law_ones cd__law_ones ct__law_ones : Value} {od__law_ones an__law_ones : Option Addr} {sl__law_ones : Array (Option Value)}
    {f_law : Addr} {oc_law kV_law dc_law pm_law cd_law ct_law : Value} {od_law an_law : Option Addr} {sl_law : Array (Option Value)}
    {f_TableScale___init__ : Addr} {oc_TableScale___init__ kV_TableScale___init__ dc_TableScale___init__ pm_TableScale___init__ cd_TableScale___init__ ct_TableScale___init__ : Value} {od_TableScale___init__ an_TableScale___init__ : Option Addr} {sl_TableScale___init__ : Array (Option Value)}
    {f_TableScale_sum_at : Addr} {oc_TableScale_sum_at kV_TableScale_sum_at dc_TableScale_sum_at pm_TableScale_sum_at cd_TableScale_sum_at ct_TableScale_sum_at : Value} {od_TableScale_sum_at an_TableScale_sum_at : Option Addr} {sl_TableScale_sum_at : Array (Option Value)}
    {f_TableScale_times_at : Addr} {oc_TableScale_times_at kV_TableScale_times_at dc_TableScale_times_at pm_TableScale_times_at cd_TableScale_times_at ct_TableScale_times_at : Value} {od_TableScale_times_at an_TableScale_times_at : Option Addr} {sl_TableScale_times_at : Array (Option Value)}
    {f_TableScale_ones : Addr} {oc_TableScale_ones kV_TableScale_ones dc_TableScale_ones pm_TableScale_ones cd_TableScale_ones ct_TableScale_ones : Value} {od_TableScale_ones an_TableScale_ones : Option Addr} {sl_TableScale_ones : Array (Option Value)}
    {f_TurnedScale___init__ : Addr} {oc_TurnedScale___init__ kV_TurnedScale___init__ dc_TurnedScale___init__ pm_TurnedScale___init__ cd_TurnedScale___init__ ct_TurnedScale___init__ : Value} {od_TurnedScale___init__ an_TurnedScale___init__ : Option Addr} {sl_TurnedScale___init__ : Array (Option Value)}
    {f_TurnedScale_times_at : Addr} {oc_TurnedScale_times_at kV_TurnedScale_times_at dc_TurnedScale_times_at pm_TurnedScale_times_at cd_TurnedScale_times_at ct_TurnedScale_times_at : Value} {od_TurnedScale_times_at an_TurnedScale_times_at : Option Addr} {sl_TurnedScale_times_at : Array (Option Value)}
    {f_CutScale___init__ D_CutScale___init__ : Addr} {oc_CutScale___init__ dc_CutScale___init__ pm_CutScale___init__ cd_CutScale___init__ ct_CutScale___init__ : Value} {od_CutScale___init__ an_CutScale___init__ : Option Addr} {sl_CutScale___init__ : Array (Option Value)}
    {tk_CutScale___init___period : Tok}
    {tk_CutScale___init___order : Tok}
    {f_CutScale_brought_back : Addr} {oc_CutScale_brought_back kV_CutScale_brought_back dc_CutScale_brought_back pm_CutScale_brought_back cd_CutScale_brought_back ct_CutScale_brought_back : Value} {od_CutScale_brought_back an_CutScale_brought_back : Option Addr} {sl_CutScale_brought_back : Array (Option Value)}
    {f_CutScale_sum_at : Addr} {oc_CutScale_sum_at kV_CutScale_sum_at dc_CutScale_sum_at pm_CutScale_sum_at cd_CutScale_sum_at ct_CutScale_sum_at : Value} {od_CutScale_sum_at an_CutScale_sum_at : Option Addr} {sl_CutScale_sum_at : Array (Option Value)}
    {f_CutScale_times_at : Addr} {oc_CutScale_times_at kV_CutScale_times_at dc_CutScale_times_at pm_CutScale_times_at cd_CutScale_times_at ct_CutScale_times_at : Value} {od_CutScale_times_at an_CutScale_times_at : Option Addr} {sl_CutScale_times_at : Array (Option Value)}
    {f_CutScale_ones : Addr} {oc_CutScale_ones kV_CutScale_ones dc_CutScale_ones pm_CutScale_ones cd_CutScale_ones ct_CutScale_ones : Value} {od_CutScale_ones an_CutScale_ones : Option Addr} {sl_CutScale_ones : Array (Option Value)}
    {f_PairScale___init__ : Addr} {oc_PairScale___init__ kV_PairScale___init__ dc_PairScale___init__ pm_PairScale___init__ cd_PairScale___init__ ct_PairScale___init__ : Value} {od_PairScale___init__ an_PairScale___init__ : Option Addr} {sl_PairScale___init__ : Array (Option Value)}
    {f_PairScale_times_at : Addr} {oc_PairScale_times_at kV_PairScale_times_at dc_PairScale_times_at pm_PairScale_times_at cd_PairScale_times_at ct_PairScale_times_at : Value} {od_PairScale_times_at an_PairScale_times_at : Option Addr} {sl_PairScale_times_at : Array (Option Value)}
    {f_ExactTally___init__ : Addr} {oc_ExactTally___init__ kV_ExactTally___init__ dc_ExactTally___init__ pm_ExactTally___init__ cd_ExactTally___init__ ct_ExactTally___init__ : Value} {od_ExactTally___init__ an_ExactTally___init__ : Option Addr} {sl_ExactTally___init__ : Array (Option Value)}
    {f_ExactTally_times_at : Addr} {oc_ExactTally_times_at kV_ExactTally_times_at dc_ExactTally_times_at pm_ExactTally_times_at cd_ExactTally_times_at ct_ExactTally_times_at : Value} {od_ExactTally_times_at an_ExactTally_times_at : Option Addr} {sl_ExactTally_times_at : Array (Option Value)}
    {f_cf_Scale___init__ : Addr} {oc_cf_Scale___init__ kV_cf_Scale___init__ dc_cf_Scale___init__ pm_cf_Scale___init__ cd_cf_Scale___init__ ct_cf_Scale___init__ : Value} {od_cf_Scale___init__ an_cf_Scale___init__ : Option Addr} {sl_cf_Scale___init__ : Array (Option Value)}
    {f_cf_ListedScale___init__ : Addr} {oc_cf_ListedScale___init__ kV_cf_ListedScale___init__ dc_cf_ListedScale___init__ pm_cf_ListedScale___init__ cd_cf_ListedScale___init__ ct_cf_ListedScale___init__ : Value} {od_cf_ListedScale___init__ an_cf_ListedScale___init__ : Option Addr} {sl_cf_ListedScale___init__ : Array (Option Value)}
    {f_cf_Tally___init__ : Addr} {oc_cf_Tally___init__ kV_cf_Tally___init__ dc_cf_Tally___init__ pm_cf_Tally___init__ cd_cf_Tally___init__ ct_cf_Tally___init__ : Value} {od_cf_Tally___init__ an_cf_Tally___init__ : Option Addr} {sl_cf_Tally___init__ : Array (Option Value)}
    {t_MOST_DEPTH : Tok}
    {t_MOST_GRADES : Tok}
    {t_MOST_NAMES : Tok}
    {t_MOST_SIGNS : Tok}
    {tNS : Tok}
    {aO : Addr}
    {dO : Option Addr} {nO : Nat} {t1 t2 t3 : Tok} {slO : Array (Option Value)}
    (aC_TableScale : PySem.W.nsIn K mainGlobals "TableScale" = some (some (.ref C_TableScale)))
    (pg_TableScale : PySem.W.plainGet K C_TableScale Str.empty = true)
    (hd_TableScale : PySem.W.hasDictIn K C_TableScale = true)
    (po_TableScale : PySem.W.plainOver K C_TableScale = true)
    (sa_TableScale : PySem.W.findIn K (.ref C_TableScale) "__setattr__" = some (some (.builtin "object.__setattr__")))
    (mk_TableScale : PySem.W.makesIn K C_TableScale = true)
    (kc_TableScale : PySem.W.keepIn K (.ref C_TableScale) = true)
    (aC_TurnedScale : PySem.W.nsIn K mainGlobals "TurnedScale" = some (some (.ref C_TurnedScale)))
    (pg_TurnedScale : PySem.W.plainGet K C_TurnedScale Str.empty = true)
    (hd_TurnedScale : PySem.W.hasDictIn K C_TurnedScale = true)
    (po_TurnedScale : PySem.W.plainOver K C_TurnedScale = true)
    (sa_TurnedScale : PySem.W.findIn K (.ref C_TurnedScale) "__setattr__" = some (some (.builtin "object.__setattr__")))
    (mk_TurnedScale : PySem.W.makesIn K C_TurnedScale = true)
    (kc_TurnedScale : PySem.W.keepIn K (.ref C_TurnedScale) = true)
    (aC_CutScale : PySem.W.nsIn K mainGlobals "CutScale" = some (some (.ref C_CutScale)))
    (pg_CutScale : PySem.W.plainGet K C_CutScale Str.empty = true)
    (hd_CutScale : PySem.W.hasDictIn K C_CutScale = true)
    (po_CutScale : PySem.W.plainOver K C_CutScale = true)
    (sa_CutScale : PySem.W.findIn K (.ref C_CutScale) "__setattr__" = some (some (.builtin "object.__setattr__")))
    (mk_CutScale : PySem.W.makesIn K C_CutScale = true)
    (kc_CutScale : PySem.W.keepIn K (.ref C_CutScale) = true)
    (aC_PairScale : PySem.W.nsIn K mainGlobals "PairScale" = some (some (.ref C_PairScale)))
    (pg_PairScale : PySem.W.plainGet K C_PairScale Str.empty = true)
    (hd_PairScale : PySem.W.hasDictIn K C_PairScale = true)
    (po_PairScale : PySem.W.plainOver K C_PairScale = true)
    (sa_PairScale : PySem.W.findIn K (.ref C_PairScale) "__setattr__" = some (some (.builtin "object.__setattr__")))
    (mk_PairScale : PySem.W.makesIn K C_PairScale = true)
    (kc_PairScale : PySem.W.keepIn K (.ref C_PairScale) = true)
    (aC_ExactTally : PySem.W.nsIn K mainGlobals "ExactTally" = some (some (.ref C_ExactTally)))
    (pg_ExactTally : PySem.W.plainGet K C_ExactTally Str.empty = true)
    (hd_ExactTally : PySem.W.hasDictIn K C_ExactTally = true)
    (po_ExactTally : PySem.W.plainOver K C_ExactTally = true)
    (sa_ExactTally : PySem.W.findIn K (.ref C_ExactTally) "__setattr__" = some (some (.builtin "object.__setattr__")))
    (mk_ExactTally : PySem.W.makesIn K C_ExactTally = true)
    (kc_ExactTally : PySem.W.keepIn K (.ref C_ExactTally) = true)
    (aC_Scale : PySem.W.nsIn K mainGlobals "Scale" = some (some (.ref C_Scale)))
    (aC_ListedScale : PySem.W.nsIn K mainGlobals "ListedScale" = some (some (.ref C_ListedScale)))
    (aC_Tally : PySem.W.nsIn K mainGlobals "Tally" = some (some (.ref C_Tally)))
    (a_item_of_run : PySem.W.nsIn K mainGlobals "item_of_run" = some (some (.ref f_item_of_run)))
    (l_item_of_run : K.lookup f_item_of_run = some ⟨oc_item_of_run, od_item_of_run, .func (PySem.W.fnOf "item_of_run" "item_of_run" (defArgs (top 3)) (defBody (top 3)) (defScope (top 3)) .none kV_item_of_run dc_item_of_run pm_item_of_run an_item_of_run cd_item_of_run ct_item_of_run), sl_item_of_run⟩)
    (c_item_of_run : PySem.W.codeIn K cd_item_of_run "item_of_run" = true)
    (k_item_of_run : PySem.W.keepIn K (.ref f_item_of_run) = true)
    (a_greater : PySem.W.nsIn K mainGlobals "greater" = some (some (.ref f_greater)))
    (l_greater : K.lookup f_greater = some ⟨oc_greater, od_greater, .func (PySem.W.fnOf "greater" "greater" (defArgs (top 2)) (defBody (top 2)) (defScope (top 2)) .none kV_greater dc_greater pm_greater an_greater cd_greater ct_greater), sl_greater⟩)
    (c_greater : PySem.W.codeIn K cd_greater "greater" = true)
    (k_greater : PySem.W.keepIn K (.ref f_greater) = true)
    (a_check_names : PySem.W.nsIn K mainGlobals "check_names" = some (some (.ref f_check_names)))
    (l_check_names : K.lookup f_check_names = some ⟨oc_check_names, od_check_names, .func (PySem.W.fnOf "check_names" "check_names" (defArgs (top 17)) (defBody (top 17)) (defScope (top 17)) .none kV_check_names dc_check_names pm_check_names an_check_names cd_check_names ct_check_names), sl_check_names⟩)
    (c_check_names : PySem.W.codeIn K cd_check_names "check_names" = true)
    (k_check_names : PySem.W.keepIn K (.ref f_check_names) = true)
    (a_check_table : PySem.W.nsIn K mainGlobals "check_table" = some (some (.ref f_check_table)))
    (l_check_table : K.lookup f_check_table = some ⟨oc_check_table, od_check_table, .func (PySem.W.fnOf "check_table" "check_table" (defArgs (top 18)) (defBody (top 18)) (defScope (top 18)) .none kV_check_table dc_check_table pm_check_table an_check_table cd_check_table ct_check_table), sl_check_table⟩)
    (c_check_table : PySem.W.codeIn K cd_check_table "check_table" = true)
    (k_check_table : PySem.W.keepIn K (.ref f_check_table) = true)
    (a_places_in : PySem.W.nsIn K mainGlobals "places_in" = some (some (.ref f_places_in)))
    (l_places_in : K.lookup f_places_in = some ⟨oc_places_in, od_places_in, .func (PySem.W.fnOf "places_in" "places_in" (defArgs (top 19)) (defBody (top 19)) (defScope (top 19)) .none kV_places_in dc_places_in pm_places_in an_places_in cd_places_in ct_places_in), sl_places_in⟩)
    (c_places_in : PySem.W.codeIn K cd_places_in "places_in" = true)
    (k_places_in : PySem.W.keepIn K (.ref f_places_in) = true)
    (a_in_row : PySem.W.nsIn K mainGlobals "in_row" = some (some (.ref f_in_row)))
    (l_in_row : K.lookup f_in_row = some ⟨oc_in_row, od_in_row, .func (PySem.W.fnOf "in_row" "in_row" (defArgs (top 20)) (defBody (top 20)) (defScope (top 20)) .none kV_in_row dc_in_row pm_in_row an_in_row cd_in_row ct_in_row), sl_in_row⟩)
    (c_in_row : PySem.W.codeIn K cd_in_row "in_row" = true)
    (k_in_row : PySem.W.keepIn K (.ref f_in_row) = true)
    (a_in_rows : PySem.W.nsIn K mainGlobals "in_rows" = some (some (.ref f_in_rows)))
    (l_in_rows : K.lookup f_in_rows = some ⟨oc_in_rows, od_in_rows, .func (PySem.W.fnOf "in_rows" "in_rows" (defArgs (top 21)) (defBody (top 21)) (defScope (top 21)) .none kV_in_rows dc_in_rows pm_in_rows an_in_rows cd_in_rows ct_in_rows), sl_in_rows⟩)
    (c_in_rows : PySem.W.codeIn K cd_in_rows "in_rows" = true)
    (k_in_rows : PySem.W.keepIn K (.ref f_in_rows) = true)
    (a__law_draws : PySem.W.nsIn K mainGlobals "_law_draws" = some (some (.ref f__law_draws)))
    (l__law_draws : K.lookup f__law_draws = some ⟨oc__law_draws, od__law_draws, .func (PySem.W.fnOf "_law_draws" "_law_draws" (defArgs (top 31)) (defBody (top 31)) (defScope (top 31)) .none kV__law_draws dc__law_draws pm__law_draws an__law_draws cd__law_draws ct__law_draws), sl__law_draws⟩)
    (c__law_draws : PySem.W.codeIn K cd__law_draws "_law_draws" = true)
    (k__law_draws : PySem.W.keepIn K (.ref f__law_draws) = true)
    (a__law_draw : PySem.W.nsIn K mainGlobals "_law_draw" = some (some (.ref f__law_draw)))
    (l__law_draw : K.lookup f__law_draw = some ⟨oc__law_draw, od__law_draw, .func (PySem.W.fnOf "_law_draw" "_law_draw" (defArgs (top 32)) (defBody (top 32)) (defScope (top 32)) .none kV__law_draw dc__law_draw pm__law_draw an__law_draw cd__law_draw ct__law_draw), sl__law_draw⟩)
    (c__law_draw : PySem.W.codeIn K cd__law_draw "_law_draw" = true)
    (k__law_draw : PySem.W.keepIn K (.ref f__law_draw) = true)
    (a__law_same : PySem.W.nsIn K mainGlobals "_law_same" = some (some (.ref f__law_same)))
    (l__law_same : K.lookup f__law_same = some ⟨oc__law_same, od__law_same, .func (PySem.W.fnOf "_law_same" "_law_same" (defArgs (top 33)) (defBody (top 33)) (defScope (top 33)) .none kV__law_same dc__law_same pm__law_same an__law_same cd__law_same ct__law_same), sl__law_same⟩)
    (c__law_same : PySem.W.codeIn K cd__law_same "_law_same" = true)
    (k__law_same : PySem.W.keepIn K (.ref f__law_same) = true)
    (a__law_ones : PySem.W.nsIn K mainGlobals "_law_ones" = some (some (.ref f__law_ones)))
    (l__law_ones : K.lookup f__law_ones = some ⟨oc__law_ones, od__law_ones, .func (PySem.W.fnOf "_law_ones" "_law_ones" (defArgs (top 34)) (defBody (top 34)) (defScope (top 34)) .none kV__law_ones dc__law_ones pm__law_ones an__law_ones cd__law_ones ct__law_ones), sl__law_ones⟩)
    (c__law_ones : PySem.W.codeIn K cd__law_ones "_law_ones" = true)
    (k__law_ones : PySem.W.keepIn K (.ref f__law_ones) = true)
    (a_law : PySem.W.nsIn K mainGlobals "law" = some (some (.ref f_law)))
    (l_law : K.lookup f_law = some ⟨oc_law, od_law, .func (PySem.W.fnOf "law" "law" (defArgs (top 35)) (defBody (top 35)) (defScope (top 35)) .none kV_law dc_law pm_law an_law cd_law ct_law), sl_law⟩)
    (c_law : PySem.W.codeIn K cd_law "law" = true)
    (k_law : PySem.W.keepIn K (.ref f_law) = true)
    (a_TableScale___init__ : PySem.W.findIn K (.ref C_TableScale) "__init__" = some (some (.ref f_TableScale___init__)))
    (i_TableScale___init__ : PySem.W.isFn K (.ref f_TableScale___init__) = true)
    (l_TableScale___init__ : K.lookup f_TableScale___init__ = some ⟨oc_TableScale___init__, od_TableScale___init__, .func (PySem.W.fnOf "__init__" "TableScale.__init__" (defArgs (inClass (top 16) 0)) (defBody (inClass (top 16) 0)) (defScope (inClass (top 16) 0)) .none kV_TableScale___init__ dc_TableScale___init__ pm_TableScale___init__ an_TableScale___init__ cd_TableScale___init__ ct_TableScale___init__), sl_TableScale___init__⟩)
    (c_TableScale___init__ : PySem.W.codeIn K cd_TableScale___init__ "TableScale.__init__" = true)
    (k_TableScale___init__ : PySem.W.keepIn K (.ref f_TableScale___init__) = true)
    (a_TableScale_sum_at : PySem.W.findIn K (.ref C_TableScale) "sum_at" = some (some (.ref f_TableScale_sum_at)))
    (i_TableScale_sum_at : PySem.W.isFn K (.ref f_TableScale_sum_at) = true)
    (l_TableScale_sum_at : K.lookup f_TableScale_sum_at = some ⟨oc_TableScale_sum_at, od_TableScale_sum_at, .func (PySem.W.fnOf "sum_at" "TableScale.sum_at" (defArgs (inClass (top 16) 1)) (defBody (inClass (top 16) 1)) (defScope (inClass (top 16) 1)) .none kV_TableScale_sum_at dc_TableScale_sum_at pm_TableScale_sum_at an_TableScale_sum_at cd_TableScale_sum_at ct_TableScale_sum_at), sl_TableScale_sum_at⟩)
    (c_TableScale_sum_at : PySem.W.codeIn K cd_TableScale_sum_at "TableScale.sum_at" = true)
    (k_TableScale_sum_at : PySem.W.keepIn K (.ref f_TableScale_sum_at) = true)
    (a_TableScale_times_at : PySem.W.findIn K (.ref C_TableScale) "times_at" = some (some (.ref f_TableScale_times_at)))
    (i_TableScale_times_at : PySem.W.isFn K (.ref f_TableScale_times_at) = true)
    (l_TableScale_times_at : K.lookup f_TableScale_times_at = some ⟨oc_TableScale_times_at, od_TableScale_times_at, .func (PySem.W.fnOf "times_at" "Scale.times_at" (defArgs (inClass (top 14) 10)) (defBody (inClass (top 14) 10)) (defScope (inClass (top 14) 10)) .none kV_TableScale_times_at dc_TableScale_times_at pm_TableScale_times_at an_TableScale_times_at cd_TableScale_times_at ct_TableScale_times_at), sl_TableScale_times_at⟩)
    (c_TableScale_times_at : PySem.W.codeIn K cd_TableScale_times_at "Scale.times_at" = true)
    (k_TableScale_times_at : PySem.W.keepIn K (.ref f_TableScale_times_at) = true)
    (a_TableScale_ones : PySem.W.findIn K (.ref C_TableScale) "ones" = some (some (.ref f_TableScale_ones)))
    (i_TableScale_ones : PySem.W.isFn K (.ref f_TableScale_ones) = true)
    (l_TableScale_ones : K.lookup f_TableScale_ones = some ⟨oc_TableScale_ones, od_TableScale_ones, .func (PySem.W.fnOf "ones" "Scale.ones" (defArgs (inClass (top 14) 11)) (defBody (inClass (top 14) 11)) (defScope (inClass (top 14) 11)) .none kV_TableScale_ones dc_TableScale_ones pm_TableScale_ones an_TableScale_ones cd_TableScale_ones ct_TableScale_ones), sl_TableScale_ones⟩)
    (c_TableScale_ones : PySem.W.codeIn K cd_TableScale_ones "Scale.ones" = true)
    (k_TableScale_ones : PySem.W.keepIn K (.ref f_TableScale_ones) = true)
    (a_TurnedScale___init__ : PySem.W.findIn K (.ref C_TurnedScale) "__init__" = some (some (.ref f_TurnedScale___init__)))
    (i_TurnedScale___init__ : PySem.W.isFn K (.ref f_TurnedScale___init__) = true)
    (l_TurnedScale___init__ : K.lookup f_TurnedScale___init__ = some ⟨oc_TurnedScale___init__, od_TurnedScale___init__, .func (PySem.W.fnOf "__init__" "TurnedScale.__init__" (defArgs (inClass (top 26) 0)) (defBody (inClass (top 26) 0)) (defScope (inClass (top 26) 0)) .none kV_TurnedScale___init__ dc_TurnedScale___init__ pm_TurnedScale___init__ an_TurnedScale___init__ cd_TurnedScale___init__ ct_TurnedScale___init__), sl_TurnedScale___init__⟩)
    (c_TurnedScale___init__ : PySem.W.codeIn K cd_TurnedScale___init__ "TurnedScale.__init__" = true)
    (k_TurnedScale___init__ : PySem.W.keepIn K (.ref f_TurnedScale___init__) = true)
    (a_TurnedScale_times_at : PySem.W.findIn K (.ref C_TurnedScale) "times_at" = some (some (.ref f_TurnedScale_times_at)))
    (i_TurnedScale_times_at : PySem.W.isFn K (.ref f_TurnedScale_times_at) = true)
    (l_TurnedScale_times_at : K.lookup f_TurnedScale_times_at = some ⟨oc_TurnedScale_times_at, od_TurnedScale_times_at, .func (PySem.W.fnOf "times_at" "TurnedScale.times_at" (defArgs (inClass (top 26) 7)) (defBody (inClass (top 26) 7)) (defScope (inClass (top 26) 7)) .none kV_TurnedScale_times_at dc_TurnedScale_times_at pm_TurnedScale_times_at an_TurnedScale_times_at cd_TurnedScale_times_at ct_TurnedScale_times_at), sl_TurnedScale_times_at⟩)
    (c_TurnedScale_times_at : PySem.W.codeIn K cd_TurnedScale_times_at "TurnedScale.times_at" = true)
    (k_TurnedScale_times_at : PySem.W.keepIn K (.ref f_TurnedScale_times_at) = true)
    (a_CutScale___init__ : PySem.W.findIn K (.ref C_CutScale) "__init__" = some (some (.ref f_CutScale___init__)))
    (i_CutScale___init__ : PySem.W.isFn K (.ref f_CutScale___init__) = true)
    (l_CutScale___init__ : K.lookup f_CutScale___init__ = some ⟨oc_CutScale___init__, od_CutScale___init__, .func (PySem.W.fnOf "__init__" "CutScale.__init__" (defArgs (inClass (top 24) 0)) (defBody (inClass (top 24) 0)) (defScope (inClass (top 24) 0)) .none (.ref D_CutScale___init__) dc_CutScale___init__ pm_CutScale___init__ an_CutScale___init__ cd_CutScale___init__ ct_CutScale___init__), sl_CutScale___init__⟩)
    (c_CutScale___init__ : PySem.W.codeIn K cd_CutScale___init__ "CutScale.__init__" = true)
    (k_CutScale___init__ : PySem.W.keepIn K (.ref f_CutScale___init__) = true)
    (kw_CutScale___init___period : PySem.W.nsIn K D_CutScale___init__ "period" = some (some (.int 1 tk_CutScale___init___period)))
    (kw_CutScale___init___order : PySem.W.nsIn K D_CutScale___init__ "order" = some (some (.str "same" tk_CutScale___init___order)))
    (a_CutScale_brought_back : PySem.W.findIn K (.ref C_CutScale) "brought_back" = some (some (.ref f_CutScale_brought_back)))
    (i_CutScale_brought_back : PySem.W.isFn K (.ref f_CutScale_brought_back) = true)
    (l_CutScale_brought_back : K.lookup f_CutScale_brought_back = some ⟨oc_CutScale_brought_back, od_CutScale_brought_back, .func (PySem.W.fnOf "brought_back" "CutScale.brought_back" (defArgs (inClass (top 24) 1)) (defBody (inClass (top 24) 1)) (defScope (inClass (top 24) 1)) .none kV_CutScale_brought_back dc_CutScale_brought_back pm_CutScale_brought_back an_CutScale_brought_back cd_CutScale_brought_back ct_CutScale_brought_back), sl_CutScale_brought_back⟩)
    (c_CutScale_brought_back : PySem.W.codeIn K cd_CutScale_brought_back "CutScale.brought_back" = true)
    (k_CutScale_brought_back : PySem.W.keepIn K (.ref f_CutScale_brought_back) = true)
    (a_CutScale_sum_at : PySem.W.findIn K (.ref C_CutScale) "sum_at" = some (some (.ref f_CutScale_sum_at)))
    (i_CutScale_sum_at : PySem.W.isFn K (.ref f_CutScale_sum_at) = true)
    (l_CutScale_sum_at : K.lookup f_CutScale_sum_at = some ⟨oc_CutScale_sum_at, od_CutScale_sum_at, .func (PySem.W.fnOf "sum_at" "CutScale.sum_at" (defArgs (inClass (top 24) 2)) (defBody (inClass (top 24) 2)) (defScope (inClass (top 24) 2)) .none kV_CutScale_sum_at dc_CutScale_sum_at pm_CutScale_sum_at an_CutScale_sum_at cd_CutScale_sum_at ct_CutScale_sum_at), sl_CutScale_sum_at⟩)
    (c_CutScale_sum_at : PySem.W.codeIn K cd_CutScale_sum_at "CutScale.sum_at" = true)
    (k_CutScale_sum_at : PySem.W.keepIn K (.ref f_CutScale_sum_at) = true)
    (a_CutScale_times_at : PySem.W.findIn K (.ref C_CutScale) "times_at" = some (some (.ref f_CutScale_times_at)))
    (i_CutScale_times_at : PySem.W.isFn K (.ref f_CutScale_times_at) = true)
    (l_CutScale_times_at : K.lookup f_CutScale_times_at = some ⟨oc_CutScale_times_at, od_CutScale_times_at, .func (PySem.W.fnOf "times_at" "Scale.times_at" (defArgs (inClass (top 14) 10)) (defBody (inClass (top 14) 10)) (defScope (inClass (top 14) 10)) .none kV_CutScale_times_at dc_CutScale_times_at pm_CutScale_times_at an_CutScale_times_at cd_CutScale_times_at ct_CutScale_times_at), sl_CutScale_times_at⟩)
    (c_CutScale_times_at : PySem.W.codeIn K cd_CutScale_times_at "Scale.times_at" = true)
    (k_CutScale_times_at : PySem.W.keepIn K (.ref f_CutScale_times_at) = true)
    (a_CutScale_ones : PySem.W.findIn K (.ref C_CutScale) "ones" = some (some (.ref f_CutScale_ones)))
    (i_CutScale_ones : PySem.W.isFn K (.ref f_CutScale_ones) = true)
    (l_CutScale_ones : K.lookup f_CutScale_ones = some ⟨oc_CutScale_ones, od_CutScale_ones, .func (PySem.W.fnOf "ones" "Scale.ones" (defArgs (inClass (top 14) 11)) (defBody (inClass (top 14) 11)) (defScope (inClass (top 14) 11)) .none kV_CutScale_ones dc_CutScale_ones pm_CutScale_ones an_CutScale_ones cd_CutScale_ones ct_CutScale_ones), sl_CutScale_ones⟩)
    (c_CutScale_ones : PySem.W.codeIn K cd_CutScale_ones "Scale.ones" = true)
    (k_CutScale_ones : PySem.W.keepIn K (.ref f_CutScale_ones) = true)
    (a_PairScale___init__ : PySem.W.findIn K (.ref C_PairScale) "__init__" = some (some (.ref f_PairScale___init__)))
    (i_PairScale___init__ : PySem.W.isFn K (.ref f_PairScale___init__) = true)
    (l_PairScale___init__ : K.lookup f_PairScale___init__ = some ⟨oc_PairScale___init__, od_PairScale___init__, .func (PySem.W.fnOf "__init__" "PairScale.__init__" (defArgs (inClass (top 25) 0)) (defBody (inClass (top 25) 0)) (defScope (inClass (top 25) 0)) .none kV_PairScale___init__ dc_PairScale___init__ pm_PairScale___init__ an_PairScale___init__ cd_PairScale___init__ ct_PairScale___init__), sl_PairScale___init__⟩)
    (c_PairScale___init__ : PySem.W.codeIn K cd_PairScale___init__ "PairScale.__init__" = true)
    (k_PairScale___init__ : PySem.W.keepIn K (.ref f_PairScale___init__) = true)
    (a_PairScale_times_at : PySem.W.findIn K (.ref C_PairScale) "times_at" = some (some (.ref f_PairScale_times_at)))
    (i_PairScale_times_at : PySem.W.isFn K (.ref f_PairScale_times_at) = true)
    (l_PairScale_times_at : K.lookup f_PairScale_times_at = some ⟨oc_PairScale_times_at, od_PairScale_times_at, .func (PySem.W.fnOf "times_at" "PairScale.times_at" (defArgs (inClass (top 25) 8)) (defBody (inClass (top 25) 8)) (defScope (inClass (top 25) 8)) .none kV_PairScale_times_at dc_PairScale_times_at pm_PairScale_times_at an_PairScale_times_at cd_PairScale_times_at ct_PairScale_times_at), sl_PairScale_times_at⟩)
    (c_PairScale_times_at : PySem.W.codeIn K cd_PairScale_times_at "PairScale.times_at" = true)
    (k_PairScale_times_at : PySem.W.keepIn K (.ref f_PairScale_times_at) = true)
    (a_ExactTally___init__ : PySem.W.findIn K (.ref C_ExactTally) "__init__" = some (some (.ref f_ExactTally___init__)))
    (i_ExactTally___init__ : PySem.W.isFn K (.ref f_ExactTally___init__) = true)
    (l_ExactTally___init__ : K.lookup f_ExactTally___init__ = some ⟨oc_ExactTally___init__, od_ExactTally___init__, .func (PySem.W.fnOf "__init__" "ExactTally.__init__" (defArgs (inClass (top 29) 0)) (defBody (inClass (top 29) 0)) (defScope (inClass (top 29) 0)) .none kV_ExactTally___init__ dc_ExactTally___init__ pm_ExactTally___init__ an_ExactTally___init__ cd_ExactTally___init__ ct_ExactTally___init__), sl_ExactTally___init__⟩)
    (c_ExactTally___init__ : PySem.W.codeIn K cd_ExactTally___init__ "ExactTally.__init__" = true)
    (k_ExactTally___init__ : PySem.W.keepIn K (.ref f_ExactTally___init__) = true)
    (a_ExactTally_times_at : PySem.W.findIn K (.ref C_ExactTally) "times_at" = some (some (.ref f_ExactTally_times_at)))
    (i_ExactTally_times_at : PySem.W.isFn K (.ref f_ExactTally_times_at) = true)
    (l_ExactTally_times_at : K.lookup f_ExactTally_times_at = some ⟨oc_ExactTally_times_at, od_ExactTally_times_at, .func (PySem.W.fnOf "times_at" "Tally.times_at" (defArgs (inClass (top 28) 6)) (defBody (inClass (top 28) 6)) (defScope (inClass (top 28) 6)) .none kV_ExactTally_times_at dc_ExactTally_times_at pm_ExactTally_times_at an_ExactTally_times_at cd_ExactTally_times_at ct_ExactTally_times_at), sl_ExactTally_times_at⟩)
    (c_ExactTally_times_at : PySem.W.codeIn K cd_ExactTally_times_at "Tally.times_at" = true)
    (k_ExactTally_times_at : PySem.W.keepIn K (.ref f_ExactTally_times_at) = true)
    (a_cf_Scale___init__ : PySem.W.findCls K (.ref C_Scale) (.type "type") "__init__" = some (.val (.ref f_cf_Scale___init__)))
    (l_cf_Scale___init__ : K.lookup f_cf_Scale___init__ = some ⟨oc_cf_Scale___init__, od_cf_Scale___init__, .func (PySem.W.fnOf "__init__" "Scale.__init__" (defArgs (inClass (top 14) 0)) (defBody (inClass (top 14) 0)) (defScope (inClass (top 14) 0)) .none kV_cf_Scale___init__ dc_cf_Scale___init__ pm_cf_Scale___init__ an_cf_Scale___init__ cd_cf_Scale___init__ ct_cf_Scale___init__), sl_cf_Scale___init__⟩)
    (c_cf_Scale___init__ : PySem.W.codeIn K cd_cf_Scale___init__ "Scale.__init__" = true)
    (k_cf_Scale___init__ : PySem.W.keepIn K (.ref f_cf_Scale___init__) = true)
    (rd_cf_Scale___init__ : PySem.W.readsIn K C_Scale (.type "type") = true)
    (ga_cf_Scale___init__ : PySem.W.specialIn K (.ref C_Scale) "__getattribute__" = some (some (.builtin "type.__getattribute__")))
    (a_cf_ListedScale___init__ : PySem.W.findCls K (.ref C_ListedScale) (.type "type") "__init__" = some (.val (.ref f_cf_ListedScale___init__)))
    (l_cf_ListedScale___init__ : K.lookup f_cf_ListedScale___init__ = some ⟨oc_cf_ListedScale___init__, od_cf_ListedScale___init__, .func (PySem.W.fnOf "__init__" "ListedScale.__init__" (defArgs (inClass (top 15) 0)) (defBody (inClass (top 15) 0)) (defScope (inClass (top 15) 0)) .none kV_cf_ListedScale___init__ dc_cf_ListedScale___init__ pm_cf_ListedScale___init__ an_cf_ListedScale___init__ cd_cf_ListedScale___init__ ct_cf_ListedScale___init__), sl_cf_ListedScale___init__⟩)
    (c_cf_ListedScale___init__ : PySem.W.codeIn K cd_cf_ListedScale___init__ "ListedScale.__init__" = true)
    (k_cf_ListedScale___init__ : PySem.W.keepIn K (.ref f_cf_ListedScale___init__) = true)
    (rd_cf_ListedScale___init__ : PySem.W.readsIn K C_ListedScale (.type "type") = true)
    (ga_cf_ListedScale___init__ : PySem.W.specialIn K (.ref C_ListedScale) "__getattribute__" = some (some (.builtin "type.__getattribute__")))
    (a_cf_Tally___init__ : PySem.W.findCls K (.ref C_Tally) (.type "type") "__init__" = some (.val (.ref f_cf_Tally___init__)))
    (l_cf_Tally___init__ : K.lookup f_cf_Tally___init__ = some ⟨oc_cf_Tally___init__, od_cf_Tally___init__, .func (PySem.W.fnOf "__init__" "Tally.__init__" (defArgs (inClass (top 28) 0)) (defBody (inClass (top 28) 0)) (defScope (inClass (top 28) 0)) .none kV_cf_Tally___init__ dc_cf_Tally___init__ pm_cf_Tally___init__ an_cf_Tally___init__ cd_cf_Tally___init__ ct_cf_Tally___init__), sl_cf_Tally___init__⟩)
    (c_cf_Tally___init__ : PySem.W.codeIn K cd_cf_Tally___init__ "Tally.__init__" = true)
    (k_cf_Tally___init__ : PySem.W.keepIn K (.ref f_cf_Tally___init__) = true)
    (rd_cf_Tally___init__ : PySem.W.readsIn K C_Tally (.type "type") = true)
    (ga_cf_Tally___init__ : PySem.W.specialIn K (.ref C_Tally) "__getattribute__" = some (some (.builtin "type.__getattribute__")))
    (n_TableScale_label : PySem.W.findIn K (.ref C_TableScale) "label" = some none)
    (n_TableScale_size : PySem.W.findIn K (.ref C_TableScale) "size" = some none)
    (n_TableScale_zero_at : PySem.W.findIn K (.ref C_TableScale) "zero_at" = some none)
    (n_TableScale_one_at : PySem.W.findIn K (.ref C_TableScale) "one_at" = some none)
    (n_TableScale_depth : PySem.W.findIn K (.ref C_TableScale) "depth" = some none)
    (n_TableScale__names : PySem.W.findIn K (.ref C_TableScale) "_names" = some none)
    (n_TableScale__found : PySem.W.findIn K (.ref C_TableScale) "_found" = some none)
    (n_TableScale__within : PySem.W.findIn K (.ref C_TableScale) "_within" = some none)
    (n_TableScale__sums : PySem.W.findIn K (.ref C_TableScale) "_sums" = some none)
    (n_TableScale__products : PySem.W.findIn K (.ref C_TableScale) "_products" = some none)
    (n_TurnedScale_label : PySem.W.findIn K (.ref C_TurnedScale) "label" = some none)
    (n_TurnedScale_size : PySem.W.findIn K (.ref C_TurnedScale) "size" = some none)
    (n_TurnedScale_zero_at : PySem.W.findIn K (.ref C_TurnedScale) "zero_at" = some none)
    (n_TurnedScale_one_at : PySem.W.findIn K (.ref C_TurnedScale) "one_at" = some none)
    (n_TurnedScale_depth : PySem.W.findIn K (.ref C_TurnedScale) "depth" = some none)
    (n_TurnedScale_inner : PySem.W.findIn K (.ref C_TurnedScale) "inner" = some none)
    (n_CutScale_label : PySem.W.findIn K (.ref C_CutScale) "label" = some none)
    (n_CutScale_size : PySem.W.findIn K (.ref C_CutScale) "size" = some none)
    (n_CutScale_zero_at : PySem.W.findIn K (.ref C_CutScale) "zero_at" = some none)
    (n_CutScale_one_at : PySem.W.findIn K (.ref C_CutScale) "one_at" = some none)
    (n_CutScale_depth : PySem.W.findIn K (.ref C_CutScale) "depth" = some none)
    (n_CutScale__names : PySem.W.findIn K (.ref C_CutScale) "_names" = some none)
    (n_CutScale__found : PySem.W.findIn K (.ref C_CutScale) "_found" = some none)
    (n_CutScale__numbers : PySem.W.findIn K (.ref C_CutScale) "_numbers" = some none)
    (n_CutScale__start : PySem.W.findIn K (.ref C_CutScale) "_start" = some none)
    (n_CutScale__order : PySem.W.findIn K (.ref C_CutScale) "_order" = some none)
    (n_PairScale_label : PySem.W.findIn K (.ref C_PairScale) "label" = some none)
    (n_PairScale_size : PySem.W.findIn K (.ref C_PairScale) "size" = some none)
    (n_PairScale_zero_at : PySem.W.findIn K (.ref C_PairScale) "zero_at" = some none)
    (n_PairScale_one_at : PySem.W.findIn K (.ref C_PairScale) "one_at" = some none)
    (n_PairScale_depth : PySem.W.findIn K (.ref C_PairScale) "depth" = some none)
    (n_PairScale_left : PySem.W.findIn K (.ref C_PairScale) "left" = some none)
    (n_PairScale_right : PySem.W.findIn K (.ref C_PairScale) "right" = some none)
    (n_ExactTally_label : PySem.W.findIn K (.ref C_ExactTally) "label" = some none)
    (n_ExactTally_size : PySem.W.findIn K (.ref C_ExactTally) "size" = some none)
    (n_ExactTally_zero_at : PySem.W.findIn K (.ref C_ExactTally) "zero_at" = some none)
    (n_ExactTally_one_at : PySem.W.findIn K (.ref C_ExactTally) "one_at" = some none)
    (n_ExactTally_depth : PySem.W.findIn K (.ref C_ExactTally) "depth" = some none)
    (z_int : PySem.W.nsIn K mainGlobals "int" = some none)
    (z_len : PySem.W.nsIn K mainGlobals "len" = some none)
    (z_range : PySem.W.nsIn K mainGlobals "range" = some none)
    (z_isinstance : PySem.W.nsIn K mainGlobals "isinstance" = some none)
    (z_bool : PySem.W.nsIn K mainGlobals "bool" = some none)
    (z_str : PySem.W.nsIn K mainGlobals "str" = some none)
    (z_tuple : PySem.W.nsIn K mainGlobals "tuple" = some none)
    (z_list : PySem.W.nsIn K mainGlobals "list" = some none)
    (z_set : PySem.W.nsIn K mainGlobals "set" = some none)
    (z_any : PySem.W.nsIn K mainGlobals "any" = some none)
    (z_all : PySem.W.nsIn K mainGlobals "all" = some none)
    (g_MOST_DEPTH : PySem.W.nsIn K mainGlobals "MOST_DEPTH" = some (some (.int 20 t_MOST_DEPTH)))
    (g_MOST_GRADES : PySem.W.nsIn K mainGlobals "MOST_GRADES" = some (some (.int 64 t_MOST_GRADES)))
    (g_MOST_NAMES : PySem.W.nsIn K mainGlobals "MOST_NAMES" = some (some (.int 16 t_MOST_NAMES)))
    (g_MOST_SIGNS : PySem.W.nsIn K mainGlobals "MOST_SIGNS" = some (some (.int 12 t_MOST_SIGNS)))
    (g_NS : PySem.W.nsIn K mainGlobals "NAME_SIGNS" = some (some (.str "abcdefghijklmnopqrstuvwxyz0123456789" tNS)))
    (g_ORDERS : PySem.W.nsIn K mainGlobals "ORDERS" = some (some (.ref aO)))
    (l_ORDERS : K.lookup aO = some ⟨.type "tuple", dO, .seq #[.str "same" t1, .str "up" t2, .str "down" t3] nO, slO⟩)
    : ∃ fd : FuncData, (∀ (s : Shared) (v : Value), BindsTo s fd ⟨[v], []⟩ [("_law_script", v)]) ∧ ∀ base : Heap, K.In base → base.Ns mainGlobals mg → FnOk l.prog w K mg base CX0 24 fa fd ["_law_script"] (spLaw K) := by
  have e := hfa.symm.trans (PySem.W.mg_of X G a_law)
  cases e
  have g_TableScale := PySem.W.mg_of X G aC_TableScale
  have cl_TableScale : Cls K C_TableScale := ⟨pg_TableScale, hd_TableScale, po_TableScale, sa_TableScale⟩
  have g_TurnedScale := PySem.W.mg_of X G aC_TurnedScale
  have cl_TurnedScale : Cls K C_TurnedScale := ⟨pg_TurnedScale, hd_TurnedScale, po_TurnedScale, sa_TurnedScale⟩
  have g_CutScale := PySem.W.mg_of X G aC_CutScale
  have cl_CutScale : Cls K C_CutScale := ⟨pg_CutScale, hd_CutScale, po_CutScale, sa_CutScale⟩
  have g_PairScale := PySem.W.mg_of X G aC_PairScale
  have cl_PairScale : Cls K C_PairScale := ⟨pg_PairScale, hd_PairScale, po_PairScale, sa_PairScale⟩
  have g_ExactTally := PySem.W.mg_of X G aC_ExactTally
  have cl_ExactTally : Cls K C_ExactTally := ⟨pg_ExactTally, hd_ExactTally, po_ExactTally, sa_ExactTally⟩
  have g_Scale := PySem.W.mg_of X G aC_Scale
  have g_ListedScale := PySem.W.mg_of X G aC_ListedScale
  have g_Tally := PySem.W.mg_of X G aC_Tally
  have F_item_of_run := fun_mk (st := (top 3)) l_item_of_run c_item_of_run k_item_of_run
  have g_item_of_run := PySem.W.mg_of X G a_item_of_run
  have b_item_of_run := F_item_of_run.binds (ps := ["trail", "back", "index"]) fun _ _ _ _ _ _ us hl => match us, hl with | [_, _, _], _ => rfl
  have F_greater := fun_mk (st := (top 2)) l_greater c_greater k_greater
  have g_greater := PySem.W.mg_of X G a_greater
  have b_greater := F_greater.binds (ps := ["first", "second"]) fun _ _ _ _ _ _ us hl => match us, hl with | [_, _], _ => rfl
  have F_check_names := fun_mk (st := (top 17)) l_check_names c_check_names k_check_names
  have g_check_names := PySem.W.mg_of X G a_check_names
  have b_check_names := F_check_names.binds (ps := ["names"]) fun _ _ _ _ _ _ us hl => match us, hl with | [_], _ => rfl
  have F_check_table := fun_mk (st := (top 18)) l_check_table c_check_table k_check_table
  have g_check_table := PySem.W.mg_of X G a_check_table
  have b_check_table := F_check_table.binds (ps := ["table", "size"]) fun _ _ _ _ _ _ us hl => match us, hl with | [_, _], _ => rfl
  have F_places_in := fun_mk (st := (top 19)) l_places_in c_places_in k_places_in
  have g_places_in := PySem.W.mg_of X G a_places_in
  have b_places_in := F_places_in.binds (ps := ["table", "found"]) fun _ _ _ _ _ _ us hl => match us, hl with | [_, _], _ => rfl
  have F_in_row := fun_mk (st := (top 20)) l_in_row c_in_row k_in_row
  have g_in_row := PySem.W.mg_of X G a_in_row
  have b_in_row := F_in_row.binds (ps := ["words"]) fun _ _ _ _ _ _ us hl => match us, hl with | [_], _ => rfl
  have F_in_rows := fun_mk (st := (top 21)) l_in_rows c_in_rows k_in_rows
  have g_in_rows := PySem.W.mg_of X G a_in_rows
  have b_in_rows := F_in_rows.binds (ps := ["table"]) fun _ _ _ _ _ _ us hl => match us, hl with | [_], _ => rfl
  have F__law_draws := fun_mk (st := (top 31)) l__law_draws c__law_draws k__law_draws
  have g__law_draws := PySem.W.mg_of X G a__law_draws
  have b__law_draws := F__law_draws.binds (ps := ["_law_script"]) fun _ _ _ _ _ _ us hl => match us, hl with | [_], _ => rfl
  have F__law_draw := fun_mk (st := (top 32)) l__law_draw c__law_draw k__law_draw
  have g__law_draw := PySem.W.mg_of X G a__law_draw
  have b__law_draw := F__law_draw.binds (ps := ["_law_state", "_law_many"]) fun _ _ _ _ _ _ us hl => match us, hl with | [_, _], _ => rfl
  have F__law_same := fun_mk (st := (top 33)) l__law_same c__law_same k__law_same
  have g__law_same := PySem.W.mg_of X G a__law_same
  have b__law_same := F__law_same.binds (ps := ["_law_found", "_law_due"]) fun _ _ _ _ _ _ us hl => match us, hl with | [_, _], _ => rfl
  have F__law_ones := fun_mk (st := (top 34)) l__law_ones c__law_ones k__law_ones
  have g__law_ones := PySem.W.mg_of X G a__law_ones
  have b__law_ones := F__law_ones.binds (ps := ["_law_sums", "_law_least", "_law_unit", "_law_count"]) fun _ _ _ _ _ _ us hl => match us, hl with | [_, _, _, _], _ => rfl
  have F_law := fun_mk (st := (top 35)) l_law c_law k_law
  have g_law := PySem.W.mg_of X G a_law
  have F_TableScale___init__ := fun_mk (st := (inClass (top 16) 0)) l_TableScale___init__ c_TableScale___init__ k_TableScale___init__
  have me_TableScale___init__ : Meth K C_TableScale "__init__" f_TableScale___init__ := ⟨a_TableScale___init__, i_TableScale___init__, k_TableScale___init__⟩
  have F_TableScale_sum_at := fun_mk (st := (inClass (top 16) 1)) l_TableScale_sum_at c_TableScale_sum_at k_TableScale_sum_at
  have me_TableScale_sum_at : Meth K C_TableScale "sum_at" f_TableScale_sum_at := ⟨a_TableScale_sum_at, i_TableScale_sum_at, k_TableScale_sum_at⟩
  have b_TableScale_sum_at := F_TableScale_sum_at.binds (ps := ["self", "first", "second"]) fun _ _ _ _ _ _ us hl => match us, hl with | [_, _, _], _ => rfl
  have F_TableScale_times_at := fun_mk (st := (inClass (top 14) 10)) l_TableScale_times_at c_TableScale_times_at k_TableScale_times_at
  have me_TableScale_times_at : Meth K C_TableScale "times_at" f_TableScale_times_at := ⟨a_TableScale_times_at, i_TableScale_times_at, k_TableScale_times_at⟩
  have b_TableScale_times_at := F_TableScale_times_at.binds (ps := ["self", "count"]) fun _ _ _ _ _ _ us hl => match us, hl with | [_, _], _ => rfl
  have F_TableScale_ones := fun_mk (st := (inClass (top 14) 11)) l_TableScale_ones c_TableScale_ones k_TableScale_ones
  have me_TableScale_ones : Meth K C_TableScale "ones" f_TableScale_ones := ⟨a_TableScale_ones, i_TableScale_ones, k_TableScale_ones⟩
  have b_TableScale_ones := F_TableScale_ones.binds (ps := ["self"]) fun _ _ _ _ _ _ us hl => match us, hl with | [_], _ => rfl
  have F_TurnedScale___init__ := fun_mk (st := (inClass (top 26) 0)) l_TurnedScale___init__ c_TurnedScale___init__ k_TurnedScale___init__
  have me_TurnedScale___init__ : Meth K C_TurnedScale "__init__" f_TurnedScale___init__ := ⟨a_TurnedScale___init__, i_TurnedScale___init__, k_TurnedScale___init__⟩
  have b_TurnedScale___init__ := F_TurnedScale___init__.binds (ps := ["self", "inner"]) fun _ _ _ _ _ _ us hl => match us, hl with | [_, _], _ => rfl
  have F_TurnedScale_times_at := fun_mk (st := (inClass (top 26) 7)) l_TurnedScale_times_at c_TurnedScale_times_at k_TurnedScale_times_at
  have me_TurnedScale_times_at : Meth K C_TurnedScale "times_at" f_TurnedScale_times_at := ⟨a_TurnedScale_times_at, i_TurnedScale_times_at, k_TurnedScale_times_at⟩
  have b_TurnedScale_times_at := F_TurnedScale_times_at.binds (ps := ["self", "count"]) fun _ _ _ _ _ _ us hl => match us, hl with | [_, _], _ => rfl
  have F_CutScale___init__ := fun_mk (st := (inClass (top 24) 0)) l_CutScale___init__ c_CutScale___init__ k_CutScale___init__
  have FD_CutScale___init__ : FunD K "__init__" "CutScale.__init__" (defArgs (inClass (top 24) 0)) (defBody (inClass (top 24) 0)) (defScope (inClass (top 24) 0)) [] [("period", .int 1), ("order", .str "same")] f_CutScale___init__ _ := ⟨⟨_, _, _, _, _, _, _, _, _, _, rfl, l_CutScale___init__, c_CutScale___init__, .inl ⟨rfl, rfl⟩, .inr ⟨_, rfl, (List.forall_mem_cons.mpr ⟨⟨_, kw_CutScale___init___period, ⟨_, rfl⟩⟩, (List.forall_mem_cons.mpr ⟨⟨_, kw_CutScale___init___order, ⟨_, rfl⟩⟩, List.forall_mem_nil _⟩)⟩)⟩⟩, k_CutScale___init__⟩
  have me_CutScale___init__ : Meth K C_CutScale "__init__" f_CutScale___init__ := ⟨a_CutScale___init__, i_CutScale___init__, k_CutScale___init__⟩
  have F_CutScale_brought_back := fun_mk (st := (inClass (top 24) 1)) l_CutScale_brought_back c_CutScale_brought_back k_CutScale_brought_back
  have me_CutScale_brought_back : Meth K C_CutScale "brought_back" f_CutScale_brought_back := ⟨a_CutScale_brought_back, i_CutScale_brought_back, k_CutScale_brought_back⟩
  have b_CutScale_brought_back := F_CutScale_brought_back.binds (ps := ["self", "number"]) fun _ _ _ _ _ _ us hl => match us, hl with | [_, _], _ => rfl
  have F_CutScale_sum_at := fun_mk (st := (inClass (top 24) 2)) l_CutScale_sum_at c_CutScale_sum_at k_CutScale_sum_at
  have me_CutScale_sum_at : Meth K C_CutScale "sum_at" f_CutScale_sum_at := ⟨a_CutScale_sum_at, i_CutScale_sum_at, k_CutScale_sum_at⟩
  have b_CutScale_sum_at := F_CutScale_sum_at.binds (ps := ["self", "first", "second"]) fun _ _ _ _ _ _ us hl => match us, hl with | [_, _, _], _ => rfl
  have F_CutScale_times_at := fun_mk (st := (inClass (top 14) 10)) l_CutScale_times_at c_CutScale_times_at k_CutScale_times_at
  have me_CutScale_times_at : Meth K C_CutScale "times_at" f_CutScale_times_at := ⟨a_CutScale_times_at, i_CutScale_times_at, k_CutScale_times_at⟩
  have b_CutScale_times_at := F_CutScale_times_at.binds (ps := ["self", "count"]) fun _ _ _ _ _ _ us hl => match us, hl with | [_, _], _ => rfl
  have F_CutScale_ones := fun_mk (st := (inClass (top 14) 11)) l_CutScale_ones c_CutScale_ones k_CutScale_ones
  have me_CutScale_ones : Meth K C_CutScale "ones" f_CutScale_ones := ⟨a_CutScale_ones, i_CutScale_ones, k_CutScale_ones⟩
  have b_CutScale_ones := F_CutScale_ones.binds (ps := ["self"]) fun _ _ _ _ _ _ us hl => match us, hl with | [_], _ => rfl
  have F_PairScale___init__ := fun_mk (st := (inClass (top 25) 0)) l_PairScale___init__ c_PairScale___init__ k_PairScale___init__
  have me_PairScale___init__ : Meth K C_PairScale "__init__" f_PairScale___init__ := ⟨a_PairScale___init__, i_PairScale___init__, k_PairScale___init__⟩
  have b_PairScale___init__ := F_PairScale___init__.binds (ps := ["self", "left", "right"]) fun _ _ _ _ _ _ us hl => match us, hl with | [_, _, _], _ => rfl
  have F_PairScale_times_at := fun_mk (st := (inClass (top 25) 8)) l_PairScale_times_at c_PairScale_times_at k_PairScale_times_at
  have me_PairScale_times_at : Meth K C_PairScale "times_at" f_PairScale_times_at := ⟨a_PairScale_times_at, i_PairScale_times_at, k_PairScale_times_at⟩
  have b_PairScale_times_at := F_PairScale_times_at.binds (ps := ["self", "count"]) fun _ _ _ _ _ _ us hl => match us, hl with | [_, _], _ => rfl
  have F_ExactTally___init__ := fun_mk (st := (inClass (top 29) 0)) l_ExactTally___init__ c_ExactTally___init__ k_ExactTally___init__
  have me_ExactTally___init__ : Meth K C_ExactTally "__init__" f_ExactTally___init__ := ⟨a_ExactTally___init__, i_ExactTally___init__, k_ExactTally___init__⟩
  have b_ExactTally___init__ := F_ExactTally___init__.binds (ps := ["self"]) fun _ _ _ _ _ _ us hl => match us, hl with | [_], _ => rfl
  have F_ExactTally_times_at := fun_mk (st := (inClass (top 28) 6)) l_ExactTally_times_at c_ExactTally_times_at k_ExactTally_times_at
  have me_ExactTally_times_at : Meth K C_ExactTally "times_at" f_ExactTally_times_at := ⟨a_ExactTally_times_at, i_ExactTally_times_at, k_ExactTally_times_at⟩
  have b_ExactTally_times_at := F_ExactTally_times_at.binds (ps := ["self", "count"]) fun _ _ _ _ _ _ us hl => match us, hl with | [_, _], _ => rfl
  have F_cf_Scale___init__ := fun_mk (st := (inClass (top 14) 0)) l_cf_Scale___init__ c_cf_Scale___init__ k_cf_Scale___init__
  have cfn_cf_Scale___init__ : CFn K C_Scale (.type "type") "__init__" f_cf_Scale___init__ := ⟨rd_cf_Scale___init__, ga_cf_Scale___init__, a_cf_Scale___init__, k_cf_Scale___init__⟩
  have b_cf_Scale___init__ := F_cf_Scale___init__.binds (ps := ["self", "label", "size", "zero_at", "one_at", "depth"]) fun _ _ _ _ _ _ us hl => match us, hl with | [_, _, _, _, _, _], _ => rfl
  have F_cf_ListedScale___init__ := fun_mk (st := (inClass (top 15) 0)) l_cf_ListedScale___init__ c_cf_ListedScale___init__ k_cf_ListedScale___init__
  have cfn_cf_ListedScale___init__ : CFn K C_ListedScale (.type "type") "__init__" f_cf_ListedScale___init__ := ⟨rd_cf_ListedScale___init__, ga_cf_ListedScale___init__, a_cf_ListedScale___init__, k_cf_ListedScale___init__⟩
  have b_cf_ListedScale___init__ := F_cf_ListedScale___init__.binds (ps := ["self", "label", "names", "zero_at", "one_at"]) fun _ _ _ _ _ _ us hl => match us, hl with | [_, _, _, _, _], _ => rfl
  have F_cf_Tally___init__ := fun_mk (st := (inClass (top 28) 0)) l_cf_Tally___init__ c_cf_Tally___init__ k_cf_Tally___init__
  have cfn_cf_Tally___init__ : CFn K C_Tally (.type "type") "__init__" f_cf_Tally___init__ := ⟨rd_cf_Tally___init__, ga_cf_Tally___init__, a_cf_Tally___init__, k_cf_Tally___init__⟩
  have b_cf_Tally___init__ := F_cf_Tally___init__.binds (ps := ["self", "order"]) fun _ _ _ _ _ _ us hl => match us, hl with | [_, _], _ => rfl
  have zn_int := PySem.W.mg_none_of X G z_int
  have zn_len := PySem.W.mg_none_of X G z_len
  have zn_range := PySem.W.mg_none_of X G z_range
  have zn_isinstance := PySem.W.mg_none_of X G z_isinstance
  have zn_bool := PySem.W.mg_none_of X G z_bool
  have zn_str := PySem.W.mg_none_of X G z_str
  have zn_tuple := PySem.W.mg_none_of X G z_tuple
  have zn_list := PySem.W.mg_none_of X G z_list
  have zn_set := PySem.W.mg_none_of X G z_set
  have zn_any := PySem.W.mg_none_of X G z_any
  have zn_all := PySem.W.mg_none_of X G z_all
  have gi_MOST_DEPTH : ∃ u, mg "MOST_DEPTH" = some u ∧ RelV (.int 20) u := ⟨_, PySem.W.mg_of X G g_MOST_DEPTH, ⟨_, rfl⟩⟩
  have gi_MOST_GRADES : ∃ u, mg "MOST_GRADES" = some u ∧ RelV (.int 64) u := ⟨_, PySem.W.mg_of X G g_MOST_GRADES, ⟨_, rfl⟩⟩
  have gi_MOST_NAMES : ∃ u, mg "MOST_NAMES" = some u ∧ RelV (.int 16) u := ⟨_, PySem.W.mg_of X G g_MOST_NAMES, ⟨_, rfl⟩⟩
  have gi_MOST_SIGNS : ∃ u, mg "MOST_SIGNS" = some u ∧ RelV (.int 12) u := ⟨_, PySem.W.mg_of X G g_MOST_SIGNS, ⟨_, rfl⟩⟩
  have gNS : ∃ u, mg "NAME_SIGNS" = some u ∧ RelV (.str "abcdefghijklmnopqrstuvwxyz0123456789") u := ⟨_, PySem.W.mg_of X G g_NS, ⟨_, rfl⟩⟩
  have go_ORDERS := PySem.W.mg_of X G g_ORDERS
  refine ⟨PySem.W.fnOf "law" "law" (defArgs (top 35)) (defBody (top 35)) (defScope (top 35)) .none kV_law dc_law pm_law an_law cd_law ct_law, fun s v => .of_eq rfl, fun base _ _ => ?_⟩
  have TL : TxL K mg := ⟨zn_int, zn_len, zn_range, zn_isinstance, zn_bool, zn_str, zn_tuple, zn_list⟩
  have TC : TxC K mg := ⟨TL, gi_MOST_DEPTH, gi_MOST_GRADES⟩
  have TF : TxF K mg aO := ⟨TC, ⟨_, go_ORDERS, rfl⟩, fun H => .inr ⟨_, _, _, l_ORDERS, rfl, rfl, (by show 3 ≤ sizeLine; decide), .cons ⟨_, rfl⟩ (.cons ⟨_, rfl⟩ (.cons ⟨_, rfl⟩ .nil))⟩⟩
  have TN : TxN K mg := ⟨TC, zn_set, zn_any, zn_all, gi_MOST_NAMES, gi_MOST_SIGNS, gNS⟩
  have ST : TCls K C_TableScale := ⟨⟨⟨cl_TableScale, n_TableScale_label, n_TableScale_size, n_TableScale_zero_at, n_TableScale_one_at, n_TableScale_depth⟩, n_TableScale__names, n_TableScale__found⟩, n_TableScale__within, n_TableScale__sums, n_TableScale__products⟩
  have SU : SCls K C_TurnedScale := ⟨cl_TurnedScale, n_TurnedScale_label, n_TurnedScale_size, n_TurnedScale_zero_at, n_TurnedScale_one_at, n_TurnedScale_depth⟩
  have SP : SCls K C_PairScale := ⟨cl_PairScale, n_PairScale_label, n_PairScale_size, n_PairScale_zero_at, n_PairScale_one_at, n_PairScale_depth⟩
  have SX : SCls K C_ExactTally := ⟨cl_ExactTally, n_ExactTally_label, n_ExactTally_size, n_ExactTally_zero_at, n_ExactTally_one_at, n_ExactTally_depth⟩
  have CC : CCls K C_CutScale := ⟨⟨⟨cl_CutScale, n_CutScale_label, n_CutScale_size, n_CutScale_zero_at, n_CutScale_one_at, n_CutScale_depth⟩, n_CutScale__names, n_CutScale__found⟩, n_CutScale__numbers, n_CutScale__start, n_CutScale__order⟩
  obtain ⟨S, hS⟩ : ∃ S, S = S12 C_TableScale C_TurnedScale C_CutScale C_PairScale C_ExactTally := ⟨_, rfl⟩
  have sT : S.cls .tab = C_TableScale := by rw [hS]; rfl
  have sU : S.cls .turn = C_TurnedScale := by rw [hS]; rfl
  have sC : S.cls .cut = C_CutScale := by rw [hS]; rfl
  have sP : S.cls .pair = C_PairScale := by rw [hS]; rfl
  have sX : S.cls .ex = C_ExactTally := by rw [hS]; rfl
  have hL : S.Lf .tab = LfTab := by rw [hS]; rfl
  have hL0 : S.Lf .cut = LfCut := by rw [hS]; rfl
  have all : ∀ {p : (k : Kn) → Prop} (_ : p .tab) (_ : p .turn) (_ : p .cut) (_ : p .pair) (_ : p .ex), ∀ k : Pk S, p k.1 := by subst hS; exact fun a b c d e => pk12 a b c d e
  have allL : ∀ {p : (k : Kn) → Prop} (_ : p .tab) (_ : p .cut) (_ : p .ex), ∀ k : Pk S, k.1 ≠ .turn → k.1 ≠ .pair → p k.1 := by subst hS; exact fun a b c => pk12l a b c
  have pT : S.pr .tab = true := by rw [hS]; rfl
  have pU : S.pr .turn = true := by rw [hS]; rfl
  have pC : S.pr .cut = true := by rw [hS]; rfl
  have pP : S.pr .pair = true := by rw [hS]; rfl
  have pX : S.pr .ex = true := by rw [hS]; rfl
  clear hS
  subst sT sU sC sP sX
  have SC : ScCls K S := ⟨fun k pk => all (p := fun k => SCls K (S.cls k)) ST.toSCls SU CC.toSCls SP SX ⟨k, pk⟩⟩
  have TU : TuCls K S := ⟨SU, n_TurnedScale_inner⟩
  have PC : PaCls K S := ⟨SP, n_PairScale_left, n_PairScale_right⟩
  have f_cf_Scale___init__ : CFB l.prog w K mg base CX0 1 "Scale" "__init__" (spScaleInit K) := ⟨_, _, _, _, _, g_Scale, cfn_cf_Scale___init__, ok_scale_init F_cf_Scale___init__ TC, b_cf_Scale___init__⟩
  have f_cf_ListedScale___init__ : CFB l.prog w K mg base CX0 2 "ListedScale" "__init__" (spListedInit K) := ⟨_, _, _, _, _, g_ListedScale, cfn_cf_ListedScale___init__, ok_listed_init F_cf_ListedScale___init__ TC f_cf_Scale___init__, b_cf_ListedScale___init__⟩
  have f_cf_Tally___init__ : CFB l.prog w K mg base CX0 2 "Tally" "__init__" (spTalInit K) := ⟨_, _, _, _, _, g_Tally, cfn_cf_Tally___init__, ok_tal_init F_cf_Tally___init__ f_cf_Scale___init__, b_cf_Tally___init__⟩
  have c_item_of_run : Cal l.prog w K mg base CX0 1 "item_of_run" (spItem K) := ⟨_, _, _, ok_item F_item_of_run TC, g_item_of_run, k_item_of_run, b_item_of_run⟩
  have c_greater : Cal l.prog w K mg base CX0 1 "greater" (spI2 mxI) := ⟨_, _, _, ok_greater F_greater, g_greater, k_greater, b_greater⟩
  have c_check_names : Cal l.prog w K mg base CX0 1 "check_names" spNames := ⟨_, _, _, ok_check_names F_check_names TN, g_check_names, k_check_names, b_check_names⟩
  have c_check_table : Cal l.prog w K mg base CX0 1 "check_table" spTable := ⟨_, _, _, ok_check_table F_check_table TN, g_check_table, k_check_table, b_check_table⟩
  have c_places_in : Cal l.prog w K mg base CX0 2 "places_in" spPlacesIn := ⟨_, _, _, ok_places_in F_places_in TN c_check_table, g_places_in, k_places_in, b_places_in⟩
  have c_in_row : Cal l.prog w K mg base CX0 1 "in_row" (spRow K) := ⟨_, _, _, ok_in_row F_in_row, g_in_row, k_in_row, b_in_row⟩
  have c_in_rows : Cal l.prog w K mg base CX0 2 "in_rows" (spRows K) := ⟨_, _, _, ok_in_rows F_in_rows c_in_row, g_in_rows, k_in_rows, b_in_rows⟩
  have Fi := ok_tab_init F_TableScale___init__ TN ST c_check_names c_check_table c_places_in c_in_row c_in_rows f_cf_ListedScale___init__ (P := l.prog) (w := w) (base := base)
  have M : Mk K (S.cls .tab) f_TableScale___init__ := ⟨mk_TableScale, a_TableScale___init__, i_TableScale___init__, kc_TableScale⟩
  have mkT : MakK l.prog w K mg base CX0 3 "TableScale" (S.cls .tab) (spTabInit (S.cls .tab)) 4 ["zero", "one"] (fun vs zs => vs ++ zs) :=
    ⟨_, _, _, fun us ws => us ++ ws, M, Fi, g_TableScale, ⟨fun s us ws _ l1 l2 => match us, l1, ws, l2 with | [_, _, _, _, _], _, [_, _], _ => .of_eq rfl, fun r1 r2 => r1.append r2⟩⟩
  have Fu := ok_turn_init F_TurnedScale___init__ TU SC f_cf_Scale___init__ (P := l.prog) (w := w) (base := base)
  have MU : Mk K (S.cls .turn) f_TurnedScale___init__ := ⟨mk_TurnedScale, a_TurnedScale___init__, i_TurnedScale___init__, kc_TurnedScale⟩
  have mkU : Mak l.prog w K mg base CX0 2 "TurnedScale" (S.cls .turn) (spTurnInit S) := ⟨_, _, _, MU, Fu, g_TurnedScale, b_TurnedScale___init__⟩
  have Fp := ok_pair_init F_PairScale___init__ TC PC SC f_cf_Scale___init__ c_greater (P := l.prog) (w := w) (base := base)
  have MP : Mk K (S.cls .pair) f_PairScale___init__ := ⟨mk_PairScale, a_PairScale___init__, i_PairScale___init__, kc_PairScale⟩
  have mkP2 : Mak l.prog w K mg base CX0 2 "PairScale" (S.cls .pair) (spPairInit S) := ⟨_, _, _, MP, Fp, g_PairScale, b_PairScale___init__⟩
  have Fx := ok_ex_init F_ExactTally___init__ SX f_cf_Tally___init__ (P := l.prog) (w := w) (base := base)
  have MX : Mk K (S.cls .ex) f_ExactTally___init__ := ⟨mk_ExactTally, a_ExactTally___init__, i_ExactTally___init__, kc_ExactTally⟩
  have mkX : Mak l.prog w K mg base CX0 3 "ExactTally" (S.cls .ex) (spExInit K (S.cls .ex) "same") := ⟨_, _, _, MX, Fx, g_ExactTally, b_ExactTally___init__⟩
  have m_back : Met l.prog w K mg base CX0 2 (S.cls .cut) "brought_back" (spBack K (S.cls .cut)) := ⟨_, _, _, cl_CutScale, me_CutScale_brought_back, ok_back F_CutScale_brought_back TC CC c_item_of_run, b_CutScale_brought_back⟩
  have Fc := ok_cut_init F_CutScale___init__ TF CC f_cf_ListedScale___init__ m_back (P := l.prog) (w := w) (base := base)
  have MC : Mk K (S.cls .cut) f_CutScale___init__ := ⟨mk_CutScale, a_CutScale___init__, i_CutScale___init__, kc_CutScale⟩
  have mkP : MakK l.prog w K mg base CX0 3 "CutScale" (S.cls .cut) (spCutInit (S.cls .cut)) 1 ["period"] (fun vs zs => vs ++ zs ++ [.str "same"]) := by
    obtain ⟨mv, hb⟩ := FD_CutScale___init__.kbinds0 (ps := ["self", "start", "period", "order"]) 2 ["period"] [("order", .str "same")] (fun us mv ws => us ++ ws ++ mv) (by simp) (by simp) (fun a b c => (a.append c).append b)
      (fun D doc pm an cdv ct us mv ws l1 l2 l3 => match us, l1, mv, l2, ws, l3 with | [_, _], _, [_], _, [_], _ => ⟨_, _, _, _, _, _, rfl, rfl, rfl⟩)
    exact ⟨_, _, _, _, MC, Fc, g_CutScale, hb⟩
  have m_sumT : ∀ n, Met l.prog w K mg base CX0 1 (S.cls .tab) "sum_at" (spSum S .tab n) := fun n => ⟨_, _, _, cl_TableScale, me_TableScale_sum_at, ok_stab_sum F_TableScale_sum_at ST hL, b_TableScale_sum_at⟩
  have m_sumC : ∀ n, Met l.prog w K mg base CX0 3 (S.cls .cut) "sum_at" (spSum S .cut n) := fun n => ⟨_, _, _, cl_CutScale, me_CutScale_sum_at, ok_scut_sum F_CutScale_sum_at hL0 m_back, b_CutScale_sum_at⟩
  have o_tab : ∀ n, Met l.prog w K mg base CX0 2 (S.cls .tab) "ones" (spOnes S .tab n) := fun n => ⟨_, _, _, cl_TableScale, me_TableScale_ones, ok_ones F_TableScale_ones ST.toSCls (m_sumT n), b_TableScale_ones⟩
  have o_cut : ∀ n, Met l.prog w K mg base CX0 4 (S.cls .cut) "ones" (spOnes S .cut n) := fun n => ⟨_, _, _, cl_CutScale, me_CutScale_ones, ok_ones F_CutScale_ones CC.toSCls (m_sumC n), b_CutScale_ones⟩
  have a_tm := met_all2 (P := l.prog) (w := w) (K := K) (mg := mg) (base := base) (S := S) (m := "times_at") (sp := spTm) 5
    (allL (p := fun k => ∀ n, Met l.prog w K mg base CX0 5 (S.cls k) "times_at" (spTm S k n))
      (fun n => met_mono ⟨_, _, _, cl_TableScale, me_TableScale_times_at, ok_times F_TableScale_times_at ST.toSCls rfl (o_tab n) c_item_of_run (by decide), b_TableScale_times_at⟩ (show 3 ≤ 5 by decide))
      (fun n => ⟨_, _, _, cl_CutScale, me_CutScale_times_at, ok_times F_CutScale_times_at CC.toSCls rfl (o_cut n) c_item_of_run (by decide), b_CutScale_times_at⟩)
      (fun n => met_mono ⟨_, _, _, cl_ExactTally, me_ExactTally_times_at, ok_tal_times F_ExactTally_times_at (.inl rfl), b_ExactTally_times_at⟩ (show 1 ≤ 5 by decide)))
    ⟨_, _, _, cl_TurnedScale, me_TurnedScale_times_at, fn_vac fun _ _ _ _ => v_tm, b_TurnedScale_times_at⟩ ⟨_, _, _, cl_PairScale, me_PairScale_times_at, fn_vac fun _ _ _ _ => v_tm, b_PairScale_times_at⟩
    (fun n j h => ⟨_, _, _, cl_TurnedScale, me_TurnedScale_times_at, ok_turn_times F_TurnedScale_times_at TU h, b_TurnedScale_times_at⟩)
    (fun n j h => ⟨_, _, _, cl_PairScale, me_PairScale_times_at, ok_pair_times F_PairScale_times_at PC h, b_PairScale_times_at⟩)
  have c__law_draws : Cal l.prog w K mg base CX0 1 "_law_draws" (spDraws K) := ⟨_, _, _, ok_draws F__law_draws TL, g__law_draws, k__law_draws, b__law_draws⟩
  have c__law_draw : Cal l.prog w K mg base CX0 1 "_law_draw" spDraw := ⟨_, _, _, ok_draw F__law_draw TL, g__law_draw, k__law_draw, b__law_draw⟩
  have c_same : ∀ n, Cal l.prog w K mg base CX0 (n + 1) "_law_same" (spSame n) := fun n => ⟨_, _, _, ok_same F__law_same TL g__law_same b__law_same n, g__law_same, k__law_same, b__law_same⟩
  have c__law_ones : Cal l.prog w K mg base CX0 1 "_law_ones" spLOnes := ⟨_, _, _, ok_lones F__law_ones TL, g__law_ones, k__law_ones, b__law_ones⟩
  exact ok_law F_law TL SC hL hL0 pT pU pC pP pX c__law_draws c__law_draw c__law_ones mkT mkU mkP mkP2 mkX c_same (fun k => met_mono (a_tm 4 k) (by decide))
theorem walk {l : PySem.W.OpenLaw} {q : Program} {loose : List Str} {XP : (Str → Option Value) → Heap → Prop} {YP : World → Heap → Prop} {d : DefRec} {K : Params → PySem.W.Frag} (hn : l.most = some 63) (hdf : d.params.defaults = [])
    (hY : ∀ (w : World) (h : Heap), YP w h → (K w.params).In h)
    (F : ∀ (w : World) (mg : Str → Option Value) (fa : Addr) (h : Heap), (K w.params).In h → h.Ns mainGlobals mg → mg d.name = some (.ref fa) →
      ∃ fd : FuncData, (∀ (s : Shared) (u : Value), BindsTo s fd ⟨[u], []⟩ [("_law_script", u)]) ∧ ∀ base : Heap, (K w.params).In base → base.Ns mainGlobals mg → FnOk l.prog w (K w.params) mg base CX0 24 fa fd ["_law_script"] (spLaw (K w.params))) :
    PySem.W.WalkO q loose XP YP l.row.toRowW d [] (fun f vs => PySem.call f vs) :=
  L2.walk_of (n := 63) (k := 24) (x := "_law_script") (CX := fun _ => CX0) (sp := fun w => spLaw (K w.params)) hn (by decide) hdf ⟨rfl, by decide, by decide⟩ hY F (fun _ _ a ns hl _ hS => ⟨a, ns, rfl, hS, hl, fun _ => rfl⟩) fun _ _ _ _ _ z => z
end Q
open PySem PySem.W PyProof.Rows
set_option maxRecDepth 100000 in
set_option maxHeartbeats 0 in
theorem PySem.Challenge.cw_usescale_k12_sums_of_ones_holds : PySem.Challenge.rw_usescale_k12_sums_of_ones.Holds := by
  w_on; o_law; k_head; (case hw => w_witness2)
  k_fill
  refine Q.walk (l := PySem.Challenge.rw_usescale_k12_sums_of_ones) rfl rfl (fun w h Y => PySem.W.kIn_of Y) ?F
  case F =>
    intro w mg fa h KX G hmg
    refine' Q.all_mk KX G hmg ?aC_TableScale ?pg_TableScale ?hd_TableScale ?po_TableScale ?sa_TableScale ?mk_TableScale ?kc_TableScale ?aC_TurnedScale ?pg_TurnedScale ?hd_TurnedScale ?po_TurnedScale ?sa_TurnedScale ?mk_TurnedScale ?kc_TurnedScale ?aC_CutScale ?pg_CutScale ?hd_CutScale ?po_CutScale ?sa_CutScale ?mk_CutScale ?kc_CutScale ?aC_PairScale ?pg_PairScale ?hd_PairScale ?po_PairScale ?sa_PairScale ?mk_PairScale ?kc_PairScale ?aC_ExactTally ?pg_ExactTally ?hd_ExactTally ?po_ExactTally ?sa_ExactTally ?mk_ExactTally ?kc_ExactTally ?aC_Scale ?aC_ListedScale ?aC_Tally ?a_item_of_run ?l_item_of_run ?c_item_of_run ?k_item_of_run ?a_greater ?l_greater ?c_greater ?k_greater ?a_check_names ?l_check_names ?c_check_names ?k_check_names ?a_check_table ?l_check_table ?c_check_table ?k_check_table ?a_places_in ?l_places_in ?c_places_in ?k_places_in ?a_in_row ?l_in_row ?c_in_row ?k_in_row ?a_in_rows ?l_in_rows ?c_in_rows ?k_in_rows ?a__law_draws ?l__law_draws ?c__law_draws ?k__law_draws ?a__law_draw ?l__law_draw ?c__law_draw ?k__law_draw ?a__law_same ?l__law_same ?c__law_same ?k__law_same ?a__law_ones ?l__law_ones ?c__law_ones ?k__law_ones ?a_law ?l_law ?c_law ?k_law ?a_TableScale___init__ ?i_TableScale___init__ ?l_TableScale___init__ ?c_TableScale___init__ ?k_TableScale___init__ ?a_TableScale_sum_at ?i_TableScale_sum_at ?l_TableScale_sum_at ?c_TableScale_sum_at ?k_TableScale_sum_at ?a_TableScale_times_at ?i_TableScale_times_at ?l_TableScale_times_at ?c_TableScale_times_at ?k_TableScale_times_at ?a_TableScale_ones ?i_TableScale_ones ?l_TableScale_ones ?c_TableScale_ones ?k_TableScale_ones ?a_TurnedScale___init__ ?i_TurnedScale___init__ ?l_TurnedScale___init__ ?c_TurnedScale___init__ ?k_TurnedScale___init__ ?a_TurnedScale_times_at ?i_TurnedScale_times_at ?l_TurnedScale_times_at ?c_TurnedScale_times_at ?k_TurnedScale_times_at ?a_CutScale___init__ ?i_CutScale___init__ ?l_CutScale___init__ ?c_CutScale___init__ ?k_CutScale___init__ ?kw_CutScale___init___period ?kw_CutScale___init___order ?a_CutScale_brought_back ?i_CutScale_brought_back ?l_CutScale_brought_back ?c_CutScale_brought_back ?k_CutScale_brought_back ?a_CutScale_sum_at ?i_CutScale_sum_at ?l_CutScale_sum_at ?c_CutScale_sum_at ?k_CutScale_sum_at ?a_CutScale_times_at ?i_CutScale_times_at ?l_CutScale_times_at ?c_CutScale_times_at ?k_CutScale_times_at ?a_CutScale_ones ?i_CutScale_ones ?l_CutScale_ones ?c_CutScale_ones ?k_CutScale_ones ?a_PairScale___init__ ?i_PairScale___init__ ?l_PairScale___init__ ?c_PairScale___init__ ?k_PairScale___init__ ?a_PairScale_times_at ?i_PairScale_times_at ?l_PairScale_times_at ?c_PairScale_times_at ?k_PairScale_times_at ?a_ExactTally___init__ ?i_ExactTally___init__ ?l_ExactTally___init__ ?c_ExactTally___init__ ?k_ExactTally___init__ ?a_ExactTally_times_at ?i_ExactTally_times_at ?l_ExactTally_times_at ?c_ExactTally_times_at ?k_ExactTally_times_at ?a_cf_Scale___init__ ?l_cf_Scale___init__ ?c_cf_Scale___init__ ?k_cf_Scale___init__ ?rd_cf_Scale___init__ ?ga_cf_Scale___init__ ?a_cf_ListedScale___init__ ?l_cf_ListedScale___init__ ?c_cf_ListedScale___init__ ?k_cf_ListedScale___init__ ?rd_cf_ListedScale___init__ ?ga_cf_ListedScale___init__ ?a_cf_Tally___init__ ?l_cf_Tally___init__ ?c_cf_Tally___init__ ?k_cf_Tally___init__ ?rd_cf_Tally___init__ ?ga_cf_Tally___init__ ?n_TableScale_label ?n_TableScale_size ?n_TableScale_zero_at ?n_TableScale_one_at ?n_TableScale_depth ?n_TableScale__names ?n_TableScale__found ?n_TableScale__within ?n_TableScale__sums ?n_TableScale__products ?n_TurnedScale_label ?n_TurnedScale_size ?n_TurnedScale_zero_at ?n_TurnedScale_one_at ?n_TurnedScale_depth ?n_TurnedScale_inner ?n_CutScale_label ?n_CutScale_size ?n_CutScale_zero_at ?n_CutScale_one_at ?n_CutScale_depth ?n_CutScale__names ?n_CutScale__found ?n_CutScale__numbers ?n_CutScale__start ?n_CutScale__order ?n_PairScale_label ?n_PairScale_size ?n_PairScale_zero_at ?n_PairScale_one_at ?n_PairScale_depth ?n_PairScale_left ?n_PairScale_right ?n_ExactTally_label ?n_ExactTally_size ?n_ExactTally_zero_at ?n_ExactTally_one_at ?n_ExactTally_depth ?z_int ?z_len ?z_range ?z_isinstance ?z_bool ?z_str ?z_tuple ?z_list ?z_set ?z_any ?z_all ?g_MOST_DEPTH ?g_MOST_GRADES ?g_MOST_NAMES ?g_MOST_SIGNS ?g_NS ?g_ORDERS ?l_ORDERS
    (case aC_TableScale => k_is)
    (case pg_TableScale => k_is)
    (case hd_TableScale => k_is)
    (case po_TableScale => k_is)
    (case sa_TableScale => k_is)
    (case mk_TableScale => k_is)
    (case kc_TableScale => k_is)
    (case aC_TurnedScale => k_is)
    (case pg_TurnedScale => k_is)
    (case hd_TurnedScale => k_is)
    (case po_TurnedScale => k_is)
    (case sa_TurnedScale => k_is)
    (case mk_TurnedScale => k_is)
    (case kc_TurnedScale => k_is)
    (case aC_CutScale => k_is)
    (case pg_CutScale => k_is)
    (case hd_CutScale => k_is)
    (case po_CutScale => k_is)
    (case sa_CutScale => k_is)
    (case mk_CutScale => k_is)
    (case kc_CutScale => k_is)
    (case aC_PairScale => k_is)
    (case pg_PairScale => k_is)
    (case hd_PairScale => k_is)
    (case po_PairScale => k_is)
    (case sa_PairScale => k_is)
    (case mk_PairScale => k_is)
    (case kc_PairScale => k_is)
    (case aC_ExactTally => k_is)
    (case pg_ExactTally => k_is)
    (case hd_ExactTally => k_is)
    (case po_ExactTally => k_is)
    (case sa_ExactTally => k_is)
    (case mk_ExactTally => k_is)
    (case kc_ExactTally => k_is)
    (case aC_Scale => k_is)
    (case aC_ListedScale => k_is)
    (case aC_Tally => k_is)
    (case a_item_of_run => k_is)
    (case l_item_of_run => k_is)
    (case c_item_of_run => k_is)
    (case k_item_of_run => k_is)
    (case a_greater => k_is)
    (case l_greater => k_is)
    (case c_greater => k_is)
    (case k_greater => k_is)
    (case a_check_names => k_is)
    (case l_check_names => k_is)
    (case c_check_names => k_is)
    (case k_check_names => k_is)
    (case a_check_table => k_is)
    (case l_check_table => k_is)
    (case c_check_table => k_is)
    (case k_check_table => k_is)
    (case a_places_in => k_is)
    (case l_places_in => k_is)
    (case c_places_in => k_is)
    (case k_places_in => k_is)
    (case a_in_row => k_is)
    (case l_in_row => k_is)
    (case c_in_row => k_is)
    (case k_in_row => k_is)
    (case a_in_rows => k_is)
    (case l_in_rows => k_is)
    (case c_in_rows => k_is)
    (case k_in_rows => k_is)
    (case a__law_draws => k_is)
    (case l__law_draws => k_is)
    (case c__law_draws => k_is)
    (case k__law_draws => k_is)
    (case a__law_draw => k_is)
    (case l__law_draw => k_is)
    (case c__law_draw => k_is)
    (case k__law_draw => k_is)
    (case a__law_same => k_is)
    (case l__law_same => k_is)
    (case c__law_same => k_is)
    (case k__law_same => k_is)
    (case a__law_ones => k_is)
    (case l__law_ones => k_is)
    (case c__law_ones => k_is)
    (case k__law_ones => k_is)
    (case a_law => k_is)
    (case l_law => k_is)
    (case c_law => k_is)
    (case k_law => k_is)
    (case a_TableScale___init__ => k_is)
    (case i_TableScale___init__ => k_is)
    (case l_TableScale___init__ => k_is)
    (case c_TableScale___init__ => k_is)
    (case k_TableScale___init__ => k_is)
    (case a_TableScale_sum_at => k_is)
    (case i_TableScale_sum_at => k_is)
    (case l_TableScale_sum_at => k_is)
    (case c_TableScale_sum_at => k_is)
    (case k_TableScale_sum_at => k_is)
    (case a_TableScale_times_at => k_is)
    (case i_TableScale_times_at => k_is)
    (case l_TableScale_times_at => k_is)
    (case c_TableScale_times_at => k_is)
    (case k_TableScale_times_at => k_is)
    (case a_TableScale_ones => k_is)
    (case i_TableScale_ones => k_is)
    (case l_TableScale_ones => k_is)
    (case c_TableScale_ones => k_is)
    (case k_TableScale_ones => k_is)
    (case a_TurnedScale___init__ => k_is)
    (case i_TurnedScale___init__ => k_is)
    (case l_TurnedScale___init__ => k_is)
    (case c_TurnedScale___init__ => k_is)
    (case k_TurnedScale___init__ => k_is)
    (case a_TurnedScale_times_at => k_is)
    (case i_TurnedScale_times_at => k_is)
    (case l_TurnedScale_times_at => k_is)
    (case c_TurnedScale_times_at => k_is)
    (case k_TurnedScale_times_at => k_is)
    (case a_CutScale___init__ => k_is)
    (case i_CutScale___init__ => k_is)
    (case l_CutScale___init__ => k_is)
    (case c_CutScale___init__ => k_is)
    (case k_CutScale___init__ => k_is)
    (case kw_CutScale___init___period => k_is)
    (case kw_CutScale___init___order => k_is)
    (case a_CutScale_brought_back => k_is)
    (case i_CutScale_brought_back => k_is)
    (case l_CutScale_brought_back => k_is)
    (case c_CutScale_brought_back => k_is)
    (case k_CutScale_brought_back => k_is)
    (case a_CutScale_sum_at => k_is)
    (case i_CutScale_sum_at => k_is)
    (case l_CutScale_sum_at => k_is)
    (case c_CutScale_sum_at => k_is)
    (case k_CutScale_sum_at => k_is)
    (case a_CutScale_times_at => k_is)
    (case i_CutScale_times_at => k_is)
    (case l_CutScale_times_at => k_is)
    (case c_CutScale_times_at => k_is)
    (case k_CutScale_times_at => k_is)
    (case a_CutScale_ones => k_is)
    (case i_CutScale_ones => k_is)
    (case l_CutScale_ones => k_is)
    (case c_CutScale_ones => k_is)
    (case k_CutScale_ones => k_is)
    (case a_PairScale___init__ => k_is)
    (case i_PairScale___init__ => k_is)
    (case l_PairScale___init__ => k_is)
    (case c_PairScale___init__ => k_is)
    (case k_PairScale___init__ => k_is)
    (case a_PairScale_times_at => k_is)
    (case i_PairScale_times_at => k_is)
    (case l_PairScale_times_at => k_is)
    (case c_PairScale_times_at => k_is)
    (case k_PairScale_times_at => k_is)
    (case a_ExactTally___init__ => k_is)
    (case i_ExactTally___init__ => k_is)
    (case l_ExactTally___init__ => k_is)
    (case c_ExactTally___init__ => k_is)
    (case k_ExactTally___init__ => k_is)
    (case a_ExactTally_times_at => k_is)
    (case i_ExactTally_times_at => k_is)
    (case l_ExactTally_times_at => k_is)
    (case c_ExactTally_times_at => k_is)
    (case k_ExactTally_times_at => k_is)
    (case a_cf_Scale___init__ => k_is)
    (case l_cf_Scale___init__ => k_is)
    (case c_cf_Scale___init__ => k_is)
    (case k_cf_Scale___init__ => k_is)
    (case rd_cf_Scale___init__ => k_is)
    (case ga_cf_Scale___init__ => k_is)
    (case a_cf_ListedScale___init__ => k_is)
    (case l_cf_ListedScale___init__ => k_is)
    (case c_cf_ListedScale___init__ => k_is)
    (case k_cf_ListedScale___init__ => k_is)
    (case rd_cf_ListedScale___init__ => k_is)
    (case ga_cf_ListedScale___init__ => k_is)
    (case a_cf_Tally___init__ => k_is)
    (case l_cf_Tally___init__ => k_is)
    (case c_cf_Tally___init__ => k_is)
    (case k_cf_Tally___init__ => k_is)
    (case rd_cf_Tally___init__ => k_is)
    (case ga_cf_Tally___init__ => k_is)
    (case n_TableScale_label => k_is)
    (case n_TableScale_size => k_is)
    (case n_TableScale_zero_at => k_is)
    (case n_TableScale_one_at => k_is)
    (case n_TableScale_depth => k_is)
    (case n_TableScale__names => k_is)
    (case n_TableScale__found => k_is)
    (case n_TableScale__within => k_is)
    (case n_TableScale__sums => k_is)
    (case n_TableScale__products => k_is)
    (case n_TurnedScale_label => k_is)
    (case n_TurnedScale_size => k_is)
    (case n_TurnedScale_zero_at => k_is)
    (case n_TurnedScale_one_at => k_is)
    (case n_TurnedScale_depth => k_is)
    (case n_TurnedScale_inner => k_is)
    (case n_CutScale_label => k_is)
    (case n_CutScale_size => k_is)
    (case n_CutScale_zero_at => k_is)
    (case n_CutScale_one_at => k_is)
    (case n_CutScale_depth => k_is)
    (case n_CutScale__names => k_is)
    (case n_CutScale__found => k_is)
    (case n_CutScale__numbers => k_is)
    (case n_CutScale__start => k_is)
    (case n_CutScale__order => k_is)
    (case n_PairScale_label => k_is)
    (case n_PairScale_size => k_is)
    (case n_PairScale_zero_at => k_is)
    (case n_PairScale_one_at => k_is)
    (case n_PairScale_depth => k_is)
    (case n_PairScale_left => k_is)
    (case n_PairScale_right => k_is)
    (case n_ExactTally_label => k_is)
    (case n_ExactTally_size => k_is)
    (case n_ExactTally_zero_at => k_is)
    (case n_ExactTally_one_at => k_is)
    (case n_ExactTally_depth => k_is)
    (case z_int => k_is)
    (case z_len => k_is)
    (case z_range => k_is)
    (case z_isinstance => k_is)
    (case z_bool => k_is)
    (case z_str => k_is)
    (case z_tuple => k_is)
    (case z_list => k_is)
    (case z_set => k_is)
    (case z_any => k_is)
    (case z_all => k_is)
    (case g_MOST_DEPTH => k_is)
    (case g_MOST_GRADES => k_is)
    (case g_MOST_NAMES => k_is)
    (case g_MOST_SIGNS => k_is)
    (case g_NS => k_is)
    (case g_ORDERS => k_is)
    (case l_ORDERS => k_is)
