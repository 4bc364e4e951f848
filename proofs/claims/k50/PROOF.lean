import PyProof.Rows.All
import Wide.All
import OpenK.AllK
import Wide.FinOn
import HandS.ForMost
import HandS.Defaults
import HandS.MakeKwOnly
import HandS.Conv
import HandS.Style
import HandS.IsInst
import HandS.FStr
import HandS.DictComp
import HandS.ClsMeth
import HandS.Steps
import KE.KExcInit
import KE.KExcIs
import HandS.ForExc
import HandS.ExcInit
import HandS.ExcField
import HandS.ExcIs
import KE.KxField
import KE.KEqSeq
import HandS.StrMore
import HandS.Strs
import HandS.SetKeys
import HandS.Walk
import HandS.WordsDict
import HandS.Flow
import HandS.ExcValue
import HandS.Wide
import KE.KExcLine
import KE.RegKTryMore
import KE.RegKIsAll
import PySem.Challenge.RW_usescale_k50_errors
set_option Elab.async false
set_option linter.all false
set_option maxRecDepth 100000
set_option maxHeartbeats 4000000
/-! Rules of my own over the hand layer, for every law of this program. -/
namespace U
open PySem PySem.Spec PyProof.Rows L2

/-! ### tests whose answer is known -/
theorem ifY {c A B : Prop} [Decidable c] (hc : c) (h : A) : if decide c = true then A else B := by
  rw [decide_eq_true hc]; exact iteT h
theorem ifN {c A B : Prop} [Decidable c] (hc : ¬ c) (h : B) : if decide c = true then A else B := by
  rw [decide_eq_false hc]; exact iteF h
theorem nifY {c A B : Prop} [Decidable c] (hc : c) (h : B) : if (!decide c) = true then A else B := by
  rw [decide_eq_true hc]; exact iteF h
theorem nifN {c A B : Prop} [Decidable c] (hc : ¬ c) (h : A) : if (!decide c) = true then A else B := by
  rw [decide_eq_false hc]; exact iteT h
theorem ifD {c A B : Prop} [Decidable c] (h1 : c → A) (h2 : ¬ c → B) : if decide c = true then A else B := by
  by_cases h : c
  · exact ifY h (h1 h)
  · exact ifN h (h2 h)
theorem ifB {b : Bool} {A B : Prop} (h1 : b = true → A) (h2 : b = false → B) : if b = true then A else B := by
  cases b
  · exact iteF (h2 rfl)
  · exact iteT (h1 rfl)
theorem ifT {b : Bool} {A B : Prop} (e : b = true) (h : A) : if b = true then A else B := by
  rw [e]; exact iteT h
theorem ifF {b : Bool} {A B : Prop} (e : b = false) (h : B) : if b = true then A else B := by
  rw [e]; exact iteF h

theorem tYesI {σ : L2.St} {H : Hp} {Q : Bool → Hp → Prop} (h : Q true H) : tYes σ H Q := h
theorem sameNew {H : Hp} {p : Addr} {o : HO} (h : H p = none) : Same H (upd H p o) := fun b u e => by
  rw [upd_ne (ne_of_none e h)]; exact e
theorem at_map {ns : List Int} {i : Nat} {y : V} (hi : (ns.map V.int)[i]? = some y) : ∃ n, y = V.int n ∧ ns[i]? = some n := by
  rw [List.getElem?_map] at hi
  cases e : ns[i]? with
  | none => rw [e] at hi; cases hi
  | some n => rw [e] at hi; exact ⟨n, (Option.some.inj hi).symm, rfl⟩
theorem take_snoc {α : Type} {l : List α} {i : Nat} {x : α} (h : l[i]? = some x) : l.take (i + 1) = l.take i ++ [x] := by
  rw [List.take_succ, h]; rfl

/-- a while: W with its measure, B where it ends by its test or a break -/
theorem whileX {c : TT} {tb : TS} {D : Ends} {σ : L2.St} {H : Hp} (W : Nat → L2.St → Hp → Prop) (B : L2.St → Hp → Prop) (n : Nat) (h0 : W n σ H) (hB : ∀ σ H, B σ H → D.nx σ H)
    (hs : ∀ (nx : L2.St → Hp → Prop), (∀ σ H, B σ H → nx σ H) → ∀ m σ H, W m σ H → c σ H fun b H1 => if b = true then ∃ N : L2.St → Hp → Prop, (∀ σ' H', N σ' H' → ∃ m', m' < m ∧ W m' σ' H') ∧ tb { D with nx := N, ct := N, bk := nx } σ H1 else nx σ H1) :
    tWhile c tb D σ H := ⟨W, ⟨n, h0⟩, hs D.nx hB⟩

/-! ### attributes by position -/
theorem lk : ∀ {ks : List Str} {vs : List V} {f : Str} {i : Nat} {v : V}, ks.findIdx? (fun k => k == f) = some i → vs[i]? = some v → (ks.zip vs).lookup f = some v
  | [], vs, f, i, v, h, _ => by simp at h
  | k :: ks, [], f, i, v, _, hv => by simp at hv
  | k :: ks, x :: vs, f, i, v, h, hv => by
    rw [List.findIdx?_cons] at h
    by_cases e : (k == f) = true
    · rw [if_pos e] at h
      obtain rfl : 0 = i := Option.some.inj h
      have e1 : f = k := (beq_iff_eq.mp e).symm
      subst e1
      obtain rfl : x = v := by simpa using hv
      simp [List.lookup]
    · rw [if_neg e] at h
      cases i with
      | zero => simp at h
      | succ i =>
        have h' : ks.findIdx? (fun k => k == f) = some i := by
          cases q : ks.findIdx? (fun k => k == f) with
          | none => rw [q] at h; simp at h
          | some j => rw [q] at h; simp at h; rw [h]
        have e2 : (f == k) = false := by
          rw [Bool.eq_false_iff]; intro z
          exact e (beq_iff_eq.mpr (beq_iff_eq.mp z).symm)
        show (match f == k with | true => some x | false => (ks.zip vs).lookup f) = some v
        rw [e2]
        exact lk h' (by simpa using hv)
theorem lkn : ∀ {ks : List Str} {vs : List V} {f : Str}, ks.findIdx? (fun k => k == f) = none → (ks.zip vs).lookup f = none
  | [], vs, f, h => by simp
  | k :: ks, [], f, _ => by simp
  | k :: ks, x :: vs, f, h => by
    rw [List.findIdx?_cons] at h
    by_cases e : (k == f) = true
    · rw [if_pos e] at h; simp at h
    · rw [if_neg e] at h
      have h' : ks.findIdx? (fun k => k == f) = none := by
        cases q : ks.findIdx? (fun k => k == f) with
        | none => rfl
        | some j => rw [q] at h; simp at h
      have e2 : (f == k) = false := by
        rw [Bool.eq_false_iff]; intro z
        exact e (beq_iff_eq.mpr (beq_iff_eq.mp z).symm)
      show (match f == k with | true => some x | false => (ks.zip vs).lookup f) = none
      rw [e2]
      exact lkn h'
/-- a new attribute -/
theorem pf : ∀ {ks : List Str} {vs : List V} {f : Str} {v : V}, ks.findIdx? (fun k => k == f) = none → ks.length = vs.length → putF f v (ks.zip vs) = (ks ++ [f]).zip (vs ++ [v])
  | [], [], f, v, _, _ => rfl
  | [], x :: vs, f, v, _, h => by simp at h
  | k :: ks, [], f, v, _, h => by simp at h
  | k :: ks, x :: vs, f, v, h, hl => by
    rw [List.findIdx?_cons] at h
    by_cases e : (k == f) = true
    · rw [if_pos e] at h; simp at h
    · rw [if_neg e] at h
      have h' : ks.findIdx? (fun k => k == f) = none := by
        cases q : ks.findIdx? (fun k => k == f) with
        | none => rfl
        | some j => rw [q] at h; simp at h
      have e2 : ¬ k = f := fun z => e (beq_iff_eq.mpr z)
      show (if k = f then (k, v) :: ks.zip vs else (k, x) :: putF f v (ks.zip vs)) = _
      rw [if_neg e2, pf h' (by simpa using hl)]
      rfl

/-! ### o[i] of a list, for o[i] op= e -/
def rGetL (K : PySem.W.Frag) : V → V → Hp → VK → Prop := fun x y H Q => ∃ p xs i v, x = .ref p ∧ y = .int i ∧ SqL K H p xs ∧ 0 ≤ i ∧ xs[i.toNat]? = some v ∧ Q v H
theorem get_list {X : Cx} : PGet X (rGetL X.K) := by
  intro pins s σ H x y v u Q I rx ry h
  obtain ⟨p, xs, i, z, rfl, rfl, hq, h0, he, q⟩ := h
  cases (show v = Value.ref p from rx)
  obtain ⟨t, rfl⟩ := ry
  obtain ⟨its, r, pl, hz⟩ := I.list hq
  obtain ⟨w, ew, rw'⟩ := r.get he
  have hl := r.length
  have hn := line63
  have hb := (List.getElem?_eq_some_iff.mp he).1
  exact wpAny_getItem_list pl.isList h0 (by omega) (by simpa using ew) ⟨z, H, I, rw', q⟩

/-! ### a[i], a a list or a tuple -/
theorem ix_or {X : Cx} {r r' : R2} (h : IxR X r) (h' : IxR X r') : IxR X (fun x y H Q => r x y H Q ∨ r' x y H Q) := by
  intro value slice pins s σ H x y v u Q I rx ry hq hs
  rcases hq with q | q
  · exact h value slice pins s σ H x y v u Q I rx ry q hs
  · exact h' value slice pins s σ H x y v u Q I rx ry q hs
def rIxLT (K : PySem.W.Frag) : R2 := fun x y H Q => rIxL K x y H Q ∨ rIxT K x y H Q
theorem ix_ls {X : Cx} : IxR X (rIxLT X.K) := ix_or ix_list ix_tup

/-! ### x is True, x is False: x anything -/
def rIsBA : R2 := fun x y H Q => ∃ b : Bool, y = .bl b ∧ Q (.bl (decide (x = .bl b))) H
theorem plain_bl {x : V} {v : Value} (b : Bool) (rx : RelV x v) : plainIs v (.bool b) = true := by
  cases x with
  | non => cases (show v = Value.none from rx); rfl
  | bl c => cases (show v = Value.bool c from rx); rfl
  | int i => obtain ⟨t, rfl⟩ := rx; rfl
  | str i => obtain ⟨t, rfl⟩ := rx; rfl
  | byt i => obtain ⟨t, rfl⟩ := rx; rfl
  | flt i => obtain ⟨t, rfl⟩ := rx; rfl
  | ref a => cases (show v = Value.ref a from rx); rfl
  | ty n => cases (show v = Value.type n from rx); rfl
theorem op_isBA {X : Cx} : OpR X (compareOp .Is) rIsBA := by
  intro pins s σ H x y v u Q I rx ry h
  obtain ⟨b, rfl, q⟩ := h
  cases (show u = Value.bool b from ry)
  by_cases e : x = .bl b
  · subst e
    cases (show v = Value.bool b from rx)
    exact wpAny_is_self rfl ⟨.bl true, H, I, rfl, by simpa using q⟩
  · refine wpAny_is_other (plain_bl b rx) (fun z => ?_) ⟨.bl false, H, I, rfl, by simpa [e] using q⟩
    subst z
    exact e (RelV.inj rx (show RelV (.bl b) (.bool b) from rfl))

/-! ### Base.m(self, ..): a def of an own class read off the class -/
structure CFn (K : PySem.W.Frag) (C : Addr) (mc : Value) (m : Str) (f : Addr) : Prop where
  rd : PySem.W.readsIn K C mc = true
  ga : PySem.W.specialIn K (.ref C) "__getattribute__" = some (some (.builtin "type.__getattribute__"))
  at_ : PySem.W.findCls K (.ref C) mc m = some (.val (.ref f))
  kp : PySem.W.keepIn K (.ref f) = true
def tCFn (C : Addr) (sp : Sp) (E : XK) (ta : TE) (t : TA) : TE := fun σ H Q => ta σ H fun x H1 => x = .ref C ∧ t σ H1 fun vs H2 => sp vs H2 Q E
section
variable {X : Cx} {CX : CXT} {k : Nat} {f C : Addr} {mc : Value} {fd : FuncData} {ps : List Str} {sp : Sp} {E : XK} {m : Str} {pos apos : Pos} {e o : Expr} {es : List Expr} {ta : TE} {t : TA}
theorem pe_cfn {pl : Sem Bool} (he : PE X o ta) (c : CFn X.K C mc m f) (F : FnOk X.prog X.w X.K X.mg X.base CX k f fd ps sp) (hr : Room k X.A) (hb : Binds X.K fd ps []) (hx : Passes CX X E) (ha : PA X (e :: es) t)
    (hst : starEach (e :: es) X.env = (false, eval e X.env) :: starEach es X.env := by rfl) (hpl : (backTo pos (starEach es X.env)).any (·.1) = false := by rfl)
    (ht : eval (.Call (.Attribute o m apos) (e :: es) [] pos) X.env = (do
      let ov ← eval o X.env
      standAt apos.atName
      let (f, first) ← holding [ov] (getMethod ov m pl)
      callWith pos f first (backTo pos (starEach (e :: es) X.env)) (backToKw pos (keywordEach [] X.env))) := by rfl) :
    PE X (.Call (.Attribute o m apos) (e :: es) [] pos) (tCFn C sp E ta t) := by
  refine ⟨fun pins s σ H Q I h => ?_⟩
  refine PySem.W.methodCall_KW (pl := pl) (thn (he.run pins s σ H _ I h) fun u s1 ⟨x, H1, I1, rx, ex, q⟩ => ?_) ht
  subst ex
  obtain rfl : u = Value.ref C := rx
  refine PySem.W.method_cls I1.kIn c.ga (PySem.W.cls_value I1.kIn c.rd c.at_ rfl ?_)
  refine PySem.W.callWith_K (first := []) (h₀ := X.base) I.ok.mod.kin c.kp (thn (ha.run pos pins _ σ H1 _ (I1.tok _) q) fun us s2 ⟨vs, H2, I2, r, q2⟩ => ⟨I2.kIn, ?_⟩) hst hpl
  exact run_fn (us := us) (vs := vs) F hr hb .nil hx I2 r (by rw [List.append_nil]; exact q2)
end
end U
namespace U
open PySem PySem.Spec PyProof.Rows L2
/-! ### calls of what has been proved, by name -/
structure Cal (P : Program) (w : World) (K : PySem.W.Frag) (mg : Str → Option Value) (base : Heap) (CX : CXT) (k : Nat) (x : Str) (sp : Sp) : Prop where
  ex : ∃ (f : Addr) (fd : FuncData) (ps : List Str), FnOk P w K mg base CX k f fd ps sp ∧ mg x = some (.ref f) ∧ PySem.W.keepIn K (.ref f) = true ∧ Binds K fd ps []
structure Met (P : Program) (w : World) (K : PySem.W.Frag) (mg : Str → Option Value) (base : Heap) (CX : CXT) (k : Nat) (C : Addr) (m : Str) (sp : Sp) : Prop where
  ex : ∃ (f : Addr) (fd : FuncData) (ps : List Str), Cls K C ∧ Meth K C m f ∧ FnOk P w K mg base CX k f fd ps sp ∧ Binds K fd ps []
structure Mak (P : Program) (w : World) (K : PySem.W.Frag) (mg : Str → Option Value) (base : Heap) (CX : CXT) (k : Nat) (x : Str) (C : Addr) (sp : Sp) : Prop where
  ex : ∃ (f : Addr) (fd : FuncData) (ps : List Str), Mk K C f ∧ FnOk P w K mg base CX k f fd ps sp ∧ mg x = some (.ref C) ∧ Binds K fd ps []
structure CFB (P : Program) (w : World) (K : PySem.W.Frag) (mg : Str → Option Value) (base : Heap) (CX : CXT) (k : Nat) (x m : Str) (sp : Sp) : Prop where
  ex : ∃ (C : Addr) (mc : Value) (f : Addr) (fd : FuncData) (ps : List Str), mg x = some (.ref C) ∧ CFn K C mc m f ∧ FnOk P w K mg base CX k f fd ps sp ∧ Binds K fd ps []
/-- a promise that asks the impossible is kept by any def -/
theorem cal_false {P : Program} {w : World} {K : PySem.W.Frag} {mg : Str → Option Value} {base : Heap} {CX : CXT} {k : Nat} {f : Addr} {fd : FuncData} {ps : List Str} {x : Str} (hm : mg x = some (.ref f)) (kp : PySem.W.keepIn K (.ref f) = true) (b : Binds K fd ps []) :
    Cal P w K mg base CX k x (fun _ _ _ _ => False) := ⟨f, fd, ps, ⟨fun _ _ _ _ h => h.elim, fun _ _ _ _ _ _ _ _ _ _ _ _ _ h => h.elim⟩, hm, kp, b⟩
section
variable {X : Cx} {k j : Nat} {C : Addr} {x m : Str} {sp : Sp} {p pos apos : Pos} {e o : Expr} {es : List Expr} {ta : TE} {t : TA}
theorem pe_c (c : Cal X.prog X.w X.K X.mg X.base CX0 k x sp) (hr : Room j X.A) (hk : k ≤ j) (hg : Gl X x) (ha : PA X (e :: es) t)
    (hdb : (x == ("__debug__" : Str)) = false := by decide) (he : starEach (e :: es) X.env = (false, eval e X.env) :: starEach es X.env := by rfl) (hpl : (backTo pos (starEach es X.env)).any (·.1) = false := by rfl) :
    PE X (.Call (.Name x p) (e :: es) [] pos) (tCall sp [] E0 t) := by
  obtain ⟨f, fd, ps, F, hm, kp, b⟩ := c.ex
  exact pe_call F (hr.mono hk) hg hm kp b .nil pass0 ha hdb he hpl
theorem pe_c0 (c : Cal X.prog X.w X.K X.mg X.base CX0 k x sp) (hr : Room j X.A) (hk : k ≤ j) (hg : Gl X x)
    (hdb : (x == ("__debug__" : Str)) = false := by decide) :
    PE X (.Call (.Name x p) [] [] pos) (tCall sp [] E0 tNil) := by
  obtain ⟨f, fd, ps, F, hm, kp, b⟩ := c.ex
  exact pe_call0 F (hr.mono hk) hg hm kp b .nil pass0 hdb
theorem pe_mk (c : Mak X.prog X.w X.K X.mg X.base CX0 k x C sp) (hr : Room j X.A) (hk : k + 1 ≤ j) (hg : Gl X x) (ha : PA X (e :: es) t)
    (hdb : (x == ("__debug__" : Str)) = false := by decide) (he : starEach (e :: es) X.env = (false, eval e X.env) :: starEach es X.env := by rfl) (hpl : (backTo pos (starEach es X.env)).any (·.1) = false := by rfl) :
    PE X (.Call (.Name x p) (e :: es) [] pos) (tMake C sp [] E0 t) := by
  obtain ⟨f, fd, ps, M, F, hm, b⟩ := c.ex
  exact pe_make M F (hr.mono hk) hg hm b .nil pass0 ha hdb he hpl
theorem pe_mt {pl : Sem Bool} (c : Met X.prog X.w X.K X.mg X.base CX0 k C m sp) (hr : Room j X.A) (hk : k ≤ j) (he : PE X o ta) (ha : PA X (e :: es) t)
    (hst : starEach (e :: es) X.env = (false, eval e X.env) :: starEach es X.env := by rfl) (hpl : (backTo pos (starEach es X.env)).any (·.1) = false := by rfl)
    (ht : eval (.Call (.Attribute o m apos) (e :: es) [] pos) X.env = (do
      let ov ← eval o X.env
      standAt apos.atName
      let (f, first) ← holding [ov] (getMethod ov m pl)
      callWith pos f first (backTo pos (starEach (e :: es) X.env)) (backToKw pos (keywordEach [] X.env))) := by rfl) :
    PE X (.Call (.Attribute o m apos) (e :: es) [] pos) (tMeth C m sp [] E0 ta t) := by
  obtain ⟨f, fd, ps, hc, hm, F, b⟩ := c.ex
  exact pe_meth (pl := pl) he hc hm F (hr.mono hk) b .nil pass0 ha hst hpl ht
theorem pe_mt0 {pl : Sem Bool} (c : Met X.prog X.w X.K X.mg X.base CX0 k C m sp) (hr : Room j X.A) (hk : k ≤ j) (he : PE X o ta)
    (ht : eval (.Call (.Attribute o m apos) [] [] pos) X.env = (do
      let ov ← eval o X.env
      standAt apos.atName
      let (f, first) ← holding [ov] (getMethod ov m pl)
      callWith pos f first (backTo pos (starEach [] X.env)) (backToKw pos (keywordEach [] X.env))) := by rfl) :
    PE X (.Call (.Attribute o m apos) [] [] pos) (tMeth C m sp [] E0 ta tNil) := by
  obtain ⟨f, fd, ps, hc, hm, F, b⟩ := c.ex
  exact pe_meth0 (pl := pl) he hc hm F (hr.mono hk) b .nil pass0 ht
/-- Base.m(self, ..) -/
def tCF (sp : Sp) (t : TA) : TE := fun σ H Q => t σ H fun vs H1 => sp vs H1 Q E0
theorem pe_cf {pl : Sem Bool} (c : CFB X.prog X.w X.K X.mg X.base CX0 k x m sp) (hr : Room j X.A) (hk : k ≤ j) (hg : Gl X x) (ha : PA X (e :: es) t)
    (hdb : (x == ("__debug__" : Str)) = false := by decide)
    (hst : starEach (e :: es) X.env = (false, eval e X.env) :: starEach es X.env := by rfl) (hpl : (backTo pos (starEach es X.env)).any (·.1) = false := by rfl)
    (ht : eval (.Call (.Attribute (.Name x p) m apos) (e :: es) [] pos) X.env = (do
      let ov ← eval (.Name x p) X.env
      standAt apos.atName
      let (f, first) ← holding [ov] (getMethod ov m pl)
      callWith pos f first (backTo pos (starEach (e :: es) X.env)) (backToKw pos (keywordEach [] X.env))) := by rfl) :
    PE X (.Call (.Attribute (.Name x p) m apos) (e :: es) [] pos) (tCF sp t) := by
  obtain ⟨C, mc, f, fd, ps, hm, cf, F, b⟩ := c.ex
  have z : PE X (.Call (.Attribute (.Name x p) m apos) (e :: es) [] pos) (tCFn C sp E0 (tC (.ref C)) t) := pe_cfn (pl := pl) (pe_glob hg hm rfl hdb) cf F (hr.mono hk) b pass0 ha hst hpl ht
  exact ⟨fun pins s σ H Q I h => z.run pins s σ H Q I ⟨rfl, h⟩⟩
end
end U
namespace U
open PySem PySem.Spec PyProof.Rows L2
/-- a module's constant -/
theorem pe_gx {X : Cx} {x : Str} {v : V} {p : Pos} (hg : Gl X x) (h : ∃ u, X.mg x = some u ∧ RelV v u) (hd : (x == ("__debug__" : Str)) = false := by decide) : PE X (.Name x p) (tC v) := by
  obtain ⟨u, hm, r⟩ := h
  exact pe_glob hg hm r hd
/-- a dict comprehension over a range -/
theorem dc_rng {lo : Int} {n : Nat} {g : TG} {tt : TT} {tk tv : TE} {vs : List Nat} {σ : L2.St} {H1 : Hp} {D : Addr} {Qd : Hp → Prop} (Pv : Nat → Hp → Prop) (h0 : Pv 0 (upd H1 D (.dK [])))
    (hs : ∀ (i : Nat) (H : Hp), i < n → Pv i H → g (.int (lo + i)) (wipe σ vs) H fun σ2 H2 => wipe σ2 vs = wipe σ vs ∧ tt σ2 H2 fun b H3 =>
      if b = true then tk σ2 H3 fun y H4 => tv σ2 H4 fun z H5 => ∃ kvs k, y = kV k ∧ H5 D = some (.dK kvs) ∧ kvs.length < sizeLine ∧ Pv (i + 1) (upd H5 D (.dK (putK kvs k z))) else Pv (i + 1) H3) (hd : ∀ H, Pv n H → Qd H) :
    ∃ W : Nat → Nat → Hp → Prop, (∃ m, W 0 m (upd H1 D (.dK []))) ∧ ∀ i m H, W i m H →
      ((Itr lo n).stop i H ∧ Qd H) ∨ ((Itr lo n).go i H ∧ ∃ Nx : Hp → Prop, (∀ H', Nx H' → ∃ m', m' < m ∧ W (i + 1) m' H') ∧ ∀ x H', (Itr lo n).yld i H x H' → g x (wipe σ vs) H' fun σ2 H2 => wipe σ2 vs = wipe σ vs ∧ tt σ2 H2 fun b H3 =>
        if b = true then tk σ2 H3 fun y H4 => tv σ2 H4 fun z H5 => ∃ kvs k, y = kV k ∧ H5 D = some (.dK kvs) ∧ kvs.length < sizeLine ∧ Nx (upd H5 D (.dK (putK kvs k z))) else Nx H3) := by
  refine ⟨fun i m H => m = n - i ∧ i ≤ n ∧ Pv i H, ⟨n, by omega, Nat.zero_le _, h0⟩, ?_⟩
  rintro i m H ⟨rfl, hi, p⟩
  by_cases hlt : i < n
  · refine .inr ⟨hlt, Pv (i + 1), fun H' p' => ⟨n - (i + 1), by omega, rfl, hlt, p'⟩, fun x H' y => ?_⟩
    obtain ⟨e, y⟩ := y
    subst e y
    exact hs i _ hlt p
  · have e : i = n := by omega
    subst e
    exact .inl ⟨Nat.le_refl _, hd H p⟩
theorem range_at {n i : Nat} (h : i < n) : (List.range n)[i]? = some i := by simp [h]
/-- the heap is as it was, but at p -/
def But (p : Addr) (H H' : Hp) : Prop := ∀ b o, H b = some o → b ≠ p → H' b = some o
theorem But.refl {p : Addr} {H : Hp} : But p H H := fun _ _ h _ => h
theorem But.trans {p : Addr} {H H1 H2 : Hp} (a : But p H H1) (b : But p H1 H2) : But p H H2 := fun c o h n => b c o (a c o h n) n
theorem But.upd {p : Addr} {H H1 : Hp} {o : HO} (a : But p H H1) : But p H (upd H1 p o) := fun c u h n => by rw [upd_ne n]; exact a c u h n
theorem But.new {p q : Addr} {H H1 : Hp} {o : HO} (a : But p H H1) (hq : H1 q = none) : But p H (L2.upd H1 q o) := fun c u h n => by
  have z := a c u h n
  rw [upd_ne (ne_of_none z hq)]; exact z
theorem But.of {p : Addr} {H H1 : Hp} (a : Same H H1) : But p H H1 := fun c u h _ => a c u h
end U
namespace U
open PySem PySem.Spec PyProof.Rows L2
theorem putF_le (f : Str) (v : V) : ∀ fs : List (Str × V), (putF f v fs).length ≤ fs.length + 1
  | [] => Nat.le_refl _
  | (g, x) :: r => by
    show (if g = f then (g, v) :: r else (g, x) :: putF f v r).length ≤ r.length + 1 + 1
    split
    · rw [List.length_cons]; omega
    · rw [List.length_cons]; have := putF_le f v r; omega
theorem putF_n {f : Str} {v : V} {fs : List (Str × V)} {n : Nat} (h : fs.length ≤ n) : (putF f v fs).length ≤ n + 1 := Nat.le_trans (putF_le f v fs) (Nat.succ_le_succ h)
end U
namespace U
open PySem PySem.Spec PyProof.Rows L2
theorem putK_le (kvs : List (Key × V)) (k : Key) (v : V) : (putK kvs k v).length ≤ kvs.length + 1 := by
  unfold putK
  split
  · rw [List.length_map]; omega
  · rw [List.length_append]; exact Nat.le_refl _
/-- the dict of the places of names -/
def foundTo (zs : List Str) : Nat → List (Key × V)
  | 0 => []
  | i + 1 => putK (foundTo zs i) (Sum.inr (zs.getD i Str.empty)) (.int (i : Int))
theorem foundTo_le (zs : List Str) : ∀ i, (foundTo zs i).length ≤ i
  | 0 => Nat.le_refl _
  | i + 1 => Nat.le_trans (putK_le _ _ _) (Nat.succ_le_succ (foundTo_le zs i))
theorem at_mapS {ns : List Str} {i : Nat} (h : i < ns.length) : (ns.map V.str)[i]? = some (.str (ns.getD i Str.empty)) := by
  rw [List.getElem?_map, List.getElem?_eq_getElem h, List.getD_eq_getElem?_getD, List.getElem?_eq_getElem h]
  rfl
end U
namespace U
open PySem PySem.Spec PyProof.Rows L2
/-! ### the same rules with the written part named, for the inside of comprehensions -/
theorem ix_listK {X : Cx} (K : PySem.W.Frag) (h : X.K = K) : IxR X (rIxL K) := by subst h; exact ix_list
theorem ix_tupK {X : Cx} (K : PySem.W.Frag) (h : X.K = K) : IxR X (rIxT K) := by subst h; exact ix_tup
theorem ix_lsK {X : Cx} (K : PySem.W.Frag) (h : X.K = K) : IxR X (rIxLT K) := by subst h; exact ix_ls
theorem pe_fldK {X : Cx} (K : PySem.W.Frag) (h : X.K = K) {e : Expr} {ta : TE} {f : Str} {pos : Pos} (he : PE X e ta) (hb : attributeBase e f X.env (eval e X.env) = eval e X.env) : PE X (.Attribute e f pos) (tFld K ta f) := by
  subst h; exact pe_fld he hb
def rLenLT (K : PySem.W.Frag) : List V → Hp → VK → Prop := fun xs H Q => ∃ p ys, xs = [V.ref p] ∧ (SqL K H p ys ∨ SqT K H p ys) ∧ Q (V.int (ys.length : Int)) H
theorem call_lenK {X : Cx} (K : PySem.W.Frag) (h : X.K = K) : CallR X (.builtin "len") (rLenLT K) := by subst h; exact call_len_seq
theorem op_inK {X : Cx} (K : PySem.W.Frag) (h : X.K = K) : OpR X (compareOp .In) (rIn K false) := by subst h; exact op_in_seq
theorem call_isiKn {X : Cx} (K : PySem.W.Frag) (h : X.K = K) : CallR X (.builtin "isinstance") (rIsi K) := by subst h; exact call_isi
end U
namespace U
open PySem PySem.Spec PyProof.Rows L2
/-! ### comprehensions that change nothing but their own new object: F i is what it holds ahead of turn i -/
theorem dcF_range {lo : Int} {n : Nat} {g : TG} {tt : TT} {tk tv : TE} {vs : List Nat} {σ : L2.St} {HB : Hp} {D : Addr} {Qd : Hp → Prop} (F : Nat → List (Key × V)) (h0 : F 0 = [])
    (hs : ∀ (i : Nat), i < n → g (.int (lo + i)) (wipe σ vs) (upd HB D (.dK (F i))) fun σ2 H2 => wipe σ2 vs = wipe σ vs ∧ tt σ2 H2 fun b H3 =>
      if b = true then tk σ2 H3 fun y H4 => tv σ2 H4 fun z H5 => ∃ kvs k, y = kV k ∧ H5 D = some (.dK kvs) ∧ kvs.length < sizeLine ∧ upd H5 D (.dK (putK kvs k z)) = upd HB D (.dK (F (i + 1))) else H3 = upd HB D (.dK (F (i + 1)))) (hd : Qd (upd HB D (.dK (F n)))) :
    ∃ W : Nat → Nat → Hp → Prop, (∃ m, W 0 m (upd HB D (.dK []))) ∧ ∀ i m H, W i m H →
      ((Itr lo n).stop i H ∧ Qd H) ∨ ((Itr lo n).go i H ∧ ∃ Nx : Hp → Prop, (∀ H', Nx H' → ∃ m', m' < m ∧ W (i + 1) m' H') ∧ ∀ x H', (Itr lo n).yld i H x H' → g x (wipe σ vs) H' fun σ2 H2 => wipe σ2 vs = wipe σ vs ∧ tt σ2 H2 fun b H3 =>
        if b = true then tk σ2 H3 fun y H4 => tv σ2 H4 fun z H5 => ∃ kvs k, y = kV k ∧ H5 D = some (.dK kvs) ∧ kvs.length < sizeLine ∧ Nx (upd H5 D (.dK (putK kvs k z))) else Nx H3) :=
  dc_rng (fun i H => H = upd HB D (.dK (F i))) (by rw [h0]) (fun i H hi e => by subst e; exact hs i hi) (fun H e => by subst e; exact hd)
theorem lcF_range {lo : Int} {n : Nat} {g : TG} {tt : TT} {te : TE} {vs : List Nat} {σ : L2.St} {HB : Hp} {D : Addr} {Qd : Hp → Prop} (F : Nat → List V) (h0 : F 0 = [])
    (hs : ∀ (i : Nat), i < n → g (.int (lo + i)) (wipe σ vs) (upd HB D (.lst (F i))) fun σ2 H2 => wipe σ2 vs = wipe σ vs ∧ tt σ2 H2 fun b H3 =>
      if b = true then te σ2 H3 fun y H4 => ∃ acc, H4 D = some (.lst acc) ∧ acc.length < sizeLine ∧ upd H4 D (.lst (acc ++ [y])) = upd HB D (.lst (F (i + 1))) else H3 = upd HB D (.lst (F (i + 1)))) (hd : Qd (upd HB D (.lst (F n)))) :
    ∃ W : Nat → Nat → Hp → Prop, (∃ m, W 0 m (upd HB D (.lst []))) ∧ ∀ i m H, W i m H →
      ((Itr lo n).stop i H ∧ Qd H) ∨ ((Itr lo n).go i H ∧ ∃ Nx : Hp → Prop, (∀ H', Nx H' → ∃ m', m' < m ∧ W (i + 1) m' H') ∧ ∀ x H', (Itr lo n).yld i H x H' → g x (wipe σ vs) H' fun σ2 H2 => wipe σ2 vs = wipe σ vs ∧ tt σ2 H2 fun b H3 =>
        if b = true then te σ2 H3 fun y H4 => ∃ acc, H4 D = some (.lst acc) ∧ acc.length < sizeLine ∧ Nx (upd H4 D (.lst (acc ++ [y]))) else Nx H3) :=
  lc_range (fun i H => H = upd HB D (.lst (F i))) (by rw [h0]) (fun i H hi e => by subst e; exact hs i hi) (fun H e => by subst e; exact hd)
theorem lcF_list {K : PySem.W.Frag} {a : Addr} {xs : List V} {g : TG} {tt : TT} {te : TE} {vs : List Nat} {σ : L2.St} {HB : Hp} {D : Addr} {Qd : Hp → Prop} (F : Nat → List V) (hD : HB D = none) (hl : SqL K HB a xs) (h0 : F 0 = [])
    (hs : ∀ (i : Nat) (x : V), xs[i]? = some x → g x (wipe σ vs) (upd HB D (.lst (F i))) fun σ2 H2 => wipe σ2 vs = wipe σ vs ∧ tt σ2 H2 fun b H3 =>
      if b = true then te σ2 H3 fun y H4 => ∃ acc, H4 D = some (.lst acc) ∧ acc.length < sizeLine ∧ upd H4 D (.lst (acc ++ [y])) = upd HB D (.lst (F (i + 1))) else H3 = upd HB D (.lst (F (i + 1)))) (hd : Qd (upd HB D (.lst (F xs.length)))) :
    ∃ W : Nat → Nat → Hp → Prop, (∃ m, W 0 m (upd HB D (.lst []))) ∧ ∀ i m H, W i m H →
      ((Itl K a).stop i H ∧ Qd H) ∨ ((Itl K a).go i H ∧ ∃ Nx : Hp → Prop, (∀ H', Nx H' → ∃ m', m' < m ∧ W (i + 1) m' H') ∧ ∀ x H', (Itl K a).yld i H x H' → g x (wipe σ vs) H' fun σ2 H2 => wipe σ2 vs = wipe σ vs ∧ tt σ2 H2 fun b H3 =>
        if b = true then te σ2 H3 fun y H4 => ∃ acc, H4 D = some (.lst acc) ∧ acc.length < sizeLine ∧ Nx (upd H4 D (.lst (acc ++ [y]))) else Nx H3) :=
  lc_list (xs := xs) (fun i H => H = upd HB D (.lst (F i))) (by rw [h0]) (fun i H _ e => by subst e; exact (sameNew hD).seq hl) (fun i x H hx e => by subst e; exact hs i x hx) (fun H e => by subst e; exact hd)
end U
namespace U
open PySem PySem.Spec PyProof.Rows L2
/-- a number in decimal -/
abbrev num (i : Int) : Str := Str.ofString (toString i)
theorem num_short (i : Int) (h0 : 0 ≤ i) (h1 : i < 130) : (num i).length ≤ 3 := by
  have z : ∀ n : Nat, n < 130 → (num (n : Int)).length ≤ 3 := by decide +kernel
  obtain ⟨n, rfl⟩ := Int.eq_ofNat_of_zero_le h0
  exact z n (by omega)
theorem num_log (i : Int) (h0 : 0 ≤ i) (h1 : i < 130) : i.natAbs.log2 < 1920 := by
  have e : i.natAbs < 2 ^ 1920 := Nat.lt_of_lt_of_le (show i.natAbs < 130 by omega) (by decide +kernel)
  by_cases hz : i.natAbs = 0
  · rw [hz]; decide
  · exact (Nat.log2_lt hz).mpr e
theorem len_app (a b : Str) : (a ++ b).length = a.length + b.length := by
  show (a.cps ++ b.cps).size = a.cps.size + b.cps.size
  rw [Array.size_append]
theorem rg_at {n : Int} {i : Nat} (h : (i : Int) < n) : (rgV 0 n)[i]? = some (.int (i : Int)) := by
  unfold rgV
  rw [List.getElem?_map, range_at (by omega)]
  simp
end U
namespace U
open PySem PySem.Spec PyProof.Rows L2
abbrev fld (fs : List (Str × V)) (f : Str) : Option V := fs.lookup f
theorem fld_put (f g : Str) (v : V) (fs : List (Str × V)) : fld (putF f v fs) g = if g = f then some v else fld fs g := lookup_putF f g v fs
end U
namespace U
open PySem PySem.Spec PyProof.Rows L2
theorem tNextI {D : Ends} {σ : L2.St} {H : Hp} (h : D.nx σ H) : tNext D σ H := h
end U
namespace U
open PySem PySem.Spec PyProof.Rows L2
/-- the ways of a statement meet in B -/
theorem join {t : TS} {D : Ends} {σ : L2.St} {H : Hp} (B : L2.St → Hp → Prop) (h : ∀ D' : Ends, (∀ σ H, B σ H → D'.nx σ H) → t D' σ H) (k : ∀ σ H, B σ H → D.nx σ H) : t D σ H := h D k
theorem joinR {t : TS} {D : Ends} {σ : L2.St} {H : Hp} (B : L2.St → Hp → Prop) (h : ∀ D' : Ends, D'.rt = D.rt → (∀ σ H, B σ H → D'.nx σ H) → t D' σ H) (k : ∀ σ H, B σ H → D.nx σ H) : t D σ H := h D rfl k
theorem range_map_snoc {β : Type} (f : Nat → β) (i : Nat) : (List.range (i + 1)).map f = (List.range i).map f ++ [f i] := by
  rw [List.range_succ, List.map_append]; rfl
theorem rg_inv {n : Int} {i : Nat} {x : V} (h : (rgV 0 n)[i]? = some x) : x = .int (i : Int) ∧ (i : Int) < n := by
  have hi : i < (rgV 0 n).length := (List.getElem?_eq_some_iff.mp h).1
  rw [rgV_length] at hi
  have hn : (i : Int) < n := by omega
  rw [rg_at hn] at h
  exact ⟨(Option.some.inj h).symm, hn⟩
end U
namespace U
open PySem PySem.Spec PyProof.Rows L2
theorem gNameI {i : Nat} {v : V} {σ : L2.St} {H : Hp} {Q : L2.St → Hp → Prop} (h : Q (σ.set i (some v)) H) : gName i v σ H Q := h
end U
namespace U
open PySem PySem.Spec PyProof.Rows L2
theorem app_le {a b : Str} {m n : Nat} (ha : a.length ≤ m) (hb : b.length ≤ n) : (a ++ b).length ≤ m + n := by rw [len_app]; omega
theorem sz {n m : Nat} (h : n ≤ m) (hm : m ≤ 1000) : n ≤ sizeLine := Nat.le_trans h (Nat.le_trans hm (by decide))
end U
namespace U
open PySem PySem.Spec PyProof.Rows L2
theorem find_at {α : Type} {p : α → Bool} : ∀ {us : List α} {i : Nat} {x : α}, us[i]? = some x → p x = true → (∀ y ∈ us.take i, p y = false) → us.find? p = some x
  | [], i, x, h, _, _ => by simp at h
  | u :: us, 0, x, h, hp, _ => by
    obtain rfl : u = x := by simpa using h
    rw [List.find?_cons, hp]
  | u :: us, i + 1, x, h, hp, ht => by
    rw [List.find?_cons, ht u (by simp)]
    exact find_at (i := i) (by simpa using h) hp (fun y hy => ht y (by simp [hy]))
theorem find_none {α : Type} {p : α → Bool} {us : List α} (h : ∀ y ∈ us, p y = false) : us.find? p = none := by
  rw [List.find?_eq_none]
  intro y hy
  rw [h y hy]; decide
end U
namespace U
open PySem PySem.Spec PyProof.Rows L2
/-- a class made with keywords -/
structure MakK (P : Program) (w : World) (K : PySem.W.Frag) (mg : Str → Option Value) (base : Heap) (CX : CXT) (k : Nat) (x : Str) (C : Addr) (sp : Sp) (n : Nat) (ks : List Str) (gV : List V → List V → List V) : Prop where
  ex : ∃ (f : Addr) (fd : FuncData) (ps : List Str) (g : List Value → List Value → List Value), Mk K C f ∧ FnOk P w K mg base CX k f fd ps sp ∧ mg x = some (.ref C) ∧ KBn K fd ps (n + 1) ks g gV
theorem pe_mkK {X : Cx} {k j n : Nat} {C : Addr} {x : Str} {sp : Sp} {p pos : Pos} {e : Expr} {es : List Expr} {t tk : TA} {ks : List Str} {kws : List Keyword} {gV : List V → List V → List V}
    (c : MakK X.prog X.w X.K X.mg X.base CX0 k x C sp n ks gV) (hr : Room j X.A) (hk : k + 1 ≤ j) (hg : Gl X x) (ha : PA X (e :: es) t) (hkw : PK X kws tk)
    (hall : (backToKw pos (keywordEach kws X.env)).all (·.1.isSome) = true := by rfl) (hks : (backToKw pos (keywordEach kws X.env)).filterMap (·.1) = ks := by rfl) (hdb : (x == ("__debug__" : Str)) = false := by decide)
    (he : starEach (e :: es) X.env = (false, eval e X.env) :: starEach es X.env := by rfl) (hpl : ((backTo pos (starEach (e :: es) X.env)).any (·.1) || (backToKw pos (keywordEach kws X.env)).any (·.1.isNone)) = false := by rfl) :
    PE X (.Call (.Name x p) (e :: es) kws pos) (tMakeK C n ks.length sp gV E0 t tk) := by
  obtain ⟨f, fd, ps, g, M, F, hm, hb⟩ := c.ex
  exact pe_makeK M F (hr.mono hk) hg hm hb pass0 ha hkw hall hks hdb he hpl
end U
namespace U
open PySem PySem.Spec PyProof.Rows L2
theorem tAsgC {i : Nat} {v : V} {D : Ends} {σ : L2.St} {H : Hp} (h : D.nx (σ.set i (some v)) H) : tAsg (tC v) (gName i) D σ H := h
end U
namespace U
open PySem PySem.Spec PyProof.Rows L2
theorem upd_none {H : Hp} {a b : Addr} {o : HO} (h : upd H a o b = none) : b ≠ a ∧ H b = none := by
  by_cases e : b = a
  · subst e; rw [upd_same] at h; cases h
  · rw [upd_ne e] at h; exact ⟨e, h⟩
/-- a class made by its name, with these defaults behind what is written -/
structure MakD (P : Program) (w : World) (K : PySem.W.Frag) (mg : Str → Option Value) (base : Heap) (CX : CXT) (k : Nat) (x : Str) (C : Addr) (sp : Sp) (dvs : List V) : Prop where
  ex : ∃ (f : Addr) (fd : FuncData) (ps : List Str) (ds : List Value), Mk K C f ∧ FnOk P w K mg base CX k f fd ps sp ∧ mg x = some (.ref C) ∧ Binds K fd ps ds ∧ Vals dvs ds
theorem pe_mkD {X : Cx} {k j : Nat} {C : Addr} {x : Str} {sp : Sp} {dvs : List V} {p pos : Pos} {e : Expr} {es : List Expr} {t : TA} (c : MakD X.prog X.w X.K X.mg X.base CX0 k x C sp dvs) (hr : Room j X.A) (hk : k + 1 ≤ j) (hg : Gl X x) (ha : PA X (e :: es) t)
    (hdb : (x == ("__debug__" : Str)) = false := by decide) (he : starEach (e :: es) X.env = (false, eval e X.env) :: starEach es X.env := by rfl) (hpl : (backTo pos (starEach es X.env)).any (·.1) = false := by rfl) :
    PE X (.Call (.Name x p) (e :: es) [] pos) (tMake C sp dvs E0 t) := by
  obtain ⟨f, fd, ps, ds, M, F, hm, b, d⟩ := c.ex
  exact pe_make M F (hr.mono hk) hg hm b d pass0 ha hdb he hpl
end U
namespace U
open PySem PySem.Spec PyProof.Rows L2
theorem found_get (zs : List Str) (z : Str) : ∀ n, n ≤ zs.length → (∀ i < n, zs.getD i Str.empty ≠ z) → valV (foundTo zs n) (Sum.inr z : Key) = none
  | 0, _, _ => rfl
  | n + 1, h, hne => by
    show valV (putK (foundTo zs n) (Sum.inr (zs.getD n Str.empty)) (.int (n : Int))) (Sum.inr z : Key) = none
    rw [valV_put, if_neg (fun e => hne n (Nat.lt_succ_self n) (Sum.inr.inj e).symm)]
    exact found_get zs z n (by omega) fun i hi => hne i (by omega)
theorem found_at (zs : List Str) (k : Nat) (hd : ∀ i < zs.length, zs.getD i Str.empty = zs.getD k Str.empty → i = k) : ∀ n, n ≤ zs.length → k < n → valV (foundTo zs n) (Sum.inr (zs.getD k Str.empty) : Key) = some (.int (k : Int))
  | 0, _, h => absurd h (by omega)
  | n + 1, h, hk => by
    show valV (putK (foundTo zs n) (Sum.inr (zs.getD n Str.empty)) (.int (n : Int))) (Sum.inr (zs.getD k Str.empty) : Key) = some (.int (k : Int))
    rw [valV_put]
    by_cases e : k = n
    · subst e; rw [if_pos rfl]
    · rw [if_neg (fun q => e (hd n (by omega) (Sum.inr.inj q).symm).symm)]
      exact found_at zs k hd n (by omega) (by omega)
end U
namespace U
open PySem PySem.Spec PyProof.Rows L2
/-- an expression that changes nothing, by its value -/
theorem pe_joinV {X : Cx} {e : Expr} {t : TE} (h : PE X e t) : PE X e (fun σ H Q => ∃ v, (∀ Q' : VK, Q' v H → t σ H Q') ∧ Q v H) :=
  ⟨fun pins s σ H Q I ⟨v, h1, h2⟩ => h.run pins s σ H Q I (h1 Q h2)⟩
theorem num_inj : ∀ i : Nat, i < 65 → ∀ j : Nat, j < 65 → num (i : Int) = num (j : Int) → i = j := by decide +kernel
theorem num_not : ∀ i : Nat, i < 65 → ∀ w ∈ (["many", "-1", "", " 1", "1 ", "+1", "MANY"] : List Str), num (i : Int) ≠ w := by decide +kernel
theorem num_zero : ∀ s : Nat, s < 64 → ∀ i : Nat, i < 64 → num (i : Int) ≠ ("0" : Str) ++ num (s : Int) := by decide +kernel
theorem many_zero : ∀ s : Nat, s < 64 → ("many" : Str) ≠ ("0" : Str) ++ num (s : Int) := by decide +kernel
end U
/-! Errors of own classes over any base: made with a walked __init__, their attributes, isinstance. -/
namespace UX
open PySem PySem.Spec PyProof.Rows L2 U

/-- what the written part says of an own error class at C over the built-in B -/
structure OexB (K : PySem.W.Frag) (C : Addr) (B newId initId : String) (bt : List Value) : Prop where
  SF : StoreFacts B bt "object.__setattr__" "object"
  FB : ExcBaseFacts B newId initId bt
  ini : PySem.W.excInitIn K C bt newId = true
  ov : PySem.W.excOver K C bt = true
  hd : PySem.W.hasDictIn K C = true
  sa : PySem.W.findIn K (.ref C) "__setattr__" = some (some (.builtin "object.__setattr__"))
  exC : PySem.W.subIn K (.ref C) (.type "BaseException") = some true
  tyC : PySem.W.typeIn K (.ref C) = some (.type "type")
  kC : PySem.W.keepIn K (.ref C) = true
section
variable {X : Cx} {pins : List (Addr × Obj)} {σ : L2.St} {H : Hp} {s : Shared} {a C dx : Addr} {f : Str} {y : V} {u : Value} {fs : List (Str × V)} {E : Value → Shared → Prop} {A : Around} {B newId initId : String} {bt : List Value}
theorem storeB {hp h' : Heap} {g : Array GenState} {d : Drawn} {t t' : Nat} {os : OsState} {t1 : Addr} (I : Inv X pins σ H ⟨hp, g, d, t, os⟩) (e : H a = some (exo a C none)) (old : ∀ b o, b ≠ a → hp.get? b = some o → h'.get? b = some o) (hdx : hp.objs.size ≤ dx) (hne : dx ≠ a)
    (hx : h'.get? a = some ({ cls := .ref C, dict := some dx, data := .fields #[.ref t1, .none, .none, .none, .bool false, .none] } : Obj)) (hn : h'.Ns1 dx (fun y => if y = f then some u else none)) (ry : RelV y u) :
    Inv X pins σ (upd (upd H dx (exd dx [(f, y)])) a (exo a C (some dx))) ⟨h', g, d, t', os⟩ := by
  have hnd : H dx = none := I.hok.fresh hdx
  have lt : ∀ {b : Addr} {o : Obj}, hp.get? b = some o → b ≠ dx := fun q => Nat.ne_of_lt (Nat.lt_of_lt_of_le (Heap.lt_size q) hdx)
  have na : ∀ {b : Addr}, H b = none → b ≠ a := fun n z => by rw [z, e] at n; cases n
  refine I.un (t' := t') ⟨fun b o q n _ _ => old b o (na n) q, fun b o q n _ _ => ⟨o.slots, old b o (na n) q⟩, fun b o q n _ => by rw [upd_ne (na n), upd_ne (lt q)]; exact n, fun b o q _ => ?_,
    fun b xs q => by rw [upd_ne (at_ne e q exo_tup), upd_ne (ne_of_none q hnd)]; exact q, fun b o v q => by rw [upd_ne (at_ne e q exo_frz), upd_ne (ne_of_none q hnd)]; exact q,
    fun b ps q => ⟨#[], by rw [upd_ne (at_ne e q exo_tbl), upd_ne (ne_of_none q hnd), q]; simp⟩⟩ fun b o q => ?_
  · by_cases hb : b = a
    · exact ⟨_, hb ▸ hx⟩
    · exact ⟨o, old b o hb q⟩
  · by_cases hb : b = a
    · subst hb
      rw [upd_same] at q
      cases q
      exact exo_ok hx
    · rw [upd_ne hb] at q
      by_cases hd : b = dx
      · subst hd
        rw [upd_same] at q
        cases q
        exact exd_ok hn (relO_put (fs := []) ry fun _ => True.intro)
      · rw [upd_ne hd] at q
        refine (I.hok b o q).stay (fun c v hc z => old c v ?_ z) (fun c hc => by rw [upd_ne (at_ne e hc exo_own), upd_ne (ne_of_none hc hnd)]; exact hc) fun c xs hc => by rw [upd_ne (at_ne e hc exo_tup), upd_ne (ne_of_none hc hnd)]; exact hc
        rcases hc with rfl | hc
        · exact hb
        · exact at_ne e hc exo_own
theorem ostB_new {Q : Unit → Shared → Prop} (T : OexB X.K C B newId initId bt) (I : Inv X pins σ H s) (e : H a = some (exo a C none)) (hno : NoAttr X.K C f) (ry : RelV y u)
    (h : ∀ dx s', H dx = none → dx ≠ a → Inv X pins σ (upd (upd H dx (exd dx [(f, y)])) a (exo a C (some dx))) s' → Q () s') : wpAny (model X.prog X.w) A (setAttr (.ref a) f u) Q E s := by
  obtain ⟨t1, ho⟩ := exo_at I.hok e
  obtain ⟨cd, hc, hdc⟩ := PySem.W.any_some T.hd
  obtain ⟨hp, g, d, t, os⟩ := s
  refine PySem.W.set_plain I.kIn (ox := { cls := .ref C, dict := none, data := .fields #[.ref t1, .none, .none, .none, .bool false, .none] }) (od := none) ⟨ho, rfl, rfl, trivial⟩ T.sa ?_
  refine PySem.W.osa_openX (od := none) T.SF I.kIn ⟨ho, rfl, rfl, trivial⟩ T.ov hno.taker fun b => ?_
  refine wpAny_bind (wpAny_pure (wpAny_bind (PySem.W.instanceDict_exc (c2 := .none) ho (PySem.W.looks_clsIn I.kIn hc) hdc ?_)))
  have lta : a < hp.objs.size := Heap.lt_size ho
  have nsa : hp.objs.size ≠ a := Nat.ne_of_gt lta
  show wpAny _ _ (Builtin.ObjectAttr.storeInDict hp.objs.size (.str f t) f u) _ _ _
  refine PySem.HandSPX.store_in_new ⟨_, #[], _, (Heap.get?_update_ne _ _ _ _ nsa).trans (Heap.get?_push_at rfl rfl), rfl, fun e he => absurd he (by simp), fun _ => rfl⟩ fun h' tk' hn hs => ?_
  -- the heap behind it
  have old : ∀ b o, b ≠ a → hp.get? b = some o → h'.get? b = some o := fun b o hb q =>
    (hs.2 b (Nat.ne_of_lt (Heap.lt_size q))).trans ((Heap.get?_update_ne _ _ _ _ hb).trans (Heap.get?_push_of_some _ q))
  have hx : h'.get? a = some { cls := .ref C, dict := some hp.objs.size, data := .fields #[.ref t1, .none, .none, .none, .bool false, .none] } :=
    (hs.2 a nsa.symm).trans (Heap.get?_update_self _ (Heap.get?_push_of_some _ ho) rfl)
  have hnd : H hp.objs.size = none := I.hok.fresh (Nat.le_refl _)
  refine h hp.objs.size _ hnd nsa (storeB (t' := tk') I e old (Nat.le_refl _) nsa hx hn ry)
/-- a further attribute -/
theorem ostB_old {Q : Unit → Shared → Prop} (T : OexB X.K C B newId initId bt) (I : Inv X pins σ H s) (e : H a = some (exo a C (some dx))) (ed : H dx = some (exd dx fs)) (hl : fs.length ≤ 900) (hno : NoAttr X.K C f) (ry : RelV y u)
    (h : ∀ s', Inv X pins σ (upd H dx (exd dx ((f, y) :: fs))) s' → Q () s') : wpAny (model X.prog X.w) A (setAttr (.ref a) f u) Q E s := by
  obtain ⟨t1, ho⟩ := exo_at I.hok e
  obtain ⟨mA, hns, rel⟩ := exd_at I.hok ed
  have hw := within_of rel
  obtain ⟨cd, hc, hdc⟩ := PySem.W.any_some T.hd
  obtain ⟨hp, g, d, t, os⟩ := s
  obtain ⟨oD, _, _, hoD, _, _⟩ := hns.count hw
  refine PySem.W.set_plain I.kIn (ox := { cls := .ref C, dict := some dx, data := .fields #[.ref t1, .none, .none, .none, .bool false, .none] }) (od := some oD) ⟨ho, rfl, rfl, hoD⟩ T.sa ?_
  refine PySem.W.osa_openX (od := some oD) T.SF I.kIn ⟨ho, rfl, rfl, hoD⟩ T.ov hno.taker fun b => ?_
  have di : ∀ {R : Option Addr → Shared → Prop} {E' : Value → Shared → Prop} {A' : Around} {t' : Nat}, R (some dx) ⟨hp, g, d, t', os⟩ → wpAny (model X.prog X.w) A' (instanceDict a true) R E' ⟨hp, g, d, t', os⟩ := fun q => by
    unfold instanceDict
    refine wpAny_bind (wpAny_loadPart ho ?_)
    dsimp only
    refine wpAny_bind ((PySem.W.looks_clsIn (M := model X.prog X.w) I.kIn hc).at ?_)
    rw [hdc]
    exact wpAny_pure q
  refine wpAny_bind (wpAny_pure (wpAny_bind (di ?_)))
  show wpAny _ _ (Builtin.ObjectAttr.storeInDict dx (.str f t) f u) _ _ _
  refine PySem.OEX.store_in_old hns hw (by rw [List.length_map]; omega) fun h' tk' hn hs => ?_
  have hd : ∃ o, h'.get? dx = some o := by
    obtain ⟨o, _, _, e', _⟩ := hn
    exact ⟨o, e'⟩
  exact h _ (I.write (t' := tk') (x := dx) (e := dx) (o := exd dx ((f, y) :: fs)) (by rw [ed]; exact True.intro) (.inl rfl) (fun b o hb q => (hs.2 b hb).trans q) hd (exd_ok hn (relO_put ry rel)))
/-- B.__init__(self, ..) through an own class: nothing of it is told -/
theorem oinitB {us : List Value} {Q : Value → Shared → Prop} (T : OexB X.K C B newId initId bt) (I : Inv X pins σ H s) (e : H a = some (exo a C none)) (hl : us.length ≤ sizeLine) (h : ∀ s', Inv X pins σ H s' → Q .none s') :
    wpAny (model X.prog X.w) A (call (.builtin initId) (.ref a :: us)) Q E s := by
  obtain ⟨nm, N, qn, bs, bm, hdct, sn, sub, ab, col, dd, k0, k1, k2, k3, k5, hC, hT⟩ := PySem.W.excInit_of I.kIn T.ini
  obtain ⟨t1, ho⟩ := exo_at I.hok e
  obtain ⟨hp, g, d, t, os⟩ := s
  refine wpAny_call (PySem.HandSPX.init_base T.FB hT hC ho hl fun h' t2 k hx => ?_)
  have J := I.write (t' := t) (x := a) (e := a) (o := exo a C none) (by rw [e]; exact True.intro) (.inl rfl) k ⟨_, hx⟩ (exo_ok hx)
  have eu : upd H a (exo a C none) = H := by
    funext b
    by_cases hb : b = a
    · subst hb; rw [upd_same, e]
    · exact upd_ne hb
  rw [eu] at J
  exact h _ J
end

/-! ### rules -/
/-- D.__init__(self, ..), D an own class without __init__ over the built-in B; nothing of it is told -/
def tBI (K : PySem.W.Frag) (B newId initId : String) (bt : List Value) (ta : TA) : TE := fun σ H Q => ta σ H fun vs H1 => ∃ (a C : Addr) (ws : List V), vs = .ref a :: ws ∧ ws.length ≤ 1000 ∧ OexB K C B newId initId bt ∧ H1 a = some (exo a C none) ∧ Q .non H1
/-- self.f = e, self an error -/
def tOstB (K : PySem.W.Frag) (B newId initId : String) (bt : List Value) (f : Str) (to te : TE) : TS := fun D σ H => te σ H fun y H1 => to σ H1 fun x H2 => ∃ a C : Addr, x = .ref a ∧ OexB K C B newId initId bt ∧ NoAttr K C f ∧
  ((H2 a = some (exo a C none) ∧ ∀ dx, H2 dx = none → dx ≠ a → D.nx σ (upd (upd H2 dx (exd dx [(f, y)])) a (exo a C (some dx)))) ∨
    ∃ (dx : Addr) (fs : List (Str × V)), H2 a = some (exo a C (some dx)) ∧ H2 dx = some (exd dx fs) ∧ fs.length ≤ 900 ∧ D.nx σ (upd H2 dx (exd dx ((f, y) :: fs))))
/-- what is known of the class that is named -/
structure BInit (K : PySem.W.Frag) (mg : Str → Option Value) (x : Str) (initId : String) : Prop where
  ex : ∃ D : Addr, mg x = some (.ref D) ∧ PySem.W.readsIn K D (.type "type") = true ∧ PySem.W.specialIn K (.ref D) "__getattribute__" = some (some (.builtin "type.__getattribute__")) ∧
    PySem.W.findCls K (.ref D) (.type "type") "__init__" = some (.val (.builtin initId)) ∧ PySem.W.handedIn (.builtin initId) = true
section
variable {X : Cx} {o e : Expr} {es : List Expr} {to te : TE} {ta : TA} {f x : Str} {p p' p1 p2 pos : Pos} {B newId initId : String} {bt : List Value}
theorem pe_binit {pl : Sem Bool} (c : BInit X.K X.mg x initId) (hg : Gl X x) (ha : PA X (e :: es) ta) (hdb : (x == ("__debug__" : Str)) = false := by decide)
    (hc : eval (.Call (.Attribute (.Name x p1) "__init__" p2) (e :: es) [] pos) X.env = (do
      let ov ← eval (.Name x p1) X.env
      standAt p2.atName
      let (f, first) ← holding [ov] (getMethod ov "__init__" pl)
      callWith pos f first (backTo pos (starEach (e :: es) X.env)) (backToKw pos (keywordEach [] X.env))) := by rfl)
    (he : starEach (e :: es) X.env = (false, eval e X.env) :: starEach es X.env := by rfl) (hpl : (backTo pos (starEach es X.env)).any (·.1) = false := by rfl) :
    PE X (.Call (.Attribute (.Name x p1) "__init__" p2) (e :: es) [] pos) (tBI X.K B newId initId bt ta) := by
  obtain ⟨D, hm, hrd, hga, hat, hh⟩ := c.ex
  refine ⟨fun pins s σ H Q I h => ?_⟩
  refine PySem.W.methodCall_KW (pl := pl) (ld_glob I hg hm ?_ hdb) hc
  refine PySem.W.method_cls I.kIn hga (PySem.W.cls_value I.kIn hrd hat hh ?_)
  refine PyProof.Rows.callWith_method1 (thn (ha.run pos pins _ σ H _ (I.tok _) h) fun us s1 ⟨vs, H1, I1, r1, a, C, ws, ev, hl, T, ea, q⟩ => ?_) he hpl
  subst ev
  cases r1 with
  | @cons _ u0 _ ur ra rw' =>
    obtain rfl : u0 = Value.ref a := ra
    refine oinitB T I1 ea ?_ fun s' J => ⟨.non, H1, J, rfl, q⟩
    rw [← Paired.length rw', sizeLine_eq]
    omega
theorem ps_ostB (ho : PE X o to) (he : PE X e te) (hs : swapsWith e (some (.Attribute o f p')) pos.line X.env = pure false := by rfl) : PS X (.Assign [.Attribute o f p'] e pos) (tOstB X.K B newId initId bt f to te) := by
  refine ⟨fun pins s σ H D I h => ?_⟩
  refine plainObj_wpAny_Assign_Attribute (thn (he.run pins s σ H _ I h) fun v s1 ⟨y, H1, I1, r1, q1⟩ => thn (ho.run pins s1 σ H1 _ I1 q1) fun u s2 ⟨x, H2, I2, r2, a, C, ex, T, hno, q⟩ => ?_) hs
  subst ex
  obtain rfl : u = Value.ref a := r2
  rcases q with ⟨ea, q⟩ | ⟨dx, fs, ea, ed, hl, q⟩
  · exact ostB_new T I2 ea hno r1 fun dx s' n ne J => ⟨σ, _, J, q dx n ne⟩
  · exact ostB_old T I2 ea ed hl hno r1 fun s' J => ⟨σ, _, J, q⟩
end
/-- C(e, ..), an error of an own class whose __init__ keeps sp, to be raised -/
def tMkB (C : Addr) (sp : Sp) (ta : TA) : L2.St → Hp → XK → Prop := fun σ H Q => ta σ H fun vs H1 => vs.length ≤ 1000 ∧ ∀ a, H1 a = none → sp (.ref a :: vs) (upd H1 a (exo a C none))
  (fun v H2 => v = .non ∧ ∃ (d : Addr) (fs : List (Str × V)), H2 a = some (exo a C (some d)) ∧ H2 d = some (exd d fs) ∧ H1 d = none ∧ Q (.ref C) (some d) (upd (del H2 a) d (.xd fs))) E0
structure ExM (P : Program) (w : World) (K : PySem.W.Frag) (mg : Str → Option Value) (base : Heap) (k : Nat) (x : Str) (C : Addr) (sp : Sp) : Prop where
  ex : ∃ (B newId initId : String) (bt : List Value) (f : Addr) (fd : FuncData) (ps : List Str), OexB K C B newId initId bt ∧ mg x = some (.ref C) ∧ PySem.W.findIn K (.ref C) "__init__" = some (some (.ref f)) ∧ PySem.W.typeIn K (.ref f) = some (.type "function") ∧
    FnOk P w K mg base CX0 k f fd ps sp ∧ Binds K fd ps []
section
variable {X : Cx} {e : Expr} {es : List Expr} {ta : TA} {x : Str} {p pos : Pos} {C : Addr} {sp : Sp} {k j : Nat}
theorem pmk_B (c : ExM X.prog X.w X.K X.mg X.base k x C sp) (hr : Room j X.A) (hk : k + 1 ≤ j) (hg : Gl X x) (ha : PA X (e :: es) ta)
    (hdb : (x == ("__debug__" : Str)) = false := by decide) (he : starEach (e :: es) X.env = (false, eval e X.env) :: starEach es X.env := by rfl) (hpl : (backTo pos (starEach es X.env)).any (·.1) = false := by rfl) :
    PMk X (.Call (.Name x p) (e :: es) [] pos) (tMkB C sp ta) := by
  obtain ⟨B, newId, initId, bt, f, fd, ps, T, hm, iC, tI, F, hb⟩ := c.ex
  have hr' : Room (k + 1) X.A := hr.mono hk
  intro pins s σ H Q I h
  refine wpAny_Call_Name_kw (ld_glob I hg hm ?_ hdb)
  refine PySem.W.callWith_K (h₀ := X.base) I.ok.mod.kin T.kC (thn (ha.run pos pins s σ H _ I h) fun us s1 ⟨vs, H1, I1, r1, hz, q1⟩ => ⟨I1.kIn, ?_⟩) he hpl
  show wpAny _ _ (call (.ref C) us) _ _ _
  obtain ⟨nm, N, qn, bs, bm, hdct, sn, sub, ab, col, dd, k0, k1, k2, k3, k5, hC, hT⟩ := PySem.W.excInit_of I1.kIn T.ini
  obtain ⟨hp, g, dr, tk, os⟩ := s1
  have hsz : hp.objs.size ≤ hp.objs.size + 1 := Nat.le_succ _
  have hq := q1 (hp.objs.size + 1) (I1.hok.fresh hsz)
  have kk : ∀ b o, hp.get? b = some o → ((hp.push (PySem.W.kdv_tup us)).push (PySem.HandSPX.excO C hp.objs.size)).get? b = some o := fun b o q => Heap.get?_push_of_some _ (Heap.get?_push_of_some _ q)
  have hget : ((hp.push (PySem.W.kdv_tup us)).push (PySem.HandSPX.excO C hp.objs.size)).get? (hp.objs.size + 1) = some (PySem.HandSPX.excO C hp.objs.size) := by heap_get
  have I2 : Inv X pins σ (upd H1 (hp.objs.size + 1) (exo (hp.objs.size + 1) C none)) ⟨(hp.push (PySem.W.kdv_tup us)).push (PySem.HandSPX.excO C hp.objs.size), g, dr, tk, os⟩ :=
    I1.laid (t' := tk) (a := hp.objs.size + 1) (o := exo (hp.objs.size + 1) C none) (h' := (hp.push (PySem.W.kdv_tup us)).push (PySem.HandSPX.excO C hp.objs.size)) kk hsz (exo_ok hget)
  have r2 : Vals (V.ref (hp.objs.size + 1) :: vs) (Value.ref (hp.objs.size + 1) :: us) := .cons rfl r1
  have hl : (Value.ref (hp.objs.size + 1) :: us).length = ps.length := by
    have z := F.len _ _ _ _ hq
    rw [r2.length] at z
    exact z
  have hus : us.length ≤ sizeLine := by
    rw [← Paired.length r1, sizeLine_eq]
    omega
  have hbb := hb _ (Value.ref (hp.objs.size + 1) :: us) I2.kIn (by rw [List.append_nil]; exact hl)
  rw [List.append_nil] at hbb
  refine wpAny_call (PySem.HandSPX.call_own T.FB hT hC (PySem.W.looks_findIn I1.kIn iC) (fun self => PySem.W.bind_fn I1.kIn self tI) hus
    (codeAny_mono (F.run _ X.stack _ _ ⟨Value.ref (hp.objs.size + 1) :: us, []⟩ (Value.ref (hp.objs.size + 1) :: us) _ _ E0 (hr'.make C us []) (I2.env0.make C us []) hbb r2 hq) fun r s' hq' => ?_))
  cases r with
  | error er => exact False.elim hq'
  | ok fl =>
    cases fl with
    | ret u =>
      obtain ⟨v, H2, os2, bare2, un2, hok2, rv, ev, d, fs, ea, ed, hd1, q2⟩ := hq'
      subst ev
      obtain ⟨h2, g2, d2, t2, os'⟩ := s'
      exact ⟨rv, mk_end (raises_own T.exC T.tyC) I1 hsz kk un2 hok2 os2 bare2 ea ed hd1 q2⟩
    | next => exact False.elim hq'
    | brk => exact False.elim hq'
    | cont => exact False.elim hq'
end

/-! ### o.m(e, ..) in a try: what is raised is wished for at the caller's slots -/
def tMtS (C : Addr) (m : Str) (sp : Sp) (E : L2.St → XK) (ta : TE) (t : TA) : TE := fun σ H Q => ta σ H fun x H1 => ∃ a dx fs, x = .ref a ∧ H1 a = some (.ins C dx fs) ∧ fld fs m = none ∧ t σ H1 fun vs H2 => sp (.ref a :: vs) H2 Q (E σ)
theorem pe_mtS {X : Cx} {CX : CXT} {k j : Nat} {C : Addr} {m : Str} {sp : Sp} {E : L2.St → XK} {pos apos : Pos} {e o : Expr} {es : List Expr} {ta : TE} {t : TA} {pl : Sem Bool} (c : Met X.prog X.w X.K X.mg X.base CX k C m sp) (hr : Room j X.A) (hk : k ≤ j) (hx : ∀ σ, PassesAt CX X σ (E σ)) (he : PE X o ta) (ha : PA X (e :: es) t)
    (hst : starEach (e :: es) X.env = (false, eval e X.env) :: starEach es X.env := by rfl) (hpl : (backTo pos (starEach es X.env)).any (·.1) = false := by rfl)
    (ht : eval (.Call (.Attribute o m apos) (e :: es) [] pos) X.env = (do
      let ov ← eval o X.env
      standAt apos.atName
      let (f, first) ← holding [ov] (getMethod ov m pl)
      callWith pos f first (backTo pos (starEach (e :: es) X.env)) (backToKw pos (keywordEach [] X.env))) := by rfl) :
    PE X (.Call (.Attribute o m apos) (e :: es) [] pos) (tMtS C m sp E ta t) := by
  obtain ⟨f, fd, ps, hc, hm, F, b⟩ := c.ex
  refine ⟨fun pins s σ H Q I h => ?_⟩
  refine PySem.W.methodCall_KW (pl := pl) (thn (he.run pins s σ H _ I h) fun u s1 ⟨x, H1, I1, rx, a, dx, fs, ex, ea, l, q⟩ => ?_) ht
  subst ex
  obtain rfl : u = Value.ref a := rx
  refine getmeth_ok I1 ea hc hm l ?_
  refine PySem.W.callWith_K (first := [.ref a]) (h₀ := X.base) I.ok.mod.kin hm.kp (thn (ha.run pos pins s1 σ H1 _ I1 q) fun us s2 ⟨vs, H2, I2, r, q2⟩ => ⟨I2.kIn, ?_⟩) hst hpl
  exact run_fnS (us := .ref a :: us) (vs := .ref a :: vs) F (hr.mono hk) b (hx σ) I2 (.cons rfl r) q2

/-! ### isinstance of a caught error that has attributes -/
structure ExcI (K : PySem.W.Frag) (D : Addr) : Prop where
  cl : (PySem.W.clsIn K D).isSome = true
  ga : PySem.W.findIn K (.ref D) "__getattribute__" = some (some (.builtin "BaseException.__getattribute__"))
  gg : PySem.W.findIn K (.ref D) "__getattr__" = some none
  exC : PySem.W.subIn K (.ref D) (.type "BaseException") = some true
  ca : PySem.W.findIn K (.ref D) "__class__" = some (some (.builtin "object.__class__"))
  cg : PySem.W.specialIn K (.builtin "object.__class__") "__get__" = some (some (.builtin "getset_descriptor.__get__"))
  ct : PySem.W.takesIn K (.builtin "object.__class__") = some true
  mo : PySem.W.mroIn K D (.type "object") = some true
def rIsD (K : PySem.W.Frag) (D a : Addr) (cls : Value) (d : Option Addr) : List V → Hp → VK → Prop := fun xs H Q => ∃ (c : V) (cv : Value) (b : Bool) (dd : Addr) (fs : List (Str × V)), xs = [.ref a, c] ∧ ClsV c cv ∧ cls = .ref D ∧ d = some dd ∧ H dd = some (.xd fs) ∧ PySem.W.kitOne K (.ref D) cv = some b ∧ Q (.bl b) H
theorem call_isD {X : Cx} {a D : Addr} {cls : Value} {d : Option Addr} {oe : Obj} {pn : List (Addr × Obj)} (C : ExcI X.K D) (hz : Zc cls d oe) (hf : ∃ vs, oe.data = .fields vs) : CallR (X.suite a ((a, oe) :: pn)) (.builtin "isinstance") (rIsD X.K D a cls d) := by
  intro pins s σ H xs us Q I r h
  obtain ⟨c, cv, b, dd, fs, rfl, hcv, rfl, rfl, hdd, e, q⟩ := h
  cases r with
  | cons rx rr =>
    cases rr with
    | cons rt rr =>
      cases rr
      cases rx
      have ec := hcv.eq rt
      subst ec
      obtain ⟨hget, _⟩ := I.pin (a, oe) (List.mem_append_left _ List.mem_cons_self)
      obtain ⟨mA, ⟨od, es, ep, hod, _⟩, _⟩ := (show ObjOk X.prog X.w H s.heap dd (.xd fs) from I.hok dd _ hdd)
      obtain ⟨vs, hv⟩ := hf
      have J : PySem.W.InstAt s.heap a oe D (some od) := ⟨hget, hz.1, by unfold PySem.W.notCls; rw [hv] <;> rfl, by rw [hz.2]; exact hod⟩
      exact PySem.W.kia_one (PySem.W.kitx_exc C.cl C.ga C.gg C.exC C.ca C.cg C.ct C.mo) I.kIn J e (fun z => nomatch z) fun tk => ⟨.bl b, H, I.kept (t' := tk) fun _ _ z => z, rfl, q⟩
end UX
namespace UX
open PySem PySem.Spec PyProof.Rows L2 U
/-- a def that lets nothing out, calling defs that may raise where they don't -/
theorem okN {P : Program} {w : World} {K : PySem.W.Frag} {mg : Str → Option Value} {base : Heap} {x qual : Str} {st : Stmt} {f : Addr} {fd : FuncData} {N ps : List Str} {k : Nat} {sp : Sp} (F : Fun K x qual st f fd) (S : FnScope N ps (defScope st)) (len : ∀ vs H Q E, sp vs H Q E → vs.length = ps.length)
    (hbody : ∀ (cdv : Value) (A : Around) (outer : List Env) (s : Shared) (H : Hp) (vs : List V) (Q : VK) (E : XK), Room k (A.deeper (envOfC qual (defScope st) s.heap.objs.size f cdv)) → sp vs H Q E →
      ∃ t, PSs (cxOf (L2.CX P w) P w K mg base N qual (defScope st) f cdv A outer s H E).nox (defBody st) t ∧ t { nx := fun _ H' => Q .non H', rt := Q } (start N vs) H) : FnOk P w K mg base (L2.CX P w) (k + 1) f fd ps sp := by
  obtain ⟨oc, od, kV, doc, pm, an, cdv, ct, osl, rfl, lk, hcd⟩ := F.ex
  refine fn_of lk hcd S len fun A outer s H vs Q E hr hsp => ?_
  obtain ⟨t, h, q⟩ := hbody cdv A outer s H vs Q E hr hsp
  exact ⟨t, h.nox, q⟩
section
variable {X : Cx} {k j : Nat} {C : Addr} {x m : Str} {sp : Sp} {p pos apos : Pos} {e o : Expr} {es : List Expr} {ta : TE} {t : TA}
theorem pe_cL (c : Cal X.prog X.w X.K X.mg X.base (L2.CX X.prog X.w) k x sp) (hr : Room j X.A) (hk : k ≤ j) (hg : Gl X x) (ha : PA X (e :: es) t)
    (hdb : (x == ("__debug__" : Str)) = false := by decide) (he : starEach (e :: es) X.env = (false, eval e X.env) :: starEach es X.env := by rfl) (hpl : (backTo pos (starEach es X.env)).any (·.1) = false := by rfl) :
    PE X (.Call (.Name x p) (e :: es) [] pos) (tCall sp [] L2.E0 t) := by
  obtain ⟨f, fd, ps, F, hm, kp, b⟩ := c.ex
  exact pe_call F (hr.mono hk) hg hm kp b .nil passL ha hdb he hpl
theorem pe_mtL {pl : Sem Bool} (c : Met X.prog X.w X.K X.mg X.base (L2.CX X.prog X.w) k C m sp) (hr : Room j X.A) (hk : k ≤ j) (he : PE X o ta) (ha : PA X (e :: es) t)
    (hst : starEach (e :: es) X.env = (false, eval e X.env) :: starEach es X.env := by rfl) (hpl : (backTo pos (starEach es X.env)).any (·.1) = false := by rfl)
    (ht : eval (.Call (.Attribute o m apos) (e :: es) [] pos) X.env = (do
      let ov ← eval o X.env
      standAt apos.atName
      let (f, first) ← holding [ov] (getMethod ov m pl)
      callWith pos f first (backTo pos (starEach (e :: es) X.env)) (backToKw pos (keywordEach [] X.env))) := by rfl) :
    PE X (.Call (.Attribute o m apos) (e :: es) [] pos) (tMeth C m sp [] L2.E0 ta t) := by
  obtain ⟨f, fd, ps, hc, hm, F, b⟩ := c.ex
  exact pe_meth (pl := pl) he hc hm F (hr.mono hk) b .nil passL ha hst hpl ht
end
end UX
namespace UX
open PySem PySem.Spec PyProof.Rows L2 U
theorem cxF {P : Program} {w : World} {H : Hp} {s : Shared} {e : Value} {s' : Shared} (h : L2.CX P w [] H s (fun _ _ _ => False) e s') : False := by
  obtain ⟨_, _, _, _, _, _, _, _, _, _, _, _, z⟩ := h
  exact z.elim
end UX
open PySem PySem.Spec PyProof.Rows L2 U
set_option maxHeartbeats 400000
namespace UF
open Builtin Builtin.Str Builtin.Int Builtin.Float
def binT (n : Nat) : Str := PySem.Str.ofString (String.ofList (Nat.toDigits 2 n))
theorem meetsB0 (n : Nat) (hn : n < 64) (t u : Tok) (spec : PySem.Str) (hne : (spec.length == 0) = false) (hasc : ((spec.cps.toList.drop 1).any (· ≥ 128) || (spec.cps.getD 0 0 ≥ 128 && !([60, 62, 61, 94] : List Nat).contains (spec.cps.getD 1 0))) = false)
    (hp : parseFormatSpec spec.cps.toList "int" 62 = .ok { align := 62, type := some 98 }) : Meets (Builtin.«int.__format__» ⟨[.int (n : Int) t, .str spec u], []⟩) (fun _ R s => ∀ t' k, R (.ok (.ret (.str (binT n) t'))) { s with toks := k }) := by
  apply PySem.W.KPc.meets_of
  intro _ _ _ _ _ _ a
  unfold Builtin.«int.__format__»
  simp only [selfAndOne, noKeywords, Int.intOfSelf, asInt?, asStr?, List.isEmpty_nil, if_true, pure_bind, bind_pure, bind_assoc, hne, hasc, Bool.false_eq_true, if_false,
    show (Value.str spec u == Value.none) = false from rfl]
  refine wpAny_bind (wpAny_typeNameOf (T := "str") (typeIs_str _ _ _) (by decide) fun _ => ?_)
  refine wpAny_bind (wpAny_typeNameOfCut_int ?_)
  simp only [hp, Option.getD]
  refine wpAny_ite (PySem.W.KPc.ite_yes (by decide +kernel) ?_)
  refine PySem.W.KXf.ret_text (T := binT n) ?e ?l ?_
  case e => clear a; revert n; decide +kernel
  case l => clear a; revert n; decide +kernel
  exact a
/-- the rule: f'{x:b}' of a small number -/
def tFmtB (te : TE) : TE := fun σ H Q => te σ H fun x H1 => ∃ n : Nat, x = .int (n : Int) ∧ n < 64 ∧ Q (.str (binT n)) H1
theorem pe_fmtB {X : Cx} {e : Expr} {te : TE} {kk : Nat} {p1 p2 p3 : Pos} (he : PE X e te) : PE X (.FormattedValue e (-1) (some (.JoinedStr [.Constant (.str "b") kk p1] p2)) p3) (tFmtB te) := by
  refine ⟨fun pins s σ H Q I h => ?_⟩
  refine wpAny_FormattedValue_spec (thn (he.run pins s σ H _ I h) fun v s1 hv => ?_)
  obtain ⟨x, H1, I1, r1, n, rfl, hn, q⟩ := hv
  obtain ⟨t, rfl⟩ := r1
  refine thn ((pe_joined1 (X := X) pe_str).run pins s1 σ H1 (fun y H2 => y = .str "b" ∧ H2 = H1) I1 ?_) fun v2 s2 hv2 => ?_
  · exact ⟨rfl, rfl⟩
  obtain ⟨y, H2, I2, r2, rfl, rfl⟩ := hv2
  obtain ⟨t2, rfl⟩ := r2
  refine ⟨_, t2, rfl, ?_⟩
  exact PySem.W.KXf.field_int rfl (by decide +kernel) (by decide +kernel) (fun u => meetsB0 n hn t u _ (by decide +kernel) (by decide +kernel) (by rfl)) fun t' k => ⟨.str (binT n), H2, I2.tok _, ⟨_, rfl⟩, q⟩
theorem pe_joinK {X : Cx} (K : PySem.W.Frag) (hK : X.K = K) {o e : Expr} {to te : TE} {apos pos : Pos} (ho : PE X o to) (he : PE X e te) (hs : starEach [e] X.env = [(false, eval e X.env)]) (hbase : attributeBase o "join" X.env (eval o X.env) = eval o X.env) (hline : (apos.endLine == pos.line) = true) :
    PE X (.Call (.Attribute o "join" apos) [e] [] pos) (tM1 (fun x xs H Q => ∃ a p, ∃ ys : List Str, x = .str a ∧ xs = [.ref p] ∧ (SqL K H p (ys.map V.str) ∨ SqT K H p (ys.map V.str)) ∧
      (ys.map (·.length)).sum + ys.length * a.length ≤ 16777216 ∧ Q (.str (Txt.join a ys)) H) to te) := by
  subst hK; exact pe_join ho he hs hbase hline
/-- one of several readings -/
theorem pe_ex {ι : Type} {X : Cx} {e : Expr} {t : ι → TE} (h : ∀ i, PE X e (t i)) : PE X e (fun σ H Q => ∃ i, t i σ H Q) := ⟨fun pins s σ H Q I ⟨i, h1⟩ => (h i).run pins s σ H Q I h1⟩
end UF
namespace UF
theorem op_mulS {X : Cx} : OpR X (binaryOp .Mult) (fun x y H Q => ∃ (i : Str) (n : Int), x = .str i ∧ y = .int n ∧ PySem.MulOk i n ∧ Q (.str (PySem.Txt.mul i n)) H) := by
  intro pins s σ H x y v u Q I rx ry h
  obtain ⟨i, n, rfl, rfl, hz, q⟩ := h
  obtain ⟨t, rfl⟩ := rx
  obtain ⟨t', rfl⟩ := ry
  exact PySem.SB.mul hz (fun t' tk => ⟨.str (PySem.Txt.mul i n), H, I.tok _, ⟨_, rfl⟩, q⟩)
theorem cutS_le (z : Str) (lo hi : Option Int) : (cutS z lo hi).length ≤ z.length := by
  unfold cutS
  show (((z.cps.toList.drop _).take _).toArray).size ≤ z.cps.size
  rw [List.size_toArray, List.length_take, List.length_drop, Array.length_toList]
  omega
end UF
namespace UF
theorem pi_listK {X : Cx} {tg : Expr} (K : PySem.W.Frag) (hK : X.K = K) {l : Expr} {tl : TE} (hl : PE X l tl) : PI X tg l (iList K tl) := by subst hK; exact pi_list hl
end UF
set_option maxHeartbeats 3200000
/-! set(xs) of a list of any keys of one kind, and len(set(xs)) of a list of texts -/
namespace US
open PySem PySem.Spec PyProof.Rows L2 U
section
variable {T : Type} [DecidableEq T]
/-- the keys met before place i, each once -/
def dd (ks : Nat → T) : Nat → List T
  | 0 => []
  | i + 1 => if ks i ∈ dd ks i then dd ks i else dd ks i ++ [ks i]
theorem dd_mem {ks : Nat → T} {i : Nat} {x : T} : x ∈ dd ks (i + 1) ↔ x ∈ dd ks i ∨ x = ks i := by
  rw [dd]
  by_cases h : ks i ∈ dd ks i
  · rw [if_pos h]
    exact ⟨Or.inl, fun q => q.elim id fun e => e ▸ h⟩
  · rw [if_neg h, List.mem_append, List.mem_singleton]
theorem dd_le (ks : Nat → T) : ∀ i, (dd ks i).length ≤ i
  | 0 => Nat.le_refl _
  | i + 1 => by
    rw [dd]
    have := dd_le ks i
    by_cases h : ks i ∈ dd ks i
    · rw [if_pos h]; omega
    · rw [if_neg h, List.length_append]; show _ + 1 ≤ _; omega
theorem dd_len {ks : Nat → T} {i : Nat} : (dd ks (i + 1)).length = if decide (ks i ∈ dd ks i) = true then (dd ks i).length else (dd ks i).length + 1 := by
  rw [dd]
  by_cases h : ks i ∈ dd ks i
  · rw [if_pos h, if_pos (decide_eq_true h)]
  · rw [if_neg h, if_neg (by rw [decide_eq_false h]; decide), List.length_append]; rfl
end
section
variable {prog : Program} {w : World} {A : Around} {T : Type} [DecidableEq T] {knd : KeyKind prog w T}
theorem kept {h h' : Heap} {S : Addr} {f : T → Bool} {n : Nat} (q : h.SetOf knd S f n) (k : ∀ o, h.get? S = some o → h'.get? S = some o) : h'.SetOf knd S f n := by
  obtain ⟨o, es, ep, tb, at0, more⟩ := q
  exact ⟨o, es, ep, tb, k o at0, more⟩
/-- the loop that fills the set -/
theorem fill {R : Result → Shared → Prop} {I S : Addr} {fp wr : List Addr} {G : Array GenState → Array GenState → Prop} {n : Nat} {Pv : Nat → Value → Prop} {St : Nat → Shared → Prop} {ks : Nat → T}
    (W : WalksS prog w A.in1 I fp wr G n Pv St) (out : S ∉ fp) (key : ∀ i v, Pv i v → knd.is (ks i) v = true ∧ v.scannable = true) (few : n + 1 < scanBound) :
    ∀ (r i : Nat) (s : Shared), i + r = n → St i s → s.heap.SetOf knd S (fun x => decide (x ∈ dd ks i)) (dd ks i).length →
      (∀ s', Moved (S :: wr) G s s' → s'.heap.SetOf knd S (fun x => decide (x ∈ dd ks n)) (dd ks n).length → R (.ok (.ret .none)) s') →
      codeAny (model prog w) A (.builtin "set.update.loop" ⟨[.ref S, .ref I], []⟩) R s := by
  have off : S ∉ wr := fun q => out (W.sub S q)
  have more : ∀ b, b ∈ wr → b ∈ S :: wr := fun b q => .tail _ q
  intro r
  induction r with
  | zero =>
    rintro i s e st hS fin
    obtain rfl : i = n := e
    apply codeAny_builtin PyProof.Rows.F.entry_set_update_loop
    rw [Around.under_plainId PyProof.Rows.F.plain_set_update_loop]
    refine wpAny_bind (m := pyNext (.ref I)) (W.done s _ _ st fun s' mv => ?_)
    refine wpAny_pure (fin s' (mv.mono more) (kept hS fun o at0 => mv.heap S o off at0))
  | succ r ih =>
    rintro i s e st hS fin
    have lt : i < n := by omega
    apply codeAny_builtin PyProof.Rows.F.entry_set_update_loop
    rw [Around.under_plainId PyProof.Rows.F.plain_set_update_loop]
    refine wpAny_bind (m := pyNext (.ref I)) (W.item i s _ _ lt st fun v s' pv st' mv => ?_)
    obtain ⟨isk, scn⟩ := key i v pv
    refine wpAny_bind (m := holding [v] (setAdd S v)) (wpAny_holding ?_)
    unfold setAdd
    refine wpAny_holding (wpAny_bind (knd.pyHash (k := ks i) isk ?_))
    have room := dd_le ks i
    refine wpAny_setAddHashed_of isk scn (kept hS fun o at0 => mv.heap S o off at0) (by omega) fun h2 but put => ?_
    have put' : h2.SetOf knd S (fun x => decide (x ∈ dd ks (i + 1))) (dd ks (i + 1)).length := by
      rw [dd_len]
      have ef : (fun x => decide (x ∈ dd ks (i + 1))) = fun x => decide (x ∈ dd ks i) || decide (x = ks i) := by
        funext x
        by_cases h1 : x ∈ dd ks i <;> by_cases h2 : x = ks i <;> simp [dd_mem, h1, h2]
      rw [ef]
      exact put
    have far : ∀ b o, b ≠ S → s'.heap.get? b = some o → h2.get? b = some o := fun b o nb q => by rw [but.2 b nb]; exact q
    refine wpAny_pure ⟨plainId_quiet PyProof.Rows.F.plain_set_update_loop _, ih (i + 1) _ (by omega) ?_ put' fun s2 mv2 q2 => fin s2 ?_ q2⟩
    · exact W.frame _ s' _ _ st' (Nat.le_succ _) fun b inb o q => far b o (fun z => out (z ▸ inb)) q
    · exact .trans W.gtrans ((mv.mono more).then_heap (Nat.le_succ _) fun b o nb q => far b o (fun z => nb (z ▸ .head _)) q) mv2
end
section
variable {prog : Program} {w : World} {A : Around} {E : Value → Shared → Prop} {s : Shared} {T : Type} [DecidableEq T] {knd : KeyKind prog w T}
/-- a set that was just made -/
abbrev bare (led : Bool) : Obj := { cls := .type "set", dict := none, data := .set #[] 0 (.fresh 0 0 led) }
theorem set_of_list {l : Addr} {items : Array Value} {ks : Nat → T} {Q : Value → Shared → Prop} (calm : A.handled = none) (isl : s.heap.IsList l items) (key : ∀ i v, items[i]? = some v → knd.is (ks i) v = true ∧ v.scannable = true) (few : items.size + 1 < scanBound)
    (go : ∀ (h' : Heap) (tk : Nat), h'.SetOf knd s.heap.objs.size (fun x => decide (x ∈ dd ks items.size)) (dd ks items.size).length → (∀ b o, s.heap.get? b = some o → h'.get? b = some o) → Q (.ref s.heap.objs.size) { s with heap := h', toks := tk }) :
    wpAny (model prog w) A (call (.type "set") [.ref l]) Q E s := by
  obtain ⟨m1, m2, mro0⟩ := PySem.F.called_set.mro
  have made0 := PySem.F.called_set.made; have sub0 := PySem.F.called_set.sub; have nt0 := PySem.F.called_set.notType; have cc0 := PySem.F.called_set.canCreate
  have tc0 := PySem.F.typeCall_set_1 (.ref l)
  apply wpAny_call; apply codeAny_of_tree
  show wpAny _ _ (callAny (.type "set") _) _ _ _
  refine wpAny_pure ⟨Code.quiet_builtin _ (by decide +kernel), ?_⟩
  apply codeAny_builtin PySem.F.entry_type_call
  rw [Around.under_plain (weight_type_call_type "set" [.ref l] []) rfl]
  repeat (any_goals (first | assumption | wp_step))
  refine codeAny_mono (code_set_new_1 (.ref l) (E := E) (Q₁ := fun v s1 => ∃ led : Bool, v = .ref s.heap.objs.size ∧ s1 = { s with heap := s.heap.push (bare led) }) fun led => ⟨led, rfl, rfl⟩) fun r s1 got => ?_
  cases r with
  | error e => exact got
  | ok fl => cases fl with
    | ret v =>
      obtain ⟨led, rfl, rfl⟩ := got
      generalize hp0 : s.heap.push (bare led) = H0
      have at0 : H0.get? s.heap.objs.size = some (bare led) := by rw [← hp0]; exact Heap.get?_push_size _ rfl
      have old0 : ∀ b o, s.heap.get? b = some o → H0.get? b = some o := fun b o q => by rw [← hp0]; exact Heap.get?_push_of_some _ q
      have ty0 : Shared.TypeIs { s with heap := H0 } (.ref s.heap.objs.size) "set" := ⟨_, at0, rfl⟩
      have look0 := PySem.F.called_set.init.lookup; have bind0 := PySem.F.called_set.init.bind (.ref s.heap.objs.size)
      repeat (any_goals (first | assumption | wp_step))
      refine codeAny_mono (codeAny_call_builtin (R := wants (fun v s2 => v = .none ∧ ∃ h' tk, s2 = { s with heap := h', toks := tk } ∧ h'.SetOf knd s.heap.objs.size (fun x => decide (x ∈ dd ks items.size)) (dd ks items.size).length ∧ ∀ b o, s.heap.get? b = some o → h'.get? b = some o) E)
        PySem.F.called_set.init.plain PySem.F.entry_set_init (check_set_init_1 ty0 ?_)) fun r2 s2 got2 => ?_
      · obtain ⟨⟨lc, ld, lda, ls⟩, lat, lcl, ln, ldd⟩ := isl
        dsimp only at lcl ldd
        cases lcl; cases ldd
        have lat0 := old0 _ _ lat
        have nl0 := PySem.F.sub_list_set; have nf0 := PySem.F.sub_list_frozenset
        have nd0 : (Value.type "list" == Value.type "dict") = false := by decide
        have isl0 : H0.IsList l items := ⟨_, lat0, rfl, ln, rfl⟩
        unfold Builtin.«set.__init__» noKeywords Builtin.Frozenset.updateFrom
        generalize hit : pyIter = iter0
        wp_walk
        subst hit
        refine wpAny_pyIter_list isl0 ?_
        refine wpAny_bind (wpAny_runValue ?_)
        have b1 : l < s.heap.objs.size := Heap.lt_size lat
        have b2 : s.heap.objs.size < H0.objs.size := Heap.lt_size at0
        have calm3 : A.in1.in1.in1.handled = none := by simp [calm]
        refine fill ((Walks.list calm3 _ l (Nat.ne_of_lt (Nat.lt_trans b1 b2)) items).toS) (S := s.heap.objs.size) (knd := knd) ?out key few items.size 0 _ (Nat.zero_add _) ⟨⟨_, Heap.get?_push_size _ rfl, rfl, rfl⟩, isl0.push _⟩ ?start ?stop
        case out =>
          intro q
          rcases List.mem_cons.mp q with e | q
          · exact Nat.ne_of_lt b2 e
          · exact Nat.ne_of_gt b1 (List.mem_singleton.mp q)
        case start =>
          have z := (setObjOf_fresh (knd := knd) led).setOf at0 (by unfold scanBound; omega)
          refine kept (SetOf_congr z (fun x => ?_) ?_) fun o q => Heap.get?_push_of_some _ q
          · rfl
          · rfl
        case stop =>
          rintro ⟨h', g', d', tk', os'⟩ mv put
          obtain rfl : g' = s.gens := mv.gens
          obtain rfl : d' = s.drawn := mv.drawn
          obtain rfl : os' = s.os := mv.os
          refine wpAny_pure (a := ()) ?_
          refine wpAny_pure (a := Fin.done (.ret Value.none)) ⟨rfl, h', tk', rfl, put, fun b o q => mv.heap b o (fun i => ?_) (Heap.get?_push_of_some _ (old0 b o q))⟩
          have b3 : b < s.heap.objs.size := Heap.lt_size q
          rcases List.mem_cons.mp i with e | i
          · exact Nat.ne_of_lt b3 e
          · exact Nat.ne_of_lt (Nat.lt_trans b3 b2) (List.mem_singleton.mp i)
      · cases r2 with
        | error e => exact got2
        | ok fl2 => cases fl2 with
          | ret v2 =>
            obtain ⟨rfl, h', tk, rfl, put, keep⟩ := got2
            repeat (any_goals (first | assumption | wp_step))
            exact go _ _ put keep
          | _ => exact got2.elim
    | _ => exact got.elim
end
/-- the number of different texts of a list -/
def kinds (xs : List Str) : Nat := (dd (fun i => xs.getD i Str.empty) xs.length).length
def tLenSetS (K : PySem.W.Frag) (ta : TE) : TE := fun σ H Q => ta σ H fun x H1 => ∃ (l : Addr) (xs : List Str), x = .ref l ∧ SqL K H1 l (xs.map V.str) ∧ xs.length ≤ 4000 ∧ Q (.int ((kinds xs : Nat) : Int)) H1
theorem strs_at {xs : List Str} {us : List Value} (r : Vals (xs.map V.str) us) (i : Nat) (v : Value) (q : us[i]? = some v) : ∃ t, v = .str (xs.getD i Str.empty) t := by
  induction xs generalizing us i with
  | nil => cases r; cases q
  | cons x xs ih =>
    cases r with
    | cons a b =>
      obtain ⟨t, rfl⟩ := a
      cases i with
      | zero => cases q; exact ⟨t, rfl⟩
      | succ i => exact ih b i q
theorem pe_lenSetS {X : Cx} {a : Expr} {ta : TE} {p p2 q pos : Pos} (gl : Gl X "len") (ml : X.mg "len" = none) (gs : Gl X "set") (ms : X.mg "set" = none) (ha : PE X a ta) (calm : X.calm = true := by rfl) (one : starEach [a] X.env = (false, eval a X.env) :: starEach [] X.env := by rfl) :
    PE X (.Call (.Name "len" p) [.Call (.Name "set" p2) [a] [] q] [] pos) (tLenSetS X.K ta) := by
  refine ⟨fun pins s σ H Q I h => Call_ (ld_blt I gl ml boot_len ?_)⟩
  refine callWith_builtin1 (args_cons (Call_ (ld_blt I gs ms boot_set ?_)) rfl) rfl rfl
  refine callWith_type1 (args_cons (thn (ha.run pins s σ H _ I h) fun v s1 got => args_nil ?_) one) one rfl
  obtain ⟨x, H1, I1, r1, l, xs, rfl, isl, few, q1⟩ := got
  cases r1
  obtain ⟨its, r, pl, _⟩ := I1.list isl
  have size : its.toArray.size = xs.length := by rw [List.size_toArray, ← r.length, List.length_map]
  refine set_of_list (knd := PySem.strKind X.prog X.w) (ks := fun i => xs.getD i Str.empty) (I1.ok.hd calm) pl.isList (fun i v e => ?_) (by rw [size]; unfold scanBound; omega) fun h' tk put keep => args_nil ?_
  · rw [List.getElem?_toArray] at e
    obtain ⟨t, rfl⟩ := strs_at r i v e
    exact ⟨strKind_is _ _ _ _, rfl⟩
  · rw [size] at put
    obtain ⟨o, es, ep, tb, at1, ex, dt, _, _, _, fits, num⟩ := put
    have I2 : Inv X pins σ H1 { s1 with heap := h', toks := tk } := I1.kept fun b o e => keep b o e
    have le : kinds xs ≤ xs.length := dd_le _ _
    exact call_len_set at1 ex dt fits (by rw [num]; unfold kinds at le; omega) ⟨.int (kinds xs : Nat), H1, I2.tok _, ⟨_, by rw [num]; rfl⟩, q1⟩
end US
namespace UW
open PySem PySem.Spec PyProof.Rows L2 U
theorem at_strs {xs : List Str} {i : Nat} {y : V} (h : (xs.map V.str)[i]? = some y) : ∃ x, y = .str x ∧ xs[i]? = some x := by
  rw [List.getElem?_map] at h
  obtain ⟨x, hx, rfl⟩ := Option.map_eq_some_iff.mp h
  exact ⟨x, rfl, hx⟩
theorem at_refs {xs : List Addr} {i : Nat} {y : V} (h : (xs.map V.ref)[i]? = some y) : ∃ x, y = .ref x ∧ xs[i]? = some x := by
  rw [List.getElem?_map] at h
  obtain ⟨x, hx, rfl⟩ := Option.map_eq_some_iff.mp h
  exact ⟨x, rfl, hx⟩
/-- a walk over a list, whatever is done with an item (for a comprehension of two clauses) -/
theorem loopL {K : PySem.W.Frag} {a : Addr} {xs : List V} {B : V → Hp → (Hp → Prop) → Prop} {H0 : Hp} {Qd : Hp → Prop} (Pv : Nat → Hp → Prop) (h0 : Pv 0 H0) (st : ∀ i H, Pv i H → SqL K H a xs) (step : ∀ i x H, xs[i]? = some x → Pv i H → B x H (Pv (i + 1))) (fin : ∀ H, Pv xs.length H → Qd H) :
    ∃ W : Nat → Nat → Hp → Prop, (∃ m, W 0 m H0) ∧ ∀ i m H, W i m H → ((Itl K a).stop i H ∧ Qd H) ∨ ((Itl K a).go i H ∧ ∃ Nx : Hp → Prop, (∀ H', Nx H' → ∃ m', m' < m ∧ W (i + 1) m' H') ∧ ∀ x H', (Itl K a).yld i H x H' → B x H' Nx) := by
  refine ⟨fun i m H => i + m = xs.length ∧ Pv i H, ⟨_, Nat.zero_add _, h0⟩, ?_⟩
  rintro i m H ⟨e, p⟩
  have q := st i H p
  cases m with
  | zero =>
    obtain rfl : i = xs.length := e
    exact .inl ⟨⟨xs, q, Nat.le_refl _⟩, fin H p⟩
  | succ m =>
    have lt : i < xs.length := by omega
    refine .inr ⟨⟨xs, xs[i], q, List.getElem?_eq_getElem lt⟩, Pv (i + 1), fun H' p' => ⟨m, Nat.lt_succ_self m, by omega, p'⟩, ?_⟩
    rintro x _ ⟨rfl, y⟩
    exact step i x _ (y xs q) p
section
variable {X : Cx}
theorem swD {kx vx : Expr} {cs : List Comprehension} {sc : Scope} {p py : Pos} {y : Str} {n : Nat} {e : Env} (fn : e.scope.kind = .function) (loc : e.scope.names.lookup y = some .local) (line : (py.line == p.line) = true)
    (free : (sc.names.any fun (z, k) => z == y && (k == .local || k == .cell)) = false) : swapsWith (.DictComp kx vx cs sc p) (some (.Name y py)) n e = pure true := by
  have k1 : e.kindOf y = some .local := loc
  have k2 : e.blockKind = .function := by unfold Env.blockKind; rw [fn]; rfl
  unfold swapsWith; simp only [k1, k2, free, line, Expr.pos]; rfl
/-- name = {.. for ..} on one line, the name a local -/
theorem ps_setDc {i : Nat} {y : Str} {py pos spos : Pos} {kx vx tg iter : Expr} {ifs : List Expr} {sc : Scope} {own : List (Str × Nat)} {wi : TI} {g : TG} {tt : TT} {tk tv : TE} (calm : X.calm = true) (nd : X.N.Nodup) (hy : X.N[i]? = some y) (loc : X.env.scope.names.lookup y = some .local)
    (sw : swapsWith (.DictComp kx vx [⟨tg, iter, ifs, 0⟩] sc pos) (some (.Name y py)) spos.line X.env = pure true) (hi : PI X tg iter wi) (ok : BlkOk X.N X.env.scope sc own)
    (hg : ∀ (s : Shared) (H : Hp) (C : Addr) (cl : List (Str × Addr)) (fp : List Addr), PG (X.blk s H sc (compEnvC sc cl C X.env) fp) tg g) (ht : ∀ (s : Shared) (H : Hp) (C : Addr) (cl : List (Str × Addr)) (fp : List Addr), PTs (X.blk s H sc (compEnvC sc cl C X.env) fp) ifs tt)
    (hk : ∀ (s : Shared) (H : Hp) (C : Addr) (cl : List (Str × Addr)) (fp : List Addr), PE (X.blk s H sc (compEnvC sc cl C X.env) fp) kx tk) (he : ∀ (s : Shared) (H : Hp) (C : Addr) (cl : List (Str × Addr)) (fp : List Addr), PE (X.blk s H sc (compEnvC sc cl C X.env) fp) vx tv)
    (fold : ∀ x, foldedSetIterable iter X.env x = pure x := by intro _; rfl) : PS X (.Assign [.Name y py] (.DictComp kx vx [⟨tg, iter, ifs, 0⟩] sc pos) spos) (tAsg (tDc wi g tt tk tv (own.map (·.2))) (gName i)) := by
  refine ⟨fun pins s σ H D I got => ?_⟩
  rw [exec_Assign_Name_used _ _ _ _ sw]
  refine wpAny_bind (wpAny_standAt (wpAny_bind ?_))
  show wpAny _ X.A (do let _ ← comprehension (.DictComp kx vx [⟨tg, iter, ifs, 0⟩] sc pos) sc X.env (firstIterPos [⟨tg, iter, ifs, 0⟩] pos) newDict false (eval iter X.env) (some (assign (.Name y py) X.env))) _ _ s
  have got : tDc wi g tt tk tv (own.map (·.2)) σ H (fun x H1 => gName i x σ H1 D.nx) := got
  refine wpAny_bind (thn (dc_core (Qf := fun _ s1 => SP X pins D .next s1) calm nd I hi ok hg ht hk he fold got fun L C s1 m H1 I1 q1 ns f => ?_) fun _ s1 z => wpAny_pure (wpAny_pure z))
  show wpAny _ _ (assign (.Name y py) X.env (.ref L)) _ _ _
  refine wpAny_assign_Name (store_ok2 (v := V.ref L) I1 nd hy (.inl loc) rfl (fun s2 I2 ⟨b, but, hb⟩ => ?_) (.inr loc))
  obtain ⟨f0, f1, f2, f3, f4, f5⟩ := f
  have far : C ≠ b := hb.elim (fun z => by rw [z]; exact f1) fun z e => f4 y b z e.symm
  exact ⟨m, ns.sameBut but far, fun h3 but3 => ⟨_, H1, I2.turned (t' := s2.toks) (fun c o hc e => (but3.2 c hc).trans e) f0 f1 f3 f4 f5, q1⟩⟩
end
end UW
/-! What stands in the heap, as a list; one lemma for each question, so that a walk can be found by its head. -/
namespace V
open PySem PySem.Spec PyProof.Rows L2 U

/-! ### the heap as a list of cells -/
abbrev Cells := List (Bool × Addr × HO)
def Nd (a : Addr) : Cells → Prop
  | [] => True
  | c :: L => c.2.1 ≠ a ∧ Nd a L
/-- each cell stands; those that are marked may be written: they are not frozen -/
def Ok (Z H : Hp) : Cells → Prop
  | [] => True
  | c :: L => (H c.2.1 = some c.2.2 ∧ (c.1 = true → Z c.2.1 = none)) ∧ Nd c.2.1 L ∧ Ok Z H L
/-- the state of the draws: the list at S, what is left of the script at T -/
def StD (H : Hp) (S T : Addr) : Prop := S ≠ T ∧ ∃ (ns : List Int) (a b c : Int), ns.length ≤ 63 ∧ H S = some (.lst [.ref T, .int a, .int b, .int c]) ∧ H T = some (.lst (ns.map V.int))
def StO (Z H : Hp) (L : Cells) : Option (Addr × Addr) → Prop
  | none => True
  | some (S, T) => (StD H S T ∧ Z S = none ∧ Z T = none) ∧ Nd S L ∧ Nd T L
/-- what is frozen (Z) stands, the cells L stand, and the state of the draws -/
structure Hw (Z : Hp) (s : Option (Addr × Addr)) (H : Hp) (L : Cells) : Prop where
  fr : Same Z H
  ok : Ok Z H L
  st : StO Z H L s
inductive At (a : Addr) (o : HO) : Cells → Prop
  | here {f L} : At a o ((f, a, o) :: L)
  | there {c L} : At a o L → At a o (c :: L)
inductive Up (a : Addr) (o : HO) : Cells → Cells → Prop
  | here {u L} : Up a o ((true, a, u) :: L) ((true, a, o) :: L)
  | there {c L L'} : Up a o L L' → Up a o (c :: L) (c :: L')
inductive Sub : Cells → Cells → Prop
  | nil {L} : Sub [] L
  | cons {c L L'} : Sub L L' → Sub (c :: L) (c :: L')
  | skip {c L L'} : Sub L L' → Sub L (c :: L')
variable {Z Z' H H' : Hp} {s : Option (Addr × Addr)} {L L' : Cells} {a b p S T : Addr} {o u : HO} {f : Bool}
theorem Ok.get : ∀ {L : Cells}, Ok Z H L → At a o L → H a = some o
  | _, k, .here => k.1.1
  | _, k, .there h => Ok.get k.2.2 h
theorem Hw.get (w : Hw Z s H L) (h : At a o L) : H a = some o := w.ok.get h
theorem Hw.fro (w : Hw Z s H L) (h : Z a = some o) : H a = some o := w.fr _ _ h
theorem Ok.stay : ∀ {L : Cells}, Ok Z H L → (∀ b o, H b = some o → H' b = some o) → Ok Z H' L
  | [], _, _ => trivial
  | _ :: _, k, s => ⟨⟨s _ _ k.1.1, k.1.2⟩, k.2.1, Ok.stay k.2.2 s⟩
theorem Ok.nd_none : ∀ {L : Cells}, Ok Z H L → H p = none → Nd p L
  | [], _, _ => trivial
  | c :: _, k, n => ⟨fun e => (by have := k.1.1; rw [e, n] at this; cases this), Ok.nd_none k.2.2 n⟩
theorem StD.stay (k : StD H S T) (s : ∀ b o, H b = some o → b = S ∨ b = T → H' b = some o) : StD H' S T := by
  obtain ⟨n, ns, x, y, z, l, h1, h2⟩ := k
  exact ⟨n, ns, x, y, z, l, s _ _ h1 (.inl rfl), s _ _ h2 (.inr rfl)⟩
theorem StD.some1 (k : StD H S T) : ∃ o, H S = some o := by obtain ⟨n, ns, x, y, z, l, h1, h2⟩ := k; exact ⟨_, h1⟩
theorem StD.some2 (k : StD H S T) : ∃ o, H T = some o := by obtain ⟨n, ns, x, y, z, l, h1, h2⟩ := k; exact ⟨_, h2⟩
theorem Hw.new (w : Hw Z s H L) (n : H p = none) : Hw Z s (upd H p o) ((true, p, o) :: L) :=
  have k : ∀ b u, H b = some u → upd H p o b = some u := fun b u e => by rw [upd_ne (ne_of_none e n)]; exact e
  ⟨fun b u e => k b u (w.fr b u e), ⟨⟨upd_same, fun _ => w.fr.free n⟩, w.ok.nd_none n, w.ok.stay k⟩, by
    have t := w.st
    match s, t with
    | none, _ => trivial
    | some (S, T), ⟨⟨t1, t2, t3⟩, t4, t5⟩ =>
      obtain ⟨o1, e1⟩ := t1.some1
      obtain ⟨o2, e2⟩ := t1.some2
      exact ⟨⟨t1.stay fun b o e _ => k b o e, t2, t3⟩, ⟨(ne_of_none e1 n).symm, t4⟩, (ne_of_none e2 n).symm, t5⟩⟩
theorem Nd.ne : ∀ {L : Cells}, Nd a L → At b o L → b ≠ a
  | _, k, .here => k.1
  | _, k, .there h => Nd.ne k.2 h
theorem Up.nd : ∀ {L L' : Cells}, Up a o L L' → Nd b L → Nd b L'
  | _, _, .here, k => k
  | _, _, .there h, k => ⟨k.1, Up.nd h k.2⟩
theorem Up.ne : ∀ {L L' : Cells}, Up a o L L' → Nd b L → a ≠ b
  | _, _, .here, k => k.1
  | _, _, .there h, k => Up.ne h k.2
theorem Up.free : ∀ {L L' : Cells}, Up a o L L' → Ok Z H L → Z a = none
  | _, _, .here, k => k.1.2 rfl
  | _, _, .there h, k => Up.free h k.2.2
theorem Ok.away : ∀ {L : Cells}, Ok Z H L → Nd a L → Ok Z (upd H a o) L
  | [], _, _ => trivial
  | _ :: _, k, n => ⟨⟨by rw [upd_ne n.1]; exact k.1.1, k.1.2⟩, k.2.1, Ok.away k.2.2 n.2⟩
theorem Ok.up : ∀ {L L' : Cells}, Ok Z H L → Up a o L L' → Ok Z (upd H a o) L'
  | _, _, k, .here => ⟨⟨upd_same, k.1.2⟩, k.2.1, k.2.2.away k.2.1⟩
  | _, _, k, .there h => ⟨⟨by rw [upd_ne (h.ne k.2.1).symm]; exact k.1.1, k.1.2⟩, h.nd k.2.1, Ok.up k.2.2 h⟩
theorem Hw.up (w : Hw Z s H L) (h : Up a o L L') : Hw Z s (upd H a o) L' := ⟨fun b u e => by
  have n : b ≠ a := fun q => by
    subst q
    rw [h.free w.ok] at e; cases e
  rw [upd_ne n]; exact w.fr b u e, w.ok.up h, by
    have t := w.st
    match s, t with
    | none, _ => trivial
    | some (S, T), ⟨⟨t1, t2, t3⟩, t4, t5⟩ =>
      exact ⟨⟨t1.stay fun b o e q => by
        have n : b ≠ a := by
          rcases q with rfl | rfl
          · exact (h.ne t4).symm
          · exact (h.ne t5).symm
        rw [upd_ne n]; exact e, t2, t3⟩, h.nd t4, h.nd t5⟩⟩
theorem Sub.nd : ∀ {L L' : Cells}, Sub L L' → Nd b L' → Nd b L
  | _, _, .nil, _ => trivial
  | _, _, .cons h, k => ⟨k.1, Sub.nd h k.2⟩
  | _, _, .skip h, k => Sub.nd h k.2
theorem Ok.sub : ∀ {L L' : Cells}, Ok Z H L' → Sub L L' → Ok Z H L
  | _, _, _, .nil => trivial
  | _, _, k, .cons h => ⟨k.1, h.nd k.2.1, Ok.sub k.2.2 h⟩
  | _, _, k, .skip h => Ok.sub k.2.2 h
theorem Hw.sub (w : Hw Z s H L') (h : Sub L L') : Hw Z s H L := ⟨w.fr, w.ok.sub h, by
  have t := w.st
  match s, t with
  | none, _ => trivial
  | some (S, T), ⟨t1, t4, t5⟩ => exact ⟨t1, h.nd t4, h.nd t5⟩⟩
theorem Sub.refl : ∀ L : Cells, Sub L L
  | [] => .nil
  | _ :: L => .cons (Sub.refl L)
theorem Hw.start : Hw H none H [] := ⟨fun _ _ e => e, trivial, trivial⟩
/-- a heap without some places -/
def cut (H : Hp) (ds : List Addr) : Hp := fun b => if b ∈ ds then none else H b
theorem cut_some {ds : List Addr} (h : cut H ds b = some o) : b ∉ ds ∧ H b = some o := by
  unfold cut at h
  by_cases e : b ∈ ds
  · rw [if_pos e] at h; cases h
  · rw [if_neg e] at h; exact ⟨e, h⟩
theorem cut_in {ds : List Addr} (h : b ∈ ds) : cut H ds b = none := by unfold cut; rw [if_pos h]
theorem cut_not {ds : List Addr} (h : b ∉ ds) : cut H ds b = H b := by unfold cut; rw [if_neg h]
theorem cut_same {ds : List Addr} : Same (cut H ds) H := fun _ _ e => (cut_some e).2
theorem Hw.startD (k : StD H S T) : Hw (cut H [S, T]) (some (S, T)) H [] := ⟨cut_same, trivial, ⟨k, cut_in (by simp), cut_in (by simp)⟩, trivial, trivial⟩
theorem Hw.startM (ds : List Addr) : Hw (cut H ds) none H [] := ⟨cut_same, trivial, trivial⟩
/-- a thing that stands, read alone -/
theorem Hw.add (w : Hw Z none H L) (e : H a = some o) (n : Nd a L) : Hw Z none H ((false, a, o) :: L) := ⟨w.fr, ⟨⟨e, fun z => nomatch z⟩, n, w.ok⟩, trivial⟩
theorem Hw.addM (w : Hw Z none H L) (e : H a = some o) (m : Z a = none) (n : Nd a L) : Hw Z none H ((true, a, o) :: L) := ⟨w.fr, ⟨⟨e, fun _ => m⟩, n, w.ok⟩, trivial⟩
/-- what is written is not frozen -/
theorem Ok.out : ∀ {L : Cells}, Ok Z H L → (true, a, o) ∈ L → Z a = none
  | _ :: _, k, h => by
    rcases List.mem_cons.mp h with e | e
    · subst e; exact k.1.2 rfl
    · exact Ok.out k.2.2 e
/-- what a call does that changes nothing that stood -/
theorem Hw.call (w : Hw Z s H L) (e : Same H H') : Hw Z s H' L := ⟨fun b u q => e _ _ (w.fr b u q), w.ok.stay e, by
  have t := w.st
  match s, t with
  | none, _ => trivial
  | some (S, T), ⟨⟨t1, t2⟩, t4⟩ => exact ⟨⟨t1.stay fun b o q _ => e b o q, t2⟩, t4⟩⟩
/-- what stood stands but the state -/
def Keeps (S T : Addr) (H H' : Hp) : Prop := ∀ d o, H d = some o → d ≠ S → d ≠ T → H' d = some o
/-- a call that draws -/
theorem Hw.callD (w : Hw Z (some (S, T)) H L) (k : StD H' S T) (e : Keeps S T H H') : Hw Z (some (S, T)) H' L := by
  obtain ⟨w1, w2, ⟨⟨t1, t2, t3⟩, t4, t5⟩⟩ := w
  refine ⟨fun b u q => e b u (w1 b u q) (fun n => ?_) fun n => ?_, ?_, ⟨⟨k, t2, t3⟩, t4, t5⟩⟩
  · rw [n, t2] at q; cases q
  · rw [n, t3] at q; cases q
  · have g : ∀ {L : Cells}, Ok Z H L → Nd S L → Nd T L → Ok Z H' L := fun {L} => by
      induction L with
      | nil => intros; trivial
      | cons c L ih => exact fun k n1 n2 => ⟨⟨e _ _ k.1.1 n1.1 n2.1, k.1.2⟩, k.2.1, ih k.2.2 n1.2 n2.2⟩
    exact g w2 t4 t5
theorem Hw.std (w : Hw Z (some (S, T)) H L) : StD H S T := w.st.1.1
/-- at the end of a def that draws -/
theorem Hw.keeps {H0 : Hp} (w : Hw Z s H' L) (e : Same (cut H0 [S, T]) Z) : Keeps S T H0 H' := fun d o q n1 n2 => w.fr _ _ (e _ _ (by rw [cut_not (by simp [n1, n2])]; exact q))
/-- a cell that is written no more -/
theorem Hw.freeze (w : Hw Z s H ((f, a, o) :: L)) (n : Z a = none) : Hw (upd Z a o) s H L ∧ Same Z (upd Z a o) ∧ upd Z a o a = some o := by
  obtain ⟨w1, ⟨k1, k2, k3⟩, w3⟩ := w
  have g : ∀ {L : Cells}, Ok Z H L → Nd a L → Ok (upd Z a o) H L := fun {L} => by
    induction L with
    | nil => intros; trivial
    | cons c L ih => exact fun k n1 => ⟨⟨k.1.1, fun e => by rw [upd_ne n1.1]; exact k.1.2 e⟩, k.2.1, ih k.2.2 n1.2⟩
  refine ⟨⟨fun b u q => ?_, g k3 k2, ?_⟩, sameNew n, upd_same⟩
  · by_cases e : b = a
    · subst e; rw [upd_same] at q; rw [← q]; exact k1.1
    · rw [upd_ne e] at q; exact w1 b u q
  · match s, w3 with
    | none, _ => trivial
    | some (S, T), ⟨⟨t1, t2, t3⟩, t4, t5⟩ => exact ⟨⟨t1, by rw [upd_ne (fun e => t4.1 e.symm)]; exact t2, by rw [upd_ne (fun e => t5.1 e.symm)]; exact t3⟩, t4.2, t5.2⟩
/-- a thing that was made on the way was not there at the start -/
theorem Hw.fresh {H0 : Hp} (w : Hw Z (some (S, T)) H' ((true, a, o) :: L)) (e : Same (cut H0 [S, T]) Z) : H0 a = none := by
  cases q : H0 a with
  | none => rfl
  | some u =>
    have n1 : a ≠ S := w.st.2.1.1
    have n2 : a ≠ T := w.st.2.2.1
    have z : cut H0 [S, T] a = some u := by rw [cut_not (by simp [n1, n2])]; exact q
    have z2 := e _ _ z
    rw [w.ok.1.2 rfl] at z2; cases z2
theorem Hw.fresh0 {H0 : Hp} (w : Hw Z s H' ((true, a, o) :: L)) (e : Same H0 Z) : H0 a = none := by
  cases q : H0 a with
  | none => rfl
  | some u =>
    have z2 := e _ _ q
    rw [w.ok.1.2 rfl] at z2; cases z2
theorem Hw.frz (w : Hw Z s H ((true, a, o) :: L)) : Hw (upd Z a o) s H L ∧ Same Z (upd Z a o) ∧ upd Z a o a = some o := w.freeze (w.ok.1.2 rfl)
/-- what is new since Z0 -/
def nw (Z0 Z : Hp) : Hp := fun b => match Z0 b with
  | some _ => none
  | none => Z b
theorem nw_of {Z0 : Hp} (n : Z0 a = none) (e : Z a = some o) : nw Z0 Z a = some o := by unfold nw; rw [n]; exact e
theorem nw_some {Z0 : Hp} (e : nw Z0 Z a = some o) : Z0 a = none ∧ Z a = some o := by
  unfold nw at e
  cases q : Z0 a with
  | some u => rw [q] at e; cases e
  | none => rw [q] at e; exact ⟨rfl, e⟩
theorem nw_same {Z0 : Hp} (e : Same Z Z') : Same (nw Z0 Z) (nw Z0 Z') := fun b o h => nw_of (nw_some h).1 (e _ _ (nw_some h).2)
theorem nw_sub {Z0 : Hp} : Same (nw Z0 Z) Z := fun b o h => (nw_some h).2
theorem Hw.nwH {H0 : Hp} (w : Hw Z (some (S, T)) H' L) : Same (nw (cut H0 [S, T]) Z) (nw H0 H') := fun b o e => by
  obtain ⟨e1, e2⟩ := nw_some e
  refine nw_of ?_ (w.fr _ _ e2)
  cases q : H0 b with
  | none => rfl
  | some u =>
    obtain ⟨⟨_, t2, t3⟩, _⟩ := w.st
    rw [cut_not (by simp only [List.mem_cons, List.not_mem_nil, or_false]; rintro (r | r) <;> (subst r; first | (rw [t2] at e2; cases e2) | (rw [t3] at e2; cases e2)))] at e1
    rw [q] at e1; cases e1
/-- what is new in H', frozen too, but at ds -/
def uni (Z H H' : Hp) (ds : List Addr) : Hp := fun b => match Z b with
  | some o => some o
  | none => match H b with
    | some _ => none
    | none => if b ∈ ds then none else H' b
theorem uni_old {ds : List Addr} : Same Z (uni Z H H' ds) := fun b o e => by unfold uni; rw [e]
theorem uni_new {ds : List Addr} (z : Same Z H) (n : H b = none) (m : b ∉ ds) (e : H' b = some o) : uni Z H H' ds b = some o := by
  unfold uni
  rw [z.free n, n]
  show (if b ∈ ds then none else H' b) = _
  rw [if_neg m]; exact e
theorem uni_had {ds : List Addr} (e : H b = some o) : uni Z H H' ds b = Z b := by
  unfold uni
  cases q : Z b with
  | some o => rfl
  | none => rw [e]
theorem uni_in {ds : List Addr} (m : b ∈ ds) : uni Z H H' ds b = Z b := by
  unfold uni
  cases q : Z b with
  | some o => rfl
  | none =>
    cases H b with
    | some _ => rfl
    | none => show (if b ∈ ds then none else H' b) = none; rw [if_pos m]
theorem uni_sub {ds : List Addr} (z : Same Z H') : Same (uni Z H H' ds) H' := fun b o e => by
  cases q : Z b with
  | some u => unfold uni at e; rw [q] at e; cases e; exact z _ _ q
  | none =>
    unfold uni at e
    rw [q] at e
    cases h : H b with
    | some u => rw [h] at e; cases e
    | none =>
      rw [h] at e
      have e : (if b ∈ ds then none else H' b) = some o := e
      by_cases m : b ∈ ds
      · rw [if_pos m] at e; cases e
      · rw [if_neg m] at e; exact e
theorem Ok.uni {ds : List Addr} : ∀ {L : Cells}, Ok Z H L → Ok Z H' L → Ok (uni Z H H' ds) H' L
  | [], _, _ => trivial
  | _ :: _, k, k' => ⟨⟨k'.1.1, fun e => by rw [uni_had k.1.1]; exact k.1.2 e⟩, k.2.1, Ok.uni k.2.2 k'.2.2⟩
theorem StO.uni {ds : List Addr} (k : StO Z H L s) (k' : StO Z H' L s) : StO (uni Z H H' ds) H' L s := by
  match s, k, k' with
  | none, _, _ => trivial
  | some (S, T), ⟨⟨t1, t2, t3⟩, t4⟩, ⟨⟨u1, u2⟩, u4⟩ =>
    obtain ⟨o1, e1⟩ := t1.some1
    obtain ⟨o2, e2⟩ := t1.some2
    exact ⟨⟨u1, by rw [uni_had e1]; exact t2, by rw [uni_had e2]; exact t3⟩, t4⟩
/-- what a call made is frozen -/
theorem Hw.allNew (w : Hw Z s H L) (w' : Hw Z s H' L) : ∃ Z', Hw Z' s H' L ∧ Same Z Z' ∧ ∀ b o, H b = none → H' b = some o → Z' b = some o :=
  ⟨uni Z H H' [], ⟨uni_sub w'.fr, w.ok.uni w'.ok, w.st.uni w'.st⟩, uni_old, fun b o n e => uni_new w.fr n (by simp) e⟩
theorem Hw.callNew (w : Hw Z s H L) (e : Same H H') : ∃ Z', Hw Z' s H' L ∧ Same Z Z' ∧ ∀ b o, H b = none → H' b = some o → Z' b = some o := w.allNew (w.call e)
theorem Hw.callNewD (w : Hw Z (some (S, T)) H L) (k : StD H' S T) (e : Keeps S T H H') : ∃ Z', Hw Z' (some (S, T)) H' L ∧ Same Z Z' ∧ ∀ b o, H b = none → H' b = some o → Z' b = some o := w.allNew (w.callD k e)
/-- the same, for what was frozen early too -/
theorem Hw.callNew2 {Y : Hp} (w : Hw Z s H L) (e : Same H H') (y : Same Y Z) : ∃ Z' Y', Hw Z' s H' L ∧ Same Z Z' ∧ Same Y Y' ∧ Same Y' Z' ∧ (∀ b o, H b = none → H' b = some o → Y' b = some o) ∧ ∀ b o, H b = some o → Y b = none → Y' b = none :=
  have w' := w.call e
  ⟨uni Z H H' [], uni Y H H' [], ⟨uni_sub w'.fr, w.ok.uni w'.ok, w.st.uni w'.st⟩, uni_old, uni_old, fun b o q => by
    cases n : H b with
    | some u =>
      rw [uni_had n] at q ⊢
      exact y _ _ q
    | none =>
      have z := w.fr.free n
      unfold uni at q ⊢
      rw [y.free z, n] at q
      rw [z, n]; exact q, fun b o n q => uni_new (fun b o e => w.fr _ _ (y _ _ e)) n (by simp) q, fun b o q n => by rw [uni_had q]; exact n⟩
theorem Hw.thaw {Y : Hp} (w : Hw Z s H L) (y : Same Y Z) : Hw Y s H L := by
  refine ⟨fun b o e => w.fr _ _ (y _ _ e), ?_, ?_⟩
  · have g : ∀ {L : Cells}, Ok Z H L → Ok Y H L := fun {L} => by
      induction L with
      | nil => intros; trivial
      | cons c L ih => exact fun k => ⟨⟨k.1.1, fun q => y.free (k.1.2 q)⟩, k.2.1, ih k.2.2⟩
    exact g w.ok
  · have t := w.st
    match s, t with
    | none, _ => trivial
    | some (S, T), ⟨⟨t1, t2, t3⟩, t4⟩ => exact ⟨⟨t1, y.free t2, y.free t3⟩, t4⟩
/-- a store into a thing that is no cell -/
theorem Hw.write (w : Hw Z (some (S, T)) H L) (n : Z a = none) (d : Nd a L) (nS : a ≠ S) (nT : a ≠ T) : Hw Z (some (S, T)) (upd H a o) L := by
  refine ⟨fun b u e => ?_, w.ok.away d, ?_⟩
  · rw [upd_ne (fun q => by subst q; rw [n] at e; cases e)]; exact w.fr b u e
  · obtain ⟨⟨t1, t2, t3⟩, t4, t5⟩ := w.st
    exact ⟨⟨t1.stay fun b o e q => by
      rw [upd_ne (by rcases q with rfl | rfl; exact nS.symm; exact nT.symm)]; exact e, t2, t3⟩, t4, t5⟩
/-- what a call made is frozen but the thing at a, which may be written -/
theorem Hw.oneNew (w : Hw Z s H L) (w' : Hw Z s H' L) (n : H a = none) (h : H' a = some o) : ∃ Z', Hw Z' s H' ((true, a, o) :: L) ∧ Same Z Z' ∧ ∀ b o, H b = none → b ≠ a → H' b = some o → Z' b = some o := by
  refine ⟨uni Z H H' [a], ⟨uni_sub w'.fr, ⟨⟨h, fun _ => ?_⟩, w.ok.nd_none n, w.ok.uni w'.ok⟩, ?_⟩, uni_old, fun b o n m e => uni_new w.fr n (by simpa using m) e⟩
  · rw [uni_in (by simp)]; exact w.fr.free n
  · have k := w.st.uni (ds := [a]) w'.st
    have t := w.st
    match s, t, k with
    | none, _, _ => trivial
    | some (S, T), ⟨⟨t1, t2⟩, t4⟩, ⟨k1, k4, k5⟩ =>
      obtain ⟨o1, e1⟩ := t1.some1
      obtain ⟨o2, e2⟩ := t1.some2
      exact ⟨k1, ⟨(ne_of_none e1 n).symm, k4⟩, (ne_of_none e2 n).symm, k5⟩
/-- a cell of a thing that a call made, nothing frozen -/
theorem Hw.cellNew (w : Hw Z s H L) (w' : Hw Z s H' L) (n : H a = none) (h : H' a = some o) : Hw Z s H' ((true, a, o) :: L) := by
  refine ⟨w'.fr, ⟨⟨h, fun _ => w.fr.free n⟩, w.ok.nd_none n, w'.ok⟩, ?_⟩
  have t := w.st
  have t' := w'.st
  match s, t, t' with
  | none, _, _ => trivial
  | some (S, T), ⟨⟨t1, t2⟩, t4⟩, ⟨k1, k4, k5⟩ =>
    obtain ⟨o1, e1⟩ := t1.some1
    obtain ⟨o2, e2⟩ := t1.some2
    exact ⟨k1, ⟨(ne_of_none e1 n).symm, k4⟩, (ne_of_none e2 n).symm, k5⟩
end V
namespace V
open PySem PySem.Spec PyProof.Rows L2 U
/-! ### one lemma a question -/
section
variable {K : PySem.W.Frag} {Z H : Hp} {so : Option (Addr × Addr)} {L L' : Cells} {a b p C dx : Addr} {o u : HO} {σ σ' : L2.St} {Q : VK} {QB : Bool → Hp → Prop} {x y z v : V} {i j : Int} {D : Ends}
variable {ta tb tc te to : TE} {t t' : TA} {tt tt' : TT} {s s' : TS} {f m : Str} {vs ws dvs : List V} {E : XK}
inductive SetAt : L2.St → Nat → V → L2.St → Prop
  | z {w σ v} : SetAt (w :: σ) 0 v (some v :: σ)
  | s {w σ i v σ'} : SetAt σ i v σ' → SetAt (w :: σ) (i + 1) v (w :: σ')
theorem SetAt.eq : ∀ {σ : L2.St} {i : Nat} {v : V} {σ' : L2.St}, SetAt σ i v σ' → σ.set i (some v) = σ'
  | _, _, _, _, .z => rfl
  | _, _, _, _, .s h => by rw [List.set_cons_succ, h.eq]
theorem w_var {n : Nat} (h : σ[n]? = some (some v)) (q : Q v H) : tVar n σ H Q := ⟨v, h, q⟩
theorem w_c (q : Q v H) : tC v σ H Q := q
theorem w_op {r : R2} (q : ta σ H fun x H1 => tb σ H1 fun y H2 => r x y H2 Q) : tOp r ta tb σ H Q := q
theorem w_un {r : V → Hp → VK → Prop} (q : ta σ H fun x H1 => r x H1 Q) : tUn r ta σ H Q := q
theorem w_ri {c : Int → Int → Prop} {g : Int → Int → V} (h : c i j) (q : Q (g i j) H) : rI c g (.int i) (.int j) H Q := ⟨i, j, rfl, rfl, h, q⟩
theorem w_ri0 {g : Int → Int → V} (q : Q (g i j) H) : rI0 g (.int i) (.int j) H Q := ⟨i, j, rfl, rfl, q⟩
theorem w_ru {g : Int → V} (q : Q (g i) H) : rU g (.int i) H Q := ⟨i, rfl, q⟩
theorem w_eq (h : scal x y = true) (q : Q (.bl (decide (x = y))) H) : rEq x y H Q := ⟨h, q⟩
theorem w_nei (h : scal x y = true) (q : Q (.bl (!decide (x = y))) H) : rNe x y H Q := ⟨h, q⟩
theorem w_eqI (q : Q (.bl (decide (i = j))) H) : rEq (.int i) (.int j) H Q := ⟨rfl, by
  have e : decide (V.int i = V.int j) = decide (i = j) := by simp
  rw [e]; exact q⟩
theorem w_eqS {a b : Str} (q : Q (.bl (decide (a = b))) H) : rEq (.str a) (.str b) H Q := ⟨rfl, by
  have e : decide (V.str a = V.str b) = decide (a = b) := by simp
  rw [e]; exact q⟩
theorem w_neI (q : Q (.bl (!decide (i = j))) H) : rNe (.int i) (.int j) H Q := ⟨rfl, by
  have e : decide (V.int i = V.int j) = decide (i = j) := by simp
  rw [e]; exact q⟩
theorem w_neS {a b : Str} (q : Q (.bl (!decide (a = b))) H) : rNe (.str a) (.str b) H Q := ⟨rfl, by
  have e : decide (V.str a = V.str b) = decide (a = b) := by simp
  rw [e]; exact q⟩
/-- a bool at last -/
def gBl (Q : Bool → Hp → Prop) (x : V) (H : Hp) : Prop := ∃ c, x = .bl c ∧ Q c H
theorem w_bl {c : Bool} (q : QB c H) : gBl QB (.bl c) H := ⟨c, rfl, q⟩
theorem w_b (q : te σ H (gBl QB)) : tB te σ H QB := q
theorem w_test (q : te σ H (gBl QB)) : tTest te σ H QB := q
theorem w_and (q : tt σ H fun c H1 => if c = true then tt' σ H1 QB else QB false H1) : tAnd tt tt' σ H QB := q
theorem w_or (q : tt σ H fun c H1 => if c = true then QB true H1 else tt' σ H1 QB) : tOr tt tt' σ H QB := q
theorem w_not (q : tt σ H fun c H1 => QB (!c) H1) : tNot tt σ H QB := q
theorem w_andV (q : ta σ H (gBl fun c H1 => if c = true then tb σ H1 Q else Q (.bl false) H1)) : tAndV ta tb σ H Q := q
theorem w_orV (q : ta σ H (gBl fun c H1 => if c = true then Q (.bl true) H1 else tb σ H1 Q)) : tOrV ta tb σ H Q := q
theorem w_notV (q : ta σ H (gBl fun c H1 => Q (.bl (!c)) H1)) : tNotV ta σ H Q := q
theorem w_if (q : tt σ H fun c H1 => if c = true then ta σ H1 Q else tb σ H1 Q) : tIf tt ta tb σ H Q := q
theorem w_isN (q : ta σ H fun x H1 => Q (.bl (decide (x = .non))) H1) : tIsN ta σ H Q := q
theorem w_isn {A : Prop} (q : A) : V.non = V.non ∧ A := ⟨rfl, q⟩
theorem w_yes (q : QB true H) : tYes σ H QB := q
theorem w_seq (q : s { D with nx := s' D } σ H) : tSeq s s' D σ H := q
theorem w_next (q : D.nx σ H) : tNext D σ H := q
theorem w_break (q : D.bk σ H) : tBreak D σ H := q
theorem w_cont (q : D.ct σ H) : tCont D σ H := q
theorem w_drop (q : te σ H fun _ H1 => D.nx σ H1) : tDrop te D σ H := q
theorem w_ret (q : te σ H D.rt) : tRet te D σ H := q
theorem w_retN (q : D.rt .non H) : tRetN D σ H := q
theorem w_ifS (q : tt σ H fun b H1 => if b = true then s D σ H1 else s' D σ H1) : tIfS tt s s' D σ H := q
theorem w_asg {g : TG} (q : te σ H fun x H1 => g x σ H1 D.nx) : tAsg te g D σ H := q
theorem w_name {n : Nat} {R : L2.St → Hp → Prop} (h : SetAt σ n v σ') (q : R σ' H) : gName n v σ H R := by unfold gName; rw [h.eq]; exact q
theorem w_aug {n : Nat} {ti : TIp} (h : σ[n]? = some (some x)) (q : te σ H fun y H1 => ti x y H1 fun z H2 => gName n z σ H2 D.nx) : tAug n te ti D σ H := ⟨x, h, q⟩
theorem w_Dnx {nx bk ct : L2.St → Hp → Prop} {rt : VK} (q : nx σ H) : Ends.nx ⟨nx, rt, bk, ct⟩ σ H := q
theorem w_Drt {nx bk ct : L2.St → Hp → Prop} {rt : VK} (q : rt v H) : Ends.rt ⟨nx, rt, bk, ct⟩ v H := q
theorem w_Dbk {nx bk ct : L2.St → Hp → Prop} {rt : VK} (q : bk σ H) : Ends.bk ⟨nx, rt, bk, ct⟩ σ H := q
theorem w_Dct {nx bk ct : L2.St → Hp → Prop} {rt : VK} (q : ct σ H) : Ends.ct ⟨nx, rt, bk, ct⟩ σ H := q
/-! attributes -/
def gFld (K : PySem.W.Frag) (f : Str) (Q : VK) (x : V) (H1 : Hp) : Prop := ∃ a C dx fs v, x = .ref a ∧ H1 a = some (.ins C dx fs) ∧ Cls K C ∧ NoAttr K C f ∧ fs.lookup f = some v ∧ Q v H1
theorem w_fld (q : ta σ H (gFld K f Q)) : tFld K ta f σ H Q := q
theorem w_fld2 {fs : List (Str × V)} (h : H a = some (.ins C dx fs)) (c : Cls K C) (n : NoAttr K C f) (l : fs.lookup f = some v) (q : Q v H) : gFld K f Q (.ref a) H := ⟨a, C, dx, fs, v, rfl, h, c, n, l, q⟩
/-! dicts -/
def gDGet (Q : VK) (x y : V) (H2 : Hp) : Prop := ∃ a v, x = .ref a ∧ DGet H2 a y (some v) ∧ Q v H2
def gDIn (Q : VK) (x y : V) (H2 : Hp) : Prop := ∃ a o, x = .ref a ∧ DGet H2 a y o ∧ Q (.bl o.isSome) H2
def gDNotIn (Q : VK) (x y : V) (H2 : Hp) : Prop := ∃ a o, x = .ref a ∧ DGet H2 a y o ∧ Q (.bl (!o.isSome)) H2
theorem w_dget (q : ta σ H fun x H1 => tb σ H1 fun y H2 => gDGet Q x y H2) : tDGet ta tb σ H Q := q
theorem w_din (q : tb σ H fun y H1 => ta σ H1 fun x H2 => gDIn Q x y H2) : tDIn tb ta σ H Q := q
theorem w_dnin (q : tb σ H fun y H1 => ta σ H1 fun x H2 => gDNotIn Q x y H2) : tDNotIn tb ta σ H Q := q
theorem w_dgetS {kvs : List (Key × V)} {k : Str} (h : H a = some (.dK kvs)) (l : valV kvs (Sum.inr k) = some v) (q : Q v H) : gDGet Q (.ref a) (.str k) H := ⟨a, v, rfl, l ▸ DGet.k (k := Sum.inr k) h, q⟩
theorem w_dgetI {kvs : List (Key × V)} {k : Int} (h : H a = some (.dK kvs)) (l : valV kvs (Sum.inl k) = some v) (q : Q v H) : gDGet Q (.ref a) (.int k) H := ⟨a, v, rfl, l ▸ DGet.k (k := Sum.inl k) h, q⟩
theorem w_dinS {kvs : List (Key × V)} {k : Str} (h : H a = some (.dK kvs)) (q : Q (.bl (valV kvs (Sum.inr k)).isSome) H) : gDIn Q (.ref a) (.str k) H := ⟨a, _, rfl, DGet.k (k := Sum.inr k) h, q⟩
theorem w_dninS {kvs : List (Key × V)} {k : Str} (h : H a = some (.dK kvs)) (q : Q (.bl (!(valV kvs (Sum.inr k)).isSome)) H) : gDNotIn Q (.ref a) (.str k) H := ⟨a, _, rfl, DGet.k (k := Sum.inr k) h, q⟩
theorem w_dnin1 {kvs : List (Key × V)} {k : Str} (h : H a = some (.dK kvs)) (l : valV kvs (Sum.inr k) = some v) (q : Q (.bl false) H) : gDNotIn Q (.ref a) (.str k) H := w_dninS h (by rw [l]; exact q)
theorem w_dnin0 {kvs : List (Key × V)} {k : Str} (h : H a = some (.dK kvs)) (l : valV kvs (Sum.inr k) = none) (q : Q (.bl true) H) : gDNotIn Q (.ref a) (.str k) H := w_dninS h (by rw [l]; exact q)
theorem w_din1 {kvs : List (Key × V)} {k : Str} (h : H a = some (.dK kvs)) (l : valV kvs (Sum.inr k) = some v) (q : Q (.bl true) H) : gDIn Q (.ref a) (.str k) H := w_dinS h (by rw [l]; exact q)
theorem w_din0 {kvs : List (Key × V)} {k : Str} (h : H a = some (.dK kvs)) (l : valV kvs (Sum.inr k) = none) (q : Q (.bl false) H) : gDIn Q (.ref a) (.str k) H := w_dinS h (by rw [l]; exact q)
/-! new lists and tuples -/
def gTup (Q : VK) (xs : List V) (H1 : Hp) : Prop := xs.length ≤ sizeLine ∧ ∀ p, H1 p = none → Q (.ref p) (upd H1 p (.tup xs))
def gLst (Q : VK) (xs : List V) (H1 : Hp) : Prop := xs.length ≤ sizeLine ∧ ∀ p, H1 p = none → Q (.ref p) (upd H1 p (.lst xs))
theorem w_tup (q : t σ H (gTup Q)) : tTup t σ H Q := q
theorem w_lst (q : t σ H (gLst Q)) : tLst t σ H Q := q
theorem w_tup2 (w : Hw Z so H L) (l : vs.length ≤ sizeLine) (k : ∀ p H', H p = none → Hw Z so H' ((true, p, .tup vs) :: L) → Q (.ref p) H') : gTup Q vs H := ⟨l, fun p n => k p _ n (w.new n)⟩
theorem w_lst2 (w : Hw Z so H L) (l : vs.length ≤ sizeLine) (k : ∀ p H', H p = none → Hw Z so H' ((true, p, .lst vs) :: L) → Q (.ref p) H') : gLst Q vs H := ⟨l, fun p n => k p _ n (w.new n)⟩
theorem w_nil {R : List V → Hp → Prop} (q : R [] H) : tNil σ H R := q
theorem w_cons {R : List V → Hp → Prop} (q : ta σ H fun x H1 => t σ H1 fun xs H2 => R (x :: xs) H2) : tCons ta t σ H R := q
/-! sequences read -/
theorem w_ixL {xs : List V} (h : SqL K H a xs) (l : atI xs i = some v) (q : Q v H) : rIxL K (.ref a) (.int i) H Q := ⟨a, xs, i, v, rfl, rfl, h, l, q⟩
theorem w_ixT {xs : List V} (h : SqT K H a xs) (l : atI xs i = some v) (q : Q v H) : rIxT K (.ref a) (.int i) H Q := ⟨a, xs, i, v, rfl, rfl, h, l, q⟩
theorem w_ixLs {xs : List V} (h : SqL K H a xs) (l : atI xs i = some v) (q : Q v H) : rIxLT K (.ref a) (.int i) H Q := .inl (w_ixL h l q)
theorem w_ixTs {xs : List V} (h : SqT K H a xs) (l : atI xs i = some v) (q : Q v H) : rIxLT K (.ref a) (.int i) H Q := .inr (w_ixT h l q)
theorem w_sl {r : V → Option Int → Option Int → Hp → VK → Prop} {tl th : TO} (q : te σ H fun x H1 => tl σ H1 fun l H2 => th σ H2 fun u H3 => r x l u H3 Q) : tSl r te tl th σ H Q := q
theorem w_nopart {R : Option Int → Hp → Prop} (q : R none H) : tNoPart σ H R := q
def gPart (R : Option Int → Hp → Prop) (x : V) (H1 : Hp) : Prop := ∃ i, x = .int i ∧ R (some i) H1
theorem w_part {R : Option Int → Hp → Prop} (q : te σ H (gPart R)) : tPart te σ H R := q
theorem w_part2 {R : Option Int → Hp → Prop} (q : R (some i) H) : gPart R (.int i) H := ⟨i, rfl, q⟩
theorem w_slL {xs : List V} {lo hi : Option Int} (w : Hw Z so H L) (h : SqL K H a xs) (k : ∀ p H', H p = none → Hw Z so H' ((true, p, .lst (cutV xs lo hi)) :: L) → Q (.ref p) H') : rSlL K (.ref a) lo hi H Q := ⟨a, xs, rfl, h, fun p n => k p _ n (w.new n)⟩
/-! calls -/
theorem w_call {sp : Sp} (q : t σ H fun vs H1 => sp vs H1 Q E) : tCall sp [] E t σ H Q := by
  have e : (fun vs H1 => sp (vs ++ []) H1 Q E) = fun vs H1 => sp vs H1 Q E := by funext vs H1; rw [List.append_nil]
  show t σ H fun vs H1 => sp (vs ++ []) H1 Q E
  rw [e]; exact q
theorem w_cf {sp : Sp} (q : t σ H fun vs H1 => sp vs H1 Q E0) : tCF sp t σ H Q := q
def gMeth (C : Addr) (m : Str) (sp : Sp) (E : XK) (t : TA) (σ : L2.St) (Q : VK) (x : V) (H1 : Hp) : Prop := ∃ a dx fs, x = .ref a ∧ H1 a = some (.ins C dx fs) ∧ fs.lookup m = none ∧ t σ H1 fun vs H2 => sp (x :: vs) H2 Q E
theorem w_meth {sp : Sp} (q : ta σ H (gMeth C m sp E t σ Q)) : tMeth C m sp [] E ta t σ H Q := by
  unfold tMeth
  simp only [List.append_nil]
  exact q
theorem w_meth2 {sp : Sp} {fs : List (Str × V)} (h : H a = some (.ins C dx fs)) (n : fs.lookup m = none) (q : t σ H fun vs H2 => sp (.ref a :: vs) H2 Q E) : gMeth C m sp E t σ Q (.ref a) H := ⟨a, dx, fs, rfl, h, n, q⟩
theorem w_cb {r : List V → Hp → VK → Prop} (q : t σ H fun vs H1 => r vs H1 Q) : tCB r t σ H Q := q
def gMk (C : Addr) (sp : Sp) (dvs : List V) (E : XK) (Q : VK) (vs : List V) (H1 : Hp) : Prop := ∀ x dx, H1 x = none → H1 dx = none → dx ≠ x → sp (.ref x :: (vs ++ dvs)) (upd (upd H1 dx (.own x)) x (.ins C dx [])) (fun v H2 => v = .non ∧ Q (.ref x) H2) E
theorem w_mk {sp : Sp} (q : t σ H (gMk C sp dvs E Q)) : tMake C sp dvs E t σ H Q := q
def gMkK (C : Addr) (n m : Nat) (sp : Sp) (gV : List V → List V → List V) (E : XK) (Q : VK) (vs zs : List V) (H2 : Hp) : Prop := vs.length = n ∧ zs.length = m ∧ ∀ x dx, H2 x = none → H2 dx = none → dx ≠ x → sp (gV (.ref x :: vs) zs) (upd (upd H2 dx (.own x)) x (.ins C dx [])) (fun v H3 => v = .non ∧ Q (.ref x) H3) E
theorem w_mkK {n k : Nat} {sp : Sp} {gV : List V → List V → List V} {tk : TA} (q : t σ H fun vs H1 => tk σ H1 fun zs H2 => gMkK C n k sp gV E Q vs zs H2) : tMakeK C n k sp gV E t tk σ H Q := q
/-! methods of lists -/
def gBM (K : PySem.W.Frag) (T : String) (r : V → List V → Hp → VK → Prop) (t : TA) (σ : L2.St) (Q : VK) (x : V) (H1 : Hp) : Prop := tyV K T x H1 ∧ t σ H1 fun xs H2 => r x xs H2 Q
def gBM0 (K : PySem.W.Frag) (T : String) (r : V → List V → Hp → VK → Prop) (Q : VK) (x : V) (H1 : Hp) : Prop := tyV K T x H1 ∧ r x [] H1 Q
variable {T : String} {r : V → List V → Hp → VK → Prop}
theorem w_bm (q : to σ H (gBM K T r t σ Q)) : tBM K T r to t σ H Q := q
theorem w_bm0 (q : to σ H (gBM0 K T r Q)) : tBM0 K T r to σ H Q := q
theorem w_bmL {xs : List V} (h : SqL K H a xs) (q : t σ H fun ys H2 => r (.ref a) ys H2 Q) : gBM K "list" r t σ Q (.ref a) H := ⟨.inl ⟨rfl, _, h⟩, q⟩
theorem w_bm0L {xs : List V} (h : SqL K H a xs) (q : r (.ref a) [] H Q) : gBM0 K "list" r Q (.ref a) H := ⟨.inl ⟨rfl, _, h⟩, q⟩
theorem w_bmD {kvs : List (Key × V)} (h : H a = some (.dK kvs)) (q : t σ H fun ys H2 => r (.ref a) ys H2 Q) : gBM K "dict" r t σ Q (.ref a) H := ⟨.inr (.inr (.inl ⟨rfl, .inl ⟨_, h⟩⟩)), q⟩
theorem w_bm0D {kvs : List (Key × V)} (h : H a = some (.dK kvs)) (q : r (.ref a) [] H Q) : gBM0 K "dict" r Q (.ref a) H := ⟨.inr (.inr (.inl ⟨rfl, .inl ⟨_, h⟩⟩)), q⟩
theorem w_bmS {z : Str} (q : t σ H fun ys H2 => r (.str z) ys H2 Q) : gBM K "str" r t σ Q (.str z) H := ⟨rfl, q⟩
theorem w_bm0S {z : Str} (q : r (.str z) [] H Q) : gBM0 K "str" r Q (.str z) H := ⟨rfl, q⟩
theorem w_append {xs : List V} (w : Hw Z so H L) (h : At a (.lst xs) L) (u : Up a (.lst (xs ++ [y])) L L') (l : xs.length < sizeLine) (k : ∀ H', Hw Z so H' L' → Q .non H') : rAppend (.ref a) [y] H Q := ⟨a, xs, y, rfl, rfl, w.get h, l, k _ (w.up u)⟩
theorem w_pop {xs : List V} (w : Hw Z so H L) (h : At a (.lst (xs ++ [y])) L) (u : Up a (.lst xs) L L') (k : ∀ H', Hw Z so H' L' → Q y H') : rPop (.ref a) [] H Q := ⟨a, xs ++ [y], y, rfl, rfl, w.get h, by simp, by rw [List.dropLast_concat]; exact k _ (w.up u)⟩
theorem w_setL {xs : List V} {n : Nat} {k : Int} {R : Hp → Prop} (w : Hw Z so H L) (h : At a (.lst xs) L) (u : Up a (.lst (xs.set n v)) L L') (l : ixN xs.length k = some n) (q : ∀ H', Hw Z so H' L' → R H') : rSetL (.ref a) (.int k) v H R := ⟨a, xs, k, n, rfl, rfl, w.get h, l, q _ (w.up u)⟩
/-! stores -/
theorem ixN_nat {n j : Nat} (h : j < n) : ixN n (j : Int) = some j := by
  unfold ixN
  rw [if_pos (by omega), if_pos (by omega)]; simp
theorem w_gsub {ti : TE} {ts : TSet} {R : L2.St → Hp → Prop} (q : to σ H fun o H1 => ti σ H1 fun i H2 => ts o i v H2 fun H3 => R σ H3) : gSub to ti ts v σ H R := q
theorem w_setR {xs : List V} {n : Nat} {k : Int} {R : Hp → Prop} (h : H a = some (.lst xs)) (l : ixN xs.length k = some n) (q : R (upd H a (.lst (xs.set n v)))) : rSetL (.ref a) (.int k) v H R := ⟨a, xs, k, n, rfl, rfl, h, l, q⟩
theorem putLt {n : Nat} {fs : List (Str × V)} (h : fs.length < n) : (putF f y fs).length < n + 1 := Nat.lt_of_le_of_lt (putF_le _ _ _) (Nat.succ_lt_succ h)
def gSF (K : PySem.W.Frag) (f : Str) (D : Ends) (σ : L2.St) (y x : V) (H2 : Hp) : Prop := ∃ a C dx fs, x = .ref a ∧ H2 a = some (.ins C dx fs) ∧ Cls K C ∧ NoAttr K C f ∧ fs.length < 1000 ∧ D.nx σ (upd H2 a (.ins C dx (putF f y fs)))
theorem w_sfld {tv : TE} (q : tv σ H fun y H1 => ta σ H1 fun x H2 => gSF K f D σ y x H2) : sFld K ta tv f D σ H := q
theorem w_sfld2 {fs fs' : List (Str × V)} (w : Hw Z so H L) (h : At a (.ins C dx fs) L) (c : Cls K C) (n : NoAttr K C f) (l : fs.length < 1000) (e : putF f y fs = fs') (u : Up a (.ins C dx fs') L L') (q : ∀ H', Hw Z so H' L' → D.nx σ H') : gSF K f D σ y (.ref a) H := ⟨a, C, dx, fs, rfl, w.get h, c, n, l, q _ (e ▸ w.up u)⟩
def gDP (D : Ends) (σ : L2.St) (v x y : V) (H3 : Hp) : Prop := ∃ a H4, x = .ref a ∧ DPut H3 a y v H4 ∧ D.nx σ H4
theorem w_dput {td ty tv : TE} (q : tv σ H fun v H1 => td σ H1 fun x H2 => ty σ H2 fun y H3 => gDP D σ v x y H3) : sDPut td ty tv D σ H := q
theorem w_dputS {kvs kvs' : List (Key × V)} {k : Str} (w : Hw Z so H L) (h : At a (.dK kvs) L) (l : kvs.length < sizeLine) (e : putK kvs (Sum.inr k) v = kvs') (u : Up a (.dK kvs') L L') (q : ∀ H', Hw Z so H' L' → D.nx σ H') : gDP D σ v (.ref a) (.str k) H := ⟨a, _, rfl, DPut.k (k := Sum.inr k) (w.get h) l, q _ (e ▸ w.up u)⟩
/-! texts -/
def gFmt (Q : VK) (x : V) (H1 : Hp) : Prop := (∃ y : Str, x = .str y ∧ y.length ≤ sizeLine ∧ Q (.str y) H1) ∨ ∃ i : Int, x = .int i ∧ i.natAbs.log2 < 1920 ∧ Q (.str (toString i)) H1
theorem w_fmt (q : te σ H (gFmt Q)) : tFmt te σ H Q := q
theorem w_fmtS {z : Str} (l : z.length ≤ sizeLine) (q : Q (.str z) H) : gFmt Q (.str z) H := .inl ⟨z, rfl, l, q⟩
theorem w_fmtI (l : i.natAbs.log2 < 1920) (q : Q (.str (num i)) H) : gFmt Q (.int i) H := .inr ⟨i, rfl, l, q⟩
end
section
variable {A B : Prop}
theorem iTT (h : A) : if true = true then A else B := iteT h
theorem iTF (h : B) : if false = true then A else B := iteF h
theorem iNT (h : B) : if (!true) = true then A else B := iteF h
theorem iNF (h : A) : if (!false) = true then A else B := iteT h
end
/-- the ways of an if meet in B -/
theorem meetIf {s s' : TS} {D : Ends} {σ : L2.St} {H : Hp} {b : Bool} (B : L2.St → Hp → Prop) (h : ∀ D' : Ends, (∀ σ H, B σ H → D'.nx σ H) → D'.rt = D.rt → D'.bk = D.bk → D'.ct = D.ct → if b = true then s D' σ H else s' D' σ H) (k : ∀ σ H, B σ H → D.nx σ H) : if b = true then s D σ H else s' D σ H := h D k rfl rfl rfl
/-! ### int, bool, len, str, list -/
def rInt1 : List V → Hp → VK → Prop := fun xs H Q => (∃ i, xs = [.int i] ∧ Q (.int i) H) ∨ ∃ k, xs = [.bl k] ∧ Q (.int (if k then 1 else 0)) H
def rBool1 : List V → Hp → VK → Prop := fun xs H Q => (∃ i, xs = [.int i] ∧ Q (.bl (i != 0)) H) ∨ ∃ k, xs = [.bl k] ∧ Q (.bl k) H
def rStrI : List V → Hp → VK → Prop := fun xs H Q => ∃ i, xs = [.int i] ∧ i.natAbs.log2 < 1920 ∧ Q (.str (toString i)) H
def rLen (K : PySem.W.Frag) : List V → Hp → VK → Prop := fun xs H Q => ∃ p ys, xs = [V.ref p] ∧ (SqL K H p ys ∨ SqT K H p ys) ∧ Q (V.int (ys.length : Int)) H
def rListOf (K : PySem.W.Frag) : List V → Hp → VK → Prop := fun xs H Q => ∃ p ys, xs = [.ref p] ∧ (SqL K H p ys ∨ SqT K H p ys) ∧ ∀ l, H l = none → Q (.ref l) (upd H l (.lst ys))
theorem call_int1 {X : Cx} : CallR X (.type "int") rInt1 := L2.call_int1
theorem call_bool1 {X : Cx} : CallR X (.type "bool") rBool1 := L2.call_bool1
theorem call_str {X : Cx} : CallR X (.type "str") rStrI := L2.call_str_int
theorem call_len {X : Cx} (K : PySem.W.Frag) (h : X.K = K) : CallR X (.builtin "len") (rLen K) := by subst h; exact call_len_seq
theorem call_list {X : Cx} (K : PySem.W.Frag) (h : X.K = K) : CallR X (.type "list") (rListOf K) := by subst h; exact call_list_of
section
variable {K : PySem.W.Frag} {Z H : Hp} {so : Option (Addr × Addr)} {L : Cells} {a : Addr} {Q : VK} {i : Int} {b : Bool} {xs : List V}
theorem w_int1 (q : Q (.int i) H) : rInt1 [.int i] H Q := .inl ⟨i, rfl, q⟩
theorem w_int1b (q : Q (.int (if b then 1 else 0)) H) : rInt1 [.bl b] H Q := .inr ⟨b, rfl, q⟩
theorem w_bool1 (q : Q (.bl b) H) : rBool1 [.bl b] H Q := .inr ⟨b, rfl, q⟩
theorem w_str (l : i.natAbs.log2 < 1920) (q : Q (.str (num i)) H) : rStrI [.int i] H Q := ⟨i, rfl, l, q⟩
theorem w_lenL (h : SqL K H a xs) (q : Q (.int (xs.length : Int)) H) : rLen K [.ref a] H Q := ⟨a, xs, rfl, .inl (h), q⟩
theorem w_lenT (h : SqT K H a xs) (q : Q (.int (xs.length : Int)) H) : rLen K [.ref a] H Q := ⟨a, xs, rfl, .inr (h), q⟩
theorem w_listL (w : Hw Z so H L) (h : SqL K H a xs) (k : ∀ p H', H p = none → Hw Z so H' ((true, p, .lst xs) :: L) → Q (.ref p) H') : rListOf K [.ref a] H Q := ⟨a, xs, rfl, .inl (h), fun p n => k p _ n (w.new n)⟩
end
/-! ### texts -/
def rJoin (K : PySem.W.Frag) : V → List V → Hp → VK → Prop := fun x xs H Q => ∃ a p, ∃ ys : List Str, x = .str a ∧ xs = [.ref p] ∧ (SqL K H p (ys.map V.str) ∨ SqT K H p (ys.map V.str)) ∧ (ys.map (·.length)).sum + ys.length * a.length ≤ 16777216 ∧ Q (.str (Txt.join a ys)) H
section
variable {X : Cx} {o e : Expr} {to te : TE}
theorem pe_join (K : PySem.W.Frag) (hK : X.K = K) {apos pos : Pos} (ho : PE X o to) (he : PE X e te) (hs : starEach [e] X.env = [(false, eval e X.env)] := by rfl) (hbase : attributeBase o "join" X.env (eval o X.env) = eval o X.env := by rfl) (hline : (apos.endLine == pos.line) = true := by rfl) :
    PE X (.Call (.Attribute o "join" apos) [e] [] pos) (tM1 (rJoin K) to te) := by subst hK; exact L2.pe_join ho he hs hbase hline
end
theorem op_addS {X : Cx} : OpR X (binaryOp .Add) rAddS := op_add_str
theorem w_addS {a b : Str} {H : Hp} {Q : VK} (l : a.length + b.length ≤ sizeLine) (q : Q (.str (a ++ b)) H) : rAddS (.str a) (.str b) H Q := ⟨a, b, rfl, rfl, l, q⟩
theorem w_cat {Z H : Hp} {so : Option (Addr × Addr)} {L : Cells} {a b : Addr} {xs ys : List V} {Q : VK} (w : Hw Z so H L) (h1 : H a = some (.lst xs)) (h2 : H b = some (.lst ys)) (l : xs.length + ys.length ≤ sizeLine) (k : ∀ p H', H p = none → Hw Z so H' ((true, p, .lst (xs ++ ys)) :: L) → Q (.ref p) H') : rCat (.ref a) (.ref b) H Q := ⟨a, b, xs, ys, rfl, rfl, h1, h2, l, fun p n => k p _ n (w.new n)⟩
theorem w_gtup {K : PySem.W.Frag} {H : Hp} {a : Addr} {xs : List V} {n : Nat} {t : TGs} {σ : L2.St} {R : L2.St → Hp → Prop} (h : SqT K H a xs) (l : xs.length = n) (q : t xs σ H R) : L2.gTup K n t (.ref a) σ H R := ⟨a, xs, rfl, h, l, q⟩
theorem w_gcons {H : Hp} {v : V} {r : List V} {t : TG} {u : TGs} {σ : L2.St} {R : L2.St → Hp → Prop} (q : t v σ H fun σ' H' => u r σ' H' R) : gCons t u (v :: r) σ H R := ⟨v, r, rfl, q⟩
theorem w_gnil {H : Hp} {σ : L2.St} {R : L2.St → Hp → Prop} (q : R σ H) : gNil [] σ H R := ⟨rfl, q⟩
theorem w_inL {K : PySem.W.Frag} {H : Hp} {a : Addr} {x : V} {xs : List V} {Q : VK} (h : SqL K H a xs) (fx : flatV x = true) (fs : xs.all flatV = true) (q : Q (.bl (inV x xs)) H) : rIn K false x (.ref a) H Q := ⟨a, xs, rfl, .inl h, fx, fs, q⟩
theorem w_notInL {K : PySem.W.Frag} {H : Hp} {a : Addr} {x : V} {xs : List V} {Q : VK} (h : SqL K H a xs) (fx : flatV x = true) (fs : xs.all flatV = true) (q : Q (.bl (!inV x xs)) H) : rIn K true x (.ref a) H Q := ⟨a, xs, rfl, .inl h, fx, fs, q⟩
def gJs (ts : List TE) (acc : Str) (σ : L2.St) (R : Str → Hp → Prop) (x : V) (H1 : Hp) : Prop := ∃ y : Str, x = .str y ∧ (acc ++ y).length ≤ sizeLine ∧ tJs ts (acc ++ y) σ H1 R
theorem w_js0 {acc : Str} {σ : L2.St} {H : Hp} {R : Str → Hp → Prop} (q : R acc H) : tJs [] acc σ H R := q
theorem w_js1 {t : TE} {ts : List TE} {acc : Str} {σ : L2.St} {H : Hp} {R : Str → Hp → Prop} (q : t σ H (gJs ts acc σ R)) : tJs (t :: ts) acc σ H R := q
theorem w_js2 {ts : List TE} {acc y : Str} {σ : L2.St} {H : Hp} {R : Str → Hp → Prop} (l : (acc ++ y).length ≤ sizeLine) (q : tJs ts (acc ++ y) σ H R) : gJs ts acc σ R (.str y) H := ⟨y, rfl, l, q⟩
def gM1 (r : V → List V → Hp → VK → Prop) (te : TE) (σ : L2.St) (Q : VK) (x : V) (H1 : Hp) : Prop := (∃ a, x = .str a) ∧ te σ H1 fun y H2 => r x [y] H2 Q
section
variable {K : PySem.W.Frag} {H : Hp} {σ : L2.St} {Q : VK} {to te : TE} {p : Addr} {i : Int} {c : Nat} {z : Str}
theorem w_m1 {r : V → List V → Hp → VK → Prop} (q : to σ H (gM1 r te σ Q)) : tM1 r to te σ H Q := q
theorem w_m1s {r : V → List V → Hp → VK → Prop} (q : te σ H fun y H2 => r (.str z) [y] H2 Q) : gM1 r te σ Q (.str z) H := ⟨⟨z, rfl⟩, q⟩
theorem w_join {ys : List Str} (h : SqL K H p (ys.map V.str)) (l : (ys.map (·.length)).sum + ys.length * z.length ≤ 16777216) (q : Q (.str (Txt.join z ys)) H) : rJoin K (.str z) [.ref p] H Q := ⟨z, p, ys, rfl, rfl, .inl h, l, q⟩
theorem w_ixS (l : z.length ≤ sizeLine) (h : atI z.cps.toList i = some c) (q : Q (.str ⟨#[c]⟩) H) : rIxS (.str z) (.int i) H Q := ⟨z, i, c, rfl, rfl, l, h, q⟩
end
theorem seqT {K : PySem.W.Frag} {H H' : Hp} {a : Addr} {xs : List V} (e : Same H H') (h : SqT K H a xs) : SqT K H' a xs := by
  rcases h with h | h
  · refine .inl ?_
    rcases h with h | ⟨o, h⟩
    · exact .inl (e _ _ h)
    · exact .inr ⟨o, e _ _ h⟩
  · exact .inr h
/-! ### comprehensions: F i is what the new list holds ahead of turn i -/
def LcI (Z : Hp) (so : Option (Addr × Addr)) (L : Cells) (D : Addr) (xs : List V) (H : Hp) : Prop := Hw Z so H ((true, D, .lst xs) :: L)
def DcI (Z : Hp) (so : Option (Addr × Addr)) (L : Cells) (D : Addr) (kvs : List (Key × V)) (H : Hp) : Prop := Hw Z so H ((true, D, .dK kvs) :: L)
def gAcc (D : Addr) (Nx : Hp → Prop) (y : V) (H4 : Hp) : Prop := ∃ acc, H4 D = some (.lst acc) ∧ acc.length < sizeLine ∧ Nx (upd H4 D (.lst (acc ++ [y])))
def gDcc (D : Addr) (Nx : Hp → Prop) (y z : V) (H5 : Hp) : Prop := ∃ kvs k, y = kV k ∧ H5 D = some (.dK kvs) ∧ kvs.length < sizeLine ∧ Nx (upd H5 D (.dK (putK kvs k z)))
inductive Wi : L2.St → List Nat → L2.St → Prop
  | nil {σ} : Wi σ [] σ
  | cons {σ v vs σ'} (h : Wi σ vs σ') : Wi σ (v :: vs) (σ'.set v none)
theorem Wi.eq : ∀ {σ : L2.St} {vs : List Nat} {σ' : L2.St}, Wi σ vs σ' → wipe σ vs = σ'
  | _, _, _, .nil => rfl
  | _, _, _, .cons h => by rw [← h.eq]; rfl
section
variable {K : PySem.W.Frag} {Z H H' : Hp} {so : Option (Addr × Addr)} {L L' : Cells} {a D : Addr} {xs : List V} {y z : V} {g : TG} {tt : TT} {te tk tv : TE} {vs : List Nat} {σ σw : L2.St}
theorem w_acc {xs ys : List V} (w : Hw Z so H' L') (s : Sub ((true, D, .lst xs) :: L) L') (l : xs.length < sizeLine) (e : ys = xs ++ [y]) : gAcc D (LcI Z so L D ys) y H' := ⟨xs, (w.sub s).get .here, l, e ▸ (w.sub s).up .here⟩
theorem w_noacc {xs ys : List V} (w : Hw Z so H' L') (s : Sub ((true, D, .lst xs) :: L) L') (e : ys = xs) : LcI Z so L D ys H' := e ▸ w.sub s
theorem w_dccS {kvs kws : List (Key × V)} {k : Str} (w : Hw Z so H' L') (s : Sub ((true, D, .dK kvs) :: L) L') (l : kvs.length < sizeLine) (e : kws = putK kvs (Sum.inr k) z) : gDcc D (DcI Z so L D kws) (.str k) z H' := ⟨kvs, Sum.inr k, rfl, (w.sub s).get .here, l, e ▸ (w.sub s).up .here⟩
theorem w_dccI {kvs kws : List (Key × V)} {k : Int} (w : Hw Z so H' L') (s : Sub ((true, D, .dK kvs) :: L) L') (l : kvs.length < sizeLine) (e : kws = putK kvs (Sum.inl k) z) : gDcc D (DcI Z so L D kws) (.int k) z H' := ⟨kvs, Sum.inl k, rfl, (w.sub s).get .here, l, e ▸ (w.sub s).up .here⟩
theorem Hw.newU (w : Hw Z so H L) (n : H D = none) (o : HO) : Hw Z so (upd H D o) ((true, D, o) :: L) := w.new n
/-- over a list -/
theorem lcW {Qd : Addr → Hp → Prop} (F : Nat → List V) (w : Hw Z so H L) (hw : Wi σ vs σw) (hl : ∀ H', Hw Z so H' L → SqL K H' a xs) (h0 : F 0 = [])
    (hs : ∀ (i : Nat) (x : V) (D : Addr) (H' : Hp), xs[i]? = some x → Hw Z so H' ((true, D, .lst (F i)) :: L) → g x σw H' fun σ2 H2 => wipe σ2 vs = σw ∧ tt σ2 H2 fun b H3 =>
      if b = true then te σ2 H3 fun y H4 => gAcc D (LcI Z so L D (F (i + 1))) y H4 else LcI Z so L D (F (i + 1)) H3)
    (hd : ∀ (D : Addr) (H' : Hp), Hw Z so H' ((true, D, .lst (F xs.length)) :: L) → Qd D H') :
    ∀ D, H D = none → ∃ W : Nat → Nat → Hp → Prop, (∃ m, W 0 m (upd H D (.lst []))) ∧ ∀ i m H, W i m H →
      ((Itl K a).stop i H ∧ Qd D H) ∨ ((Itl K a).go i H ∧ ∃ Nx : Hp → Prop, (∀ H', Nx H' → ∃ m', m' < m ∧ W (i + 1) m' H') ∧ ∀ x H', (Itl K a).yld i H x H' → g x (wipe σ vs) H' fun σ2 H2 => wipe σ2 vs = wipe σ vs ∧ tt σ2 H2 fun b H3 =>
        if b = true then te σ2 H3 fun y H4 => ∃ acc, H4 D = some (.lst acc) ∧ acc.length < sizeLine ∧ Nx (upd H4 D (.lst (acc ++ [y]))) else Nx H3) := fun D n => by
  rw [hw.eq]
  refine UW.loopL (xs := xs) (fun i H => LcI Z so L D (F i) H) (by rw [h0]; exact w.new n) (fun i H h => hl H (h.sub (.skip (.refl _)))) (fun i x H hx h => ?_) (fun H h => hd D H h)
  exact hs i x D H hx h
/-- over lo, lo + 1, .. -/
theorem lcRW {Qd : Addr → Hp → Prop} {lo : Int} {n : Nat} (F : Nat → List V) (w : Hw Z so H L) (hw : Wi σ vs σw) (h0 : F 0 = [])
    (hs : ∀ (i : Nat) (D : Addr) (H' : Hp), i < n → Hw Z so H' ((true, D, .lst (F i)) :: L) → g (.int (lo + i)) σw H' fun σ2 H2 => wipe σ2 vs = σw ∧ tt σ2 H2 fun b H3 =>
      if b = true then te σ2 H3 fun y H4 => gAcc D (LcI Z so L D (F (i + 1))) y H4 else LcI Z so L D (F (i + 1)) H3)
    (hd : ∀ (D : Addr) (H' : Hp), Hw Z so H' ((true, D, .lst (F n)) :: L) → Qd D H') :
    ∀ D, H D = none → ∃ W : Nat → Nat → Hp → Prop, (∃ m, W 0 m (upd H D (.lst []))) ∧ ∀ i m H, W i m H →
      ((Itr lo n).stop i H ∧ Qd D H) ∨ ((Itr lo n).go i H ∧ ∃ Nx : Hp → Prop, (∀ H', Nx H' → ∃ m', m' < m ∧ W (i + 1) m' H') ∧ ∀ x H', (Itr lo n).yld i H x H' → g x (wipe σ vs) H' fun σ2 H2 => wipe σ2 vs = wipe σ vs ∧ tt σ2 H2 fun b H3 =>
        if b = true then te σ2 H3 fun y H4 => ∃ acc, H4 D = some (.lst acc) ∧ acc.length < sizeLine ∧ Nx (upd H4 D (.lst (acc ++ [y]))) else Nx H3) := fun D nn => by
  refine lc_range (fun i H => LcI Z so L D (F i) H) (by rw [h0]; exact w.new nn) (fun i H hi h => ?_) (fun H h => hd D H h)
  rw [hw.eq]
  exact hs i D H hi h
/-- a dict over lo, lo + 1, .. -/
theorem dcRW {Qd : Addr → Hp → Prop} {lo : Int} {n : Nat} (F : Nat → List (Key × V)) (w : Hw Z so H L) (hw : Wi σ vs σw) (h0 : F 0 = [])
    (hs : ∀ (i : Nat) (D : Addr) (H' : Hp), i < n → Hw Z so H' ((true, D, .dK (F i)) :: L) → g (.int (lo + i)) σw H' fun σ2 H2 => wipe σ2 vs = σw ∧ tt σ2 H2 fun b H3 =>
      if b = true then tk σ2 H3 fun y H4 => tv σ2 H4 fun z H5 => gDcc D (DcI Z so L D (F (i + 1))) y z H5 else DcI Z so L D (F (i + 1)) H3)
    (hd : ∀ (D : Addr) (H' : Hp), Hw Z so H' ((true, D, .dK (F n)) :: L) → Qd D H') :
    ∀ D, H D = none → ∃ W : Nat → Nat → Hp → Prop, (∃ m, W 0 m (upd H D (.dK []))) ∧ ∀ i m H, W i m H →
      ((Itr lo n).stop i H ∧ Qd D H) ∨ ((Itr lo n).go i H ∧ ∃ Nx : Hp → Prop, (∀ H', Nx H' → ∃ m', m' < m ∧ W (i + 1) m' H') ∧ ∀ x H', (Itr lo n).yld i H x H' → g x (wipe σ vs) H' fun σ2 H2 => wipe σ2 vs = wipe σ vs ∧ tt σ2 H2 fun b H3 =>
        if b = true then tk σ2 H3 fun y H4 => tv σ2 H4 fun z H5 => ∃ kvs k, y = kV k ∧ H5 D = some (.dK kvs) ∧ kvs.length < sizeLine ∧ Nx (upd H5 D (.dK (putK kvs k z))) else Nx H3) := fun D nn => by
  refine dc_rng (fun i H => DcI Z so L D (F i) H) (by rw [h0]; exact w.new nn) (fun i H hi h => ?_) (fun H h => hd D H h)
  rw [hw.eq]
  exact hs i D H hi h
/-- a dict over a list -/
theorem dcW {Qd : Addr → Hp → Prop} (F : Nat → List (Key × V)) (w : Hw Z so H L) (hw : Wi σ vs σw) (hl : ∀ H', Hw Z so H' L → SqL K H' a xs) (h0 : F 0 = [])
    (hs : ∀ (i : Nat) (x : V) (D : Addr) (H' : Hp), xs[i]? = some x → Hw Z so H' ((true, D, .dK (F i)) :: L) → g x σw H' fun σ2 H2 => wipe σ2 vs = σw ∧ tt σ2 H2 fun b H3 =>
      if b = true then tk σ2 H3 fun y H4 => tv σ2 H4 fun z H5 => gDcc D (DcI Z so L D (F (i + 1))) y z H5 else DcI Z so L D (F (i + 1)) H3)
    (hd : ∀ (D : Addr) (H' : Hp), Hw Z so H' ((true, D, .dK (F xs.length)) :: L) → Qd D H') :
    ∀ D, H D = none → ∃ W : Nat → Nat → Hp → Prop, (∃ m, W 0 m (upd H D (.dK []))) ∧ ∀ i m H, W i m H →
      ((Itl K a).stop i H ∧ Qd D H) ∨ ((Itl K a).go i H ∧ ∃ Nx : Hp → Prop, (∀ H', Nx H' → ∃ m', m' < m ∧ W (i + 1) m' H') ∧ ∀ x H', (Itl K a).yld i H x H' → g x (wipe σ vs) H' fun σ2 H2 => wipe σ2 vs = wipe σ vs ∧ tt σ2 H2 fun b H3 =>
        if b = true then tk σ2 H3 fun y H4 => tv σ2 H4 fun z H5 => ∃ kvs k, y = kV k ∧ H5 D = some (.dK kvs) ∧ kvs.length < sizeLine ∧ Nx (upd H5 D (.dK (putK kvs k z))) else Nx H3) := fun D n => by
  rw [hw.eq]
  refine UW.loopL (xs := xs) (fun i H => DcI Z so L D (F i) H) (by rw [h0]; exact w.new n) (fun i H h => hl H (h.sub (.skip (.refl _)))) (fun i x H hx h => ?_) (fun H h => hd D H h)
  exact hs i x D H hx h
/-! the same where the items are not told ahead, and frozen things may come along -/
def LcG (Z : Hp) (so : Option (Addr × Addr)) (L : Cells) (D : Addr) (P : Hp → List V → Prop) (H : Hp) : Prop := ∃ Z' acc, Same Z Z' ∧ P Z' acc ∧ Hw Z' so H ((true, D, .lst acc) :: L)
theorem w_accG {Z' : Hp} {P : Hp → List V → Prop} {acc : List V} (w : Hw Z' so H' L') (s : Sub ((true, D, .lst acc) :: L) L') (e : Same Z Z') (l : acc.length < sizeLine) (q : P Z' (acc ++ [y])) : gAcc D (LcG Z so L D P) y H' := ⟨acc, (w.sub s).get .here, l, Z', _, e, q, (w.sub s).up .here⟩
theorem w_noaccG {Z' : Hp} {P : Hp → List V → Prop} {acc : List V} (w : Hw Z' so H' L') (s : Sub ((true, D, .lst acc) :: L) L') (e : Same Z Z') (q : P Z' acc) : LcG Z so L D P H' := ⟨Z', _, e, q, w.sub s⟩
theorem lcG {Qd : Addr → Hp → Prop} (P : Nat → Hp → List V → Prop) (w : Hw Z so H L) (hw : Wi σ vs σw) (hl : ∀ Z' H', Same Z Z' → Hw Z' so H' L → SqL K H' a xs) (h0 : P 0 Z [])
    (hs : ∀ (i : Nat) (x : V) (D : Addr) (Z' H' : Hp) (acc : List V), xs[i]? = some x → Same Z Z' → P i Z' acc → Hw Z' so H' ((true, D, .lst acc) :: L) → g x σw H' fun σ2 H2 => wipe σ2 vs = σw ∧ tt σ2 H2 fun b H3 =>
      if b = true then te σ2 H3 fun y H4 => gAcc D (LcG Z so L D (P (i + 1))) y H4 else LcG Z so L D (P (i + 1)) H3)
    (hd : ∀ (D : Addr) (Z' H' : Hp) (acc : List V), Same Z Z' → P xs.length Z' acc → Hw Z' so H' ((true, D, .lst acc) :: L) → Qd D H') :
    ∀ D, H D = none → ∃ W : Nat → Nat → Hp → Prop, (∃ m, W 0 m (upd H D (.lst []))) ∧ ∀ i m H, W i m H →
      ((Itl K a).stop i H ∧ Qd D H) ∨ ((Itl K a).go i H ∧ ∃ Nx : Hp → Prop, (∀ H', Nx H' → ∃ m', m' < m ∧ W (i + 1) m' H') ∧ ∀ x H', (Itl K a).yld i H x H' → g x (wipe σ vs) H' fun σ2 H2 => wipe σ2 vs = wipe σ vs ∧ tt σ2 H2 fun b H3 =>
        if b = true then te σ2 H3 fun y H4 => ∃ acc, H4 D = some (.lst acc) ∧ acc.length < sizeLine ∧ Nx (upd H4 D (.lst (acc ++ [y]))) else Nx H3) := fun D n => by
  rw [hw.eq]
  refine UW.loopL (xs := xs) (fun i H => LcG Z so L D (P i) H) ⟨Z, [], fun _ _ e => e, h0, w.new n⟩ (fun i H ⟨Z', acc, e, _, h⟩ => hl Z' H e (h.sub (.skip (.refl _)))) (fun i x H hx ⟨Z', acc, e, q, h⟩ => ?_) (fun H ⟨Z', acc, e, q, h⟩ => hd D Z' H acc e q h)
  exact hs i x D Z' H acc hx e q h
theorem lcRG {Qd : Addr → Hp → Prop} {lo : Int} {n : Nat} (P : Nat → Hp → List V → Prop) (w : Hw Z so H L) (hw : Wi σ vs σw) (h0 : P 0 Z [])
    (hs : ∀ (i : Nat) (D : Addr) (Z' H' : Hp) (acc : List V), i < n → Same Z Z' → P i Z' acc → Hw Z' so H' ((true, D, .lst acc) :: L) → g (.int (lo + i)) σw H' fun σ2 H2 => wipe σ2 vs = σw ∧ tt σ2 H2 fun b H3 =>
      if b = true then te σ2 H3 fun y H4 => gAcc D (LcG Z so L D (P (i + 1))) y H4 else LcG Z so L D (P (i + 1)) H3)
    (hd : ∀ (D : Addr) (Z' H' : Hp) (acc : List V), Same Z Z' → P n Z' acc → Hw Z' so H' ((true, D, .lst acc) :: L) → Qd D H') :
    ∀ D, H D = none → ∃ W : Nat → Nat → Hp → Prop, (∃ m, W 0 m (upd H D (.lst []))) ∧ ∀ i m H, W i m H →
      ((Itr lo n).stop i H ∧ Qd D H) ∨ ((Itr lo n).go i H ∧ ∃ Nx : Hp → Prop, (∀ H', Nx H' → ∃ m', m' < m ∧ W (i + 1) m' H') ∧ ∀ x H', (Itr lo n).yld i H x H' → g x (wipe σ vs) H' fun σ2 H2 => wipe σ2 vs = wipe σ vs ∧ tt σ2 H2 fun b H3 =>
        if b = true then te σ2 H3 fun y H4 => ∃ acc, H4 D = some (.lst acc) ∧ acc.length < sizeLine ∧ Nx (upd H4 D (.lst (acc ++ [y]))) else Nx H3) := fun D nn => by
  refine lc_range (fun i H => LcG Z so L D (P i) H) ⟨Z, [], fun _ _ e => e, h0, w.new nn⟩ (fun i H hi ⟨Z', acc, e, q, h⟩ => ?_) (fun H ⟨Z', acc, e, q, h⟩ => hd D Z' H acc e q h)
  rw [hw.eq]
  exact hs i D Z' H acc hi e q h
/-- what a list comprehension walks: a list -/
def gIl (K : PySem.W.Frag) (R : It → Hp → Prop) (x : V) (H1 : Hp) : Prop := ∃ a, x = .ref a ∧ (∃ xs, SqL K H1 a xs) ∧ R (Itl K a) H1
theorem w_il {tl : TE} {R : It → Hp → Prop} (q : tl σ H (gIl K R)) : iList K tl σ H R := q
theorem w_il2 {R : It → Hp → Prop} (h : SqL K H a xs) (q : R (Itl K a) H) : gIl K R (.ref a) H := ⟨a, rfl, ⟨xs, h⟩, q⟩
def gIr1 (R : It → Hp → Prop) (vs : List V) (H1 : Hp) : Prop := ∃ j : Int, vs = [.int j] ∧ -(2 ^ 62) ≤ j ∧ j < 2 ^ 62 ∧ R (Itr 0 j.toNat) H1
theorem w_ir {ta : TA} {R : It → Hp → Prop} (q : ta σ H (gIr1 R)) : iRng1 ta σ H R := q
theorem w_ir1 {j : Int} {n : Nat} {R : It → Hp → Prop} (e : j = (n : Int)) (b : n < 4611686018427387904) (q : R (Itr 0 n) H) : gIr1 R [.int j] H := ⟨j, rfl, by omega, by omega, by rw [e]; exact q⟩
theorem w_for {wi : TI} {tb : TS} {D : Ends} (q : wi σ H fun J H1 => ∃ W : Nat → Nat → L2.St → Hp → Prop, (∃ m, W 0 m σ H1) ∧ ∀ i m σ H, W i m σ H →
  (J.stop i H ∧ D.nx σ H) ∨ (J.go i H ∧ ∃ N : L2.St → Hp → Prop, (∀ σ' H', N σ' H' → ∃ m', m' < m ∧ W (i + 1) m' σ' H') ∧ ∀ x H', J.yld i H x H' → g x σ H' fun σ2 H2 => tb { D with nx := N, ct := N, bk := D.nx } σ2 H2)) : tFor wi g tb D σ H := q
theorem w_lc {wi : TI} {Q : VK} (q : wi σ H fun J H1 => ∀ D, H1 D = none → ∃ W : Nat → Nat → Hp → Prop, (∃ m, W 0 m (upd H1 D (.lst []))) ∧ ∀ i m H, W i m H →
  (J.stop i H ∧ Q (.ref D) H) ∨ (J.go i H ∧ ∃ Nx : Hp → Prop, (∀ H', Nx H' → ∃ m', m' < m ∧ W (i + 1) m' H') ∧ ∀ x H', J.yld i H x H' → g x (wipe σ vs) H' fun σ2 H2 => wipe σ2 vs = wipe σ vs ∧ tt σ2 H2 fun b H3 =>
    if b = true then te σ2 H3 fun y H4 => ∃ acc, H4 D = some (.lst acc) ∧ acc.length < sizeLine ∧ Nx (upd H4 D (.lst (acc ++ [y]))) else Nx H3)) : tLc wi g tt te vs σ H Q := q
theorem w_dc {wi : TI} {Q : VK} (q : wi σ H fun J H1 => ∀ D, H1 D = none → ∃ W : Nat → Nat → Hp → Prop, (∃ m, W 0 m (upd H1 D (.dK []))) ∧ ∀ i m H, W i m H →
  (J.stop i H ∧ Q (.ref D) H) ∨ (J.go i H ∧ ∃ Nx : Hp → Prop, (∀ H', Nx H' → ∃ m', m' < m ∧ W (i + 1) m' H') ∧ ∀ x H', J.yld i H x H' → g x (wipe σ vs) H' fun σ2 H2 => wipe σ2 vs = wipe σ vs ∧ tt σ2 H2 fun b H3 =>
    if b = true then tk σ2 H3 fun y H4 => tv σ2 H4 fun z H5 => ∃ kvs k, y = kV k ∧ H5 D = some (.dK kvs) ∧ kvs.length < sizeLine ∧ Nx (upd H5 D (.dK (putK kvs k z))) else Nx H3)) : tDc wi g tt tk tv vs σ H Q := q
end
end V
/-! More rules. -/
namespace V
open PySem PySem.Spec PyProof.Rows L2 U
/-- a comprehension into a name that is a cell -/
theorem sw_cell {elt : Expr} {gs : List Comprehension} {scope : Scope} {pos py : Pos} {y : Str} {l : Nat} {env : Env} (hk : env.scope.kind = .function) (hy : env.scope.names.lookup y = some .cell) : swapsWith (.ListComp elt gs scope pos) (some (.Name y py)) l env = pure false := by
  have k1 : env.kindOf y = some .cell := hy
  have k2 : env.blockKind = .function := by unfold Env.blockKind; rw [hk]; rfl
  unfold swapsWith; simp only [k1, k2]; rfl
theorem sw_cellD {kx vx : Expr} {gs : List Comprehension} {scope : Scope} {pos py : Pos} {y : Str} {l : Nat} {env : Env} (hk : env.scope.kind = .function) (hy : env.scope.names.lookup y = some .cell) : swapsWith (.DictComp kx vx gs scope pos) (some (.Name y py)) l env = pure false := by
  have k1 : env.kindOf y = some .cell := hy
  have k2 : env.blockKind = .function := by unfold Env.blockKind; rw [hk]; rfl
  unfold swapsWith; simp only [k1, k2]; rfl
/-- i <= x < k, i and k written -/
theorem w_chC {σ : L2.St} {H : Hp} {Q : VK} {n : Nat} {i j k : Int} (hb : σ[n]? = some (some (.int j))) (h : Q (.bl (decide (i ≤ j) && decide (j < k))) H) : tChain (rI0 fun i j => V.bl (decide (i ≤ j))) (rI0 fun i j => V.bl (decide (i < j))) (tC (.int i)) (tVar n) (tC (.int k)) σ H Q := by
  refine ⟨_, hb, _, _, rfl, rfl, _, rfl, ?_⟩
  by_cases c : decide (i ≤ j) = true
  · rw [if_pos c]
    rw [c, Bool.true_and] at h
    exact ⟨_, _, rfl, rfl, h⟩
  · rw [if_neg c]
    have c2 : decide (i ≤ j) = false := by simpa using c
    rw [c2, Bool.false_and] at h
    exact h
end V
/-! Errors of own classes as values: made, their attributes read, isinstance. -/
namespace UE
open PySem PySem.Spec PyProof.Rows L2 U UX
/-- C(e, ..), an error of an own class whose __init__ keeps sp -/
def tMkV (C : Addr) (sp : Sp) (ta : TA) : TE := fun σ H Q => ta σ H fun vs H1 => vs.length ≤ 1000 ∧ ∀ a, H1 a = none → sp (.ref a :: vs) (upd H1 a (exo a C none)) (fun v H2 => v = .non ∧ Q (.ref a) H2) E0
section
variable {X : Cx} {e : Expr} {es : List Expr} {ta : TA} {te : TE} {x : Str} {p pos : Pos} {C : Addr} {sp : Sp} {k j : Nat}
theorem pe_mkB (c : ExM X.prog X.w X.K X.mg X.base k x C sp) (hr : Room j X.A) (hk : k + 1 ≤ j) (hg : Gl X x) (ha : PA X (e :: es) ta)
    (hdb : (x == ("__debug__" : Str)) = false := by decide) (he : starEach (e :: es) X.env = (false, eval e X.env) :: starEach es X.env := by rfl) (hpl : (backTo pos (starEach es X.env)).any (·.1) = false := by rfl) :
    PE X (.Call (.Name x p) (e :: es) [] pos) (tMkV C sp ta) := by
  obtain ⟨B, newId, initId, bt, f, fd, ps, T, hm, iC, tI, F, hb⟩ := c.ex
  have hr' : Room (k + 1) X.A := hr.mono hk
  refine ⟨fun pins s σ H Q I h => ?_⟩
  refine wpAny_Call_Name_kw (ld_glob I hg hm ?_ hdb)
  refine PySem.W.callWith_K (h₀ := X.base) I.ok.mod.kin T.kC (thn (ha.run pos pins s σ H _ I h) fun us s1 ⟨vs, H1, I1, r1, hz, q1⟩ => ⟨I1.kIn, ?_⟩) he hpl
  show wpAny _ _ (call (.ref C) us) _ _ _
  obtain ⟨nm, N, qn, bs, bm, hdct, sn, sub, ab, col, dd, k0, k1, k2, k3, k5, hC, hT⟩ := PySem.W.excInit_of I1.kIn T.ini
  obtain ⟨hp, g, dr, tk, os⟩ := s1
  have hsz : hp.objs.size ≤ hp.objs.size + 1 := Nat.le_succ _
  have hq := q1 (hp.objs.size + 1) (I1.hok.fresh hsz)
  have kk : ∀ b o, hp.get? b = some o → ((hp.push (PySem.W.kdv_tup us)).push (PySem.HandSPX.excO C hp.objs.size)).get? b = some o := fun b o q => Heap.get?_push_of_some _ (Heap.get?_push_of_some _ q)
  have hget : ((hp.push (PySem.W.kdv_tup us)).push (PySem.HandSPX.excO C hp.objs.size)).get? (hp.objs.size + 1) = some (PySem.HandSPX.excO C hp.objs.size) := by heap_get
  have I2 : Inv X pins σ (upd H1 (hp.objs.size + 1) (exo (hp.objs.size + 1) C none)) ⟨(hp.push (PySem.W.kdv_tup us)).push (PySem.HandSPX.excO C hp.objs.size), g, dr, tk, os⟩ :=
    I1.laid (t' := tk) (a := hp.objs.size + 1) (o := exo (hp.objs.size + 1) C none) (h' := (hp.push (PySem.W.kdv_tup us)).push (PySem.HandSPX.excO C hp.objs.size)) kk hsz (exo_ok hget)
  have r2 : Vals (V.ref (hp.objs.size + 1) :: vs) (Value.ref (hp.objs.size + 1) :: us) := .cons rfl r1
  have hl : (Value.ref (hp.objs.size + 1) :: us).length = ps.length := by
    have z := F.len _ _ _ _ hq
    rw [r2.length] at z
    exact z
  have hus : us.length ≤ sizeLine := by
    rw [← Paired.length r1, sizeLine_eq]
    omega
  have hbb := hb _ (Value.ref (hp.objs.size + 1) :: us) I2.kIn (by rw [List.append_nil]; exact hl)
  rw [List.append_nil] at hbb
  refine wpAny_call (PySem.HandSPX.call_own T.FB hT hC (PySem.W.looks_findIn I1.kIn iC) (fun self => PySem.W.bind_fn I1.kIn self tI) hus
    (codeAny_mono (F.run _ X.stack _ _ ⟨Value.ref (hp.objs.size + 1) :: us, []⟩ (Value.ref (hp.objs.size + 1) :: us) _ _ E0 (hr'.make C us []) (I2.env0.make C us []) hbb r2 hq) fun r s' hq' => ?_))
  cases r with
  | error er => exact False.elim hq'
  | ok fl =>
    cases fl with
    | ret u =>
      obtain ⟨v, H', I3, rv, ev, q3⟩ := I2.after hq'
      subst ev
      exact ⟨rv, ⟨V.ref (hp.objs.size + 1), H', I3, rfl, q3⟩⟩
    | next => exact False.elim hq'
    | brk => exact False.elim hq'
    | cont => exact False.elim hq'
/-- C(), an own class of errors without an own __init__ -/
theorem pe_exc0 {bmB : List Value} {B newId initId : String} (F : ExcBaseFacts B newId initId bmB) (q : PySem.W.excIn X.K C bmB newId = true) (gC : X.mg x = some (.ref C)) (kC : PySem.W.keepIn X.K (.ref C) = true) (hg : Gl X x) (hdb : (x == ("__debug__" : Str)) = false := by decide) :
    PE X (.Call (.Name x p) [] [] pos) (fun σ H Q => ∀ a, H a = none → Q (.ref a) (upd H a (exo a C none))) := by
  refine ⟨fun pins s σ H Q I h => ?_⟩
  refine wpAny_Call_Name_kw (ld_glob I hg gC ?_ hdb)
  refine PySem.W.callWith_K0 I.kIn kC ?_
  show wpAny _ _ (call (.ref C) []) _ _ _
  obtain ⟨bm, N, nm, qn, bs, hdct, sn, sub, ab, col, dd, k0, k1, k2, k3, k5, mN, hC, hN, hni, T⟩ := exc_obj I.kIn q
  refine wpAny_call_exc_subT F T hC hN hni (fun h' a hm => ?_) (by show 0 ≤ sizeLine; rw [sizeLine_eq]; omega)
  have hn : H a = none := I.hok.gone hm.new
  obtain ⟨t, ht, _, _⟩ := hm.there
  exact ⟨.ref a, upd H a (exo a C none), I.laidN hm.keeps hm.new hn (exo_ok ht), rfl, h a hn⟩
end
/-- an error of the class C stands at a -/
def ErAt (H : Hp) (a C : Addr) : Prop := H a = some (exo a C none) ∨ ∃ dd fs, H a = some (exo a C (some dd)) ∧ H dd = some (exd dd fs)
/-- o.f, o an error -/
def gXf (K : PySem.W.Frag) (f : Str) (Q : VK) (x : V) (H1 : Hp) : Prop := ∃ (a C dd : Addr) (fs : List (Str × V)) (v : V), x = .ref a ∧ XfC K C ∧ PySem.W.findIn K (.ref C) f = some none ∧ H1 a = some (exo a C (some dd)) ∧ H1 dd = some (exd dd fs) ∧ fs.lookup f = some v ∧ Q v H1
def tXfH (K : PySem.W.Frag) (f : Str) (te : TE) : TE := fun σ H Q => te σ H (gXf K f Q)
theorem pe_xfH {X : Cx} (K : PySem.W.Frag) (hK : X.K = K) {e : Expr} {te : TE} {pos : Pos} {n : Str} (he : PE X e te) (hb : attributeBase e n X.env (eval e X.env) = eval e X.env := by rfl) : PE X (.Attribute e n pos) (tXfH K n te) := by
  subst hK
  refine ⟨fun pins s σ H Q I h => ?_⟩
  refine attr_of hb (thn (he.run pins s σ H _ I h) fun u s1 hh => ?_)
  obtain ⟨x, H1, I1, rx, a, C, dd, fs, v, ex, T, hno, ea, ed, l, q⟩ := hh
  subst ex
  obtain rfl : u = Value.ref a := rx
  obtain ⟨t1, ho⟩ := exo_at I1.hok ea
  obtain ⟨mA, hns, hr⟩ := exd_at I1.hok ed
  obtain ⟨od, hod, hl⟩ := lookIn_ns hns
  obtain ⟨u, hu, ru⟩ := RelO.some_of (v := v) (o := mA n) (by rw [← l]; exact hr n)
  have J : PySem.W.InstAt s1.heap a { cls := .ref C, dict := some dd, data := .fields #[.ref t1, .none, .none, .none, .bool false, .none] } C (some od) := ⟨ho, rfl, rfl, hod⟩
  exact HandSPX.exc_get I1.kIn J T.ga T.gg T.exC (PySem.W.findObj_own T.hdC hno rfl (by rw [hl, hu])) (handed_of ru) ⟨v, H1, I1.tok _, ru, q⟩
/-- isinstance(e, c), e an error -/
def rIsH (K : PySem.W.Frag) : List V → Hp → VK → Prop := fun xs H Q => ∃ (a D : Addr) (c : V) (cv : Value) (b : Bool), xs = [.ref a, c] ∧ ClsV c cv ∧ ExcI K D ∧ ErAt H a D ∧ PySem.W.kitOne K (.ref D) cv = some b ∧ Q (.bl b) H
theorem call_isH {X : Cx} (K : PySem.W.Frag) (hK : X.K = K) : CallR X (.builtin "isinstance") (rIsH K) := by
  subst hK
  intro pins s σ H xs us Q I r h
  obtain ⟨a, D, c, cv, b, rfl, hcv, C, er, e, q⟩ := h
  cases r with
  | cons rx rr =>
    cases rr with
    | cons rt rr =>
      cases rr
      cases rx
      have ec := hcv.eq rt
      subst ec
      rcases er with ea | ⟨dd, fs, ea, ed⟩
      · obtain ⟨t1, ho⟩ := exo_at I.hok ea
        have J : PySem.W.InstAt s.heap a { cls := .ref D, dict := none, data := .fields #[.ref t1, .none, .none, .none, .bool false, .none] } D none := ⟨ho, rfl, rfl, trivial⟩
        exact PySem.W.kia_one (PySem.W.kitx_exc C.cl C.ga C.gg C.exC C.ca C.cg C.ct C.mo) I.kIn J e (fun z => nomatch z) fun tk => ⟨.bl b, H, I.kept (t' := tk) fun _ _ z => z, rfl, q⟩
      · obtain ⟨t1, ho⟩ := exo_at I.hok ea
        obtain ⟨mA, ⟨od, es, ep, hod, _⟩, _⟩ := exd_at I.hok ed
        have J : PySem.W.InstAt s.heap a { cls := .ref D, dict := some dd, data := .fields #[.ref t1, .none, .none, .none, .bool false, .none] } D (some od) := ⟨ho, rfl, rfl, hod⟩
        exact PySem.W.kia_one (PySem.W.kitx_exc C.cl C.ga C.gg C.exC C.ca C.cg C.ct C.mo) I.kIn J e (fun z => nomatch z) fun tk => ⟨.bl b, H, I.kept (t' := tk) fun _ _ z => z, rfl, q⟩
/-! ### walks -/
theorem ErAt.same {H H' : Hp} {a C : Addr} (h : ErAt H a C) (e : Same H H') : ErAt H' a C := by
  rcases h with h | ⟨dd, fs, h1, h2⟩
  · exact .inl (e _ _ h)
  · exact .inr ⟨dd, fs, e _ _ h1, e _ _ h2⟩
section
variable {K : PySem.W.Frag} {Z H : Hp} {so : Option (Addr × Addr)} {L : V.Cells} {a D Cj : Addr} {b : Bool} {Q : VK}
theorem w_isH (w : V.Hw Z so H L) (er : ErAt Z a D) (c : ExcI K D) (e : PySem.W.kitOne K (.ref D) (.ref Cj) = some b) (q : Q (.bl b) H) : rIsH K [.ref a, .ref Cj] H Q := ⟨a, D, _, _, b, rfl, .own _, c, er.same w.fr, e, q⟩
theorem w_isHt {t : String} (w : V.Hw Z so H L) (er : ErAt Z a D) (c : ExcI K D) (e : PySem.W.kitOne K (.ref D) (.type t) = some b) (q : Q (.bl b) H) : rIsH K [.ref a, .ty t] H Q := ⟨a, D, _, _, b, rfl, .ty _, c, er.same w.fr, e, q⟩
end
def tExc0 (C : Addr) : TE := fun _ H Q => ∀ a, H a = none → Q (.ref a) (upd H a (exo a C none))
theorem pe_e0 {X : Cx} {x : Str} {p pos : Pos} {C : Addr} {bmB : List Value} {B newId initId : String} (F : ExcBaseFacts B newId initId bmB) (q : PySem.W.excIn X.K C bmB newId = true ∧ PySem.W.keepIn X.K (.ref C) = true) (gC : ∃ u, X.mg x = some u ∧ RelV (.ref C) u) (hg : Gl X x) (hdb : (x == ("__debug__" : Str)) = false := by decide) :
    PE X (.Call (.Name x p) [] [] pos) (tExc0 C) := by
  obtain ⟨u, h1, h2⟩ := gC
  obtain rfl : u = Value.ref C := h2
  exact pe_exc0 F q.1 h1 q.2 hg hdb
def gMkV (C : Addr) (sp : Sp) (Q : VK) (vs : List V) (H1 : Hp) : Prop := vs.length ≤ 1000 ∧ ∀ a, H1 a = none → sp (.ref a :: vs) (upd H1 a (exo a C none)) (fun v H2 => v = .non ∧ Q (.ref a) H2) E0
section
variable {Z H : Hp} {so : Option (Addr × Addr)} {L : V.Cells} {C : Addr} {Q : VK} {σ : L2.St} {sp : Sp} {ta : TA}
theorem w_mkV (q : ta σ H (gMkV C sp Q)) : tMkV C sp ta σ H Q := q
theorem w_exc0 (w : V.Hw Z so H L) (k : ∀ a Z' H', V.Hw Z' so H' L → Same Z Z' → Z' a = some (exo a C none) → Q (.ref a) H') : tExc0 C σ H Q := fun a n => by
  obtain ⟨w', e', h'⟩ := (w.new (o := exo a C none) n).frz
  exact k a _ _ w' e' h'
end
/-! ### what an own __init__ promises -/
def spEr (C : Addr) (names : List Str) (ok : List V → Prop) : Sp := fun vs H Q _ => ∃ (a : Addr) (ys : List V), vs = .ref a :: ys ∧ ok ys ∧ H a = some (exo a C none) ∧
  ∀ dx H', H dx = none → (∀ b o, b ≠ a → H b = some o → H' b = some o) → H' a = some (exo a C (some dx)) → H' dx = some (exd dx (names.zip ys).reverse) → Q .non H'
def spInUse (C : Addr) : Sp := fun vs H Q _ => ∃ (a : Addr) (s : Str) (l : Addr) (us : List V), vs = [.ref a, .str s, .ref l] ∧ s.length ≤ 1000 ∧ H a = some (exo a C none) ∧ H l = some (.lst us) ∧
  ∀ q dx H', H q = none → H dx = none → q ≠ a → q ≠ dx → (∀ b o, b ≠ a → H b = some o → H' b = some o) → H' a = some (exo a C (some dx)) → H' dx = some (exd dx [("users", .ref q), ("name", .str s)]) → H' q = some (.lst us) → Q .non H'
/-- an error of the class C with these attributes stands at a -/
def Fl (H : Hp) (a C : Addr) (fs : List (Str × V)) : Prop := ∃ dd, H a = some (exo a C (some dd)) ∧ H dd = some (exd dd fs)
theorem Fl.same {H H' : Hp} {a C : Addr} {fs : List (Str × V)} (h : Fl H a C fs) (e : Same H H') : Fl H' a C fs := by
  obtain ⟨dd, h1, h2⟩ := h
  exact ⟨dd, e _ _ h1, e _ _ h2⟩
theorem Fl.er {H : Hp} {a C : Addr} {fs : List (Str × V)} (h : Fl H a C fs) : ErAt H a C := by
  obtain ⟨dd, h1, h2⟩ := h
  exact .inr ⟨dd, fs, h1, h2⟩
section
variable {K : PySem.W.Frag} {Z H : Hp} {so : Option (Addr × Addr)} {L : V.Cells} {C : Addr} {Q : VK} {vs : List V}
theorem w_mkEr {names : List Str} {ok : List V → Prop} (w : V.Hw Z so H L) (hl : vs.length ≤ 1000) (o : ok vs) (k : ∀ a Z' H', V.Hw Z' so H' L → Same Z Z' → Fl Z' a C (names.zip vs).reverse → Q (.ref a) H') : gMkV C (spEr C names ok) Q vs H :=
  ⟨hl, fun a na => ⟨a, vs, rfl, o, upd_same, fun dx H' nd kp ha hd => ⟨rfl, by
    have sC : Same H H' := fun b u e => kp b u (ne_of_none e na) (by rw [upd_ne (ne_of_none e na)]; exact e)
    obtain ⟨Z', w', e', new'⟩ := w.callNew sC
    exact k a Z' H' w' e' ⟨dx, new' _ _ na ha, new' _ _ (upd_none nd).2 hd⟩⟩⟩⟩
theorem w_mkUse {s : Str} {l : Addr} {us : List V} (w : V.Hw Z so H L) (hs : s.length ≤ 1000) (hu : H l = some (.lst us)) (k : ∀ a q Z' H', V.Hw Z' so H' L → Same Z Z' → Fl Z' a C [("users", .ref q), ("name", .str s)] → Z' q = some (.lst us) → Q (.ref a) H') : gMkV C (spInUse C) Q [.str s, .ref l] H :=
  ⟨Nat.le_of_ble_eq_true rfl, fun a na => ⟨a, s, l, us, rfl, hs, upd_same, by rw [upd_ne (ne_of_none hu na)]; exact hu, fun q dx H' nq nd qa qd kp ha hd hq => ⟨rfl, by
    have sC : Same H H' := fun b u e => kp b u (ne_of_none e na) (by rw [upd_ne (ne_of_none e na)]; exact e)
    obtain ⟨Z', w', e', new'⟩ := w.callNew sC
    exact k a q Z' H' w' e' ⟨dx, new' _ _ na ha, new' _ _ (upd_none nd).2 hd⟩ (new' _ _ (upd_none nq).2 hq)⟩⟩⟩
theorem w_xf {f : Str} {te : TE} {σ : L2.St} (q : te σ H (gXf K f Q)) : tXfH K f te σ H Q := q
theorem w_xf2 {a : Addr} {f : Str} {v : V} {fs : List (Str × V)} (w : V.Hw Z so H L) (h : Fl Z a C fs) (x : XfC K C) (n : PySem.W.findIn K (.ref C) f = some none) (l : fs.lookup f = some v) (q : Q v H) : gXf K f Q (.ref a) H := by
  obtain ⟨dd, h1, h2⟩ := h
  exact ⟨a, C, dd, fs, v, rfl, x, n, w.fr _ _ h1, w.fr _ _ h2, l, q⟩
end
/-! ### equal data -/
theorem dp_bools {K : PySem.W.Frag} {H : Hp} {a : Addr} (bs : List Bool) (h : SqL K H a (bs.map V.bl)) : Dp K H (.ref a) (.list (bs.map PyData.bool)) := by
  refine .lst h ?_
  clear h
  induction bs with
  | nil => exact .nil
  | cons b bs ih => exact .cons (.bl b) ih
def gd (n : Nat) (d : PyData) : Prop := d.canLay0 = true ∧ d.depth ≤ n
def gda (n : Nat) (ds : List PyData) : Prop := PyData.canLayAll0 ds = true ∧ PyData.depthAll ds ≤ n
theorem gda_nil {n : Nat} : gda n [] := ⟨rfl, Nat.zero_le _⟩
theorem gda_cons {n : Nat} {d : PyData} {ds : List PyData} (h : gd n d) (t : gda n ds) : gda n (d :: ds) := ⟨by rw [PyData.canLayAll0, h.1, t.1]; rfl, by rw [PyData.depthAll]; exact Nat.max_le.mpr ⟨h.2, t.2⟩⟩
theorem gd_list {n : Nat} {ds : List PyData} (h : gda n ds) : gd (n + 1) (.list ds) := ⟨by rw [PyData.canLay0]; exact h.1, by rw [PyData.depth]; exact Nat.succ_le_succ h.2⟩
theorem gd_tup {n : Nat} {ds : List PyData} (h : gda n ds) : gd (n + 1) (.tuple ds) := ⟨by rw [PyData.canLay0]; exact h.1, by rw [PyData.depth]; exact Nat.succ_le_succ h.2⟩
theorem gd_int {n : Nat} (i : Int) : gd n (.int i) := ⟨by rw [PyData.canLay0], by rw [PyData.depth]; exact Nat.zero_le _⟩
theorem gd_bool {n : Nat} (b : Bool) : gd n (.bool b) := ⟨by rw [PyData.canLay0], by rw [PyData.depth]; exact Nat.zero_le _⟩
theorem gd_str {n : Nat} {z : Str} (h : PySem.PyData.strOk z = true) : gd n (.str z) := ⟨by rw [PyData.canLay0]; exact h, by rw [PyData.depth]; exact Nat.zero_le _⟩
theorem gd.mono {n m : Nat} {d : PyData} (h : gd n d) (l : n ≤ m) : gd m d := ⟨h.1, Nat.le_trans h.2 l⟩
theorem gd.sh {n : Nat} {d : PyData} (h : gd n d) (l : n ≤ 64) : SeqAt.shaped d = true := by unfold SeqAt.shaped; rw [h.1, decide_eq_true (Nat.le_trans h.2 l)]; rfl
theorem gda_map {α : Type} {n : Nat} {f : α → PyData} (h : ∀ x, gd n (f x)) : ∀ xs : List α, gda n (xs.map f)
  | [] => gda_nil
  | x :: xs => gda_cons (h x) (gda_map h xs)
theorem dpa_map {α : Type} {K : PySem.W.Frag} {H : Hp} {f : α → V} {g : α → PyData} (h : ∀ x, Dp K H (f x) (g x)) : ∀ xs : List α, DpAll K H (xs.map f) (xs.map g)
  | [] => .nil
  | x :: xs => .cons (h x) (dpa_map h xs)
end UE
namespace Q
open PySem L2 U UX
/-! the walk by the head of the question -/
local macro_rules | `(tactic| walk_at "at") => `(tactic| first | with_reducible exact V.At.here | ((with_reducible apply V.At.there); walk_at "at"))
local macro_rules | `(tactic| walk_at "up") => `(tactic| first | with_reducible exact V.Up.here | ((with_reducible apply V.Up.there); walk_at "up"))
local macro_rules | `(tactic| walk_at "get") => `(tactic| first
  | ((with_reducible refine' V.Hw.get ?w ?h); (case w => assumption); (case h => walk_at "at"))
  | assumption
  | ((with_reducible refine' V.Hw.fro ?w ?h); (case w => assumption); (case h => assumption)))
local macro_rules | `(tactic| walk_at "sql") => `(tactic| first
  | ((with_reducible refine' SqL.of ?g); case g => walk_at "get")
  | assumption
  | ((with_reducible refine' Same.seq (V.Hw.fr ?w) ?h); (case w => assumption); (case h => assumption)))
local macro_rules | `(tactic| walk_at "sqt") => `(tactic| first
  | ((with_reducible refine' SqT.of ?g); case g => walk_at "get")
  | assumption
  | ((with_reducible refine' V.seqT (V.Hw.fr ?w) ?h); (case w => assumption); (case h => assumption)))
local macro_rules | `(tactic| walk_at "sa") => `(tactic| first | exact V.SetAt.z | (apply V.SetAt.s; walk_at "sa"))
local macro_rules | `(tactic| walk_at "sub") => `(tactic| first | with_reducible exact V.Sub.nil | ((with_reducible refine' V.Sub.cons ?_); walk_at "sub") | ((with_reducible refine' V.Sub.skip ?_); walk_at "sub"))
local macro_rules | `(tactic| walk_at "wi") => `(tactic| repeat (first | exact V.Wi.nil | apply V.Wi.cons))
local macro_rules | `(tactic| walk_at "sz") => `(tactic| first | exact Nat.le_of_ble_eq_true rfl | assumption | (refine' U.sz ?_ (m := 1000) (Nat.le_refl _); (first | omega | (simp only [List.length_map, List.length_take, List.length_append, List.length_range, List.length_cons, List.length_nil]; omega))))
local macro_rules | `(tactic| walk_at "szl") => `(tactic| first | assumption | (refine' small1000 ?_; (first | omega | (simp only [List.length_map, List.length_take, List.length_append, List.length_range, List.length_cons, List.length_nil]; omega))))
local macro_rules | `(tactic| walk_at "num") => `(tactic| first | assumption | omega | (show (0 : Int) < _; omega) | exact ⟨by omega, by omega⟩ | exact .inl ⟨by omega, by omega⟩ | exact .inr ⟨by omega, by omega⟩ | exact ⟨by decide, by decide⟩ | exact .inr ⟨by decide, by decide⟩ | decide)
local macro_rules | `(tactic| walk_at "atI") => `(tactic| first | assumption | exact at_of (Int.zero_add _) (by assumption) | exact at_of rfl (by assumption) | rfl)
local macro_rules | `(tactic| walk_at "w") => `(tactic| first
  | ((with_reducible refine' V.w_var ?h ?_); case h => rfl)
  | with_reducible refine' V.w_op ?_
  | with_reducible refine' V.w_c ?_
  | with_reducible refine' V.w_seq ?_
  | with_reducible refine' V.w_asg ?_
  | ((with_reducible refine' V.w_name ?h ?_); case h => walk_at "sa")
  | ((with_reducible show Ends.nx _ _ _); dsimp only)
  | ((with_reducible show Ends.rt _ _ _); dsimp only)
  | with_reducible refine' V.w_ri0 ?_
  | ((with_reducible refine' V.w_ri ?h ?_); case h => walk_at "num")
  | with_reducible refine' V.w_ru ?_
  | with_reducible refine' V.w_bl ?_
  | with_reducible refine' V.w_test ?_
  | with_reducible refine' V.w_b ?_
  | with_reducible refine' V.w_eqI ?_
  | with_reducible refine' V.w_eqS ?_
  | with_reducible refine' V.w_neI ?_
  | with_reducible refine' V.w_neS ?_
  | with_reducible refine' V.w_ifS ?_
  | with_reducible refine' V.w_and ?_
  | with_reducible refine' V.w_or ?_
  | with_reducible refine' V.w_not ?_
  | with_reducible refine' V.w_andV ?_
  | with_reducible refine' V.w_orV ?_
  | with_reducible refine' V.w_notV ?_
  | with_reducible refine' V.w_if ?_
  | with_reducible refine' V.w_isN ?_
  | with_reducible refine' V.w_yes ?_
  | with_reducible refine' V.w_isn ?_
  | with_reducible refine' V.w_next ?_
  | with_reducible refine' V.w_drop ?_
  | with_reducible refine' V.w_ret ?_
  | with_reducible refine' V.w_retN ?_
  | with_reducible refine' V.w_un ?_
  | with_reducible refine' V.w_nil ?_
  | with_reducible refine' V.w_cons ?_
  | with_reducible refine' V.w_call ?_
  | with_reducible refine' V.w_cf ?_
  | with_reducible refine' V.w_cb ?_
  | with_reducible refine' V.w_meth ?_
  | with_reducible refine' V.w_mk ?_
  | with_reducible refine' V.w_mkK ?_
  | ((with_reducible refine' V.w_meth2 ?h ?n ?_); (case h => walk_at "get"); (case n => first | assumption | rfl))
  | with_reducible refine' V.w_fld ?_
  | ((with_reducible refine' V.w_fld2 ?h ?c ?n ?l ?_); (case h => walk_at "get"); (case c => assumption); (case n => assumption); (case l => first | assumption | rfl))
  | with_reducible refine' V.w_bm ?_
  | with_reducible refine' V.w_bm0 ?_
  | with_reducible refine' V.w_bmS ?_
  | with_reducible refine' V.w_bm0S ?_
  | ((with_reducible refine' V.w_bmL ?h ?_); case h => walk_at "sql")
  | ((with_reducible refine' V.w_bm0L ?h ?_); case h => walk_at "sql")
  | ((with_reducible refine' V.w_bmD ?h ?_); case h => walk_at "get")
  | with_reducible refine' V.w_tup ?_
  | with_reducible refine' V.w_lst ?_
  | ((with_reducible refine' V.w_tup2 ?w ?l ?_); (case w => assumption); (case l => walk_at "sz"))
  | ((with_reducible refine' V.w_lst2 ?w ?l ?_); (case w => assumption); (case l => walk_at "sz"))
  | ((with_reducible refine' V.w_ixL ?h ?l ?_); (case h => walk_at "sql"); (case l => walk_at "atI"))
  | ((with_reducible refine' V.w_ixT ?h ?l ?_); (case h => walk_at "sqt"); (case l => walk_at "atI"))
  | ((with_reducible refine' V.w_ixLs ?h ?l ?_); (case h => walk_at "sql"); (case l => walk_at "atI"))
  | ((with_reducible refine' V.w_ixTs ?h ?l ?_); (case h => walk_at "sqt"); (case l => walk_at "atI"))
  | ((with_reducible refine' V.w_append ?w ?h ?u ?l ?_); (case w => assumption); (case h => walk_at "at"); (case u => walk_at "up"); (case l => walk_at "szl"))
  | with_reducible refine' V.w_gsub ?_
  | ((with_reducible refine' V.w_gtup ?h ?l ?_); (case h => walk_at "sqt"); (case l => rfl))
  | with_reducible refine' V.w_gcons ?_
  | with_reducible refine' V.w_gnil ?_
  | ((with_reducible refine' V.w_setL ?w ?h ?u ?l ?_); (case w => assumption); (case h => walk_at "at"); (case u => walk_at "up"); (case l => assumption))
  | with_reducible refine' V.w_sfld ?_
  | ((with_reducible refine' V.w_sfld2 ?w ?h ?c ?n ?l ?e ?u ?_); (case w => assumption); (case h => walk_at "at"); (case c => assumption); (case n => assumption); (case l => first | omega | decide | ((repeat with_reducible apply V.putLt); first | decide | omega)); (case e => rfl); (case u => walk_at "up"))
  | with_reducible refine' V.w_dget ?_
  | with_reducible refine' V.w_din ?_
  | with_reducible refine' V.w_dnin ?_
  | ((with_reducible refine' V.w_dgetS ?h ?l ?_); (case h => walk_at "get"); (case l => assumption))
  | ((with_reducible refine' V.w_dnin1 ?h ?l ?_); (case h => walk_at "get"); (case l => assumption))
  | ((with_reducible refine' V.w_dnin0 ?h ?l ?_); (case h => walk_at "get"); (case l => assumption))
  | ((with_reducible refine' V.w_din1 ?h ?l ?_); (case h => walk_at "get"); (case l => assumption))
  | ((with_reducible refine' V.w_din0 ?h ?l ?_); (case h => walk_at "get"); (case l => assumption))
  | with_reducible refine' V.w_dput ?_
  | with_reducible refine' V.w_fmt ?_
  | ((with_reducible refine' V.w_fmtS ?l ?_); case l => first | assumption | (refine Nat.le_trans ?_ (show 1000000 ≤ sizeLine by decide); (try simp only [U.len_app]); omega))
  | ((with_reducible refine' V.w_slL ?w ?h ?_); (case w => assumption); (case h => walk_at "sql"))
  | ((with_reducible refine' V.w_listL ?w ?h ?_); (case w => assumption); (case h => walk_at "sql"))
  | with_reducible refine' V.w_sl ?_
  | with_reducible refine' V.w_nopart ?_
  | with_reducible refine' V.w_part ?_
  | with_reducible refine' V.w_part2 ?_
  | with_reducible refine' V.w_for ?_
  | with_reducible refine' V.w_lc ?_
  | with_reducible refine' V.w_dc ?_
  | with_reducible refine' V.w_il ?_
  | ((with_reducible refine' V.w_il2 ?h ?_); case h => walk_at "sql")
  | with_reducible refine' V.w_ir ?_
  | ((with_reducible refine' V.w_ir1 ?e ?b ?_); (case e => rfl); (case b => omega))
  | with_reducible refine' V.w_int1 ?_
  | with_reducible refine' V.w_bool1 ?_
  | with_reducible refine' V.w_int1b ?_
  | ((with_reducible refine' V.w_lenL ?h ?_); case h => walk_at "sql")
  | ((with_reducible refine' V.w_lenT ?h ?_); case h => walk_at "sqt")
  | with_reducible refine' V.iTT ?_
  | with_reducible refine' V.iTF ?_
  | with_reducible refine' V.iNT ?_
  | with_reducible refine' V.iNF ?_
  | ((with_reducible refine' U.ifY ?h ?_); case h => first | assumption | rfl | omega)
  | ((with_reducible refine' U.ifN ?h ?_); case h => first | assumption | omega | (intro z; cases z; done) | decide)
  | ((with_reducible refine' U.nifY ?h ?_); case h => first | assumption | rfl | omega)
  | ((with_reducible refine' U.nifN ?h ?_); case h => first | assumption | omega | (intro z; cases z; done) | decide)
  | ((with_reducible refine' V.w_addS ?l ?_); (case l => first | assumption | (refine Nat.le_trans ?_ (show 100000 ≤ sizeLine by decide); (try simp only [U.len_app]); omega)))
  | ((with_reducible refine' V.w_cat ?w ?h ?h2 ?l ?_); (case w => assumption); (case h => walk_at "get"); (case h2 => walk_at "get"); (case l => walk_at "sz"))
  | with_reducible refine' V.w_js0 ?_
  | with_reducible refine' V.w_js1 ?_
  | ((with_reducible refine' V.w_js2 ?l ?_); (case l => first | assumption | (refine Nat.le_trans ?_ (show 1000000 ≤ sizeLine by decide); (try simp only [U.len_app]); omega)))
  | with_reducible refine' V.w_m1 ?_
  | with_reducible refine' V.w_m1s ?_
  | ((with_reducible refine' V.w_ixS ?l ?h ?_); (case l => first | decide +kernel | assumption); (case h => walk_at "atI"))
  | with_reducible refine' V.w_break ?_
  | with_reducible refine' V.w_cont ?_
  | ((with_reducible show Ends.bk _ _ _); dsimp only)
  | ((with_reducible show Ends.ct _ _ _); dsimp only))
/-! ### the law's draws -/
def top (i : Nat) : Stmt := PySem.Challenge.pw_usescale_k50_errors.main.body.getD i (.Pass ⟨0, 0, 0, 0⟩)

/-- the state of the draws: a list at S, the cells at L -/
def StA (H : Hp) (S L : Addr) : Prop := S ≠ L ∧ ∃ (ns : List Int) (a b c : Int), ns.length ≤ 63 ∧ H S = some (.lst [.ref L, .int a, .int b, .int c]) ∧ H L = some (.lst (ns.map V.int))
/-- what is not of the state stands -/
def Keeps (S L : Addr) (H H' : Hp) : Prop := ∀ b o, H b = some o → b ≠ S → b ≠ L → H' b = some o
theorem Keeps.trans {S L : Addr} {H H1 H2 : Hp} (a : Keeps S L H H1) (b : Keeps S L H1 H2) : Keeps S L H H2 := fun c o h n1 n2 => b c o (a c o h n1 n2) n1 n2
def spDraws (K : PySem.W.Frag) : Sp := fun vs H Q _ => ∃ (a : Addr) (ns : List Int), vs = [.ref a] ∧ SqL K H a (ns.map V.int) ∧ ns.length ≤ 63 ∧
  ∀ S L H', H S = none → H L = none → StA H' S L → Same H H' → Q (.ref S) H'
def spDraw : Sp := fun vs H Q _ => ∃ (S L : Addr) (m : Int), vs = [.ref S, .int m] ∧ StA H S L ∧ m.natAbs < 1606938044258990275541962092341162602522202993782792835301376 ∧
  ∀ r H', 0 ≤ r → (0 < m → r < m) → StA H' S L → Keeps S L H H' → Q (.int r) H'
structure TxL (K : PySem.W.Frag) (mg : Str → Option Value) : Prop where
  int : mg "int" = none
  len : mg "len" = none
  range : mg "range" = none
  isinstance : mg "isinstance" = none
  bool : mg "bool" = none
  str : mg "str" = none
  tuple : mg "tuple" = none
  list : mg "list" = none

section
variable {P : Program} {w : World} {K : PySem.W.Frag} {mg : Str → Option Value} {base : Heap}
theorem sc__law_draws : FnScope ["_law_script", "_law_seed", "_law_cell"] ["_law_script"] (defScope (top 36)) := ⟨rfl, rfl, rfl, by decide +kernel, rfl, by decide +kernel, by decide +kernel⟩
theorem ok_draws {f : Addr} {fd : FuncData} (F : Fun K "_law_draws" "_law_draws" (top 36) f fd) (T : TxL K mg) : FnOk P w K mg base CX0 1 f fd ["_law_script"] (spDraws K) := by
  refine F.ok sc__law_draws (fun vs H Q E h => ?_) (fun cdv A outer s H vs Q E hr h => ?_)
  · obtain ⟨a, ns, rfl, _⟩ := h
    rfl
  · obtain ⟨a, ns, rfl, hS, hlen, k⟩ := h
    refine ⟨_, (pss_cons (ps_set (i := 1) sc__law_draws.nd rfl (Or.inl rfl) pe_int)
      (pss_cons (ps_for PassesOwn.never rfl (pi_list (pv 0)) (pg_name (i := 2) sc__law_draws.nd rfl (Or.inl rfl)) (pss_one (ps_set (i := 1) sc__law_draws.nd rfl (Or.inl rfl) (pe_op op_mod (pe_callTy call_int1 (by rfl) T.int (by decide +kernel) (pa_cons (pe_op op_add (pe_op op_add (pe_op op_mul (pv 1) pe_int) (pe_op op_mul (pv 2) pe_int)) pe_int) pa_nil)) pe_int))))
      (pss_one (ps_ret (pe_lst (pa_cons (pe_lc (own := [("_law_cell", 2)]) (g := (gName 2)) (by rfl) sc__law_draws.nd (pi_list (pv 0)) (blkOk_by (own := [("_law_cell", 2)]) (N := ["_law_script", "_law_seed", "_law_cell"]) (sc := defScope (top 36)) (by decide +kernel)) (fun _ _ _ _ _ => (pg_name (i := 2) sc__law_draws.nd rfl (Or.inl rfl))) (fun _ _ _ _ _ => pts_nil) (fun _ _ _ _ _ => (pe_callTy call_int1 (by rfl) T.int (by decide +kernel) (pa_cons (pv 2) pa_nil)))) (pa_cons pe_int (pa_cons (pv 1) (pa_cons pe_int pa_nil))))))))), ?_⟩
    refine ⟨_, rfl, a, rfl, ⟨_, hS⟩, for_list (K := K) (a := a) (xs := ns.map V.int) (fun i σ H2 => ∃ (z : Int) (v : Option V), σ = [some (.ref a), some (.int z), v] ∧ H2 = H)
      ⟨7, none, rfl, rfl⟩ (fun i σ H2 _ ⟨_, _, _, e⟩ => by rw [e]; exact hS) ?_ ?_⟩
    · rintro i y σ H2 hi ⟨z, v, rfl, rfl⟩
      obtain ⟨n, rfl, hn⟩ := at_map hi
      refine ⟨_, rfl, _, _, rfl, rfl, .inr ⟨by decide, by decide⟩, _, rfl, _, _, rfl, rfl, .inr ⟨by decide, by decide⟩, _, _, rfl, rfl, _, _, rfl, rfl, .inl ⟨_, rfl, ?_⟩⟩
      refine ⟨_, _, rfl, rfl, (by show (0 : Int) < 998244353; decide), ?_⟩
      exact ⟨_, _, rfl, rfl⟩
    · rintro σ H2 ⟨z, v, rfl, rfl⟩
      refine ⟨_, rfl, a, rfl, ⟨_, hS⟩, fun D hD => lc_list (K := K) (a := a) (xs := ns.map V.int) (fun i H3 => H3 = upd H2 D (.lst ((ns.take i).map V.int))) ?_ ?_ ?_ ?_⟩
      · simp
      · rintro i H3 _ rfl
        exact (sameNew hD).seq hS
      · rintro i y H3 hi rfl
        obtain ⟨n, rfl, hn⟩ := at_map hi
        refine ⟨rfl, ?_⟩
        refine tYesI (iteT ?_)
        refine ⟨_, rfl, .inl ⟨_, rfl, _, upd_same, ?_, ?_⟩⟩
        · rw [List.length_map, List.length_take]
          exact small1000 (by omega)
        · rw [upd_upd, take_snoc hn, List.map_append]
          rfl
      · rintro H3 rfl
        refine ⟨_, rfl, (by show 4 ≤ sizeLine; decide), fun S hS' => ?_⟩
        have hDS : D ≠ S := ne_of_none upd_same hS'
        refine k S D _ ((sameNew hD).free hS') hD ⟨hDS.symm, ns, 0, z, 0, hlen, upd_same, ?_⟩ ((sameNew hD).trans (sameNew hS'))
        rw [upd_ne hDS, upd_same]
        simp [List.take_of_length_le]
theorem sc__law_draw : FnScope ["_law_state", "_law_many", "_law_cell", "_law_digit", "_law_value"] ["_law_state", "_law_many"] (defScope (top 37)) := ⟨rfl, rfl, rfl, by decide +kernel, rfl, by decide +kernel, by decide +kernel⟩
theorem ok_draw {f : Addr} {fd : FuncData} (F : Fun K "_law_draw" "_law_draw" (top 37) f fd) (T : TxL K mg) : FnOk P w K mg base CX0 1 f fd ["_law_state", "_law_many"] spDraw := by
  refine F.ok sc__law_draw (fun vs H Q E h => ?_) (fun cdv A outer s H vs Q E hr h => ?_)
  · obtain ⟨S, L, m, rfl, _⟩ := h
    rfl
  · obtain ⟨S, L, m, rfl, hst, hm, k⟩ := h
    refine ⟨_, (pss_cons (ps_if (pt_cmpR op_lt (pv 1) pe_int (nomark _)) (pss_one (ps_ret pe_int)) pss_nil)
      (pss_cons (ps_while PassesOwn.never (PW.pt (pw_and (pt_cmpR op_lt (pe_ix ix_list (pv 0) pe_int (fun _ _ => rfl)) pe_int (nomark _)) (pw_and1 (pt_cmpR op_gt (pe_callB call_len_seq (by rfl) T.len (by decide +kernel) (pa_cons (pe_ix ix_list (pv 0) pe_int (fun _ _ => rfl)) pa_nil)) pe_int (nomark _))))) (pss_cons (ps_set (i := 2) sc__law_draw.nd rfl (Or.inl rfl) (pe_bm PySem.F.plainAttrs_list PySem.F.slot_list_pop PySem.F.type_list_pop mt_popAt (pe_ix ix_list (pv 0) pe_int (fun _ _ => rfl)) (pa_cons pe_int pa_nil)))
      (pss_one (ps_asg (pe_ifExp (pt_cmpR op_gt (pv 2) pe_int (nomark _)) (pv 2) (pe_un un_neg (pv 2))) (pg_sub (pv 0) pe_int set_list)))))
      (pss_cons (ps_if (pt_cmpR op_gt (pe_ix ix_list (pv 0) pe_int (fun _ _ => rfl)) pe_int (nomark _)) (pss_cons (ps_set (i := 3) sc__law_draw.nd rfl (Or.inl rfl) (pe_op op_mod (pe_callTy call_int1 (by rfl) T.int (by decide +kernel) (pa_cons (pe_ix ix_list (pv 0) pe_int (fun _ _ => rfl)) pa_nil)) (pv 1)))
      (pss_cons (ps_asg (pe_op op_fdivW (pe_ix ix_list (pv 0) pe_int (fun _ _ => rfl)) (pv 1)) (pg_sub (pv 0) pe_int set_list))
      (pss_one (ps_ret (pv 3))))) pss_nil)
      (pss_cons (ps_augS (pv 0) pe_int get_list pe_int ip_add set_list)
      (pss_cons (ps_set (i := 4) sc__law_draw.nd rfl (Or.inl rfl) (pe_op op_mod (pe_callTy call_int1 (by rfl) T.int (by decide +kernel) (pa_cons (pe_op op_add (pe_ix ix_list (pv 0) pe_int (fun _ _ => rfl)) (pe_op op_mul (pe_ix ix_list (pv 0) pe_int (fun _ _ => rfl)) pe_int)) pa_nil)) pe_int))
      (pss_cons (ps_set (i := 4) sc__law_draw.nd rfl (Or.inl rfl) (pe_op op_mod (pe_callTy call_int1 (by rfl) T.int (by decide +kernel) (pa_cons (pe_op op_mul (pv 4) (pv 4)) pa_nil)) pe_int))
      (pss_cons (ps_set (i := 4) sc__law_draw.nd rfl (Or.inl rfl) (pe_op op_mod (pe_callTy call_int1 (by rfl) T.int (by decide +kernel) (pa_cons (pe_op op_add (pe_op op_mul (pv 4) pe_int) (pe_op op_mul (pe_ix ix_list (pv 0) pe_int (fun _ _ => rfl)) pe_int)) pa_nil)) pe_int))
      (pss_cons (ps_if (pt_cmpR op_gt (pv 1) (pe_op op_pow pe_int pe_int) (nomark _)) (pss_one (ps_set (i := 4) sc__law_draw.nd rfl (Or.inl rfl) (pe_op op_pow (pv 4) pe_int))) pss_nil)
      (pss_one (ps_ret (pe_op op_mod (pe_callTy call_int1 (by rfl) T.int (by decide +kernel) (pa_cons (pe_op op_fdiv (pv 4) pe_int) pa_nil)) (pv 1)))))))))))), ?_⟩
    obtain ⟨nSL, ns, a, b, c, hl, h1, h2⟩ := hst
    refine ⟨_, rfl, _, _, rfl, rfl, _, rfl, ?_⟩
    refine ifD (fun hm2 => ?_) (fun hm2 => ?_)
    · exact k 0 H (Int.le_refl 0) id ⟨nSL, ns, a, b, c, hl, h1, h2⟩ (fun _ _ e _ _ => e)
    refine whileX (fun M σ H2 => ∃ (v : Option V) (ns : List Int) (a : Int), M = ns.length ∧ σ = [some (.ref S), some (.int m), v, none, none] ∧ ns.length ≤ 63 ∧ H2 S = some (.lst [.ref L, .int a, .int b, .int c]) ∧ H2 L = some (.lst (ns.map V.int)) ∧ Keeps S L H H2)
      (fun σ H2 => ∃ (v : Option V) (ns : List Int) (a : Int), σ = [some (.ref S), some (.int m), v, none, none] ∧ ns.length ≤ 63 ∧ H2 S = some (.lst [.ref L, .int a, .int b, .int c]) ∧ H2 L = some (.lst (ns.map V.int)) ∧ Keeps S L H H2)
      _ ⟨none, ns, a, rfl, rfl, hl, h1, h2, fun _ _ e _ _ => e⟩ ?_ ?_
    · rintro σ H2 ⟨v, ns, a, rfl, hl, h1, h2, kp⟩
      refine ⟨_, rfl, S, _, _, _, rfl, rfl, SqL.of h1, rfl, _, _, rfl, rfl, _, rfl, ?_⟩
      refine ifD (fun ha => ?_) (fun ha => ?_)
      · refine ⟨_, rfl, S, _, _, _, rfl, rfl, SqL.of h1, rfl, .inl ⟨_, rfl, ?_⟩⟩
        refine ⟨_, rfl, _, _, rfl, rfl, (by show (0 : Int) < m; omega), ?_⟩
        refine ⟨_, rfl, S, _, _, _, rfl, rfl, SqL.of h1, rfl, ?_⟩
        refine ⟨_, rfl, _, _, rfl, rfl, wide_div (b := 200) (by omega) hm (by decide) (by decide), ?_⟩
        refine ⟨_, rfl, S, _, _, _, rfl, rfl, h1, rfl, ?_⟩
        refine ⟨_, rfl, ?_⟩
        refine k _ _ (Int.emod_nonneg _ (by omega)) (fun h0 => Int.emod_lt_of_pos _ h0) ⟨nSL, ns, _, b, c, hl, upd_same, (by rw [upd_ne nSL.symm]; exact h2)⟩ ?_
        intro d o e n1 n2
        rw [upd_ne n1]
        exact kp d o e n1 n2
      · refine ⟨_, rfl, S, _, _, _, rfl, rfl, SqL.of h1, by decide, rfl, ?_⟩
        refine ⟨_, _, rfl, rfl, ?_⟩
        refine ⟨S, _, _, _, rfl, rfl, h1, rfl, ?_⟩
        have g1 : ∀ o, (upd H2 S o) L = some (.lst (ns.map V.int)) := fun o => by rw [upd_ne nSL.symm]; exact h2
        refine ⟨_, rfl, S, _, _, _, rfl, rfl, SqL.of upd_same, rfl, ?_⟩
        refine ⟨_, rfl, S, _, _, _, rfl, rfl, SqL.of upd_same, rfl, ?_⟩
        refine ⟨_, _, rfl, rfl, .inr ⟨by decide, by decide⟩, _, _, rfl, rfl, .inl ⟨_, rfl, ?_⟩⟩
        refine ⟨_, _, rfl, rfl, (by show (0 : Int) < 998244353; decide), ?_⟩
        have e1 : 0 ≤ (b + (c + 1) * 7919) % 998244353 := Int.emod_nonneg _ (by decide)
        have e2 : (b + (c + 1) * 7919) % 998244353 < 998244353 := Int.emod_lt_of_pos _ (by decide)
        refine ⟨_, rfl, _, rfl, _, _, rfl, rfl, .inl ⟨by show -(2 ^ 64) < (b + (c + 1) * 7919) % 998244353; omega, by show (b + (c + 1) * 7919) % 998244353 < 2 ^ 64; omega⟩, .inl ⟨_, rfl, ?_⟩⟩
        refine ⟨_, _, rfl, rfl, (by show (0 : Int) < 1000000007; decide), ?_⟩
        refine ⟨_, rfl, _, _, rfl, rfl, .inr ⟨by decide, by decide⟩, ?_⟩
        refine ⟨_, rfl, S, _, _, _, rfl, rfl, SqL.of upd_same, rfl, _, _, rfl, rfl, .inr ⟨by decide, by decide⟩, _, _, rfl, rfl, .inl ⟨_, rfl, ?_⟩⟩
        refine ⟨_, _, rfl, rfl, (by show (0 : Int) < 2147483647; decide), ?_⟩
        generalize hv : ((((b + (c + 1) * 7919) % 998244353) * ((b + (c + 1) * 7919) % 998244353)) % 1000000007 * 48271 + (c + 1) * 69621) % 2147483647 = v0
        have v1 : 0 ≤ v0 := by rw [← hv]; exact Int.emod_nonneg _ (by decide)
        have v2 : v0 < 2147483647 := by rw [← hv]; exact Int.emod_lt_of_pos _ (by decide)
        refine ⟨_, rfl, _, _, rfl, rfl, ⟨by decide, by decide, by decide⟩, _, _, rfl, rfl, _, rfl, ?_⟩
        refine ifD (fun hb => ?_) (fun hb => ?_)
        · refine ⟨_, rfl, _, _, rfl, rfl, ⟨by decide, by decide, by omega⟩, ?_⟩
          refine ⟨_, rfl, _, _, rfl, rfl, ⟨by decide, by decide⟩, .inl ⟨_, rfl, ?_⟩⟩
          refine ⟨_, rfl, _, _, rfl, rfl, (by show (0 : Int) < m; omega), ?_⟩
          refine k _ _ (Int.emod_nonneg _ (by omega)) (fun h0 => Int.emod_lt_of_pos _ h0) ⟨nSL, ns, a, b, _, hl, upd_same, g1 _⟩ ?_
          intro d o e n1 n2
          rw [upd_ne n1]
          exact kp d o e n1 n2
        · refine ⟨_, rfl, _, _, rfl, rfl, ⟨by decide, by decide⟩, .inl ⟨_, rfl, ?_⟩⟩
          refine ⟨_, rfl, _, _, rfl, rfl, (by show (0 : Int) < m; omega), ?_⟩
          refine k _ _ (Int.emod_nonneg _ (by omega)) (fun h0 => Int.emod_lt_of_pos _ h0) ⟨nSL, ns, a, b, _, hl, upd_same, g1 _⟩ ?_
          intro d o e n1 n2
          rw [upd_ne n1]
          exact kp d o e n1 n2
    · intro nx hnx M σ H2
      rintro ⟨v, ns, a, rfl, rfl, hl, h1, h2, kp⟩
      refine ⟨_, rfl, S, _, _, _, rfl, rfl, SqL.of h1, rfl, _, _, rfl, rfl, _, rfl, ?_⟩
      refine ifD (fun ha => ?_) (fun ha => ?_)
      · refine ⟨_, rfl, S, _, _, _, rfl, rfl, SqL.of h1, rfl, ?_⟩
        refine ⟨_, _, rfl, .inl (SqL.of h2), _, _, rfl, rfl, _, rfl, ?_⟩
        refine ifD (fun hn => ?_) (fun hn => ?_)
        · refine ⟨_, fun _ _ h => h, ?_⟩
          refine ⟨_, rfl, S, _, _, _, rfl, rfl, SqL.of h1, rfl, .inl ⟨rfl, _, SqL.of h2⟩, ?_⟩
          obtain ⟨n, ns, rfl⟩ : ∃ n ns', ns = n :: ns' := by
            cases ns with
            | nil => exact absurd hn (by decide)
            | cons n ns' => exact ⟨n, ns', rfl⟩
          have hl' : ns.length + 1 ≤ 63 := hl
          refine ⟨L, _, _, 0, _, rfl, rfl, h2, by decide, by decide, ?_, rfl, ?_⟩
          · exact seqIndex_of (k := 0) (n := ((n :: ns).map V.int).length) (by decide) (by rw [List.length_map, List.length_cons]; omega)
          have g1 : ∀ o, (upd H2 L o) S = some (.lst [.ref L, .int a, .int b, .int c]) := fun o => by rw [upd_ne nSL]; exact h1
          have fin : ∀ z : Int, ∃ m', m' < (n :: ns).length ∧ ∃ (v : Option V) (ns_1 : List Int) (a : Int), m' = ns_1.length ∧ [some (V.ref S), some (V.int m), some (V.int n), none, none] = [some (.ref S), some (.int m), v, none, none] ∧ ns_1.length ≤ 63 ∧
              (upd (upd H2 L (.lst (ns.map V.int))) S (.lst [.ref L, .int z, .int b, .int c])) S = some (.lst [.ref L, .int a, .int b, .int c]) ∧ (upd (upd H2 L (.lst (ns.map V.int))) S (.lst [.ref L, .int z, .int b, .int c])) L = some (.lst (ns_1.map V.int)) ∧
              Keeps S L H (upd (upd H2 L (.lst (ns.map V.int))) S (.lst [.ref L, .int z, .int b, .int c])) := fun z =>
            ⟨ns.length, Nat.lt_succ_self _, _, ns, z, rfl, rfl, by omega, upd_same, by rw [upd_ne nSL.symm, upd_same], fun d o e n1 n2 => by rw [upd_ne n1, upd_ne n2]; exact kp d o e n1 n2⟩
          refine ⟨_, rfl, _, _, rfl, rfl, _, rfl, ?_⟩
          refine ifD (fun hc => ?_) (fun hc => ?_)
          · refine ⟨_, rfl, _, rfl, S, _, _, _, rfl, rfl, g1 _, rfl, ?_⟩
            exact fin n
          · refine ⟨_, rfl, _, rfl, _, rfl, S, _, _, _, rfl, rfl, g1 _, rfl, ?_⟩
            exact fin (-n)
        · exact hnx _ _ ⟨v, ns, a, rfl, hl, h1, h2, kp⟩
      · exact hnx _ _ ⟨v, ns, a, rfl, hl, h1, h2, kp⟩
end
open UE
/-! ### the errors' own __init__ -/
def ok_NegativeCount : List V → Prop := fun ys => ∃ (v_count : V), ys = [v_count]
section
variable {P : Program} {w : World} {K : PySem.W.Frag} {mg : Str → Option Value} {base : Heap} {C : Addr}
theorem sc_NegativeCount___init__ : FnScope ["self", "count"] ["self", "count"] (defScope (inClass (top 5) 0)) := ⟨rfl, rfl, rfl, by decide +kernel, rfl, by decide +kernel, by decide +kernel⟩
theorem in_NegativeCount {f : Addr} {fd : FuncData} {B newId initId : String} {bt : List Value} (F : Fun K "__init__" "NegativeCount.__init__" (inClass (top 5) 0) f fd) (T : OexB K C B newId initId bt) (h_count : NoAttr K C "count") (b : BInit K mg "UsescaleError" initId) : FnOk P w K mg base CX0 1 f fd ["self", "count"] (spEr C ["count"] ok_NegativeCount) := by
  refine F.ok sc_NegativeCount___init__ (fun vs H Q E h => ?_) (fun cdv A outer s H vs Q E hr h => ?_)
  · obtain ⟨a, ys, rfl, ⟨v_count, rfl⟩, _⟩ := h
    rfl
  · obtain ⟨a, ys, rfl, ⟨v_count, rfl⟩, ha, k⟩ := h
    have hu := hu_of hr
    refine ⟨_, (pss_cons (ps_expr (pe_binit (B := B) (newId := newId) (bt := bt) b (by rfl) (pa_cons (pv 0) (pa_cons pe_str pa_nil))))
      (pss_one (ps_ostB (B := B) (newId := newId) (initId := initId) (bt := bt) (pv 0) (pv 1)))), ?_⟩
    refine ⟨_, rfl, ?_⟩
    refine ⟨a, C, _, rfl, (by show 1 ≤ 1000; decide), T, ha, ?_⟩
    refine ⟨_, rfl, _, rfl, a, C, rfl, T, h_count, .inl ⟨ha, fun dx n1 n2 => ?_⟩⟩
    exact k dx _ n1 (fun b o nb e => by rw [upd_ne nb, upd_ne (ne_of_none e n1)]; exact e) upd_same (by rw [upd_ne n2]; exact upd_same)
end
def ok_NoBound : List V → Prop := fun ys => ∃ (s_first s_second : Str) (v_name : V), ys = [v_name, .str s_first, .str s_second] ∧ s_first.length ≤ 1000 ∧ s_second.length ≤ 1000
section
variable {P : Program} {w : World} {K : PySem.W.Frag} {mg : Str → Option Value} {base : Heap} {C : Addr}
theorem sc_NoBound___init__ : FnScope ["self", "name", "first", "second"] ["self", "name", "first", "second"] (defScope (inClass (top 6) 0)) := ⟨rfl, rfl, rfl, by decide +kernel, rfl, by decide +kernel, by decide +kernel⟩
theorem in_NoBound {f : Addr} {fd : FuncData} {B newId initId : String} {bt : List Value} (F : Fun K "__init__" "NoBound.__init__" (inClass (top 6) 0) f fd) (T : OexB K C B newId initId bt) (h_name : NoAttr K C "name") (h_first : NoAttr K C "first") (h_second : NoAttr K C "second") (b : BInit K mg "UsescaleError" initId) : FnOk P w K mg base CX0 1 f fd ["self", "name", "first", "second"] (spEr C ["name", "first", "second"] ok_NoBound) := by
  refine F.ok sc_NoBound___init__ (fun vs H Q E h => ?_) (fun cdv A outer s H vs Q E hr h => ?_)
  · obtain ⟨a, ys, rfl, ⟨s_first, s_second, v_name, rfl, l_first, l_second⟩, _⟩ := h
    rfl
  · obtain ⟨a, ys, rfl, ⟨s_first, s_second, v_name, rfl, l_first, l_second⟩, ha, k⟩ := h
    have hu := hu_of hr
    refine ⟨_, (pss_cons (ps_expr (pe_binit (B := B) (newId := newId) (bt := bt) b (by rfl) (pa_cons (pv 0) (pa_cons (pe_joined (PJ.cons (pe_fmt (pv 2)) (PJ.cons pe_str (PJ.cons (pe_fmt (pv 3)) (PJ.cons pe_str PJ.nil))))) pa_nil))))
      (pss_cons (ps_ostB (B := B) (newId := newId) (initId := initId) (bt := bt) (pv 0) (pv 1))
      (pss_cons (ps_ostB (B := B) (newId := newId) (initId := initId) (bt := bt) (pv 0) (pv 2))
      (pss_one (ps_ostB (B := B) (newId := newId) (initId := initId) (bt := bt) (pv 0) (pv 3)))))), ?_⟩
    refine ⟨_, rfl, ?_⟩
    have z0 : (Str.empty : Str).length ≤ 0 := by decide +kernel
    have z1 := app_le z0 l_first
    refine ⟨_, rfl, .inl ⟨_, rfl, Nat.le_trans l_first (by decide), _, rfl, Nat.le_trans z1 (show 0 + 1000 ≤ sizeLine by decide), ?_⟩⟩
    have z2 := app_le z1 (show (" and " : Str).length ≤ 5 by decide +kernel)
    refine ⟨_, rfl, Nat.le_trans z2 (show 0 + 1000 + 5 ≤ sizeLine by decide), ?_⟩
    have z3 := app_le z2 l_second
    refine ⟨_, rfl, .inl ⟨_, rfl, Nat.le_trans l_second (by decide), _, rfl, Nat.le_trans z3 (show 0 + 1000 + 5 + 1000 ≤ sizeLine by decide), ?_⟩⟩
    have z4 := app_le z3 (show (" have no least bound" : Str).length ≤ 20 by decide +kernel)
    refine ⟨_, rfl, Nat.le_trans z4 (show 0 + 1000 + 5 + 1000 + 20 ≤ sizeLine by decide), ?_⟩
    refine ⟨a, C, _, rfl, (by show 1 ≤ 1000; decide), T, ha, ?_⟩
    refine ⟨_, rfl, _, rfl, a, C, rfl, T, h_name, .inl ⟨ha, fun dx n1 n2 => ?_⟩⟩
    refine ⟨_, rfl, _, rfl, a, C, rfl, T, h_first, .inr ⟨dx, _, upd_same, by rw [upd_ne n2]; exact upd_same, by show 1 ≤ 900; decide, ?_⟩⟩
    refine ⟨_, rfl, _, rfl, a, C, rfl, T, h_second, .inr ⟨dx, _, by rw [upd_ne n2.symm]; exact upd_same, upd_same, by show 2 ≤ 900; decide, ?_⟩⟩
    exact k dx _ n1 (fun b o nb e => by rw [upd_ne (ne_of_none e n1), upd_ne (ne_of_none e n1), upd_ne nb, upd_ne (ne_of_none e n1)]; exact e) (by rw [upd_ne n2.symm, upd_ne n2.symm]; exact upd_same) upd_same
end
def ok_BadText : List V → Prop := fun ys => ∃ (v_at : V), ys = [v_at]
section
variable {P : Program} {w : World} {K : PySem.W.Frag} {mg : Str → Option Value} {base : Heap} {C : Addr}
theorem sc_BadText___init__ : FnScope ["self", "at"] ["self", "at"] (defScope (inClass (top 7) 0)) := ⟨rfl, rfl, rfl, by decide +kernel, rfl, by decide +kernel, by decide +kernel⟩
theorem in_BadText {f : Addr} {fd : FuncData} {B newId initId : String} {bt : List Value} (F : Fun K "__init__" "BadText.__init__" (inClass (top 7) 0) f fd) (T : OexB K C B newId initId bt) (h_at : NoAttr K C "at") (b : BInit K mg "UsescaleError" initId) : FnOk P w K mg base CX0 1 f fd ["self", "at"] (spEr C ["at"] ok_BadText) := by
  refine F.ok sc_BadText___init__ (fun vs H Q E h => ?_) (fun cdv A outer s H vs Q E hr h => ?_)
  · obtain ⟨a, ys, rfl, ⟨v_at, rfl⟩, _⟩ := h
    rfl
  · obtain ⟨a, ys, rfl, ⟨v_at, rfl⟩, ha, k⟩ := h
    have hu := hu_of hr
    refine ⟨_, (pss_cons (ps_expr (pe_binit (B := B) (newId := newId) (bt := bt) b (by rfl) (pa_cons (pv 0) (pa_cons pe_str pa_nil))))
      (pss_one (ps_ostB (B := B) (newId := newId) (initId := initId) (bt := bt) (pv 0) (pv 1)))), ?_⟩
    refine ⟨_, rfl, ?_⟩
    refine ⟨a, C, _, rfl, (by show 1 ≤ 1000; decide), T, ha, ?_⟩
    refine ⟨_, rfl, _, rfl, a, C, rfl, T, h_at, .inl ⟨ha, fun dx n1 n2 => ?_⟩⟩
    exact k dx _ n1 (fun b o nb e => by rw [upd_ne nb, upd_ne (ne_of_none e n1)]; exact e) upd_same (by rw [upd_ne n2]; exact upd_same)
end
def ok_NoRedex : List V → Prop := fun ys => ∃ (v_place : V), ys = [v_place]
section
variable {P : Program} {w : World} {K : PySem.W.Frag} {mg : Str → Option Value} {base : Heap} {C : Addr}
theorem sc_NoRedex___init__ : FnScope ["self", "place"] ["self", "place"] (defScope (inClass (top 8) 0)) := ⟨rfl, rfl, rfl, by decide +kernel, rfl, by decide +kernel, by decide +kernel⟩
theorem in_NoRedex {f : Addr} {fd : FuncData} {B newId initId : String} {bt : List Value} (F : Fun K "__init__" "NoRedex.__init__" (inClass (top 8) 0) f fd) (T : OexB K C B newId initId bt) (h_place : NoAttr K C "place") (b : BInit K mg "UsescaleError" initId) : FnOk P w K mg base CX0 1 f fd ["self", "place"] (spEr C ["place"] ok_NoRedex) := by
  refine F.ok sc_NoRedex___init__ (fun vs H Q E h => ?_) (fun cdv A outer s H vs Q E hr h => ?_)
  · obtain ⟨a, ys, rfl, ⟨v_place, rfl⟩, _⟩ := h
    rfl
  · obtain ⟨a, ys, rfl, ⟨v_place, rfl⟩, ha, k⟩ := h
    have hu := hu_of hr
    refine ⟨_, (pss_cons (ps_expr (pe_binit (B := B) (newId := newId) (bt := bt) b (by rfl) (pa_cons (pv 0) (pa_cons pe_str pa_nil))))
      (pss_one (ps_ostB (B := B) (newId := newId) (initId := initId) (bt := bt) (pv 0) (pv 1)))), ?_⟩
    refine ⟨_, rfl, ?_⟩
    refine ⟨a, C, _, rfl, (by show 1 ≤ 1000; decide), T, ha, ?_⟩
    refine ⟨_, rfl, _, rfl, a, C, rfl, T, h_place, .inl ⟨ha, fun dx n1 n2 => ?_⟩⟩
    exact k dx _ n1 (fun b o nb e => by rw [upd_ne nb, upd_ne (ne_of_none e n1)]; exact e) upd_same (by rw [upd_ne n2]; exact upd_same)
end
def ok_TooMany : List V → Prop := fun ys => ∃ (v_size : V), ys = [v_size]
section
variable {P : Program} {w : World} {K : PySem.W.Frag} {mg : Str → Option Value} {base : Heap} {C : Addr}
theorem sc_TooMany___init__ : FnScope ["self", "size"] ["self", "size"] (defScope (inClass (top 10) 0)) := ⟨rfl, rfl, rfl, by decide +kernel, rfl, by decide +kernel, by decide +kernel⟩
theorem in_TooMany {f : Addr} {fd : FuncData} {B newId initId : String} {bt : List Value} (F : Fun K "__init__" "TooMany.__init__" (inClass (top 10) 0) f fd) (T : OexB K C B newId initId bt) (h_size : NoAttr K C "size") (b : BInit K mg "UsescaleError" initId) : FnOk P w K mg base CX0 1 f fd ["self", "size"] (spEr C ["size"] ok_TooMany) := by
  refine F.ok sc_TooMany___init__ (fun vs H Q E h => ?_) (fun cdv A outer s H vs Q E hr h => ?_)
  · obtain ⟨a, ys, rfl, ⟨v_size, rfl⟩, _⟩ := h
    rfl
  · obtain ⟨a, ys, rfl, ⟨v_size, rfl⟩, ha, k⟩ := h
    have hu := hu_of hr
    refine ⟨_, (pss_cons (ps_expr (pe_binit (B := B) (newId := newId) (bt := bt) b (by rfl) (pa_cons (pv 0) (pa_cons pe_str pa_nil))))
      (pss_one (ps_ostB (B := B) (newId := newId) (initId := initId) (bt := bt) (pv 0) (pv 1)))), ?_⟩
    refine ⟨_, rfl, ?_⟩
    refine ⟨a, C, _, rfl, (by show 1 ≤ 1000; decide), T, ha, ?_⟩
    refine ⟨_, rfl, _, rfl, a, C, rfl, T, h_size, .inl ⟨ha, fun dx n1 n2 => ?_⟩⟩
    exact k dx _ n1 (fun b o nb e => by rw [upd_ne nb, upd_ne (ne_of_none e n1)]; exact e) upd_same (by rw [upd_ne n2]; exact upd_same)
end
def ok_BadCode : List V → Prop := fun ys => ∃ (v_block v_row : V), ys = [v_block, v_row]
section
variable {P : Program} {w : World} {K : PySem.W.Frag} {mg : Str → Option Value} {base : Heap} {C : Addr}
theorem sc_BadCode___init__ : FnScope ["self", "block", "row"] ["self", "block", "row"] (defScope (inClass (top 11) 0)) := ⟨rfl, rfl, rfl, by decide +kernel, rfl, by decide +kernel, by decide +kernel⟩
theorem in_BadCode {f : Addr} {fd : FuncData} {B newId initId : String} {bt : List Value} (F : Fun K "__init__" "BadCode.__init__" (inClass (top 11) 0) f fd) (T : OexB K C B newId initId bt) (h_block : NoAttr K C "block") (h_row : NoAttr K C "row") (b : BInit K mg "UsescaleError" initId) : FnOk P w K mg base CX0 1 f fd ["self", "block", "row"] (spEr C ["block", "row"] ok_BadCode) := by
  refine F.ok sc_BadCode___init__ (fun vs H Q E h => ?_) (fun cdv A outer s H vs Q E hr h => ?_)
  · obtain ⟨a, ys, rfl, ⟨v_block, v_row, rfl⟩, _⟩ := h
    rfl
  · obtain ⟨a, ys, rfl, ⟨v_block, v_row, rfl⟩, ha, k⟩ := h
    have hu := hu_of hr
    refine ⟨_, (pss_cons (ps_expr (pe_binit (B := B) (newId := newId) (bt := bt) b (by rfl) (pa_cons (pv 0) (pa_cons pe_str pa_nil))))
      (pss_cons (ps_ostB (B := B) (newId := newId) (initId := initId) (bt := bt) (pv 0) (pv 1))
      (pss_one (ps_ostB (B := B) (newId := newId) (initId := initId) (bt := bt) (pv 0) (pv 2))))), ?_⟩
    refine ⟨_, rfl, ?_⟩
    refine ⟨a, C, _, rfl, (by show 1 ≤ 1000; decide), T, ha, ?_⟩
    refine ⟨_, rfl, _, rfl, a, C, rfl, T, h_block, .inl ⟨ha, fun dx n1 n2 => ?_⟩⟩
    refine ⟨_, rfl, _, rfl, a, C, rfl, T, h_row, .inr ⟨dx, _, upd_same, by rw [upd_ne n2]; exact upd_same, by show 1 ≤ 900; decide, ?_⟩⟩
    exact k dx _ n1 (fun b o nb e => by rw [upd_ne (ne_of_none e n1), upd_ne nb, upd_ne (ne_of_none e n1)]; exact e) (by rw [upd_ne n2.symm]; exact upd_same) upd_same
end
def ok_KindClash : List V → Prop := fun ys => ∃ (v_wanted v_found : V), ys = [v_wanted, v_found]
section
variable {P : Program} {w : World} {K : PySem.W.Frag} {mg : Str → Option Value} {base : Heap} {C : Addr}
theorem sc_KindClash___init__ : FnScope ["self", "wanted", "found"] ["self", "wanted", "found"] (defScope (inClass (top 13) 0)) := ⟨rfl, rfl, rfl, by decide +kernel, rfl, by decide +kernel, by decide +kernel⟩
theorem in_KindClash {f : Addr} {fd : FuncData} {B newId initId : String} {bt : List Value} (F : Fun K "__init__" "KindClash.__init__" (inClass (top 13) 0) f fd) (T : OexB K C B newId initId bt) (h_wanted : NoAttr K C "wanted") (h_found : NoAttr K C "found") (b : BInit K mg "CheckError" initId) : FnOk P w K mg base CX0 1 f fd ["self", "wanted", "found"] (spEr C ["wanted", "found"] ok_KindClash) := by
  refine F.ok sc_KindClash___init__ (fun vs H Q E h => ?_) (fun cdv A outer s H vs Q E hr h => ?_)
  · obtain ⟨a, ys, rfl, ⟨v_wanted, v_found, rfl⟩, _⟩ := h
    rfl
  · obtain ⟨a, ys, rfl, ⟨v_wanted, v_found, rfl⟩, ha, k⟩ := h
    have hu := hu_of hr
    refine ⟨_, (pss_cons (ps_expr (pe_binit (B := B) (newId := newId) (bt := bt) b (by rfl) (pa_cons (pv 0) (pa_cons pe_str pa_nil))))
      (pss_cons (ps_ostB (B := B) (newId := newId) (initId := initId) (bt := bt) (pv 0) (pv 1))
      (pss_one (ps_ostB (B := B) (newId := newId) (initId := initId) (bt := bt) (pv 0) (pv 2))))), ?_⟩
    refine ⟨_, rfl, ?_⟩
    refine ⟨a, C, _, rfl, (by show 1 ≤ 1000; decide), T, ha, ?_⟩
    refine ⟨_, rfl, _, rfl, a, C, rfl, T, h_wanted, .inl ⟨ha, fun dx n1 n2 => ?_⟩⟩
    refine ⟨_, rfl, _, rfl, a, C, rfl, T, h_found, .inr ⟨dx, _, upd_same, by rw [upd_ne n2]; exact upd_same, by show 1 ≤ 900; decide, ?_⟩⟩
    exact k dx _ n1 (fun b o nb e => by rw [upd_ne (ne_of_none e n1), upd_ne nb, upd_ne (ne_of_none e n1)]; exact e) (by rw [upd_ne n2.symm]; exact upd_same) upd_same
end
def ok_WrongForm : List V → Prop := fun ys => ∃ (s_word : Str) (v_found : V), ys = [.str s_word, v_found] ∧ s_word.length ≤ 1000
section
variable {P : Program} {w : World} {K : PySem.W.Frag} {mg : Str → Option Value} {base : Heap} {C : Addr}
theorem sc_WrongForm___init__ : FnScope ["self", "word", "found"] ["self", "word", "found"] (defScope (inClass (top 14) 0)) := ⟨rfl, rfl, rfl, by decide +kernel, rfl, by decide +kernel, by decide +kernel⟩
theorem in_WrongForm {f : Addr} {fd : FuncData} {B newId initId : String} {bt : List Value} (F : Fun K "__init__" "WrongForm.__init__" (inClass (top 14) 0) f fd) (T : OexB K C B newId initId bt) (h_word : NoAttr K C "word") (h_found : NoAttr K C "found") (b : BInit K mg "CheckError" initId) : FnOk P w K mg base CX0 1 f fd ["self", "word", "found"] (spEr C ["word", "found"] ok_WrongForm) := by
  refine F.ok sc_WrongForm___init__ (fun vs H Q E h => ?_) (fun cdv A outer s H vs Q E hr h => ?_)
  · obtain ⟨a, ys, rfl, ⟨s_word, v_found, rfl, l_word⟩, _⟩ := h
    rfl
  · obtain ⟨a, ys, rfl, ⟨s_word, v_found, rfl, l_word⟩, ha, k⟩ := h
    have hu := hu_of hr
    refine ⟨_, (pss_cons (ps_expr (pe_binit (B := B) (newId := newId) (bt := bt) b (by rfl) (pa_cons (pv 0) (pa_cons (pe_joined (PJ.cons pe_str (PJ.cons (pe_fmt (pv 1)) PJ.nil))) pa_nil))))
      (pss_cons (ps_ostB (B := B) (newId := newId) (initId := initId) (bt := bt) (pv 0) (pv 1))
      (pss_one (ps_ostB (B := B) (newId := newId) (initId := initId) (bt := bt) (pv 0) (pv 2))))), ?_⟩
    refine ⟨_, rfl, ?_⟩
    have z0 : (Str.empty : Str).length ≤ 0 := by decide +kernel
    have z1 := app_le z0 (show ("a part has not the form " : Str).length ≤ 24 by decide +kernel)
    refine ⟨_, rfl, Nat.le_trans z1 (show 0 + 24 ≤ sizeLine by decide), ?_⟩
    have z2 := app_le z1 l_word
    refine ⟨_, rfl, .inl ⟨_, rfl, Nat.le_trans l_word (by decide), _, rfl, Nat.le_trans z2 (show 0 + 24 + 1000 ≤ sizeLine by decide), ?_⟩⟩
    refine ⟨a, C, _, rfl, (by show 1 ≤ 1000; decide), T, ha, ?_⟩
    refine ⟨_, rfl, _, rfl, a, C, rfl, T, h_word, .inl ⟨ha, fun dx n1 n2 => ?_⟩⟩
    refine ⟨_, rfl, _, rfl, a, C, rfl, T, h_found, .inr ⟨dx, _, upd_same, by rw [upd_ne n2]; exact upd_same, by show 1 ≤ 900; decide, ?_⟩⟩
    exact k dx _ n1 (fun b o nb e => by rw [upd_ne (ne_of_none e n1), upd_ne nb, upd_ne (ne_of_none e n1)]; exact e) (by rw [upd_ne n2.symm]; exact upd_same) upd_same
end
def ok_Overuse : List V → Prop := fun ys => ∃ (s_name s_used s_allowed : Str), ys = [.str s_name, .str s_used, .str s_allowed] ∧ s_name.length ≤ 1000 ∧ s_used.length ≤ 1000 ∧ s_allowed.length ≤ 1000
section
variable {P : Program} {w : World} {K : PySem.W.Frag} {mg : Str → Option Value} {base : Heap} {C : Addr}
theorem sc_Overuse___init__ : FnScope ["self", "name", "used", "allowed"] ["self", "name", "used", "allowed"] (defScope (inClass (top 15) 0)) := ⟨rfl, rfl, rfl, by decide +kernel, rfl, by decide +kernel, by decide +kernel⟩
theorem in_Overuse {f : Addr} {fd : FuncData} {B newId initId : String} {bt : List Value} (F : Fun K "__init__" "Overuse.__init__" (inClass (top 15) 0) f fd) (T : OexB K C B newId initId bt) (h_name : NoAttr K C "name") (h_used : NoAttr K C "used") (h_allowed : NoAttr K C "allowed") (b : BInit K mg "CheckError" initId) : FnOk P w K mg base CX0 1 f fd ["self", "name", "used", "allowed"] (spEr C ["name", "used", "allowed"] ok_Overuse) := by
  refine F.ok sc_Overuse___init__ (fun vs H Q E h => ?_) (fun cdv A outer s H vs Q E hr h => ?_)
  · obtain ⟨a, ys, rfl, ⟨s_name, s_used, s_allowed, rfl, l_name, l_used, l_allowed⟩, _⟩ := h
    rfl
  · obtain ⟨a, ys, rfl, ⟨s_name, s_used, s_allowed, rfl, l_name, l_used, l_allowed⟩, ha, k⟩ := h
    have hu := hu_of hr
    refine ⟨_, (pss_cons (ps_expr (pe_binit (B := B) (newId := newId) (bt := bt) b (by rfl) (pa_cons (pv 0) (pa_cons (pe_joined (PJ.cons (pe_fmt (pv 1)) (PJ.cons pe_str (PJ.cons (pe_fmt (pv 2)) (PJ.cons pe_str (PJ.cons (pe_fmt (pv 3)) PJ.nil)))))) pa_nil))))
      (pss_cons (ps_ostB (B := B) (newId := newId) (initId := initId) (bt := bt) (pv 0) (pv 1))
      (pss_cons (ps_ostB (B := B) (newId := newId) (initId := initId) (bt := bt) (pv 0) (pv 2))
      (pss_one (ps_ostB (B := B) (newId := newId) (initId := initId) (bt := bt) (pv 0) (pv 3)))))), ?_⟩
    refine ⟨_, rfl, ?_⟩
    have z0 : (Str.empty : Str).length ≤ 0 := by decide +kernel
    have z1 := app_le z0 l_name
    refine ⟨_, rfl, .inl ⟨_, rfl, Nat.le_trans l_name (by decide), _, rfl, Nat.le_trans z1 (show 0 + 1000 ≤ sizeLine by decide), ?_⟩⟩
    have z2 := app_le z1 (show (" is used " : Str).length ≤ 9 by decide +kernel)
    refine ⟨_, rfl, Nat.le_trans z2 (show 0 + 1000 + 9 ≤ sizeLine by decide), ?_⟩
    have z3 := app_le z2 l_used
    refine ⟨_, rfl, .inl ⟨_, rfl, Nat.le_trans l_used (by decide), _, rfl, Nat.le_trans z3 (show 0 + 1000 + 9 + 1000 ≤ sizeLine by decide), ?_⟩⟩
    have z4 := app_le z3 (show (", which does not lie within " : Str).length ≤ 28 by decide +kernel)
    refine ⟨_, rfl, Nat.le_trans z4 (show 0 + 1000 + 9 + 1000 + 28 ≤ sizeLine by decide), ?_⟩
    have z5 := app_le z4 l_allowed
    refine ⟨_, rfl, .inl ⟨_, rfl, Nat.le_trans l_allowed (by decide), _, rfl, Nat.le_trans z5 (show 0 + 1000 + 9 + 1000 + 28 + 1000 ≤ sizeLine by decide), ?_⟩⟩
    refine ⟨a, C, _, rfl, (by show 1 ≤ 1000; decide), T, ha, ?_⟩
    refine ⟨_, rfl, _, rfl, a, C, rfl, T, h_name, .inl ⟨ha, fun dx n1 n2 => ?_⟩⟩
    refine ⟨_, rfl, _, rfl, a, C, rfl, T, h_used, .inr ⟨dx, _, upd_same, by rw [upd_ne n2]; exact upd_same, by show 1 ≤ 900; decide, ?_⟩⟩
    refine ⟨_, rfl, _, rfl, a, C, rfl, T, h_allowed, .inr ⟨dx, _, by rw [upd_ne n2.symm]; exact upd_same, upd_same, by show 2 ≤ 900; decide, ?_⟩⟩
    exact k dx _ n1 (fun b o nb e => by rw [upd_ne (ne_of_none e n1), upd_ne (ne_of_none e n1), upd_ne nb, upd_ne (ne_of_none e n1)]; exact e) (by rw [upd_ne n2.symm, upd_ne n2.symm]; exact upd_same) upd_same
end
def ok_NoTurns : List V → Prop := fun ys => ∃ (s_name : Str), ys = [.str s_name] ∧ s_name.length ≤ 1000
section
variable {P : Program} {w : World} {K : PySem.W.Frag} {mg : Str → Option Value} {base : Heap} {C : Addr}
theorem sc_NoTurns___init__ : FnScope ["self", "name"] ["self", "name"] (defScope (inClass (top 16) 0)) := ⟨rfl, rfl, rfl, by decide +kernel, rfl, by decide +kernel, by decide +kernel⟩
theorem in_NoTurns {f : Addr} {fd : FuncData} {B newId initId : String} {bt : List Value} (F : Fun K "__init__" "NoTurns.__init__" (inClass (top 16) 0) f fd) (T : OexB K C B newId initId bt) (h_name : NoAttr K C "name") (b : BInit K mg "CheckError" initId) : FnOk P w K mg base CX0 1 f fd ["self", "name"] (spEr C ["name"] ok_NoTurns) := by
  refine F.ok sc_NoTurns___init__ (fun vs H Q E h => ?_) (fun cdv A outer s H vs Q E hr h => ?_)
  · obtain ⟨a, ys, rfl, ⟨s_name, rfl, l_name⟩, _⟩ := h
    rfl
  · obtain ⟨a, ys, rfl, ⟨s_name, rfl, l_name⟩, ha, k⟩ := h
    have hu := hu_of hr
    refine ⟨_, (pss_cons (ps_expr (pe_binit (B := B) (newId := newId) (bt := bt) b (by rfl) (pa_cons (pv 0) (pa_cons (pe_joined (PJ.cons pe_str (PJ.cons (pe_fmt (pv 1)) (PJ.cons pe_str PJ.nil)))) pa_nil))))
      (pss_one (ps_ostB (B := B) (newId := newId) (initId := initId) (bt := bt) (pv 0) (pv 1)))), ?_⟩
    refine ⟨_, rfl, ?_⟩
    have z0 : (Str.empty : Str).length ≤ 0 := by decide +kernel
    have z1 := app_le z0 (show ("no grade of " : Str).length ≤ 12 by decide +kernel)
    refine ⟨_, rfl, Nat.le_trans z1 (show 0 + 12 ≤ sizeLine by decide), ?_⟩
    have z2 := app_le z1 l_name
    refine ⟨_, rfl, .inl ⟨_, rfl, Nat.le_trans l_name (by decide), _, rfl, Nat.le_trans z2 (show 0 + 12 + 1000 ≤ sizeLine by decide), ?_⟩⟩
    have z3 := app_le z2 (show (" is enough for all turns" : Str).length ≤ 24 by decide +kernel)
    refine ⟨_, rfl, Nat.le_trans z3 (show 0 + 12 + 1000 + 24 ≤ sizeLine by decide), ?_⟩
    refine ⟨a, C, _, rfl, (by show 1 ≤ 1000; decide), T, ha, ?_⟩
    refine ⟨_, rfl, _, rfl, a, C, rfl, T, h_name, .inl ⟨ha, fun dx n1 n2 => ?_⟩⟩
    exact k dx _ n1 (fun b o nb e => by rw [upd_ne nb, upd_ne (ne_of_none e n1)]; exact e) upd_same (by rw [upd_ne n2]; exact upd_same)
end
def ok_TwiceBound : List V → Prop := fun ys => ∃ (s_name : Str), ys = [.str s_name] ∧ s_name.length ≤ 1000
section
variable {P : Program} {w : World} {K : PySem.W.Frag} {mg : Str → Option Value} {base : Heap} {C : Addr}
theorem sc_TwiceBound___init__ : FnScope ["self", "name"] ["self", "name"] (defScope (inClass (top 17) 0)) := ⟨rfl, rfl, rfl, by decide +kernel, rfl, by decide +kernel, by decide +kernel⟩
theorem in_TwiceBound {f : Addr} {fd : FuncData} {B newId initId : String} {bt : List Value} (F : Fun K "__init__" "TwiceBound.__init__" (inClass (top 17) 0) f fd) (T : OexB K C B newId initId bt) (h_name : NoAttr K C "name") (b : BInit K mg "CheckError" initId) : FnOk P w K mg base CX0 1 f fd ["self", "name"] (spEr C ["name"] ok_TwiceBound) := by
  refine F.ok sc_TwiceBound___init__ (fun vs H Q E h => ?_) (fun cdv A outer s H vs Q E hr h => ?_)
  · obtain ⟨a, ys, rfl, ⟨s_name, rfl, l_name⟩, _⟩ := h
    rfl
  · obtain ⟨a, ys, rfl, ⟨s_name, rfl, l_name⟩, ha, k⟩ := h
    have hu := hu_of hr
    refine ⟨_, (pss_cons (ps_expr (pe_binit (B := B) (newId := newId) (bt := bt) b (by rfl) (pa_cons (pv 0) (pa_cons (pe_joined (PJ.cons (pe_fmt (pv 1)) (PJ.cons pe_str PJ.nil))) pa_nil))))
      (pss_one (ps_ostB (B := B) (newId := newId) (initId := initId) (bt := bt) (pv 0) (pv 1)))), ?_⟩
    refine ⟨_, rfl, ?_⟩
    have z0 : (Str.empty : Str).length ≤ 0 := by decide +kernel
    have z1 := app_le z0 l_name
    refine ⟨_, rfl, .inl ⟨_, rfl, Nat.le_trans l_name (by decide), _, rfl, Nat.le_trans z1 (show 0 + 1000 ≤ sizeLine by decide), ?_⟩⟩
    have z2 := app_le z1 (show (" is bound twice" : Str).length ≤ 15 by decide +kernel)
    refine ⟨_, rfl, Nat.le_trans z2 (show 0 + 1000 + 15 ≤ sizeLine by decide), ?_⟩
    refine ⟨a, C, _, rfl, (by show 1 ≤ 1000; decide), T, ha, ?_⟩
    refine ⟨_, rfl, _, rfl, a, C, rfl, T, h_name, .inl ⟨ha, fun dx n1 n2 => ?_⟩⟩
    exact k dx _ n1 (fun b o nb e => by rw [upd_ne nb, upd_ne (ne_of_none e n1)]; exact e) upd_same (by rw [upd_ne n2]; exact upd_same)
end
def ok_LooseGap : List V → Prop := fun ys => ∃ (s_name : Str), ys = [.str s_name] ∧ s_name.length ≤ 1000
section
variable {P : Program} {w : World} {K : PySem.W.Frag} {mg : Str → Option Value} {base : Heap} {C : Addr}
theorem sc_LooseGap___init__ : FnScope ["self", "name"] ["self", "name"] (defScope (inClass (top 18) 0)) := ⟨rfl, rfl, rfl, by decide +kernel, rfl, by decide +kernel, by decide +kernel⟩
theorem in_LooseGap {f : Addr} {fd : FuncData} {B newId initId : String} {bt : List Value} (F : Fun K "__init__" "LooseGap.__init__" (inClass (top 18) 0) f fd) (T : OexB K C B newId initId bt) (h_name : NoAttr K C "name") (b : BInit K mg "CheckError" initId) : FnOk P w K mg base CX0 1 f fd ["self", "name"] (spEr C ["name"] ok_LooseGap) := by
  refine F.ok sc_LooseGap___init__ (fun vs H Q E h => ?_) (fun cdv A outer s H vs Q E hr h => ?_)
  · obtain ⟨a, ys, rfl, ⟨s_name, rfl, l_name⟩, _⟩ := h
    rfl
  · obtain ⟨a, ys, rfl, ⟨s_name, rfl, l_name⟩, ha, k⟩ := h
    have hu := hu_of hr
    refine ⟨_, (pss_cons (ps_expr (pe_binit (B := B) (newId := newId) (bt := bt) b (by rfl) (pa_cons (pv 0) (pa_cons (pe_joined (PJ.cons pe_str (PJ.cons (pe_fmt (pv 1)) (PJ.cons pe_str PJ.nil)))) pa_nil))))
      (pss_one (ps_ostB (B := B) (newId := newId) (initId := initId) (bt := bt) (pv 0) (pv 1)))), ?_⟩
    refine ⟨_, rfl, ?_⟩
    have z0 : (Str.empty : Str).length ≤ 0 := by decide +kernel
    have z1 := app_le z0 (show ("the gap at " : Str).length ≤ 11 by decide +kernel)
    refine ⟨_, rfl, Nat.le_trans z1 (show 0 + 11 ≤ sizeLine by decide), ?_⟩
    have z2 := app_le z1 l_name
    refine ⟨_, rfl, .inl ⟨_, rfl, Nat.le_trans l_name (by decide), _, rfl, Nat.le_trans z2 (show 0 + 11 + 1000 ≤ sizeLine by decide), ?_⟩⟩
    have z3 := app_le z2 (show (" is loose" : Str).length ≤ 9 by decide +kernel)
    refine ⟨_, rfl, Nat.le_trans z3 (show 0 + 11 + 1000 + 9 ≤ sizeLine by decide), ?_⟩
    refine ⟨a, C, _, rfl, (by show 1 ≤ 1000; decide), T, ha, ?_⟩
    refine ⟨_, rfl, _, rfl, a, C, rfl, T, h_name, .inl ⟨ha, fun dx n1 n2 => ?_⟩⟩
    exact k dx _ n1 (fun b o nb e => by rw [upd_ne nb, upd_ne (ne_of_none e n1)]; exact e) upd_same (by rw [upd_ne n2]; exact upd_same)
end
def ok_OutOfMoves : List V → Prop := fun ys => ∃ (v_bound : V), ys = [v_bound]
section
variable {P : Program} {w : World} {K : PySem.W.Frag} {mg : Str → Option Value} {base : Heap} {C : Addr}
theorem sc_OutOfMoves___init__ : FnScope ["self", "bound"] ["self", "bound"] (defScope (inClass (top 21) 0)) := ⟨rfl, rfl, rfl, by decide +kernel, rfl, by decide +kernel, by decide +kernel⟩
theorem in_OutOfMoves {f : Addr} {fd : FuncData} {B newId initId : String} {bt : List Value} (F : Fun K "__init__" "OutOfMoves.__init__" (inClass (top 21) 0) f fd) (T : OexB K C B newId initId bt) (h_bound : NoAttr K C "bound") (b : BInit K mg "RunError" initId) : FnOk P w K mg base CX0 1 f fd ["self", "bound"] (spEr C ["bound"] ok_OutOfMoves) := by
  refine F.ok sc_OutOfMoves___init__ (fun vs H Q E h => ?_) (fun cdv A outer s H vs Q E hr h => ?_)
  · obtain ⟨a, ys, rfl, ⟨v_bound, rfl⟩, _⟩ := h
    rfl
  · obtain ⟨a, ys, rfl, ⟨v_bound, rfl⟩, ha, k⟩ := h
    have hu := hu_of hr
    refine ⟨_, (pss_cons (ps_expr (pe_binit (B := B) (newId := newId) (bt := bt) b (by rfl) (pa_cons (pv 0) (pa_cons pe_str pa_nil))))
      (pss_one (ps_ostB (B := B) (newId := newId) (initId := initId) (bt := bt) (pv 0) (pv 1)))), ?_⟩
    refine ⟨_, rfl, ?_⟩
    refine ⟨a, C, _, rfl, (by show 1 ≤ 1000; decide), T, ha, ?_⟩
    refine ⟨_, rfl, _, rfl, a, C, rfl, T, h_bound, .inl ⟨ha, fun dx n1 n2 => ?_⟩⟩
    exact k dx _ n1 (fun b o nb e => by rw [upd_ne nb, upd_ne (ne_of_none e n1)]; exact e) upd_same (by rw [upd_ne n2]; exact upd_same)
end
def ok_Refused : List V → Prop := fun ys => ∃ (s_name : Str), ys = [.str s_name] ∧ s_name.length ≤ 1000
section
variable {P : Program} {w : World} {K : PySem.W.Frag} {mg : Str → Option Value} {base : Heap} {C : Addr}
theorem sc_Refused___init__ : FnScope ["self", "name"] ["self", "name"] (defScope (inClass (top 25) 0)) := ⟨rfl, rfl, rfl, by decide +kernel, rfl, by decide +kernel, by decide +kernel⟩
theorem in_Refused {f : Addr} {fd : FuncData} {B newId initId : String} {bt : List Value} (F : Fun K "__init__" "Refused.__init__" (inClass (top 25) 0) f fd) (T : OexB K C B newId initId bt) (h_name : NoAttr K C "name") (b : BInit K mg "BookError" initId) : FnOk P w K mg base CX0 1 f fd ["self", "name"] (spEr C ["name"] ok_Refused) := by
  refine F.ok sc_Refused___init__ (fun vs H Q E h => ?_) (fun cdv A outer s H vs Q E hr h => ?_)
  · obtain ⟨a, ys, rfl, ⟨s_name, rfl, l_name⟩, _⟩ := h
    rfl
  · obtain ⟨a, ys, rfl, ⟨s_name, rfl, l_name⟩, ha, k⟩ := h
    have hu := hu_of hr
    refine ⟨_, (pss_cons (ps_expr (pe_binit (B := B) (newId := newId) (bt := bt) b (by rfl) (pa_cons (pv 0) (pa_cons (pe_joined (PJ.cons pe_str (PJ.cons (pe_fmt (pv 1)) (PJ.cons pe_str PJ.nil)))) pa_nil))))
      (pss_one (ps_ostB (B := B) (newId := newId) (initId := initId) (bt := bt) (pv 0) (pv 1)))), ?_⟩
    refine ⟨_, rfl, ?_⟩
    have z0 : (Str.empty : Str).length ≤ 0 := by decide +kernel
    have z1 := app_le z0 (show ("the definition of " : Str).length ≤ 18 by decide +kernel)
    refine ⟨_, rfl, Nat.le_trans z1 (show 0 + 18 ≤ sizeLine by decide), ?_⟩
    have z2 := app_le z1 l_name
    refine ⟨_, rfl, .inl ⟨_, rfl, Nat.le_trans l_name (by decide), _, rfl, Nat.le_trans z2 (show 0 + 18 + 1000 ≤ sizeLine by decide), ?_⟩⟩
    have z3 := app_le z2 (show (" is refused" : Str).length ≤ 11 by decide +kernel)
    refine ⟨_, rfl, Nat.le_trans z3 (show 0 + 18 + 1000 + 11 ≤ sizeLine by decide), ?_⟩
    refine ⟨a, C, _, rfl, (by show 1 ≤ 1000; decide), T, ha, ?_⟩
    refine ⟨_, rfl, _, rfl, a, C, rfl, T, h_name, .inl ⟨ha, fun dx n1 n2 => ?_⟩⟩
    exact k dx _ n1 (fun b o nb e => by rw [upd_ne nb, upd_ne (ne_of_none e n1)]; exact e) upd_same (by rw [upd_ne n2]; exact upd_same)
end
def ok_InUse : List V → Prop := fun ys => ∃ (s_name : Str) (v_users : V), ys = [.str s_name, v_users] ∧ s_name.length ≤ 1000
section
variable {P : Program} {w : World} {K : PySem.W.Frag} {mg : Str → Option Value} {base : Heap} {C : Addr}
theorem sc_InUse___init__ : FnScope ["self", "name", "users"] ["self", "name", "users"] (defScope (inClass (top 26) 0)) := ⟨rfl, rfl, rfl, by decide +kernel, rfl, by decide +kernel, by decide +kernel⟩
theorem in_InUse {f : Addr} {fd : FuncData} {B newId initId : String} {bt : List Value} (F : Fun K "__init__" "InUse.__init__" (inClass (top 26) 0) f fd) (T : OexB K C B newId initId bt) (TL : TxL K mg) (h_name : NoAttr K C "name") (h_users : NoAttr K C "users") (b : BInit K mg "BookError" initId) : FnOk P w K mg base CX0 1 f fd ["self", "name", "users"] (spInUse C) := by
  refine F.ok sc_InUse___init__ (fun vs H Q E h => ?_) (fun cdv A outer s H vs Q E hr h => ?_)
  · obtain ⟨a, s_name, l, us, rfl, _⟩ := h
    rfl
  · obtain ⟨a, s_name, l, us, rfl, l_name, ha, hl, k⟩ := h
    have hu := hu_of hr
    have T0 := T
    have T := TL
    refine ⟨_, (pss_cons (ps_expr (pe_binit (B := B) (newId := newId) (bt := bt) b (by rfl) (pa_cons (pv 0) (pa_cons (pe_joined (PJ.cons (pe_fmt (pv 1)) (PJ.cons pe_str PJ.nil))) pa_nil))))
      (pss_cons (ps_ostB (B := B) (newId := newId) (initId := initId) (bt := bt) (pv 0) (pv 1))
      (pss_one (ps_ostB (B := B) (newId := newId) (initId := initId) (bt := bt) (pv 0) (pe_callTy call_list_of (by rfl) T.list (by decide +kernel) (pa_cons (pv 2) pa_nil)))))), ?_⟩
    have T := T0
    refine ⟨_, rfl, ?_⟩
    have z0 : (Str.empty : Str).length ≤ 0 := by decide +kernel
    have z1 := app_le z0 l_name
    refine ⟨_, rfl, .inl ⟨_, rfl, Nat.le_trans l_name (by decide), _, rfl, Nat.le_trans z1 (show 0 + 1000 ≤ sizeLine by decide), ?_⟩⟩
    have z2 := app_le z1 (show (" is mentioned by other definitions" : Str).length ≤ 34 by decide +kernel)
    refine ⟨_, rfl, Nat.le_trans z2 (show 0 + 1000 + 34 ≤ sizeLine by decide), ?_⟩
    refine ⟨a, C, _, rfl, (by show 1 ≤ 1000; decide), T, ha, ?_⟩
    refine ⟨_, rfl, _, rfl, a, C, rfl, T, h_name, .inl ⟨ha, fun dx n1 n2 => ?_⟩⟩
    refine ⟨_, rfl, ?_⟩
    refine ⟨l, us, rfl, .inl (SqL.of (by rw [upd_ne (fun e => by subst e; rw [ha] at hl; cases hl), upd_ne (fun e => by subst e; rw [hl] at n1; cases n1)]; exact hl)), fun q nq => ?_⟩
    have nqa : q ≠ a := fun e => by subst e; rw [upd_same] at nq; cases nq
    have nqd : q ≠ dx := fun e => by subst e; rw [upd_ne n2, upd_same] at nq; cases nq
    refine ⟨_, rfl, a, C, rfl, T, h_users, .inr ⟨dx, _, by rw [upd_ne nqa.symm]; exact upd_same, by rw [upd_ne nqd.symm, upd_ne n2]; exact upd_same, by show 1 ≤ 900; decide, ?_⟩⟩
    have nq0 : H q = none := by have z := nq; rw [upd_ne nqa, upd_ne nqd] at z; exact z
    exact k q dx _ nq0 n1 nqa nqd (fun b o nb e => by rw [upd_ne (ne_of_none e n1), upd_ne (ne_of_none e nq0), upd_ne nb, upd_ne (ne_of_none e n1)]; exact e) (by rw [upd_ne n2.symm, upd_ne nqa.symm]; exact upd_same) upd_same (by rw [upd_ne nqd]; exact upd_same)
end
def ok_BadName : List V → Prop := fun ys => ∃ (s_name : Str), ys = [.str s_name] ∧ s_name.length ≤ 1000
section
variable {P : Program} {w : World} {K : PySem.W.Frag} {mg : Str → Option Value} {base : Heap} {C : Addr}
theorem sc_BadName___init__ : FnScope ["self", "name"] ["self", "name"] (defScope (inClass (top 27) 0)) := ⟨rfl, rfl, rfl, by decide +kernel, rfl, by decide +kernel, by decide +kernel⟩
theorem in_BadName {f : Addr} {fd : FuncData} {B newId initId : String} {bt : List Value} (F : Fun K "__init__" "BadName.__init__" (inClass (top 27) 0) f fd) (T : OexB K C B newId initId bt) (h_name : NoAttr K C "name") (b : BInit K mg "BookError" initId) : FnOk P w K mg base CX0 1 f fd ["self", "name"] (spEr C ["name"] ok_BadName) := by
  refine F.ok sc_BadName___init__ (fun vs H Q E h => ?_) (fun cdv A outer s H vs Q E hr h => ?_)
  · obtain ⟨a, ys, rfl, ⟨s_name, rfl, l_name⟩, _⟩ := h
    rfl
  · obtain ⟨a, ys, rfl, ⟨s_name, rfl, l_name⟩, ha, k⟩ := h
    have hu := hu_of hr
    refine ⟨_, (pss_cons (ps_expr (pe_binit (B := B) (newId := newId) (bt := bt) b (by rfl) (pa_cons (pv 0) (pa_cons (pe_joined (PJ.cons (pe_fmt (pv 1)) (PJ.cons pe_str PJ.nil))) pa_nil))))
      (pss_one (ps_ostB (B := B) (newId := newId) (initId := initId) (bt := bt) (pv 0) (pv 1)))), ?_⟩
    refine ⟨_, rfl, ?_⟩
    have z0 : (Str.empty : Str).length ≤ 0 := by decide +kernel
    have z1 := app_le z0 l_name
    refine ⟨_, rfl, .inl ⟨_, rfl, Nat.le_trans l_name (by decide), _, rfl, Nat.le_trans z1 (show 0 + 1000 ≤ sizeLine by decide), ?_⟩⟩
    have z2 := app_le z1 (show (" is no name" : Str).length ≤ 11 by decide +kernel)
    refine ⟨_, rfl, Nat.le_trans z2 (show 0 + 1000 + 11 ≤ sizeLine by decide), ?_⟩
    refine ⟨a, C, _, rfl, (by show 1 ≤ 1000; decide), T, ha, ?_⟩
    refine ⟨_, rfl, _, rfl, a, C, rfl, T, h_name, .inl ⟨ha, fun dx n1 n2 => ?_⟩⟩
    exact k dx _ n1 (fun b o nb e => by rw [upd_ne nb, upd_ne (ne_of_none e n1)]; exact e) upd_same (by rw [upd_ne n2]; exact upd_same)
end
def ok_BadLimit : List V → Prop := fun ys => ∃ (v_bound : V), ys = [v_bound]
section
variable {P : Program} {w : World} {K : PySem.W.Frag} {mg : Str → Option Value} {base : Heap} {C : Addr}
theorem sc_BadLimit___init__ : FnScope ["self", "bound"] ["self", "bound"] (defScope (inClass (top 28) 0)) := ⟨rfl, rfl, rfl, by decide +kernel, rfl, by decide +kernel, by decide +kernel⟩
theorem in_BadLimit {f : Addr} {fd : FuncData} {B newId initId : String} {bt : List Value} (F : Fun K "__init__" "BadLimit.__init__" (inClass (top 28) 0) f fd) (T : OexB K C B newId initId bt) (h_bound : NoAttr K C "bound") (b : BInit K mg "BookError" initId) : FnOk P w K mg base CX0 1 f fd ["self", "bound"] (spEr C ["bound"] ok_BadLimit) := by
  refine F.ok sc_BadLimit___init__ (fun vs H Q E h => ?_) (fun cdv A outer s H vs Q E hr h => ?_)
  · obtain ⟨a, ys, rfl, ⟨v_bound, rfl⟩, _⟩ := h
    rfl
  · obtain ⟨a, ys, rfl, ⟨v_bound, rfl⟩, ha, k⟩ := h
    have hu := hu_of hr
    refine ⟨_, (pss_cons (ps_expr (pe_binit (B := B) (newId := newId) (bt := bt) b (by rfl) (pa_cons (pv 0) (pa_cons pe_str pa_nil))))
      (pss_one (ps_ostB (B := B) (newId := newId) (initId := initId) (bt := bt) (pv 0) (pv 1)))), ?_⟩
    refine ⟨_, rfl, ?_⟩
    refine ⟨a, C, _, rfl, (by show 1 ≤ 1000; decide), T, ha, ?_⟩
    refine ⟨_, rfl, _, rfl, a, C, rfl, T, h_bound, .inl ⟨ha, fun dx n1 n2 => ?_⟩⟩
    exact k dx _ n1 (fun b o nb e => by rw [upd_ne nb, upd_ne (ne_of_none e n1)]; exact e) upd_same (by rw [upd_ne n2]; exact upd_same)
end
def ok_WrongCount : List V → Prop := fun ys => ∃ (v_wanted v_found : V), ys = [v_wanted, v_found]
section
variable {P : Program} {w : World} {K : PySem.W.Frag} {mg : Str → Option Value} {base : Heap} {C : Addr}
theorem sc_WrongCount___init__ : FnScope ["self", "wanted", "found"] ["self", "wanted", "found"] (defScope (inClass (top 29) 0)) := ⟨rfl, rfl, rfl, by decide +kernel, rfl, by decide +kernel, by decide +kernel⟩
theorem in_WrongCount {f : Addr} {fd : FuncData} {B newId initId : String} {bt : List Value} (F : Fun K "__init__" "WrongCount.__init__" (inClass (top 29) 0) f fd) (T : OexB K C B newId initId bt) (h_wanted : NoAttr K C "wanted") (h_found : NoAttr K C "found") (b : BInit K mg "BookError" initId) : FnOk P w K mg base CX0 1 f fd ["self", "wanted", "found"] (spEr C ["wanted", "found"] ok_WrongCount) := by
  refine F.ok sc_WrongCount___init__ (fun vs H Q E h => ?_) (fun cdv A outer s H vs Q E hr h => ?_)
  · obtain ⟨a, ys, rfl, ⟨v_wanted, v_found, rfl⟩, _⟩ := h
    rfl
  · obtain ⟨a, ys, rfl, ⟨v_wanted, v_found, rfl⟩, ha, k⟩ := h
    have hu := hu_of hr
    refine ⟨_, (pss_cons (ps_expr (pe_binit (B := B) (newId := newId) (bt := bt) b (by rfl) (pa_cons (pv 0) (pa_cons pe_str pa_nil))))
      (pss_cons (ps_ostB (B := B) (newId := newId) (initId := initId) (bt := bt) (pv 0) (pv 1))
      (pss_one (ps_ostB (B := B) (newId := newId) (initId := initId) (bt := bt) (pv 0) (pv 2))))), ?_⟩
    refine ⟨_, rfl, ?_⟩
    refine ⟨a, C, _, rfl, (by show 1 ≤ 1000; decide), T, ha, ?_⟩
    refine ⟨_, rfl, _, rfl, a, C, rfl, T, h_wanted, .inl ⟨ha, fun dx n1 n2 => ?_⟩⟩
    refine ⟨_, rfl, _, rfl, a, C, rfl, T, h_found, .inr ⟨dx, _, upd_same, by rw [upd_ne n2]; exact upd_same, by show 1 ≤ 900; decide, ?_⟩⟩
    exact k dx _ n1 (fun b o nb e => by rw [upd_ne (ne_of_none e n1), upd_ne nb, upd_ne (ne_of_none e n1)]; exact e) (by rw [upd_ne n2.symm]; exact upd_same) upd_same
end
def ok_TooLarge : List V → Prop := fun ys => ∃ (v_size : V), ys = [v_size]
section
variable {P : Program} {w : World} {K : PySem.W.Frag} {mg : Str → Option Value} {base : Heap} {C : Addr}
theorem sc_TooLarge___init__ : FnScope ["self", "size"] ["self", "size"] (defScope (inClass (top 30) 0)) := ⟨rfl, rfl, rfl, by decide +kernel, rfl, by decide +kernel, by decide +kernel⟩
theorem in_TooLarge {f : Addr} {fd : FuncData} {B newId initId : String} {bt : List Value} (F : Fun K "__init__" "TooLarge.__init__" (inClass (top 30) 0) f fd) (T : OexB K C B newId initId bt) (h_size : NoAttr K C "size") (b : BInit K mg "BookError" initId) : FnOk P w K mg base CX0 1 f fd ["self", "size"] (spEr C ["size"] ok_TooLarge) := by
  refine F.ok sc_TooLarge___init__ (fun vs H Q E h => ?_) (fun cdv A outer s H vs Q E hr h => ?_)
  · obtain ⟨a, ys, rfl, ⟨v_size, rfl⟩, _⟩ := h
    rfl
  · obtain ⟨a, ys, rfl, ⟨v_size, rfl⟩, ha, k⟩ := h
    have hu := hu_of hr
    refine ⟨_, (pss_cons (ps_expr (pe_binit (B := B) (newId := newId) (bt := bt) b (by rfl) (pa_cons (pv 0) (pa_cons pe_str pa_nil))))
      (pss_one (ps_ostB (B := B) (newId := newId) (initId := initId) (bt := bt) (pv 0) (pv 1)))), ?_⟩
    refine ⟨_, rfl, ?_⟩
    refine ⟨a, C, _, rfl, (by show 1 ≤ 1000; decide), T, ha, ?_⟩
    refine ⟨_, rfl, _, rfl, a, C, rfl, T, h_size, .inl ⟨ha, fun dx n1 n2 => ?_⟩⟩
    exact k dx _ n1 (fun b o nb e => by rw [upd_ne nb, upd_ne (ne_of_none e n1)]; exact e) upd_same (by rw [upd_ne n2]; exact upd_same)
end
def ok_UnknownGrade : List V → Prop := fun ys => ∃ (s_name : Str), ys = [.str s_name] ∧ s_name.length ≤ 1000
section
variable {P : Program} {w : World} {K : PySem.W.Frag} {mg : Str → Option Value} {base : Heap} {C : Addr}
theorem sc_UnknownGrade___init__ : FnScope ["self", "name"] ["self", "name"] (defScope (inClass (top 32) 0)) := ⟨rfl, rfl, rfl, by decide +kernel, rfl, by decide +kernel, by decide +kernel⟩
theorem in_UnknownGrade {f : Addr} {fd : FuncData} {B newId initId : String} {bt : List Value} (F : Fun K "__init__" "UnknownGrade.__init__" (inClass (top 32) 0) f fd) (T : OexB K C B newId initId bt) (h_name : NoAttr K C "name") (b : BInit K mg "NameMissing" initId) : FnOk P w K mg base CX0 1 f fd ["self", "name"] (spEr C ["name"] ok_UnknownGrade) := by
  refine F.ok sc_UnknownGrade___init__ (fun vs H Q E h => ?_) (fun cdv A outer s H vs Q E hr h => ?_)
  · obtain ⟨a, ys, rfl, ⟨s_name, rfl, l_name⟩, _⟩ := h
    rfl
  · obtain ⟨a, ys, rfl, ⟨s_name, rfl, l_name⟩, ha, k⟩ := h
    have hu := hu_of hr
    refine ⟨_, (pss_cons (ps_expr (pe_binit (B := B) (newId := newId) (bt := bt) b (by rfl) (pa_cons (pv 0) (pa_cons (pe_joined (PJ.cons pe_str (PJ.cons (pe_fmt (pv 1)) PJ.nil))) pa_nil))))
      (pss_one (ps_ostB (B := B) (newId := newId) (initId := initId) (bt := bt) (pv 0) (pv 1)))), ?_⟩
    refine ⟨_, rfl, ?_⟩
    have z0 : (Str.empty : Str).length ≤ 0 := by decide +kernel
    have z1 := app_le z0 (show ("no grade is called " : Str).length ≤ 19 by decide +kernel)
    refine ⟨_, rfl, Nat.le_trans z1 (show 0 + 19 ≤ sizeLine by decide), ?_⟩
    have z2 := app_le z1 l_name
    refine ⟨_, rfl, .inl ⟨_, rfl, Nat.le_trans l_name (by decide), _, rfl, Nat.le_trans z2 (show 0 + 19 + 1000 ≤ sizeLine by decide), ?_⟩⟩
    refine ⟨a, C, _, rfl, (by show 1 ≤ 1000; decide), T, ha, ?_⟩
    refine ⟨_, rfl, _, rfl, a, C, rfl, T, h_name, .inl ⟨ha, fun dx n1 n2 => ?_⟩⟩
    exact k dx _ n1 (fun b o nb e => by rw [upd_ne nb, upd_ne (ne_of_none e n1)]; exact e) upd_same (by rw [upd_ne n2]; exact upd_same)
end
def ok_UnboundName : List V → Prop := fun ys => ∃ (s_name : Str), ys = [.str s_name] ∧ s_name.length ≤ 1000
section
variable {P : Program} {w : World} {K : PySem.W.Frag} {mg : Str → Option Value} {base : Heap} {C : Addr}
theorem sc_UnboundName___init__ : FnScope ["self", "name"] ["self", "name"] (defScope (inClass (top 33) 0)) := ⟨rfl, rfl, rfl, by decide +kernel, rfl, by decide +kernel, by decide +kernel⟩
theorem in_UnboundName {f : Addr} {fd : FuncData} {B newId initId : String} {bt : List Value} (F : Fun K "__init__" "UnboundName.__init__" (inClass (top 33) 0) f fd) (T : OexB K C B newId initId bt) (h_name : NoAttr K C "name") (b : BInit K mg "NameMissing" initId) : FnOk P w K mg base CX0 1 f fd ["self", "name"] (spEr C ["name"] ok_UnboundName) := by
  refine F.ok sc_UnboundName___init__ (fun vs H Q E h => ?_) (fun cdv A outer s H vs Q E hr h => ?_)
  · obtain ⟨a, ys, rfl, ⟨s_name, rfl, l_name⟩, _⟩ := h
    rfl
  · obtain ⟨a, ys, rfl, ⟨s_name, rfl, l_name⟩, ha, k⟩ := h
    have hu := hu_of hr
    refine ⟨_, (pss_cons (ps_expr (pe_binit (B := B) (newId := newId) (bt := bt) b (by rfl) (pa_cons (pv 0) (pa_cons (pe_joined (PJ.cons pe_str (PJ.cons (pe_fmt (pv 1)) PJ.nil))) pa_nil))))
      (pss_one (ps_ostB (B := B) (newId := newId) (initId := initId) (bt := bt) (pv 0) (pv 1)))), ?_⟩
    refine ⟨_, rfl, ?_⟩
    have z0 : (Str.empty : Str).length ≤ 0 := by decide +kernel
    have z1 := app_le z0 (show ("nothing is bound to " : Str).length ≤ 20 by decide +kernel)
    refine ⟨_, rfl, Nat.le_trans z1 (show 0 + 20 ≤ sizeLine by decide), ?_⟩
    have z2 := app_le z1 l_name
    refine ⟨_, rfl, .inl ⟨_, rfl, Nat.le_trans l_name (by decide), _, rfl, Nat.le_trans z2 (show 0 + 20 + 1000 ≤ sizeLine by decide), ?_⟩⟩
    refine ⟨a, C, _, rfl, (by show 1 ≤ 1000; decide), T, ha, ?_⟩
    refine ⟨_, rfl, _, rfl, a, C, rfl, T, h_name, .inl ⟨ha, fun dx n1 n2 => ?_⟩⟩
    exact k dx _ n1 (fun b o nb e => by rw [upd_ne nb, upd_ne (ne_of_none e n1)]; exact e) upd_same (by rw [upd_ne n2]; exact upd_same)
end
def ok_Undefined : List V → Prop := fun ys => ∃ (s_name : Str), ys = [.str s_name] ∧ s_name.length ≤ 1000
section
variable {P : Program} {w : World} {K : PySem.W.Frag} {mg : Str → Option Value} {base : Heap} {C : Addr}
theorem sc_Undefined___init__ : FnScope ["self", "name"] ["self", "name"] (defScope (inClass (top 34) 0)) := ⟨rfl, rfl, rfl, by decide +kernel, rfl, by decide +kernel, by decide +kernel⟩
theorem in_Undefined {f : Addr} {fd : FuncData} {B newId initId : String} {bt : List Value} (F : Fun K "__init__" "Undefined.__init__" (inClass (top 34) 0) f fd) (T : OexB K C B newId initId bt) (h_name : NoAttr K C "name") (b : BInit K mg "NameMissing" initId) : FnOk P w K mg base CX0 1 f fd ["self", "name"] (spEr C ["name"] ok_Undefined) := by
  refine F.ok sc_Undefined___init__ (fun vs H Q E h => ?_) (fun cdv A outer s H vs Q E hr h => ?_)
  · obtain ⟨a, ys, rfl, ⟨s_name, rfl, l_name⟩, _⟩ := h
    rfl
  · obtain ⟨a, ys, rfl, ⟨s_name, rfl, l_name⟩, ha, k⟩ := h
    have hu := hu_of hr
    refine ⟨_, (pss_cons (ps_expr (pe_binit (B := B) (newId := newId) (bt := bt) b (by rfl) (pa_cons (pv 0) (pa_cons (pe_joined (PJ.cons (pe_fmt (pv 1)) (PJ.cons pe_str PJ.nil))) pa_nil))))
      (pss_one (ps_ostB (B := B) (newId := newId) (initId := initId) (bt := bt) (pv 0) (pv 1)))), ?_⟩
    refine ⟨_, rfl, ?_⟩
    have z0 : (Str.empty : Str).length ≤ 0 := by decide +kernel
    have z1 := app_le z0 l_name
    refine ⟨_, rfl, .inl ⟨_, rfl, Nat.le_trans l_name (by decide), _, rfl, Nat.le_trans z1 (show 0 + 1000 ≤ sizeLine by decide), ?_⟩⟩
    have z2 := app_le z1 (show (" is not defined" : Str).length ≤ 15 by decide +kernel)
    refine ⟨_, rfl, Nat.le_trans z2 (show 0 + 1000 + 15 ≤ sizeLine by decide), ?_⟩
    refine ⟨a, C, _, rfl, (by show 1 ≤ 1000; decide), T, ha, ?_⟩
    refine ⟨_, rfl, _, rfl, a, C, rfl, T, h_name, .inl ⟨ha, fun dx n1 n2 => ?_⟩⟩
    exact k dx _ n1 (fun b o nb e => by rw [upd_ne nb, upd_ne (ne_of_none e n1)]; exact e) upd_same (by rw [upd_ne n2]; exact upd_same)
end
open UE
/-! ### k50: what the top says of the errors -/
def isT (i j : Nat) : Bool := if j < 29 then decide ((j : Int) = (i : Int)) else if j = 29 then decide (i < 26) else if j = 30 then decide (10 ≤ i) && decide (i < 17) else if j = 31 then decide (17 ≤ i) && decide (i < 20) else if j = 32 then decide (20 ≤ i) && decide (i < 26) else decide (25 < i)
def btV : List Value := [.type "ValueError", .type "Exception", .type "BaseException", .type "object"]
def btL : List Value := [.type "LookupError", .type "Exception", .type "BaseException", .type "object"]
structure TxE (K : PySem.W.Frag) (mg : Str → Option Value) (C : Nat → Addr) : Prop extends TxL K mg where
  g_BadScale : ∃ u, mg "BadScale" = some u ∧ RelV (.ref (C 0)) u
  g_EndlessScale : ∃ u, mg "EndlessScale" = some u ∧ RelV (.ref (C 1)) u
  g_MixedScales : ∃ u, mg "MixedScales" = some u ∧ RelV (.ref (C 2)) u
  g_NegativeCount : ∃ u, mg "NegativeCount" = some u ∧ RelV (.ref (C 3)) u
  g_NoBound : ∃ u, mg "NoBound" = some u ∧ RelV (.ref (C 4)) u
  g_BadText : ∃ u, mg "BadText" = some u ∧ RelV (.ref (C 5)) u
  g_NoRedex : ∃ u, mg "NoRedex" = some u ∧ RelV (.ref (C 6)) u
  g_BadMap : ∃ u, mg "BadMap" = some u ∧ RelV (.ref (C 7)) u
  g_TooMany : ∃ u, mg "TooMany" = some u ∧ RelV (.ref (C 8)) u
  g_BadCode : ∃ u, mg "BadCode" = some u ∧ RelV (.ref (C 9)) u
  g_KindClash : ∃ u, mg "KindClash" = some u ∧ RelV (.ref (C 10)) u
  g_WrongForm : ∃ u, mg "WrongForm" = some u ∧ RelV (.ref (C 11)) u
  g_Overuse : ∃ u, mg "Overuse" = some u ∧ RelV (.ref (C 12)) u
  g_NoTurns : ∃ u, mg "NoTurns" = some u ∧ RelV (.ref (C 13)) u
  g_TwiceBound : ∃ u, mg "TwiceBound" = some u ∧ RelV (.ref (C 14)) u
  g_LooseGap : ∃ u, mg "LooseGap" = some u ∧ RelV (.ref (C 15)) u
  g_GoneTerm : ∃ u, mg "GoneTerm" = some u ∧ RelV (.ref (C 16)) u
  g_OutOfMoves : ∃ u, mg "OutOfMoves" = some u ∧ RelV (.ref (C 17)) u
  g_GoneReached : ∃ u, mg "GoneReached" = some u ∧ RelV (.ref (C 18)) u
  g_NotDone : ∃ u, mg "NotDone" = some u ∧ RelV (.ref (C 19)) u
  g_Refused : ∃ u, mg "Refused" = some u ∧ RelV (.ref (C 20)) u
  g_InUse : ∃ u, mg "InUse" = some u ∧ RelV (.ref (C 21)) u
  g_BadName : ∃ u, mg "BadName" = some u ∧ RelV (.ref (C 22)) u
  g_BadLimit : ∃ u, mg "BadLimit" = some u ∧ RelV (.ref (C 23)) u
  g_WrongCount : ∃ u, mg "WrongCount" = some u ∧ RelV (.ref (C 24)) u
  g_TooLarge : ∃ u, mg "TooLarge" = some u ∧ RelV (.ref (C 25)) u
  g_UnknownGrade : ∃ u, mg "UnknownGrade" = some u ∧ RelV (.ref (C 26)) u
  g_UnboundName : ∃ u, mg "UnboundName" = some u ∧ RelV (.ref (C 27)) u
  g_Undefined : ∃ u, mg "Undefined" = some u ∧ RelV (.ref (C 28)) u
  g_UsescaleError : ∃ u, mg "UsescaleError" = some u ∧ RelV (.ref (C 29)) u
  g_CheckError : ∃ u, mg "CheckError" = some u ∧ RelV (.ref (C 30)) u
  g_RunError : ∃ u, mg "RunError" = some u ∧ RelV (.ref (C 31)) u
  g_BookError : ∃ u, mg "BookError" = some u ∧ RelV (.ref (C 32)) u
  g_NameMissing : ∃ u, mg "NameMissing" = some u ∧ RelV (.ref (C 33)) u
  ValueError : mg "ValueError" = none
  LookupError : mg "LookupError" = none
  ei : ∀ i < 29, ExcI K (C i)
  xf : ∀ i < 29, XfC K (C i)
  kit : ∀ i < 29, ∀ j < 34, PySem.W.kitOne K (.ref (C i)) (.ref (C j)) = some (isT i j)
  kitV : ∀ i < 29, PySem.W.kitOne K (.ref (C i)) (.type "ValueError") = some (isT i 29)
  kitL : ∀ i < 29, PySem.W.kitOne K (.ref (C i)) (.type "LookupError") = some (isT i 33)
  x0_BadScale : PySem.W.excIn K (C 0) btV "ValueError.__new__" = true ∧ PySem.W.keepIn K (.ref (C 0)) = true
  x0_EndlessScale : PySem.W.excIn K (C 1) btV "ValueError.__new__" = true ∧ PySem.W.keepIn K (.ref (C 1)) = true
  x0_MixedScales : PySem.W.excIn K (C 2) btV "ValueError.__new__" = true ∧ PySem.W.keepIn K (.ref (C 2)) = true
  no_NegativeCount_count : PySem.W.findIn K (.ref (C 3)) "count" = some none
  no_NoBound_name : PySem.W.findIn K (.ref (C 4)) "name" = some none
  no_NoBound_first : PySem.W.findIn K (.ref (C 4)) "first" = some none
  no_NoBound_second : PySem.W.findIn K (.ref (C 4)) "second" = some none
  no_BadText_at : PySem.W.findIn K (.ref (C 5)) "at" = some none
  no_NoRedex_place : PySem.W.findIn K (.ref (C 6)) "place" = some none
  x0_BadMap : PySem.W.excIn K (C 7) btV "ValueError.__new__" = true ∧ PySem.W.keepIn K (.ref (C 7)) = true
  no_TooMany_size : PySem.W.findIn K (.ref (C 8)) "size" = some none
  no_BadCode_block : PySem.W.findIn K (.ref (C 9)) "block" = some none
  no_BadCode_row : PySem.W.findIn K (.ref (C 9)) "row" = some none
  no_KindClash_wanted : PySem.W.findIn K (.ref (C 10)) "wanted" = some none
  no_KindClash_found : PySem.W.findIn K (.ref (C 10)) "found" = some none
  no_WrongForm_word : PySem.W.findIn K (.ref (C 11)) "word" = some none
  no_WrongForm_found : PySem.W.findIn K (.ref (C 11)) "found" = some none
  no_Overuse_name : PySem.W.findIn K (.ref (C 12)) "name" = some none
  no_Overuse_used : PySem.W.findIn K (.ref (C 12)) "used" = some none
  no_Overuse_allowed : PySem.W.findIn K (.ref (C 12)) "allowed" = some none
  no_NoTurns_name : PySem.W.findIn K (.ref (C 13)) "name" = some none
  no_TwiceBound_name : PySem.W.findIn K (.ref (C 14)) "name" = some none
  no_LooseGap_name : PySem.W.findIn K (.ref (C 15)) "name" = some none
  x0_GoneTerm : PySem.W.excIn K (C 16) btV "ValueError.__new__" = true ∧ PySem.W.keepIn K (.ref (C 16)) = true
  no_OutOfMoves_bound : PySem.W.findIn K (.ref (C 17)) "bound" = some none
  x0_GoneReached : PySem.W.excIn K (C 18) btV "ValueError.__new__" = true ∧ PySem.W.keepIn K (.ref (C 18)) = true
  x0_NotDone : PySem.W.excIn K (C 19) btV "ValueError.__new__" = true ∧ PySem.W.keepIn K (.ref (C 19)) = true
  no_Refused_name : PySem.W.findIn K (.ref (C 20)) "name" = some none
  no_InUse_name : PySem.W.findIn K (.ref (C 21)) "name" = some none
  no_InUse_users : PySem.W.findIn K (.ref (C 21)) "users" = some none
  no_BadName_name : PySem.W.findIn K (.ref (C 22)) "name" = some none
  no_BadLimit_bound : PySem.W.findIn K (.ref (C 23)) "bound" = some none
  no_WrongCount_wanted : PySem.W.findIn K (.ref (C 24)) "wanted" = some none
  no_WrongCount_found : PySem.W.findIn K (.ref (C 24)) "found" = some none
  no_TooLarge_size : PySem.W.findIn K (.ref (C 25)) "size" = some none
  no_UnknownGrade_name : PySem.W.findIn K (.ref (C 26)) "name" = some none
  no_UnboundName_name : PySem.W.findIn K (.ref (C 27)) "name" = some none
  no_Undefined_name : PySem.W.findIn K (.ref (C 28)) "name" = some none
def spLCls (C : Nat → Addr) : Sp := fun vs H Q _ => ∃ (a : Addr) (k : Nat), vs = [.ref a] ∧ k < 29 ∧ ErAt H a (C k) ∧ ∀ l H', H l = none → Same H H' → H' l = some (.lst (((List.range 29).map fun (j : Nat) => decide ((j : Int) = (k : Int))).map V.bl)) → Q (.ref l) H'
def spLBas (C : Nat → Addr) : Sp := fun vs H Q _ => ∃ (a : Addr) (k : Nat), vs = [.ref a] ∧ k < 29 ∧ ErAt H a (C k) ∧ ∀ l H', H l = none → Same H H' → H' l = some (.lst ([isT k 29, isT k 29, isT k 30, isT k 31, isT k 32, isT k 33, isT k 33].map V.bl)) → Q (.ref l) H'
local macro_rules | `(tactic| walk_at "w") => `(tactic| first
  | with_reducible refine' w_xf ?_
  | with_reducible refine' w_mkV ?_)
section
variable {P : Program} {w : World} {K : PySem.W.Frag} {mg : Str → Option Value} {base : Heap} {C : Nat → Addr}
theorem sc__law_classes : FnScope ["_law_e", "_law_found"] ["_law_e"] (defScope (top 38)) := ⟨rfl, rfl, rfl, by decide +kernel, rfl, by decide +kernel, by decide +kernel⟩
theorem st__law_classes (v0 : V) : L2.start ["_law_e", "_law_found"] [v0] = [some v0, none] := rfl
theorem ok_lclasses {f : Addr} {fd : FuncData} (F : Fun K "_law_classes" "_law_classes" (top 38) f fd) (T : TxE K mg C) : FnOk P w K mg base CX0 1 f fd ["_law_e"] (spLCls C) := by
  refine F.ok sc__law_classes (fun vs H Q E h => ?_) (fun cdv A outer s H vs Q E hr h => ?_)
  · obtain ⟨a, k, rfl, _⟩ := h
    rfl
  · obtain ⟨a, k, rfl, hk, er, kk⟩ := h
    refine ⟨_, (pss_cons (ps_set (i := 1) sc__law_classes.nd rfl (Or.inl rfl) (pe_lst (pa_cons (pe_callB (UE.call_isH K rfl) (by rfl) T.isinstance (by decide +kernel) (pa_cons (pv 0) (pa_cons (pe_gx (by rfl) T.g_BadScale) pa_nil))) (pa_cons (pe_callB (UE.call_isH K rfl) (by rfl) T.isinstance (by decide +kernel) (pa_cons (pv 0) (pa_cons (pe_gx (by rfl) T.g_EndlessScale) pa_nil))) (pa_cons (pe_callB (UE.call_isH K rfl) (by rfl) T.isinstance (by decide +kernel) (pa_cons (pv 0) (pa_cons (pe_gx (by rfl) T.g_MixedScales) pa_nil))) pa_nil)))))
      (pss_cons (ps_set (i := 1) sc__law_classes.nd rfl (Or.inl rfl) (pe_op op_cat (pv 1) (pe_lst (pa_cons (pe_callB (UE.call_isH K rfl) (by rfl) T.isinstance (by decide +kernel) (pa_cons (pv 0) (pa_cons (pe_gx (by rfl) T.g_NegativeCount) pa_nil))) (pa_cons (pe_callB (UE.call_isH K rfl) (by rfl) T.isinstance (by decide +kernel) (pa_cons (pv 0) (pa_cons (pe_gx (by rfl) T.g_NoBound) pa_nil))) (pa_cons (pe_callB (UE.call_isH K rfl) (by rfl) T.isinstance (by decide +kernel) (pa_cons (pv 0) (pa_cons (pe_gx (by rfl) T.g_BadText) pa_nil))) pa_nil))))))
      (pss_cons (ps_set (i := 1) sc__law_classes.nd rfl (Or.inl rfl) (pe_op op_cat (pv 1) (pe_lst (pa_cons (pe_callB (UE.call_isH K rfl) (by rfl) T.isinstance (by decide +kernel) (pa_cons (pv 0) (pa_cons (pe_gx (by rfl) T.g_NoRedex) pa_nil))) (pa_cons (pe_callB (UE.call_isH K rfl) (by rfl) T.isinstance (by decide +kernel) (pa_cons (pv 0) (pa_cons (pe_gx (by rfl) T.g_BadMap) pa_nil))) (pa_cons (pe_callB (UE.call_isH K rfl) (by rfl) T.isinstance (by decide +kernel) (pa_cons (pv 0) (pa_cons (pe_gx (by rfl) T.g_TooMany) pa_nil))) (pa_cons (pe_callB (UE.call_isH K rfl) (by rfl) T.isinstance (by decide +kernel) (pa_cons (pv 0) (pa_cons (pe_gx (by rfl) T.g_BadCode) pa_nil))) pa_nil)))))))
      (pss_cons (ps_set (i := 1) sc__law_classes.nd rfl (Or.inl rfl) (pe_op op_cat (pv 1) (pe_lst (pa_cons (pe_callB (UE.call_isH K rfl) (by rfl) T.isinstance (by decide +kernel) (pa_cons (pv 0) (pa_cons (pe_gx (by rfl) T.g_KindClash) pa_nil))) (pa_cons (pe_callB (UE.call_isH K rfl) (by rfl) T.isinstance (by decide +kernel) (pa_cons (pv 0) (pa_cons (pe_gx (by rfl) T.g_WrongForm) pa_nil))) (pa_cons (pe_callB (UE.call_isH K rfl) (by rfl) T.isinstance (by decide +kernel) (pa_cons (pv 0) (pa_cons (pe_gx (by rfl) T.g_Overuse) pa_nil))) pa_nil))))))
      (pss_cons (ps_set (i := 1) sc__law_classes.nd rfl (Or.inl rfl) (pe_op op_cat (pv 1) (pe_lst (pa_cons (pe_callB (UE.call_isH K rfl) (by rfl) T.isinstance (by decide +kernel) (pa_cons (pv 0) (pa_cons (pe_gx (by rfl) T.g_NoTurns) pa_nil))) (pa_cons (pe_callB (UE.call_isH K rfl) (by rfl) T.isinstance (by decide +kernel) (pa_cons (pv 0) (pa_cons (pe_gx (by rfl) T.g_TwiceBound) pa_nil))) (pa_cons (pe_callB (UE.call_isH K rfl) (by rfl) T.isinstance (by decide +kernel) (pa_cons (pv 0) (pa_cons (pe_gx (by rfl) T.g_LooseGap) pa_nil))) pa_nil))))))
      (pss_cons (ps_set (i := 1) sc__law_classes.nd rfl (Or.inl rfl) (pe_op op_cat (pv 1) (pe_lst (pa_cons (pe_callB (UE.call_isH K rfl) (by rfl) T.isinstance (by decide +kernel) (pa_cons (pv 0) (pa_cons (pe_gx (by rfl) T.g_GoneTerm) pa_nil))) (pa_cons (pe_callB (UE.call_isH K rfl) (by rfl) T.isinstance (by decide +kernel) (pa_cons (pv 0) (pa_cons (pe_gx (by rfl) T.g_OutOfMoves) pa_nil))) (pa_cons (pe_callB (UE.call_isH K rfl) (by rfl) T.isinstance (by decide +kernel) (pa_cons (pv 0) (pa_cons (pe_gx (by rfl) T.g_GoneReached) pa_nil))) pa_nil))))))
      (pss_cons (ps_set (i := 1) sc__law_classes.nd rfl (Or.inl rfl) (pe_op op_cat (pv 1) (pe_lst (pa_cons (pe_callB (UE.call_isH K rfl) (by rfl) T.isinstance (by decide +kernel) (pa_cons (pv 0) (pa_cons (pe_gx (by rfl) T.g_NotDone) pa_nil))) (pa_cons (pe_callB (UE.call_isH K rfl) (by rfl) T.isinstance (by decide +kernel) (pa_cons (pv 0) (pa_cons (pe_gx (by rfl) T.g_Refused) pa_nil))) (pa_cons (pe_callB (UE.call_isH K rfl) (by rfl) T.isinstance (by decide +kernel) (pa_cons (pv 0) (pa_cons (pe_gx (by rfl) T.g_InUse) pa_nil))) (pa_cons (pe_callB (UE.call_isH K rfl) (by rfl) T.isinstance (by decide +kernel) (pa_cons (pv 0) (pa_cons (pe_gx (by rfl) T.g_BadName) pa_nil))) pa_nil)))))))
      (pss_cons (ps_set (i := 1) sc__law_classes.nd rfl (Or.inl rfl) (pe_op op_cat (pv 1) (pe_lst (pa_cons (pe_callB (UE.call_isH K rfl) (by rfl) T.isinstance (by decide +kernel) (pa_cons (pv 0) (pa_cons (pe_gx (by rfl) T.g_BadLimit) pa_nil))) (pa_cons (pe_callB (UE.call_isH K rfl) (by rfl) T.isinstance (by decide +kernel) (pa_cons (pv 0) (pa_cons (pe_gx (by rfl) T.g_WrongCount) pa_nil))) (pa_cons (pe_callB (UE.call_isH K rfl) (by rfl) T.isinstance (by decide +kernel) (pa_cons (pv 0) (pa_cons (pe_gx (by rfl) T.g_TooLarge) pa_nil))) pa_nil))))))
      (pss_one (ps_ret (pe_op op_cat (pv 1) (pe_lst (pa_cons (pe_callB (UE.call_isH K rfl) (by rfl) T.isinstance (by decide +kernel) (pa_cons (pv 0) (pa_cons (pe_gx (by rfl) T.g_UnknownGrade) pa_nil))) (pa_cons (pe_callB (UE.call_isH K rfl) (by rfl) T.isinstance (by decide +kernel) (pa_cons (pv 0) (pa_cons (pe_gx (by rfl) T.g_UnboundName) pa_nil))) (pa_cons (pe_callB (UE.call_isH K rfl) (by rfl) T.isinstance (by decide +kernel) (pa_cons (pv 0) (pa_cons (pe_gx (by rfl) T.g_Undefined) pa_nil))) pa_nil))))))))))))))), ?_⟩
    rw [st__law_classes]
    have w0 := V.Hw.start (H := H)
    have c1 := T.ei k hk
    repeat walk_at "w"
    refine w_isH w0 er c1 (T.kit k hk 0 (by decide)) ?_
    repeat walk_at "w"
    refine w_isH w0 er c1 (T.kit k hk 1 (by decide)) ?_
    repeat walk_at "w"
    refine w_isH w0 er c1 (T.kit k hk 2 (by decide)) ?_
    repeat walk_at "w"
    intro p1 H1 _ w1
    repeat walk_at "w"
    repeat walk_at "w"
    refine w_isH w1 er c1 (T.kit k hk 3 (by decide)) ?_
    repeat walk_at "w"
    refine w_isH w1 er c1 (T.kit k hk 4 (by decide)) ?_
    repeat walk_at "w"
    refine w_isH w1 er c1 (T.kit k hk 5 (by decide)) ?_
    repeat walk_at "w"
    intro p2 H2 _ w2
    repeat walk_at "w"
    intro p3 H3 n3 w3
    repeat walk_at "w"
    repeat walk_at "w"
    refine w_isH w3 er c1 (T.kit k hk 6 (by decide)) ?_
    repeat walk_at "w"
    refine w_isH w3 er c1 (T.kit k hk 7 (by decide)) ?_
    repeat walk_at "w"
    refine w_isH w3 er c1 (T.kit k hk 8 (by decide)) ?_
    repeat walk_at "w"
    refine w_isH w3 er c1 (T.kit k hk 9 (by decide)) ?_
    repeat walk_at "w"
    intro p4 H4 _ w4
    repeat walk_at "w"
    intro p5 H5 n5 w5
    repeat walk_at "w"
    repeat walk_at "w"
    refine w_isH w5 er c1 (T.kit k hk 10 (by decide)) ?_
    repeat walk_at "w"
    refine w_isH w5 er c1 (T.kit k hk 11 (by decide)) ?_
    repeat walk_at "w"
    refine w_isH w5 er c1 (T.kit k hk 12 (by decide)) ?_
    repeat walk_at "w"
    intro p6 H6 _ w6
    repeat walk_at "w"
    intro p7 H7 n7 w7
    repeat walk_at "w"
    repeat walk_at "w"
    refine w_isH w7 er c1 (T.kit k hk 13 (by decide)) ?_
    repeat walk_at "w"
    refine w_isH w7 er c1 (T.kit k hk 14 (by decide)) ?_
    repeat walk_at "w"
    refine w_isH w7 er c1 (T.kit k hk 15 (by decide)) ?_
    repeat walk_at "w"
    intro p8 H8 _ w8
    repeat walk_at "w"
    intro p9 H9 n9 w9
    repeat walk_at "w"
    repeat walk_at "w"
    refine w_isH w9 er c1 (T.kit k hk 16 (by decide)) ?_
    repeat walk_at "w"
    refine w_isH w9 er c1 (T.kit k hk 17 (by decide)) ?_
    repeat walk_at "w"
    refine w_isH w9 er c1 (T.kit k hk 18 (by decide)) ?_
    repeat walk_at "w"
    intro p10 H10 _ w10
    repeat walk_at "w"
    intro p11 H11 n11 w11
    repeat walk_at "w"
    repeat walk_at "w"
    refine w_isH w11 er c1 (T.kit k hk 19 (by decide)) ?_
    repeat walk_at "w"
    refine w_isH w11 er c1 (T.kit k hk 20 (by decide)) ?_
    repeat walk_at "w"
    refine w_isH w11 er c1 (T.kit k hk 21 (by decide)) ?_
    repeat walk_at "w"
    refine w_isH w11 er c1 (T.kit k hk 22 (by decide)) ?_
    repeat walk_at "w"
    intro p12 H12 _ w12
    repeat walk_at "w"
    intro p13 H13 n13 w13
    repeat walk_at "w"
    repeat walk_at "w"
    refine w_isH w13 er c1 (T.kit k hk 23 (by decide)) ?_
    repeat walk_at "w"
    refine w_isH w13 er c1 (T.kit k hk 24 (by decide)) ?_
    repeat walk_at "w"
    refine w_isH w13 er c1 (T.kit k hk 25 (by decide)) ?_
    repeat walk_at "w"
    intro p14 H14 _ w14
    repeat walk_at "w"
    intro p15 H15 n15 w15
    repeat walk_at "w"
    repeat walk_at "w"
    refine w_isH w15 er c1 (T.kit k hk 26 (by decide)) ?_
    repeat walk_at "w"
    refine w_isH w15 er c1 (T.kit k hk 27 (by decide)) ?_
    repeat walk_at "w"
    refine w_isH w15 er c1 (T.kit k hk 28 (by decide)) ?_
    repeat walk_at "w"
    intro p16 H16 _ w16
    repeat walk_at "w"
    intro p17 H17 n17 w17
    repeat walk_at "w"
    exact kk _ _ (w16.fr.free n17) w17.fr (w17.get .here)
theorem sc__law_bases : FnScope ["_law_e", "_law_found"] ["_law_e"] (defScope (top 39)) := ⟨rfl, rfl, rfl, by decide +kernel, rfl, by decide +kernel, by decide +kernel⟩
theorem st__law_bases (v0 : V) : L2.start ["_law_e", "_law_found"] [v0] = [some v0, none] := rfl
theorem ok_lbases {f : Addr} {fd : FuncData} (F : Fun K "_law_bases" "_law_bases" (top 39) f fd) (T : TxE K mg C) : FnOk P w K mg base CX0 1 f fd ["_law_e"] (spLBas C) := by
  refine F.ok sc__law_bases (fun vs H Q E h => ?_) (fun cdv A outer s H vs Q E hr h => ?_)
  · obtain ⟨a, k, rfl, _⟩ := h
    rfl
  · obtain ⟨a, k, rfl, hk, er, kk⟩ := h
    refine ⟨_, (pss_cons (ps_set (i := 1) sc__law_bases.nd rfl (Or.inl rfl) (pe_lst (pa_cons (pe_callB (UE.call_isH K rfl) (by rfl) T.isinstance (by decide +kernel) (pa_cons (pv 0) (pa_cons (pe_gx (by rfl) T.g_UsescaleError) pa_nil))) (pa_cons (pe_callB (UE.call_isH K rfl) (by rfl) T.isinstance (by decide +kernel) (pa_cons (pv 0) (pa_cons (pe_bltn (v := .ty "ValueError") (by rfl) T.ValueError (by decide +kernel) rfl) pa_nil))) (pa_cons (pe_callB (UE.call_isH K rfl) (by rfl) T.isinstance (by decide +kernel) (pa_cons (pv 0) (pa_cons (pe_gx (by rfl) T.g_CheckError) pa_nil))) pa_nil)))))
      (pss_cons (ps_set (i := 1) sc__law_bases.nd rfl (Or.inl rfl) (pe_op op_cat (pv 1) (pe_lst (pa_cons (pe_callB (UE.call_isH K rfl) (by rfl) T.isinstance (by decide +kernel) (pa_cons (pv 0) (pa_cons (pe_gx (by rfl) T.g_RunError) pa_nil))) (pa_cons (pe_callB (UE.call_isH K rfl) (by rfl) T.isinstance (by decide +kernel) (pa_cons (pv 0) (pa_cons (pe_gx (by rfl) T.g_BookError) pa_nil))) (pa_cons (pe_callB (UE.call_isH K rfl) (by rfl) T.isinstance (by decide +kernel) (pa_cons (pv 0) (pa_cons (pe_gx (by rfl) T.g_NameMissing) pa_nil))) pa_nil))))))
      (pss_one (ps_ret (pe_op op_cat (pv 1) (pe_lst (pa_cons (pe_callB (UE.call_isH K rfl) (by rfl) T.isinstance (by decide +kernel) (pa_cons (pv 0) (pa_cons (pe_bltn (v := .ty "LookupError") (by rfl) T.LookupError (by decide +kernel) rfl) pa_nil))) pa_nil))))))), ?_⟩
    rw [st__law_bases]
    have w0 := V.Hw.start (H := H)
    have c1 := T.ei k hk
    repeat walk_at "w"
    refine w_isH w0 er c1 (T.kit k hk 29 (by decide)) ?_
    repeat walk_at "w"
    refine w_isHt w0 er c1 (T.kitV k hk) ?_
    repeat walk_at "w"
    refine w_isH w0 er c1 (T.kit k hk 30 (by decide)) ?_
    repeat walk_at "w"
    intro p1 H1 _ w1
    repeat walk_at "w"
    repeat walk_at "w"
    refine w_isH w1 er c1 (T.kit k hk 31 (by decide)) ?_
    repeat walk_at "w"
    refine w_isH w1 er c1 (T.kit k hk 32 (by decide)) ?_
    repeat walk_at "w"
    refine w_isH w1 er c1 (T.kit k hk 33 (by decide)) ?_
    repeat walk_at "w"
    intro p2 H2 _ w2
    repeat walk_at "w"
    intro p3 H3 n3 w3
    repeat walk_at "w"
    repeat walk_at "w"
    refine w_isHt w3 er c1 (T.kitL k hk) ?_
    repeat walk_at "w"
    intro p4 H4 _ w4
    repeat walk_at "w"
    intro p5 H5 n5 w5
    repeat walk_at "w"
    exact kk _ _ (w4.fr.free n5) w5.fr (w5.get .here)
end
open UE
local macro_rules | `(tactic| walk_at "w") => `(tactic| first
  | with_reducible refine' w_xf ?_
  | with_reducible refine' w_mkV ?_)
/-! ### k50: the errors are made, and their attributes read -/
structure MadeF (H : Hp) (C e : Nat → Addr) (sa sb : Str) (c : Int) (pl kd : V) (us : List V) (t q : Addr) : Prop where
  er : ∀ i < 29, ErAt H (e i) (C i)
  ht : H t = some (.tup [.str "int"])
  hq : H q = some (.lst us)
  f_NegativeCount : Fl H (e 3) (C 3) [("count", .int c)]
  f_NoBound : Fl H (e 4) (C 4) [("second", .str "c"), ("first", .str sb), ("name", .str sa)]
  f_BadText : Fl H (e 5) (C 5) [("at", .int c)]
  f_NoRedex : Fl H (e 6) (C 6) [("place", pl)]
  f_TooMany : Fl H (e 8) (C 8) [("size", .int c)]
  f_BadCode : Fl H (e 9) (C 9) [("row", .int 3), ("block", .int c)]
  f_KindClash : Fl H (e 10) (C 10) [("found", kd), ("wanted", .ref t)]
  f_WrongForm : Fl H (e 11) (C 11) [("found", kd), ("word", .str sa)]
  f_Overuse : Fl H (e 12) (C 12) [("allowed", .str "d"), ("used", .str sb), ("name", .str sa)]
  f_NoTurns : Fl H (e 13) (C 13) [("name", .str sa)]
  f_TwiceBound : Fl H (e 14) (C 14) [("name", .str sa)]
  f_LooseGap : Fl H (e 15) (C 15) [("name", .str sa)]
  f_OutOfMoves : Fl H (e 17) (C 17) [("bound", .int c)]
  f_Refused : Fl H (e 20) (C 20) [("name", .str sa)]
  f_InUse : Fl H (e 21) (C 21) [("users", .ref q), ("name", .str sa)]
  f_BadName : Fl H (e 22) (C 22) [("name", .str sa)]
  f_BadLimit : Fl H (e 23) (C 23) [("bound", .int c)]
  f_WrongCount : Fl H (e 24) (C 24) [("found", .int c), ("wanted", .int 2)]
  f_TooLarge : Fl H (e 25) (C 25) [("size", .int c)]
  f_UnknownGrade : Fl H (e 26) (C 26) [("name", .str sa)]
  f_UnboundName : Fl H (e 27) (C 27) [("name", .str sa)]
  f_Undefined : Fl H (e 28) (C 28) [("name", .str sa)]
theorem MadeF.same {H H' : Hp} {C e : Nat → Addr} {sa sb : Str} {c : Int} {pl kd : V} {us : List V} {t q : Addr} (m : MadeF H C e sa sb c pl kd us t q) (s : Same H H') : MadeF H' C e sa sb c pl kd us t q := ⟨fun i hi => (m.er i hi).same s, s _ _ m.ht, s _ _ m.hq, m.f_NegativeCount.same s, m.f_NoBound.same s, m.f_BadText.same s, m.f_NoRedex.same s, m.f_TooMany.same s, m.f_BadCode.same s, m.f_KindClash.same s, m.f_WrongForm.same s, m.f_Overuse.same s, m.f_NoTurns.same s, m.f_TwiceBound.same s, m.f_LooseGap.same s, m.f_OutOfMoves.same s, m.f_Refused.same s, m.f_InUse.same s, m.f_BadName.same s, m.f_BadLimit.same s, m.f_WrongCount.same s, m.f_TooLarge.same s, m.f_UnknownGrade.same s, m.f_UnboundName.same s, m.f_Undefined.same s⟩
def spMade (C : Nat → Addr) : Sp := fun vs H Q _ => ∃ (Z : Hp) (so : Option (Addr × Addr)) (L : V.Cells) (W U : Addr) (sa sb : Str) (c : Int) (pl kd : V) (us : List V), vs = [.ref W, .int c, pl, kd, .ref U] ∧ V.Hw Z so H L ∧ H W = some (.lst [.str sa, .str sb]) ∧ V.At U (.lst us) L ∧ sa.length ≤ 1000 ∧ sb.length ≤ 1000 ∧
  ∀ l (e : Nat → Addr) (t q : Addr) Z' H', V.Hw Z' so H' L → Same Z Z' → Z' l = some (.lst ((List.range 29).map fun i => V.ref (e i))) → MadeF Z' C e sa sb c pl kd us t q → Q (.ref l) H'
def fieldsV (sa sb : Str) (c : Int) (pl kd : V) (t q : Addr) : List V := [.int c, .str sa, .str sb, .str "c", .int c, pl, .int c, .int c, .int 3, .ref t, kd, .str sa, kd, .str sa, .str sb, .str "d", .str sa, .str sa, .str sa, .int c, .str sa, .str sa, .ref q, .str sa, .int c, .int 2, .int c, .int c, .str sa, .str sa, .str sa]
def fieldsD (sa sb : Str) (c : Int) (dpl dkd dt dq : PyData) : List PyData := [.int c, .str sa, .str sb, .str "c", .int c, dpl, .int c, .int c, .int 3, dt, dkd, .str sa, dkd, .str sa, .str sb, .str "d", .str sa, .str sa, .str sa, .int c, .str sa, .str sa, dq, .str sa, .int c, .int 2, .int c, .int c, .str sa, .str sa, .str sa]
def spFields (C : Nat → Addr) : Sp := fun vs H Q _ => ∃ (l : Addr) (e : Nat → Addr) (sa sb : Str) (c : Int) (pl kd : V) (us : List V) (t q : Addr), vs = [.ref l] ∧ H l = some (.lst ((List.range 29).map fun i => V.ref (e i))) ∧ MadeF H C e sa sb c pl kd us t q ∧
  ∀ l' H', Same H H' → H' l' = some (.lst (fieldsV sa sb c pl kd t q)) → Q (.ref l') H'
section
variable {P : Program} {w : World} {K : PySem.W.Frag} {mg : Str → Option Value} {base : Heap} {C : Nat → Addr}
theorem sc__law_made : FnScope ["_law_words", "_law_count", "_law_place", "_law_kind", "_law_users", "_law_a", "_law_b", "_law_found"] ["_law_words", "_law_count", "_law_place", "_law_kind", "_law_users"] (defScope (top 40)) := ⟨rfl, rfl, rfl, by decide +kernel, rfl, by decide +kernel, by decide +kernel⟩
theorem st__law_made (v0 v1 v2 v3 v4 : V) : L2.start ["_law_words", "_law_count", "_law_place", "_law_kind", "_law_users", "_law_a", "_law_b", "_law_found"] [v0, v1, v2, v3, v4] = [some v0, some v1, some v2, some v3, some v4, none, none, none] := rfl
theorem ok_lmade {f : Addr} {fd : FuncData} (F : Fun K "_law_made" "_law_made" (top 40) f fd) (T : TxE K mg C)
    (x_NegativeCount : ExM P w K mg base 1 "NegativeCount" (C 3) (spEr (C 3) ["count"] ok_NegativeCount))
    (x_NoBound : ExM P w K mg base 1 "NoBound" (C 4) (spEr (C 4) ["name", "first", "second"] ok_NoBound))
    (x_BadText : ExM P w K mg base 1 "BadText" (C 5) (spEr (C 5) ["at"] ok_BadText))
    (x_NoRedex : ExM P w K mg base 1 "NoRedex" (C 6) (spEr (C 6) ["place"] ok_NoRedex))
    (x_TooMany : ExM P w K mg base 1 "TooMany" (C 8) (spEr (C 8) ["size"] ok_TooMany))
    (x_BadCode : ExM P w K mg base 1 "BadCode" (C 9) (spEr (C 9) ["block", "row"] ok_BadCode))
    (x_KindClash : ExM P w K mg base 1 "KindClash" (C 10) (spEr (C 10) ["wanted", "found"] ok_KindClash))
    (x_WrongForm : ExM P w K mg base 1 "WrongForm" (C 11) (spEr (C 11) ["word", "found"] ok_WrongForm))
    (x_Overuse : ExM P w K mg base 1 "Overuse" (C 12) (spEr (C 12) ["name", "used", "allowed"] ok_Overuse))
    (x_NoTurns : ExM P w K mg base 1 "NoTurns" (C 13) (spEr (C 13) ["name"] ok_NoTurns))
    (x_TwiceBound : ExM P w K mg base 1 "TwiceBound" (C 14) (spEr (C 14) ["name"] ok_TwiceBound))
    (x_LooseGap : ExM P w K mg base 1 "LooseGap" (C 15) (spEr (C 15) ["name"] ok_LooseGap))
    (x_OutOfMoves : ExM P w K mg base 1 "OutOfMoves" (C 17) (spEr (C 17) ["bound"] ok_OutOfMoves))
    (x_Refused : ExM P w K mg base 1 "Refused" (C 20) (spEr (C 20) ["name"] ok_Refused))
    (x_InUse : ExM P w K mg base 1 "InUse" (C 21) (spInUse (C 21)))
    (x_BadName : ExM P w K mg base 1 "BadName" (C 22) (spEr (C 22) ["name"] ok_BadName))
    (x_BadLimit : ExM P w K mg base 1 "BadLimit" (C 23) (spEr (C 23) ["bound"] ok_BadLimit))
    (x_WrongCount : ExM P w K mg base 1 "WrongCount" (C 24) (spEr (C 24) ["wanted", "found"] ok_WrongCount))
    (x_TooLarge : ExM P w K mg base 1 "TooLarge" (C 25) (spEr (C 25) ["size"] ok_TooLarge))
    (x_UnknownGrade : ExM P w K mg base 1 "UnknownGrade" (C 26) (spEr (C 26) ["name"] ok_UnknownGrade))
    (x_UnboundName : ExM P w K mg base 1 "UnboundName" (C 27) (spEr (C 27) ["name"] ok_UnboundName))
    (x_Undefined : ExM P w K mg base 1 "Undefined" (C 28) (spEr (C 28) ["name"] ok_Undefined)) :
    FnOk P w K mg base CX0 3 f fd ["_law_words", "_law_count", "_law_place", "_law_kind", "_law_users"] (spMade C) := by
  refine F.ok sc__law_made (fun vs H Q E h => ?_) (fun cdv A outer s H vs Q E hr h => ?_)
  · obtain ⟨Z, so, L, W, U, sa, sb, c, pl, kd, us, rfl, _⟩ := h
    rfl
  · obtain ⟨Z, so, L, W, U, sa, sb, c, pl, kd, us, rfl, w0, hW, hU, la, lb, kk⟩ := h
    refine ⟨_, (pss_cons (ps_set (i := 5) sc__law_made.nd rfl (Or.inl rfl) (pe_ix ix_list (pv 0) pe_int (fun _ _ => rfl)))
      (pss_cons (ps_set (i := 6) sc__law_made.nd rfl (Or.inl rfl) (pe_ix ix_list (pv 0) pe_int (fun _ _ => rfl)))
      (pss_cons (ps_set (i := 7) sc__law_made.nd rfl (Or.inl rfl) (pe_lst (pa_cons (pe_e0 PySem.F.excBase_ValueError T.x0_BadScale T.g_BadScale (by rfl)) (pa_cons (pe_e0 PySem.F.excBase_ValueError T.x0_EndlessScale T.g_EndlessScale (by rfl)) (pa_cons (pe_e0 PySem.F.excBase_ValueError T.x0_MixedScales T.g_MixedScales (by rfl)) (pa_cons (pe_mkB x_NegativeCount hr (by decide) (by rfl) (pa_cons (pv 1) pa_nil)) (pa_cons (pe_mkB x_NoBound hr (by decide) (by rfl) (pa_cons (pv 5) (pa_cons (pv 6) (pa_cons pe_str pa_nil)))) (pa_cons (pe_mkB x_BadText hr (by decide) (by rfl) (pa_cons (pv 1) pa_nil)) pa_nil))))))))
      (pss_cons (ps_set (i := 7) sc__law_made.nd rfl (Or.inl rfl) (pe_op op_cat (pv 7) (pe_lst (pa_cons (pe_mkB x_NoRedex hr (by decide) (by rfl) (pa_cons (pv 2) pa_nil)) (pa_cons (pe_e0 PySem.F.excBase_ValueError T.x0_BadMap T.g_BadMap (by rfl)) (pa_cons (pe_mkB x_TooMany hr (by decide) (by rfl) (pa_cons (pv 1) pa_nil)) (pa_cons (pe_mkB x_BadCode hr (by decide) (by rfl) (pa_cons (pv 1) (pa_cons pe_int pa_nil))) (pa_cons (pe_mkB x_KindClash hr (by decide) (by rfl) (pa_cons (pe_tup (pa_cons pe_str pa_nil)) (pa_cons (pv 3) pa_nil))) pa_nil))))))))
      (pss_cons (ps_set (i := 7) sc__law_made.nd rfl (Or.inl rfl) (pe_op op_cat (pv 7) (pe_lst (pa_cons (pe_mkB x_WrongForm hr (by decide) (by rfl) (pa_cons (pv 5) (pa_cons (pv 3) pa_nil))) (pa_cons (pe_mkB x_Overuse hr (by decide) (by rfl) (pa_cons (pv 5) (pa_cons (pv 6) (pa_cons pe_str pa_nil)))) (pa_cons (pe_mkB x_NoTurns hr (by decide) (by rfl) (pa_cons (pv 5) pa_nil)) (pa_cons (pe_mkB x_TwiceBound hr (by decide) (by rfl) (pa_cons (pv 5) pa_nil)) (pa_cons (pe_mkB x_LooseGap hr (by decide) (by rfl) (pa_cons (pv 5) pa_nil)) (pa_cons (pe_e0 PySem.F.excBase_ValueError T.x0_GoneTerm T.g_GoneTerm (by rfl)) pa_nil)))))))))
      (pss_cons (ps_set (i := 7) sc__law_made.nd rfl (Or.inl rfl) (pe_op op_cat (pv 7) (pe_lst (pa_cons (pe_mkB x_OutOfMoves hr (by decide) (by rfl) (pa_cons (pv 1) pa_nil)) (pa_cons (pe_e0 PySem.F.excBase_ValueError T.x0_GoneReached T.g_GoneReached (by rfl)) (pa_cons (pe_e0 PySem.F.excBase_ValueError T.x0_NotDone T.g_NotDone (by rfl)) (pa_cons (pe_mkB x_Refused hr (by decide) (by rfl) (pa_cons (pv 5) pa_nil)) (pa_cons (pe_mkB x_InUse hr (by decide) (by rfl) (pa_cons (pv 5) (pa_cons (pv 4) pa_nil))) (pa_cons (pe_mkB x_BadName hr (by decide) (by rfl) (pa_cons (pv 5) pa_nil)) pa_nil)))))))))
      (pss_cons (ps_set (i := 7) sc__law_made.nd rfl (Or.inl rfl) (pe_op op_cat (pv 7) (pe_lst (pa_cons (pe_mkB x_BadLimit hr (by decide) (by rfl) (pa_cons (pv 1) pa_nil)) (pa_cons (pe_mkB x_WrongCount hr (by decide) (by rfl) (pa_cons pe_int (pa_cons (pv 1) pa_nil))) (pa_cons (pe_mkB x_TooLarge hr (by decide) (by rfl) (pa_cons (pv 1) pa_nil)) (pa_cons (pe_mkB x_UnknownGrade hr (by decide) (by rfl) (pa_cons (pv 5) pa_nil)) (pa_cons (pe_mkB x_UnboundName hr (by decide) (by rfl) (pa_cons (pv 5) pa_nil)) pa_nil))))))))
      (pss_one (ps_ret (pe_op op_cat (pv 7) (pe_lst (pa_cons (pe_mkB x_Undefined hr (by decide) (by rfl) (pa_cons (pv 5) pa_nil)) pa_nil)))))))))))), ?_⟩
    rw [st__law_made]
    have a0' : atI [V.str sa, V.str sb] 0 = some (.str sa) := rfl
    have b0' : atI [V.str sa, V.str sb] 1 = some (.str sb) := rfl
    repeat walk_at "w"
    refine w_exc0 w0 fun a0 Z0 H0 w00 e0 f0 => ?_
    repeat walk_at "w"
    refine w_exc0 w00 fun a1 Z1 H1 w1 e1 f1 => ?_
    clear w00
    repeat walk_at "w"
    refine w_exc0 w1 fun a2 Z2 H2 w2 e2 f2 => ?_
    clear w1
    repeat walk_at "w"
    refine w_mkEr w2 (Nat.le_of_ble_eq_true rfl) ⟨_, rfl⟩ fun a3 Z3 H3 w3 e3 f3 => ?_
    clear w2
    repeat walk_at "w"
    refine w_mkEr w3 (Nat.le_of_ble_eq_true rfl) ⟨_, _, _, rfl, lb, by decide +kernel⟩ fun a4 Z4 H4 w4 e4 f4 => ?_
    clear w3
    repeat walk_at "w"
    refine w_mkEr w4 (Nat.le_of_ble_eq_true rfl) ⟨_, rfl⟩ fun a5 Z5 H5 w5 e5 f5 => ?_
    clear w4
    repeat walk_at "w"
    intro p1 G1 _ u1
    clear w5
    repeat walk_at "w"
    refine w_mkEr u1 (Nat.le_of_ble_eq_true rfl) ⟨_, rfl⟩ fun a6 Z6 H6 w6 e6 f6 => ?_
    clear u1
    repeat walk_at "w"
    refine w_exc0 w6 fun a7 Z7 H7 w7 e7 f7 => ?_
    clear w6
    repeat walk_at "w"
    refine w_mkEr w7 (Nat.le_of_ble_eq_true rfl) ⟨_, rfl⟩ fun a8 Z8 H8 w8 e8 f8 => ?_
    clear w7
    repeat walk_at "w"
    refine w_mkEr w8 (Nat.le_of_ble_eq_true rfl) ⟨_, _, rfl⟩ fun a9 Z9 H9 w9 e9 f9 => ?_
    clear w8
    repeat walk_at "w"
    intro t Ht _ wt
    obtain ⟨wt2, et, zt⟩ := wt.frz
    clear wt
    repeat walk_at "w"
    refine w_mkEr wt2 (Nat.le_of_ble_eq_true rfl) ⟨_, _, rfl⟩ fun a10 Z10 H10 w10 e10 f10 => ?_
    clear wt2
    repeat walk_at "w"
    intro p2 G2 _ u2
    clear w10
    repeat walk_at "w"
    intro p3 G3 _ u3'
    clear u2
    have u3 := u3'.sub (L := (true, p3, .lst [V.ref a0, V.ref a1, V.ref a2, V.ref a3, V.ref a4, V.ref a5, V.ref a6, V.ref a7, V.ref a8, V.ref a9, V.ref a10]) :: L) (.cons (.skip (.skip (.refl _))))
    clear u3'
    repeat walk_at "w"
    refine w_mkEr u3 (Nat.le_of_ble_eq_true rfl) ⟨_, _, rfl, la⟩ fun a11 Z11 H11 w11 e11 f11 => ?_
    clear u3
    repeat walk_at "w"
    refine w_mkEr w11 (Nat.le_of_ble_eq_true rfl) ⟨_, _, _, rfl, la, lb, by decide +kernel⟩ fun a12 Z12 H12 w12 e12 f12 => ?_
    clear w11
    repeat walk_at "w"
    refine w_mkEr w12 (Nat.le_of_ble_eq_true rfl) ⟨_, rfl, la⟩ fun a13 Z13 H13 w13 e13 f13 => ?_
    clear w12
    repeat walk_at "w"
    refine w_mkEr w13 (Nat.le_of_ble_eq_true rfl) ⟨_, rfl, la⟩ fun a14 Z14 H14 w14 e14 f14 => ?_
    clear w13
    repeat walk_at "w"
    refine w_mkEr w14 (Nat.le_of_ble_eq_true rfl) ⟨_, rfl, la⟩ fun a15 Z15 H15 w15 e15 f15 => ?_
    clear w14
    repeat walk_at "w"
    refine w_exc0 w15 fun a16 Z16 H16 w16 e16 f16 => ?_
    clear w15
    repeat walk_at "w"
    intro p4 G4 _ u4
    clear w16
    repeat walk_at "w"
    intro p5 G5 _ u5'
    clear u4
    have u5 := u5'.sub (L := (true, p5, .lst [V.ref a0, V.ref a1, V.ref a2, V.ref a3, V.ref a4, V.ref a5, V.ref a6, V.ref a7, V.ref a8, V.ref a9, V.ref a10, V.ref a11, V.ref a12, V.ref a13, V.ref a14, V.ref a15, V.ref a16]) :: L) (.cons (.skip (.skip (.refl _))))
    clear u5'
    repeat walk_at "w"
    refine w_mkEr u5 (Nat.le_of_ble_eq_true rfl) ⟨_, rfl⟩ fun a17 Z17 H17 w17 e17 f17 => ?_
    clear u5
    repeat walk_at "w"
    refine w_exc0 w17 fun a18 Z18 H18 w18 e18 f18 => ?_
    clear w17
    repeat walk_at "w"
    refine w_exc0 w18 fun a19 Z19 H19 w19 e19 f19 => ?_
    clear w18
    repeat walk_at "w"
    refine w_mkEr w19 (Nat.le_of_ble_eq_true rfl) ⟨_, rfl, la⟩ fun a20 Z20 H20 w20 e20 f20 => ?_
    clear w19
    repeat walk_at "w"
    have hU2 := w20.get (.there hU)
    refine w_mkUse w20 la hU2 fun a21 q Z21 H21 w21 e21 f21 fq => ?_
    clear w20
    repeat walk_at "w"
    refine w_mkEr w21 (Nat.le_of_ble_eq_true rfl) ⟨_, rfl, la⟩ fun a22 Z22 H22 w22 e22 f22 => ?_
    clear w21
    repeat walk_at "w"
    intro p6 G6 _ u6
    clear w22
    repeat walk_at "w"
    intro p7 G7 _ u7'
    clear u6
    have u7 := u7'.sub (L := (true, p7, .lst [V.ref a0, V.ref a1, V.ref a2, V.ref a3, V.ref a4, V.ref a5, V.ref a6, V.ref a7, V.ref a8, V.ref a9, V.ref a10, V.ref a11, V.ref a12, V.ref a13, V.ref a14, V.ref a15, V.ref a16, V.ref a17, V.ref a18, V.ref a19, V.ref a20, V.ref a21, V.ref a22]) :: L) (.cons (.skip (.skip (.refl _))))
    clear u7'
    repeat walk_at "w"
    refine w_mkEr u7 (Nat.le_of_ble_eq_true rfl) ⟨_, rfl⟩ fun a23 Z23 H23 w23 e23 f23 => ?_
    clear u7
    repeat walk_at "w"
    refine w_mkEr w23 (Nat.le_of_ble_eq_true rfl) ⟨_, _, rfl⟩ fun a24 Z24 H24 w24 e24 f24 => ?_
    clear w23
    repeat walk_at "w"
    refine w_mkEr w24 (Nat.le_of_ble_eq_true rfl) ⟨_, rfl⟩ fun a25 Z25 H25 w25 e25 f25 => ?_
    clear w24
    repeat walk_at "w"
    refine w_mkEr w25 (Nat.le_of_ble_eq_true rfl) ⟨_, rfl, la⟩ fun a26 Z26 H26 w26 e26 f26 => ?_
    clear w25
    repeat walk_at "w"
    refine w_mkEr w26 (Nat.le_of_ble_eq_true rfl) ⟨_, rfl, la⟩ fun a27 Z27 H27 w27 e27 f27 => ?_
    clear w26
    repeat walk_at "w"
    intro p8 G8 _ u8
    clear w27
    repeat walk_at "w"
    intro p9 G9 _ u9'
    clear u8
    have u9 := u9'.sub (L := (true, p9, .lst [V.ref a0, V.ref a1, V.ref a2, V.ref a3, V.ref a4, V.ref a5, V.ref a6, V.ref a7, V.ref a8, V.ref a9, V.ref a10, V.ref a11, V.ref a12, V.ref a13, V.ref a14, V.ref a15, V.ref a16, V.ref a17, V.ref a18, V.ref a19, V.ref a20, V.ref a21, V.ref a22, V.ref a23, V.ref a24, V.ref a25, V.ref a26, V.ref a27]) :: L) (.cons (.skip (.skip (.refl _))))
    clear u9'
    repeat walk_at "w"
    refine w_mkEr u9 (Nat.le_of_ble_eq_true rfl) ⟨_, rfl, la⟩ fun a28 Z28 H28 w28 e28 f28 => ?_
    clear u9
    repeat walk_at "w"
    intro p10 G10 _ u10
    clear w28
    repeat walk_at "w"
    intro p11 G11 _ u11'
    clear u10
    have u11 := u11'.sub (L := (true, p11, .lst [V.ref a0, V.ref a1, V.ref a2, V.ref a3, V.ref a4, V.ref a5, V.ref a6, V.ref a7, V.ref a8, V.ref a9, V.ref a10, V.ref a11, V.ref a12, V.ref a13, V.ref a14, V.ref a15, V.ref a16, V.ref a17, V.ref a18, V.ref a19, V.ref a20, V.ref a21, V.ref a22, V.ref a23, V.ref a24, V.ref a25, V.ref a26, V.ref a27, V.ref a28]) :: L) (.cons (.skip (.skip (.refl _))))
    clear u11'
    repeat walk_at "w"
    obtain ⟨wf, s28, zf⟩ := u11.frz
    have s27 := e28.trans s28
    have s26 := e27.trans s27
    have s25 := e26.trans s26
    have s24 := e25.trans s25
    have s23 := e24.trans s24
    have s22 := e23.trans s23
    have s21 := e22.trans s22
    have s20 := e21.trans s21
    have s19 := e20.trans s20
    have s18 := e19.trans s19
    have s17 := e18.trans s18
    have s16 := e17.trans s17
    have s15 := e16.trans s16
    have s14 := e15.trans s15
    have s13 := e14.trans s14
    have s12 := e13.trans s13
    have s11 := e12.trans s12
    have s10 := e11.trans s11
    have st := e10.trans s10
    have s9 := et.trans st
    have s8 := e9.trans s9
    have s7 := e8.trans s8
    have s6 := e7.trans s7
    have s5 := e6.trans s6
    have s4 := e5.trans s5
    have s3 := e4.trans s4
    have s2 := e3.trans s3
    have s1 := e2.trans s2
    have s0 := e1.trans s1
    refine kk p11 (fun i => [a0, a1, a2, a3, a4, a5, a6, a7, a8, a9, a10, a11, a12, a13, a14, a15, a16, a17, a18, a19, a20, a21, a22, a23, a24, a25, a26, a27, a28].getD i 0) t q _ _ wf (e0.trans s0) zf ⟨fun i hi => ?_, st _ _ zt, s21 _ _ fq, f3.same s3, f4.same s4, f5.same s5, f6.same s6, f8.same s8, f9.same s9, f10.same s10, f11.same s11, f12.same s12, f13.same s13, f14.same s14, f15.same s15, f17.same s17, f20.same s20, f21.same s21, f22.same s22, f23.same s23, f24.same s24, f25.same s25, f26.same s26, f27.same s27, f28.same s28⟩
    match i, hi with
    | 0, _ => exact .inl (s0 _ _ f0)
    | 1, _ => exact .inl (s1 _ _ f1)
    | 2, _ => exact .inl (s2 _ _ f2)
    | 3, _ => exact (f3.same s3).er
    | 4, _ => exact (f4.same s4).er
    | 5, _ => exact (f5.same s5).er
    | 6, _ => exact (f6.same s6).er
    | 7, _ => exact .inl (s7 _ _ f7)
    | 8, _ => exact (f8.same s8).er
    | 9, _ => exact (f9.same s9).er
    | 10, _ => exact (f10.same s10).er
    | 11, _ => exact (f11.same s11).er
    | 12, _ => exact (f12.same s12).er
    | 13, _ => exact (f13.same s13).er
    | 14, _ => exact (f14.same s14).er
    | 15, _ => exact (f15.same s15).er
    | 16, _ => exact .inl (s16 _ _ f16)
    | 17, _ => exact (f17.same s17).er
    | 18, _ => exact .inl (s18 _ _ f18)
    | 19, _ => exact .inl (s19 _ _ f19)
    | 20, _ => exact (f20.same s20).er
    | 21, _ => exact (f21.same s21).er
    | 22, _ => exact (f22.same s22).er
    | 23, _ => exact (f23.same s23).er
    | 24, _ => exact (f24.same s24).er
    | 25, _ => exact (f25.same s25).er
    | 26, _ => exact (f26.same s26).er
    | 27, _ => exact (f27.same s27).er
    | 28, _ => exact (f28.same s28).er
    | n + 29, h => exact absurd h (by omega)
theorem sc__law_fields : FnScope ["_law_e", "_law_found"] ["_law_e"] (defScope (top 41)) := ⟨rfl, rfl, rfl, by decide +kernel, rfl, by decide +kernel, by decide +kernel⟩
theorem st__law_fields (v0 : V) : L2.start ["_law_e", "_law_found"] [v0] = [some v0, none] := rfl
theorem ok_lfields {f : Addr} {fd : FuncData} (F : Fun K "_law_fields" "_law_fields" (top 41) f fd) (T : TxE K mg C) : FnOk P w K mg base CX0 1 f fd ["_law_e"] (spFields C) := by
  refine F.ok sc__law_fields (fun vs H Q E h => ?_) (fun cdv A outer s H vs Q E hr h => ?_)
  · obtain ⟨l, e, sa, sb, c, pl, kd, us, t, q, rfl, _⟩ := h
    rfl
  · obtain ⟨l, e, sa, sb, c, pl, kd, us, t, q, rfl, hl, M, kk⟩ := h
    refine ⟨_, (pss_cons (ps_set (i := 1) sc__law_fields.nd rfl (Or.inl rfl) (pe_lst (pa_cons (pe_xfH K rfl (pe_ix ix_list (pv 0) pe_int (fun _ _ => rfl))) (pa_cons (pe_xfH K rfl (pe_ix ix_list (pv 0) pe_int (fun _ _ => rfl))) (pa_cons (pe_xfH K rfl (pe_ix ix_list (pv 0) pe_int (fun _ _ => rfl))) (pa_cons (pe_xfH K rfl (pe_ix ix_list (pv 0) pe_int (fun _ _ => rfl))) (pa_cons (pe_xfH K rfl (pe_ix ix_list (pv 0) pe_int (fun _ _ => rfl))) (pa_cons (pe_xfH K rfl (pe_ix ix_list (pv 0) pe_int (fun _ _ => rfl))) (pa_cons (pe_xfH K rfl (pe_ix ix_list (pv 0) pe_int (fun _ _ => rfl))) (pa_cons (pe_xfH K rfl (pe_ix ix_list (pv 0) pe_int (fun _ _ => rfl))) (pa_cons (pe_xfH K rfl (pe_ix ix_list (pv 0) pe_int (fun _ _ => rfl))) pa_nil)))))))))))
      (pss_cons (ps_set (i := 1) sc__law_fields.nd rfl (Or.inl rfl) (pe_op op_cat (pv 1) (pe_lst (pa_cons (pe_xfH K rfl (pe_ix ix_list (pv 0) pe_int (fun _ _ => rfl))) (pa_cons (pe_xfH K rfl (pe_ix ix_list (pv 0) pe_int (fun _ _ => rfl))) (pa_cons (pe_xfH K rfl (pe_ix ix_list (pv 0) pe_int (fun _ _ => rfl))) (pa_cons (pe_xfH K rfl (pe_ix ix_list (pv 0) pe_int (fun _ _ => rfl))) (pa_cons (pe_xfH K rfl (pe_ix ix_list (pv 0) pe_int (fun _ _ => rfl))) (pa_cons (pe_xfH K rfl (pe_ix ix_list (pv 0) pe_int (fun _ _ => rfl))) (pa_cons (pe_xfH K rfl (pe_ix ix_list (pv 0) pe_int (fun _ _ => rfl))) pa_nil))))))))))
      (pss_cons (ps_set (i := 1) sc__law_fields.nd rfl (Or.inl rfl) (pe_op op_cat (pv 1) (pe_lst (pa_cons (pe_xfH K rfl (pe_ix ix_list (pv 0) pe_int (fun _ _ => rfl))) (pa_cons (pe_xfH K rfl (pe_ix ix_list (pv 0) pe_int (fun _ _ => rfl))) (pa_cons (pe_xfH K rfl (pe_ix ix_list (pv 0) pe_int (fun _ _ => rfl))) (pa_cons (pe_xfH K rfl (pe_ix ix_list (pv 0) pe_int (fun _ _ => rfl))) (pa_cons (pe_xfH K rfl (pe_ix ix_list (pv 0) pe_int (fun _ _ => rfl))) (pa_cons (pe_xfH K rfl (pe_ix ix_list (pv 0) pe_int (fun _ _ => rfl))) (pa_cons (pe_xfH K rfl (pe_ix ix_list (pv 0) pe_int (fun _ _ => rfl))) pa_nil))))))))))
      (pss_cons (ps_set (i := 1) sc__law_fields.nd rfl (Or.inl rfl) (pe_op op_cat (pv 1) (pe_lst (pa_cons (pe_xfH K rfl (pe_ix ix_list (pv 0) pe_int (fun _ _ => rfl))) (pa_cons (pe_xfH K rfl (pe_ix ix_list (pv 0) pe_int (fun _ _ => rfl))) (pa_cons (pe_xfH K rfl (pe_ix ix_list (pv 0) pe_int (fun _ _ => rfl))) (pa_cons (pe_xfH K rfl (pe_ix ix_list (pv 0) pe_int (fun _ _ => rfl))) (pa_cons (pe_xfH K rfl (pe_ix ix_list (pv 0) pe_int (fun _ _ => rfl))) pa_nil))))))))
      (pss_one (ps_ret (pe_op op_cat (pv 1) (pe_lst (pa_cons (pe_xfH K rfl (pe_ix ix_list (pv 0) pe_int (fun _ _ => rfl))) (pa_cons (pe_xfH K rfl (pe_ix ix_list (pv 0) pe_int (fun _ _ => rfl))) (pa_cons (pe_xfH K rfl (pe_ix ix_list (pv 0) pe_int (fun _ _ => rfl))) pa_nil))))))))))), ?_⟩
    rw [st__law_fields]
    have w0 := V.Hw.start (H := H)
    have i3 : atI ((List.range 29).map fun i => V.ref (e i)) 3 = some (.ref (e 3)) := rfl
    have i4 : atI ((List.range 29).map fun i => V.ref (e i)) 4 = some (.ref (e 4)) := rfl
    have i5 : atI ((List.range 29).map fun i => V.ref (e i)) 5 = some (.ref (e 5)) := rfl
    have i6 : atI ((List.range 29).map fun i => V.ref (e i)) 6 = some (.ref (e 6)) := rfl
    have i8 : atI ((List.range 29).map fun i => V.ref (e i)) 8 = some (.ref (e 8)) := rfl
    have i9 : atI ((List.range 29).map fun i => V.ref (e i)) 9 = some (.ref (e 9)) := rfl
    have i10 : atI ((List.range 29).map fun i => V.ref (e i)) 10 = some (.ref (e 10)) := rfl
    have i11 : atI ((List.range 29).map fun i => V.ref (e i)) 11 = some (.ref (e 11)) := rfl
    have i12 : atI ((List.range 29).map fun i => V.ref (e i)) 12 = some (.ref (e 12)) := rfl
    have i13 : atI ((List.range 29).map fun i => V.ref (e i)) 13 = some (.ref (e 13)) := rfl
    have i14 : atI ((List.range 29).map fun i => V.ref (e i)) 14 = some (.ref (e 14)) := rfl
    have i15 : atI ((List.range 29).map fun i => V.ref (e i)) 15 = some (.ref (e 15)) := rfl
    have i17 : atI ((List.range 29).map fun i => V.ref (e i)) 17 = some (.ref (e 17)) := rfl
    have i20 : atI ((List.range 29).map fun i => V.ref (e i)) 20 = some (.ref (e 20)) := rfl
    have i21 : atI ((List.range 29).map fun i => V.ref (e i)) 21 = some (.ref (e 21)) := rfl
    have i22 : atI ((List.range 29).map fun i => V.ref (e i)) 22 = some (.ref (e 22)) := rfl
    have i23 : atI ((List.range 29).map fun i => V.ref (e i)) 23 = some (.ref (e 23)) := rfl
    have i24 : atI ((List.range 29).map fun i => V.ref (e i)) 24 = some (.ref (e 24)) := rfl
    have i25 : atI ((List.range 29).map fun i => V.ref (e i)) 25 = some (.ref (e 25)) := rfl
    have i26 : atI ((List.range 29).map fun i => V.ref (e i)) 26 = some (.ref (e 26)) := rfl
    have i27 : atI ((List.range 29).map fun i => V.ref (e i)) 27 = some (.ref (e 27)) := rfl
    have i28 : atI ((List.range 29).map fun i => V.ref (e i)) 28 = some (.ref (e 28)) := rfl
    repeat walk_at "w"
    refine w_xf2 w0 M.f_NegativeCount (T.xf 3 (by decide)) T.no_NegativeCount_count rfl ?_
    repeat walk_at "w"
    refine w_xf2 w0 M.f_NoBound (T.xf 4 (by decide)) T.no_NoBound_name rfl ?_
    repeat walk_at "w"
    refine w_xf2 w0 M.f_NoBound (T.xf 4 (by decide)) T.no_NoBound_first rfl ?_
    repeat walk_at "w"
    refine w_xf2 w0 M.f_NoBound (T.xf 4 (by decide)) T.no_NoBound_second rfl ?_
    repeat walk_at "w"
    refine w_xf2 w0 M.f_BadText (T.xf 5 (by decide)) T.no_BadText_at rfl ?_
    repeat walk_at "w"
    refine w_xf2 w0 M.f_NoRedex (T.xf 6 (by decide)) T.no_NoRedex_place rfl ?_
    repeat walk_at "w"
    refine w_xf2 w0 M.f_TooMany (T.xf 8 (by decide)) T.no_TooMany_size rfl ?_
    repeat walk_at "w"
    refine w_xf2 w0 M.f_BadCode (T.xf 9 (by decide)) T.no_BadCode_block rfl ?_
    repeat walk_at "w"
    refine w_xf2 w0 M.f_BadCode (T.xf 9 (by decide)) T.no_BadCode_row rfl ?_
    repeat walk_at "w"
    intro p1 G1 _ u1
    repeat walk_at "w"
    refine w_xf2 u1 M.f_KindClash (T.xf 10 (by decide)) T.no_KindClash_wanted rfl ?_
    repeat walk_at "w"
    refine w_xf2 u1 M.f_KindClash (T.xf 10 (by decide)) T.no_KindClash_found rfl ?_
    repeat walk_at "w"
    refine w_xf2 u1 M.f_WrongForm (T.xf 11 (by decide)) T.no_WrongForm_word rfl ?_
    repeat walk_at "w"
    refine w_xf2 u1 M.f_WrongForm (T.xf 11 (by decide)) T.no_WrongForm_found rfl ?_
    repeat walk_at "w"
    refine w_xf2 u1 M.f_Overuse (T.xf 12 (by decide)) T.no_Overuse_name rfl ?_
    repeat walk_at "w"
    refine w_xf2 u1 M.f_Overuse (T.xf 12 (by decide)) T.no_Overuse_used rfl ?_
    repeat walk_at "w"
    refine w_xf2 u1 M.f_Overuse (T.xf 12 (by decide)) T.no_Overuse_allowed rfl ?_
    repeat walk_at "w"
    intro p2 G2 _ u2
    repeat walk_at "w"
    intro p3 G3 _ u3
    repeat walk_at "w"
    refine w_xf2 u3 M.f_NoTurns (T.xf 13 (by decide)) T.no_NoTurns_name rfl ?_
    repeat walk_at "w"
    refine w_xf2 u3 M.f_TwiceBound (T.xf 14 (by decide)) T.no_TwiceBound_name rfl ?_
    repeat walk_at "w"
    refine w_xf2 u3 M.f_LooseGap (T.xf 15 (by decide)) T.no_LooseGap_name rfl ?_
    repeat walk_at "w"
    refine w_xf2 u3 M.f_OutOfMoves (T.xf 17 (by decide)) T.no_OutOfMoves_bound rfl ?_
    repeat walk_at "w"
    refine w_xf2 u3 M.f_Refused (T.xf 20 (by decide)) T.no_Refused_name rfl ?_
    repeat walk_at "w"
    refine w_xf2 u3 M.f_InUse (T.xf 21 (by decide)) T.no_InUse_name rfl ?_
    repeat walk_at "w"
    refine w_xf2 u3 M.f_InUse (T.xf 21 (by decide)) T.no_InUse_users rfl ?_
    repeat walk_at "w"
    intro p4 G4 _ u4
    repeat walk_at "w"
    intro p5 G5 _ u5
    repeat walk_at "w"
    refine w_xf2 u5 M.f_BadName (T.xf 22 (by decide)) T.no_BadName_name rfl ?_
    repeat walk_at "w"
    refine w_xf2 u5 M.f_BadLimit (T.xf 23 (by decide)) T.no_BadLimit_bound rfl ?_
    repeat walk_at "w"
    refine w_xf2 u5 M.f_WrongCount (T.xf 24 (by decide)) T.no_WrongCount_wanted rfl ?_
    repeat walk_at "w"
    refine w_xf2 u5 M.f_WrongCount (T.xf 24 (by decide)) T.no_WrongCount_found rfl ?_
    repeat walk_at "w"
    refine w_xf2 u5 M.f_TooLarge (T.xf 25 (by decide)) T.no_TooLarge_size rfl ?_
    repeat walk_at "w"
    intro p6 G6 _ u6
    repeat walk_at "w"
    intro p7 G7 _ u7
    repeat walk_at "w"
    refine w_xf2 u7 M.f_UnknownGrade (T.xf 26 (by decide)) T.no_UnknownGrade_name rfl ?_
    repeat walk_at "w"
    refine w_xf2 u7 M.f_UnboundName (T.xf 27 (by decide)) T.no_UnboundName_name rfl ?_
    repeat walk_at "w"
    refine w_xf2 u7 M.f_Undefined (T.xf 28 (by decide)) T.no_Undefined_name rfl ?_
    repeat walk_at "w"
    intro p8 G8 _ u8
    repeat walk_at "w"
    intro p9 G9 _ u9
    repeat walk_at "w"
    exact kk _ _ u9.fr (u9.get .here)
end
/-! ### draws, in the walk -/
section
variable {Z H : Hp} {S T : Addr} {L : V.Cells} {Q : VK} {E : XK} {m : Int}
theorem w_draw (w : V.Hw Z (some (S, T)) H L) (p : 0 < m) (b : m < 1606938044258990275541962092341162602522202993782792835301376) (k : ∀ i H', 0 ≤ i → i < m → V.Hw Z (some (S, T)) H' L → Q (.int i) H') : spDraw [.ref S, .int m] H Q E :=
  ⟨S, T, m, rfl, w.std, by omega, fun r H' h0 h1 st kp => k r H' h0 (h1 p) (w.callD st kp)⟩
theorem w_draw0 (w : V.Hw Z (some (S, T)) H L) (p : 0 ≤ m) (b : m < 1606938044258990275541962092341162602522202993782792835301376) (k : ∀ i H', 0 ≤ i → (0 < m → i < m) → V.Hw Z (some (S, T)) H' L → Q (.int i) H') : spDraw [.ref S, .int m] H Q E :=
  ⟨S, T, m, rfl, w.std, by omega, fun r H' h0 h1 st kp => k r H' h0 h1 (w.callD st kp)⟩
end
local macro_rules | `(tactic| walk_at "w") => `(tactic| ((with_reducible refine' w_draw ?w ?p ?b ?_); (case w => assumption); (case p => first | omega | decide); (case b => first | omega | decide)))
def spLaw (K : PySem.W.Frag) : Sp := fun vs H Q _ => ∃ (a : Addr) (ns : List Int), vs = [.ref a] ∧ SqL K H a (ns.map V.int) ∧ ns.length ≤ 63 ∧ ∀ H', Q (.bl true) H'
/-! ### k06: the drawn tables -/
structure RwI {α : Type} (f : α → V) (ok : α → Prop) (k : Nat) (acc : List V) : Prop where
  ex : ∃ t : List α, acc = t.map f ∧ t.length = k ∧ ∀ x ∈ t, ok x
theorem RwI.nil {α : Type} {f : α → V} {ok : α → Prop} : RwI f ok 0 [] := ⟨[], rfl, rfl, by simp⟩
theorem RwI.snoc {α : Type} {f : α → V} {ok : α → Prop} {k : Nat} {acc : List V} {y : V} (h : RwI f ok k acc) (x : α) (e : y = f x) (o : ok x) : RwI f ok (k + 1) (acc ++ [y]) := by
  obtain ⟨t, rfl, l, a⟩ := h.ex
  refine ⟨t ++ [x], by rw [List.map_append, e]; rfl, by rw [List.length_append, l]; rfl, fun z hz => ?_⟩
  rcases List.mem_append.mp hz with q | q
  · exact a z q
  · rw [List.mem_singleton] at q; subst q; exact o
theorem RwI.len {α : Type} {f : α → V} {ok : α → Prop} {k : Nat} {acc : List V} (h : RwI f ok k acc) : acc.length = k := by
  obtain ⟨t, rfl, l, _⟩ := h.ex
  rw [List.length_map, l]
open UE
theorem isT_29 (i : Nat) : isT i 29 = decide (i < 26) := by unfold isT; rw [if_neg (by decide), if_pos rfl]
theorem isT_30 (i : Nat) : isT i 30 = (decide (10 ≤ i) && decide (i < 17)) := by unfold isT; rw [if_neg (by decide), if_neg (by decide), if_pos rfl]
theorem isT_31 (i : Nat) : isT i 31 = (decide (17 ≤ i) && decide (i < 20)) := by unfold isT; rw [if_neg (by decide), if_neg (by decide), if_neg (by decide), if_pos rfl]
theorem isT_32 (i : Nat) : isT i 32 = (decide (20 ≤ i) && decide (i < 26)) := by unfold isT; rw [if_neg (by decide), if_neg (by decide), if_neg (by decide), if_neg (by decide), if_pos rfl]
theorem isT_33 (i : Nat) : isT i 33 = decide (25 < i) := by unfold isT; rw [if_neg (by decide), if_neg (by decide), if_neg (by decide), if_neg (by decide), if_neg (by decide)]
theorem due_row (i : Nat) : [V.bl (decide (0 + (i : Int) < 26)), .bl (decide (0 + (i : Int) < 26)), .bl (decide (10 ≤ 0 + (i : Int)) && decide (0 + (i : Int) < 17)), .bl (decide (17 ≤ 0 + (i : Int)) && decide (0 + (i : Int) < 20)), .bl (decide (20 ≤ 0 + (i : Int)) && decide (0 + (i : Int) < 26)), .bl (decide (25 < 0 + (i : Int))), .bl (decide (25 < 0 + (i : Int)))] = [isT i 29, isT i 29, isT i 30, isT i 31, isT i 32, isT i 33, isT i 33].map V.bl := by
  have d1 : ∀ {p q : Prop} [Decidable p] [Decidable q], (p ↔ q) → decide p = decide q := fun h => decide_eq_decide.mpr h
  have n1 : decide (0 + (i : Int) < 26) = isT i 29 := by rw [isT_29]; exact d1 (by omega)
  have n2 : (decide (10 ≤ 0 + (i : Int)) && decide (0 + (i : Int) < 17)) = isT i 30 := by rw [isT_30, d1 (show 10 ≤ 0 + (i : Int) ↔ 10 ≤ i by omega), d1 (show 0 + (i : Int) < 17 ↔ i < 17 by omega)]
  have n3 : (decide (17 ≤ 0 + (i : Int)) && decide (0 + (i : Int) < 20)) = isT i 31 := by rw [isT_31, d1 (show 17 ≤ 0 + (i : Int) ↔ 17 ≤ i by omega), d1 (show 0 + (i : Int) < 20 ↔ i < 20 by omega)]
  have n4 : (decide (20 ≤ 0 + (i : Int)) && decide (0 + (i : Int) < 26)) = isT i 32 := by rw [isT_32, d1 (show 20 ≤ 0 + (i : Int) ↔ 20 ≤ i by omega), d1 (show 0 + (i : Int) < 26 ↔ i < 26 by omega)]
  have n5 : decide (25 < 0 + (i : Int)) = isT i 33 := by rw [isT_33]; exact d1 (by omega)
  rw [n2, n3, n4, n1, n5, List.map_cons, List.map_cons, List.map_cons, List.map_cons, List.map_cons, List.map_cons, List.map_cons, List.map_nil]
theorem mulok40 : MulOk ("x" : Str) 40 := by
  unfold MulOk
  decide +kernel
theorem choice_at {i : Int} (h0 : 0 ≤ i) (h1 : i < 6) : ∃ z : Str, atI [V.str "", V.str "p", V.str "no name", V.str (PySem.Txt.mul "x" 40), V.str "0", V.str "many"] i = some (.str z) ∧ z.length ≤ 1000 ∧ PySem.PyData.strOk z = true := by
  have : i = 0 ∨ i = 1 ∨ i = 2 ∨ i = 3 ∨ i = 4 ∨ i = 5 := by omega
  rcases this with rfl | rfl | rfl | rfl | rfl | rfl
  · exact ⟨_, rfl, by decide +kernel, by decide +kernel⟩
  · exact ⟨_, rfl, by decide +kernel, by decide +kernel⟩
  · exact ⟨_, rfl, by decide +kernel, by decide +kernel⟩
  · exact ⟨_, rfl, by decide +kernel, by decide +kernel⟩
  · exact ⟨_, rfl, by decide +kernel, by decide +kernel⟩
  · exact ⟨_, rfl, by decide +kernel, by decide +kernel⟩
/-! ### k50: the law -/
section
variable {P : Program} {w : World} {K : PySem.W.Frag} {mg : Str → Option Value} {base : Heap} {C : Nat → Addr}
theorem sc_law : FnScope ["_law_script", "_law_state", "_law_choice", "_law_words", "_law_count", "_law_place", "_law_kind", "_law_users", "_law_kept", "_law_errors", "_law_k", "_law_due", "_law_a", "_law_b", "_law_dues", "_law_j"] ["_law_script"] (defScope (top 42)) := ⟨rfl, rfl, rfl, by decide +kernel, rfl, by decide +kernel, by decide +kernel⟩
theorem st_law (v0 : V) : L2.start ["_law_script", "_law_state", "_law_choice", "_law_words", "_law_count", "_law_place", "_law_kind", "_law_users", "_law_kept", "_law_errors", "_law_k", "_law_due", "_law_a", "_law_b", "_law_dues", "_law_j"] [v0] = [some v0, none, none, none, none, none, none, none, none, none, none, none, none, none, none, none] := rfl
theorem ok_law {f : Addr} {fd : FuncData} (F : Fun K "law" "law" (top 42) f fd) (T : TxE K mg C) (c__law_draws : Cal P w K mg base CX0 1 "_law_draws" (spDraws K)) (c__law_draw : Cal P w K mg base CX0 1 "_law_draw" spDraw)
    (c__law_classes : Cal P w K mg base CX0 1 "_law_classes" (spLCls C)) (c__law_bases : Cal P w K mg base CX0 1 "_law_bases" (spLBas C)) (c__law_made : Cal P w K mg base CX0 3 "_law_made" (spMade C)) (c__law_fields : Cal P w K mg base CX0 1 "_law_fields" (spFields C)) :
    FnOk P w K mg base CX0 5 f fd ["_law_script"] (spLaw K) := by
  refine F.ok sc_law (fun vs H Q E h => ?_) (fun cdv A outer s H vs Q E hr h => ?_)
  · obtain ⟨a, ns, rfl, _⟩ := h
    rfl
  · obtain ⟨a, ns, rfl, hS, hlen, k⟩ := h
    refine ⟨_, (pss_cons (ps_set (i := 1) sc_law.nd rfl (Or.inr rfl) (pe_c c__law_draws hr (by decide) (by rfl) (pa_cons (pv 0) pa_nil)))
      (pss_cons (ps_set (i := 2) sc_law.nd rfl (Or.inl rfl) (pe_lst (pa_cons pe_str (pa_cons pe_str (pa_cons pe_str (pa_cons (pe_op UF.op_mulS pe_str pe_int) (pa_cons pe_str (pa_cons pe_str pa_nil))))))))
      (pss_cons (ps_set (i := 3) sc_law.nd rfl (Or.inl rfl) (pe_lst (pa_cons (pe_ix ix_list (pv 2) (pe_c c__law_draw hr (by decide) (by rfl) (pa_cons (pv 1) (pa_cons pe_int pa_nil))) (fun _ _ => rfl)) (pa_cons (pe_ix ix_list (pv 2) (pe_c c__law_draw hr (by decide) (by rfl) (pa_cons (pv 1) (pa_cons pe_int pa_nil))) (fun _ _ => rfl)) pa_nil))))
      (pss_cons (ps_set (i := 4) sc_law.nd rfl (Or.inl rfl) (pe_op op_sub (pe_c c__law_draw hr (by decide) (by rfl) (pa_cons (pv 1) (pa_cons (pe_op op_pow pe_int pe_int) pa_nil))) (pe_op op_mul (pe_c c__law_draw hr (by decide) (by rfl) (pa_cons (pv 1) (pa_cons pe_int pa_nil))) (pe_op op_pow pe_int pe_int))))
      (pss_cons (ps_set (i := 5) sc_law.nd rfl (Or.inl rfl) (pe_callTy call_tuple_of (by rfl) T.tuple (by decide +kernel) (pa_cons (pe_lc (own := [("_law_k", 10)]) (g := (gName 10)) (by rfl) sc_law.nd (pi_range1 (by rfl) T.range (pa_cons (pe_c c__law_draw hr (by decide) (by rfl) (pa_cons (pv 1) (pa_cons pe_int pa_nil))) pa_nil)) (blkOk_by (own := [("_law_k", 10)]) (N := ["_law_script", "_law_state", "_law_choice", "_law_words", "_law_count", "_law_place", "_law_kind", "_law_users", "_law_kept", "_law_errors", "_law_k", "_law_due", "_law_a", "_law_b", "_law_dues", "_law_j"]) (sc := defScope (top 42)) (by decide +kernel)) (fun _ _ _ _ _ => (pg_name (i := 10) sc_law.nd rfl (Or.inl rfl))) (fun _ _ _ _ _ => pts_nil) (fun _ _ _ _ _ => (pe_c c__law_draw hr (by decide) (by rfl) (pa_cons (pv 1) (pa_cons pe_int pa_nil))))) pa_nil)))
      (pss_cons (ps_set (i := 6) sc_law.nd rfl (Or.inl rfl) (pe_ix ix_list (pe_lst (pa_cons (pe_tup (pa_cons pe_str (pa_cons (pe_tup (pa_cons pe_str pa_nil)) (pa_cons (pe_tup (pa_cons pe_str pa_nil)) pa_nil)))) (pa_cons (pe_tup (pa_cons pe_str (pa_cons pe_str (pa_cons (pe_tup (pa_cons pe_str pa_nil)) pa_nil)))) pa_nil))) (pe_c c__law_draw hr (by decide) (by rfl) (pa_cons (pv 1) (pa_cons pe_int pa_nil))) (fun _ _ => rfl)))
      (pss_cons (ps_set (i := 7) sc_law.nd rfl (Or.inl rfl) (pe_slice sl_list (pe_lst (pa_cons pe_str (pa_cons pe_str pa_nil))) po_none (po_some (pe_c c__law_draw hr (by decide) (by rfl) (pa_cons (pv 1) (pa_cons pe_int pa_nil))))))
      (pss_cons (ps_set (i := 8) sc_law.nd rfl (Or.inl rfl) (pe_callTy (V.call_list K rfl) (by rfl) T.list (by decide +kernel) (pa_cons (pv 7) pa_nil)))
      (pss_cons (ps_set (i := 9) sc_law.nd rfl (Or.inl rfl) (pe_c c__law_made hr (by decide) (by rfl) (pa_cons (pv 3) (pa_cons (pv 4) (pa_cons (pv 5) (pa_cons (pv 6) (pa_cons (pv 7) pa_nil)))))))
      (pss_cons (ps_expr (pe_bm PySem.F.plainAttrs_list PySem.F.slot_list_append PySem.F.type_list_append mt_append (pv 7) (pa_cons pe_str pa_nil)))
      (pss_cons (ps_for PassesOwn.never rfl (pi_range1 (by rfl) T.range (pa_cons pe_int pa_nil)) (pg_name (i := 10) sc_law.nd rfl (Or.inr rfl)) (pss_cons (ps_if (pt_cmpR (op_neD hr.units) (pe_c c__law_classes hr (by decide) (by rfl) (pa_cons (pe_ix ix_list (pv 9) (pv 10) (fun _ _ => rfl)) pa_nil)) (pe_lc (own := [("_law_j", 15)]) (g := (gName 15)) (by rfl) sc_law.nd (pi_range1 (by rfl) T.range (pa_cons pe_int pa_nil)) (blkOk_by (own := [("_law_j", 15)]) (N := ["_law_script", "_law_state", "_law_choice", "_law_words", "_law_count", "_law_place", "_law_kind", "_law_users", "_law_kept", "_law_errors", "_law_k", "_law_due", "_law_a", "_law_b", "_law_dues", "_law_j"]) (sc := defScope (top 42)) (by decide +kernel)) (fun _ _ _ _ _ => (pg_name (i := 15) sc_law.nd rfl (Or.inl rfl))) (fun _ _ _ _ _ => pts_nil) (fun _ _ _ _ _ => (pe_cmpR op_eq (pv 15) (pv 10) (nomark _)))) (nomark _)) (pss_one (ps_ret pe_bl)) pss_nil)
      (pss_cons (ps_set (i := 11) sc_law.nd rfl (Or.inl rfl) (pe_lst (pa_cons (pe_cmpR op_lt (pv 10) pe_int (nomark _)) (pa_cons (pe_cmpR op_lt (pv 10) pe_int (nomark _)) (pa_cons (pe_chain op_le op_lt pe_int (pv 10) pe_int) (pa_cons (pe_chain op_le op_lt pe_int (pv 10) pe_int) (pa_cons (pe_chain op_le op_lt pe_int (pv 10) pe_int) (pa_cons (pe_cmpR op_gt (pv 10) pe_int (nomark _)) (pa_cons (pe_cmpR op_gt (pv 10) pe_int (nomark _)) pa_nil)))))))))
      (pss_one (ps_if (pt_cmpR (op_neD hr.units) (pe_c c__law_bases hr (by decide) (by rfl) (pa_cons (pe_ix ix_list (pv 9) (pv 10) (fun _ _ => rfl)) pa_nil)) (pv 11) (nomark _)) (pss_one (ps_ret pe_bl)) pss_nil)))))
      (pss_cons (ps_set (i := 12) sc_law.nd rfl (Or.inl rfl) (pe_ix ix_list (pv 3) pe_int (fun _ _ => rfl)))
      (pss_cons (ps_set (i := 13) sc_law.nd rfl (Or.inl rfl) (pe_ix ix_list (pv 3) pe_int (fun _ _ => rfl)))
      (pss_cons (ps_set (i := 14) sc_law.nd rfl (Or.inl rfl) (pe_lst (pa_cons (pv 4) (pa_cons (pv 12) (pa_cons (pv 13) (pa_cons pe_str (pa_cons (pv 4) (pa_cons (pv 5) (pa_cons (pv 4) (pa_cons (pv 4) (pa_cons pe_int (pa_cons (pe_tup (pa_cons pe_str pa_nil)) (pa_cons (pv 6) (pa_cons (pv 12) (pa_cons (pv 6) (pa_cons (pv 12) (pa_cons (pv 13) (pa_cons pe_str (pa_cons (pv 12) (pa_cons (pv 12) (pa_cons (pv 12) (pa_cons (pv 4) pa_nil))))))))))))))))))))))
      (pss_cons (ps_set (i := 14) sc_law.nd rfl (Or.inl rfl) (pe_op op_cat (pv 14) (pe_lst (pa_cons (pv 12) (pa_cons (pv 12) (pa_cons (pv 8) (pa_cons (pv 12) (pa_cons (pv 4) (pa_cons pe_int (pa_cons (pv 4) (pa_cons (pv 4) (pa_cons (pv 12) (pa_cons (pv 12) (pa_cons (pv 12) pa_nil))))))))))))))
      (pss_one (ps_ret (pe_cmpR (op_eqD hr.units) (pe_c c__law_fields hr (by decide) (by rfl) (pa_cons (pv 9) pa_nil)) (pv 14) (nomark _))))))))))))))))))), ?_⟩
    rw [st_law]
    have w00 := V.Hw.start (H := H)
    repeat walk_at "w"
    refine ⟨a, ns, rfl, hS, hlen, fun S0 T2 H0 _ _ st0 _ => ?_⟩
    have w0 := V.Hw.startD st0
    repeat walk_at "w"
    refine ⟨_, _, rfl, rfl, mulok40, ?_⟩
    repeat walk_at "w"
    intro ch H1 _ w1
    repeat walk_at "w"
    intro d0 H2 r0 r1 w2
    obtain ⟨sa, ha, la, oa⟩ := choice_at r0 r1
    repeat walk_at "w"
    intro d1 H3 s0 s1 w3
    obtain ⟨sb, hb, lb, ob⟩ := choice_at s0 s1
    repeat walk_at "w"
    intro W H4 nW w4'
    have w4 := w4'.sub (L := [(true, W, .lst [.str sa, .str sb])]) (.cons .nil)
    clear w4' w3 w2 w1 w00 w0
    repeat walk_at "w"
    intro c1 H5 c1a c1b w5
    repeat walk_at "w"
    intro c2 H6 c2a c2b w6
    repeat walk_at "w"
    generalize c1 - c2 * 10 ^ Int.toNat 30 = cnt
    clear w4 w5
    repeat walk_at "w"
    intro n0 H7 n0a n0b w7
    obtain ⟨n, rfl⟩ := Int.eq_ofNat_of_zero_le n0a
    repeat walk_at "w"
    refine V.lcRG (n := n) (fun i _ acc => RwI V.int (fun _ => True) i acc) w7 (by walk_at "wi") .nil ?_ ?_
    · intro i D Z1 H8 acc hi e1 q w8
      have ql := q.len
      repeat walk_at "w"
      refine ⟨rfl, ?_⟩
      repeat walk_at "w"
      intro r Hr r0 r1 wr
      exact V.w_accG wr (by walk_at "sub") e1 (by walk_at "szl") (q.snoc r rfl trivial)
    intro pD Z8 H8 acc e8 q8 w8
    obtain ⟨ps, rfl, lps, _⟩ := q8.ex
    refine ⟨pD, _, rfl, .inl ⟨SqL.of (w8.get .here), fun pl npl => ?_⟩⟩
    have w9' := w8.new (o := .tup (ps.map V.int)) npl
    generalize upd H8 pl (.tup (ps.map V.int)) = H9 at w9'
    obtain ⟨w9, e9, z9⟩ := (w9'.sub (L := [(true, pl, .tup (ps.map V.int)), (true, W, .lst [.str sa, .str sb])]) (.cons (.skip (.refl _)))).frz
    have eA := e8.trans e9
    generalize upd Z8 pl _ = ZA at w9 z9 eA
    clear w9' w8 w7 w6 e8 e9
    repeat walk_at "w"
    intro t1 G1 _ x1
    repeat walk_at "w"
    intro t2 G2 _ x2
    repeat walk_at "w"
    intro t3 G3 _ x3
    repeat walk_at "w"
    intro t4 G4 _ x4
    repeat walk_at "w"
    intro t5 G5 _ x5
    repeat walk_at "w"
    intro kl G6 _ x6
    obtain ⟨y1, g1, zl⟩ := x6.frz
    obtain ⟨y2, g2, z5⟩ := y1.frz
    obtain ⟨y3, g3, z4⟩ := y2.frz
    obtain ⟨y4, g4, z3⟩ := y3.frz
    obtain ⟨y5, g5, z2⟩ := y4.frz
    obtain ⟨y6, g6, z1⟩ := y5.frz
    have zl6 := g6 _ _ (g5 _ _ (g4 _ _ (g3 _ _ (g2 _ _ zl))))
    have z56 := g6 _ _ (g5 _ _ (g4 _ _ (g3 _ _ z5)))
    have z46 := g6 _ _ (g5 _ _ (g4 _ _ z4))
    have z36 := g6 _ _ (g5 _ _ z3)
    have z26 := g6 _ _ z2
    have zpl := g6 _ _ (g5 _ _ (g4 _ _ (g3 _ _ (g2 _ _ (g1 _ _ z9)))))
    have eB := eA.trans (g1.trans (g2.trans (g3.trans (g4.trans (g5.trans g6)))))
    generalize upd (upd (upd (upd (upd (upd ZA kl _) t5 _) t4 _) t3 _) t2 _) t1 _ = ZB at y6 zl6 z56 z46 z36 z26 z1 zpl eB
    clear zl z5 z4 z3 z2 y5 y4 y3 y2 y1 x6 x5 x4 x3 x2 x1 g1 g2 g3 g4 g5 g6 w9 z9 eA
    repeat walk_at "w"
    intro d2 G7 d2a d2b w10
    have kdx : ∃ (kd : V) (dkd : PyData), atI [V.ref t3, V.ref t5] d2 = some kd ∧ gd 2 dkd ∧ ∀ H', Same ZB H' → Dp K H' kd dkd := by
      have : d2 = 0 ∨ d2 = 1 := by omega
      rcases this with rfl | rfl
      · refine ⟨_, .tuple [.str "pair", .tuple [.str "int"], .tuple [.str "int"]], rfl, gd_tup (gda_cons (gd_str (by decide +kernel)) (gda_cons (gd_tup (gda_cons (gd_str (by decide +kernel)) gda_nil)) (gda_cons (gd_tup (gda_cons (gd_str (by decide +kernel)) gda_nil)) gda_nil))), fun H' e => ?_⟩
        exact .tup (SqT.of (e _ _ z36)) (.cons (.str _) (.cons (.tup (SqT.of (e _ _ z1)) (.cons (.str _) .nil)) (.cons (.tup (SqT.of (e _ _ z26)) (.cons (.str _) .nil)) .nil)))
      · refine ⟨_, .tuple [.str "box", .str "1", .tuple [.str "int"]], rfl, gd_tup (gda_cons (gd_str (by decide +kernel)) (gda_cons (gd_str (by decide +kernel)) (gda_cons (gd_tup (gda_cons (gd_str (by decide +kernel)) gda_nil)) gda_nil))), fun H' e => ?_⟩
        exact .tup (SqT.of (e _ _ z56)) (.cons (.str _) (.cons (.str _) (.cons (.tup (SqT.of (e _ _ z46)) (.cons (.str _) .nil)) .nil)))
    obtain ⟨kd, dkd, hkd, gkd, dpk⟩ := kdx
    clear y6 z56 z46 z36 z26 z1
    repeat walk_at "w"
    intro ub G8 _ w11
    repeat walk_at "w"
    intro d3 G9 d3a d3b w12
    repeat walk_at "w"
    intro U G10 _ w13'
    have w13 := w13'.sub (L := [(true, U, .lst (cutV [V.str "b", V.str "c0"] none (some d3))), (true, W, .lst [.str sa, .str sb])]) (.cons (.skip (.refl _)))
    have usx : ∃ us : List Str, cutV [V.str "b", V.str "c0"] none (some d3) = us.map V.str ∧ (∀ z ∈ us, PySem.PyData.strOk z = true) ∧ us.length ≤ 2 := by
      have : d3 = 0 ∨ d3 = 1 ∨ d3 = 2 := by omega
      rcases this with rfl | rfl | rfl
      · exact ⟨[], rfl, by decide +kernel, by decide⟩
      · exact ⟨["b"], rfl, by decide +kernel, by decide⟩
      · exact ⟨["b", "c0"], rfl, by decide +kernel, by decide⟩
    obtain ⟨us, eus, ous, lus⟩ := usx
    rw [eus] at w13
    clear w13' w12 w11 w10
    repeat walk_at "w"
    intro kp G11 _ w14'
    have w14k := w14'.sub (L := [(true, kp, .lst (us.map V.str)), (true, U, .lst (us.map V.str)), (true, W, .lst [.str sa, .str sb])]) (.refl _)
    obtain ⟨w14, e14, zkp⟩ := w14k.frz
    generalize upd ZB kp _ = ZC at w14 e14 zkp
    clear w14k w14' w13
    repeat walk_at "w"
    have hWw : G11 W = some (.lst [.str sa, .str sb]) := w14.get (.there .here)
    refine ⟨_, _, _, W, U, sa, sb, cnt, .ref pl, kd, us.map V.str, rfl, w14, hWw, .here, la, lb, fun el e t q ZD GD wD eD hel M => ?_⟩
    clear w14
    repeat walk_at "w"
    intro GE wE
    repeat walk_at "w"
    refine V.w_ir1 (n := 29) rfl (by decide) ?_
    refine for_range (n := 29) (fun i σ H' => ∃ x y, σ = [some (V.ref a), some (V.ref S0), some (V.ref ch), some (V.ref W), some (V.int cnt), some (V.ref pl), some kd,
          some (V.ref U), some (V.ref kp), some (V.ref el), x, y, none, none, none, none] ∧ V.Hw ZD (some (S0, T2)) H' [(true, W, HO.lst [V.str sa, V.str sb])]) ⟨_, _, rfl, wE.sub (.skip (.refl _))⟩ ?_ ?_
    · rintro i σ H1 hi ⟨x, y, rfl, w1⟩
      have ai : atI ((List.range 29).map fun i => V.ref (e i)) (0 + (i : Int)) = some (.ref (e i)) := at_of (Int.zero_add _) (by rw [List.getElem?_map, range_at hi]; rfl)
      repeat walk_at "w"
      refine ⟨e i, i, rfl, hi, (M.er i hi).same w1.fr, fun l1 H2 nl1 s1 hl1 => ?_⟩
      have w2 := w1.cellNew (w1.call s1) nl1 hl1
      repeat walk_at "w"
      refine V.w_ir1 (n := 29) rfl (by decide) ?_
      refine V.lcRW (n := 29) (fun j => ((List.range j).map fun (m : Nat) => decide ((m : Int) = (i : Int))).map V.bl) w2 (by walk_at "wi") rfl ?_ ?_
      · intro j D H3 hj w3
        repeat walk_at "w"
        refine ⟨rfl, ?_⟩
        repeat walk_at "w"
        exact V.w_acc w3 (by walk_at "sub") (by walk_at "szl") (by rw [Int.zero_add, Int.zero_add, List.range_succ, List.map_append, List.map_append]; rfl)
      intro D H3 w3
      repeat walk_at "w"
      have sh1 : gd 1 (.list (((List.range 29).map fun (m : Nat) => decide ((m : Int) = (i : Int))).map PyData.bool)) := gd_list (gda_map gd_bool _)
      refine ⟨_, _, dp_bools _ (SqL.of (w3.get (.there .here))), dp_bools _ (SqL.of (w3.get .here)), sh1.sh (by decide), sh1.sh (by decide), ?_⟩
      rw [SeqAt.eqv_refl _ sh1.1]
      have w4 := w3.sub (L := [(true, W, HO.lst [V.str sa, V.str sb])]) (.skip (.skip (.refl _)))
      clear w3 w2 w1 sh1
      repeat walk_at "w"
      refine V.w_chC rfl ?_
      repeat walk_at "w"
      refine V.w_chC rfl ?_
      repeat walk_at "w"
      refine V.w_chC rfl ?_
      repeat walk_at "w"
      intro dl H4 _ w5
      repeat walk_at "w"
      refine ⟨e i, i, rfl, hi, (M.er i hi).same w5.fr, fun l2 H5 nl2 s2 hl2 => ?_⟩
      have w6 := w5.cellNew (w5.call s2) nl2 hl2
      repeat walk_at "w"
      have ed := due_row i
      rw [ed] at w6
      clear ed w5
      have sh2 : gd 1 (.list ([isT i 29, isT i 29, isT i 30, isT i 31, isT i 32, isT i 33, isT i 33].map PyData.bool)) := gd_list (gda_map gd_bool _)
      refine ⟨_, _, dp_bools _ (SqL.of (w6.get .here)), dp_bools _ (SqL.of (w6.get (.there .here))), sh2.sh (by decide), sh2.sh (by decide), ?_⟩
      rw [SeqAt.eqv_refl _ sh2.1]
      have w7 := w6.sub (L := [(true, W, HO.lst [V.str sa, V.str sb])]) (.skip (.skip (.refl _)))
      repeat walk_at "w"
      exact ⟨_, _, rfl, w7⟩
    · rintro σ H1 ⟨x, y, rfl, w1⟩
      repeat walk_at "w"
      intro tt J1 _ v1
      repeat walk_at "w"
      intro dl J2 _ v2
      repeat walk_at "w"
      intro dl2 J3 _ v3
      repeat walk_at "w"
      intro dl3 J4 _ v4
      repeat walk_at "w"
      refine ⟨el, e, sa, sb, cnt, .ref pl, kd, us.map V.str, t, q, rfl, v4.fro hel, M.same v4.fr, fun l' J5 s5 hl' => ?_⟩
      have v5 := v4.call s5
      have P1 : Dp K J5 (.ref pl) (.tuple (ps.map PyData.int)) := .tup (SqT.of (v5.fro (eD _ _ (e14 _ _ zpl)))) (dpa_map (fun i => .int i) ps)
      have P2 : Dp K J5 kd dkd := dpk J5 (e14.trans (eD.trans v5.fr))
      have P3 : Dp K J5 (.ref t) (.tuple [.str "int"]) := .tup (SqT.of (v5.fro M.ht)) (.cons (.str _) .nil)
      have P4 : Dp K J5 (.ref q) (.list (us.map PyData.str)) := .lst (SqL.of (v5.fro M.hq)) (dpa_map (fun i => .str i) us)
      have P5 : Dp K J5 (.ref tt) (.tuple [.str "int"]) := .tup (SqT.of (v5.get (.there (.there (.there .here))))) (.cons (.str _) .nil)
      have P6 : Dp K J5 (.ref kp) (.list (us.map PyData.str)) := .lst (SqL.of (v5.fro (eD _ _ zkp))) (dpa_map (fun i => .str i) us)
      have g1 : gd 2 (.tuple (ps.map PyData.int)) := (gd_tup (n := 0) (gda_map gd_int _)).mono (by decide)
      have g3 : gd 2 (.tuple [.str "int"]) := (gd_tup (n := 0) (gda_cons (gd_str (by decide +kernel)) gda_nil)).mono (by decide)
      have g4 : gd 2 (.list (us.map PyData.str)) := by
        refine (gd_list (n := 0) ?_).mono (by decide)
        clear eus lus g1 g3 P1 P2 P3 P4 P5 P6 M wD hWw zkp v5 v4 v3 v2 v1 wE
        induction us with
        | nil => exact gda_nil
        | cons z us ih => exact gda_cons (gd_str (ous z List.mem_cons_self)) (ih fun y hy => ous y (List.mem_cons_of_mem _ hy))
      have gD : gd 3 (.list (fieldsD sa sb cnt (.tuple (ps.map PyData.int)) dkd (.tuple [.str "int"]) (.list (us.map PyData.str)))) := by
        refine gd_list ?_
        unfold fieldsD
        repeat (first | exact gda_nil | refine gda_cons (by first | exact gd_int _ | assumption | exact gd_str (by assumption) | exact gd_str (by decide +kernel)) ?_)
      have D1 : DpAll K J5 (fieldsV sa sb cnt (.ref pl) kd t q) (fieldsD sa sb cnt (.tuple (ps.map PyData.int)) dkd (.tuple [.str "int"]) (.list (us.map PyData.str))) := by
        unfold fieldsV fieldsD
        repeat (first | exact .nil | refine .cons (by first | exact .int _ | exact .str _ | assumption) ?_)
      have hd := v5.get .here
      repeat walk_at "w"
      refine ⟨_, _, Dp.lst (SqL.of hl') D1, Dp.lst (ds := fieldsD sa sb cnt (.tuple (ps.map PyData.int)) dkd (.tuple [.str "int"]) (.list (us.map PyData.str))) (SqL.of hd) ?_, gD.sh (by decide), gD.sh (by decide), ?_⟩
      · unfold fieldsD
        repeat (first | exact .nil | refine .cons (by first | exact .int _ | exact .str _ | assumption) ?_)
      rw [SeqAt.eqv_refl _ gD.1]
      exact k _
end
open UE
/-! ### k50: facts in one row -/
def kTabKit (K : PySem.W.Frag) (Cs : List Addr) : Bool := (List.range 29).all fun i => ((List.range 34).all fun j => decide (PySem.W.kitOne K (.ref (Cs.getD i 0)) (.ref (Cs.getD j 0)) = some (isT i j))) && (decide (PySem.W.kitOne K (.ref (Cs.getD i 0)) (.type "ValueError") = some (isT i 29)) && decide (PySem.W.kitOne K (.ref (Cs.getD i 0)) (.type "LookupError") = some (isT i 33)))
def erB (K : PySem.W.Frag) (C : Addr) : Bool := (PySem.W.clsIn K C).isSome && (decide (PySem.W.findIn K (.ref C) "__getattribute__" = some (some (.builtin "BaseException.__getattribute__"))) && (decide (PySem.W.findIn K (.ref C) "__getattr__" = some none) && (decide (PySem.W.subIn K (.ref C) (.type "BaseException") = some true) && (decide (PySem.W.findIn K (.ref C) "__class__" = some (some (.builtin "object.__class__"))) && (decide (PySem.W.mroIn K C (.type "object") = some true) && PySem.W.hasDictIn K C)))))
def kTabEr (K : PySem.W.Frag) (Cs : List Addr) : Bool := Cs.all (erB K)
def kTabNo (K : PySem.W.Frag) (r : List (Addr × Str)) : Bool := r.all fun p => decide (PySem.W.findIn K (.ref p.1) p.2 = some none)
theorem and2 {a b : Bool} (h : (a && b) = true) : a = true ∧ b = true := by simpa using h
theorem erB_i {K : PySem.W.Frag} {C : Addr} (h : erB K C = true) (cg : PySem.W.specialIn K (.builtin "object.__class__") "__get__" = some (some (.builtin "getset_descriptor.__get__"))) (ct : PySem.W.takesIn K (.builtin "object.__class__") = some true) : ExcI K C := by
  obtain ⟨h1, h⟩ := and2 h; obtain ⟨h2, h⟩ := and2 h; obtain ⟨h3, h⟩ := and2 h; obtain ⟨h4, h⟩ := and2 h; obtain ⟨h5, h⟩ := and2 h; obtain ⟨h6, h7⟩ := and2 h
  exact ⟨h1, of_decide_eq_true h2, of_decide_eq_true h3, of_decide_eq_true h4, of_decide_eq_true h5, cg, ct, of_decide_eq_true h6⟩
theorem erB_x {K : PySem.W.Frag} {C : Addr} (h : erB K C = true) : XfC K C := by
  obtain ⟨h1, h⟩ := and2 h; obtain ⟨h2, h⟩ := and2 h; obtain ⟨h3, h⟩ := and2 h; obtain ⟨h4, h⟩ := and2 h; obtain ⟨h5, h⟩ := and2 h; obtain ⟨h6, h7⟩ := and2 h
  exact ⟨of_decide_eq_true h2, of_decide_eq_true h3, of_decide_eq_true h4, h7⟩
theorem all_get {α : Type} {p : α → Bool} {l : List α} (h : l.all p = true) {i : Nat} (d : α) (hi : i < l.length) : p (l.getD i d) = true := by
  rw [List.getD_eq_getElem?_getD, List.getElem?_eq_getElem hi]
  exact List.all_eq_true.mp h _ (List.getElem_mem hi)
def oexT (K : PySem.W.Frag) (C : Addr) (newId : String) (bt : List Value) : Bool := PySem.W.excInitIn K C bt newId && (PySem.W.excOver K C bt && (PySem.W.hasDictIn K C && (decide (PySem.W.findIn K (.ref C) "__setattr__" = some (some (.builtin "object.__setattr__"))) && (decide (PySem.W.subIn K (.ref C) (.type "BaseException") = some true) && (decide (PySem.W.typeIn K (.ref C) = some (.type "type")) && PySem.W.keepIn K (.ref C))))))
def kTabOex (K : PySem.W.Frag) (newId : String) (bt : List Value) (Cs : List Addr) : Bool := Cs.all fun C => oexT K C newId bt
theorem oexT_of {K : PySem.W.Frag} {C : Addr} {B newId initId : String} {bt : List Value} (h : oexT K C newId bt = true) (SF : PySem.StoreFacts B bt "object.__setattr__" "object") (FB : ExcBaseFacts B newId initId bt) : OexB K C B newId initId bt := by
  obtain ⟨h1, h⟩ := and2 h; obtain ⟨h2, h⟩ := and2 h; obtain ⟨h3, h⟩ := and2 h; obtain ⟨h4, h⟩ := and2 h; obtain ⟨h5, h⟩ := and2 h; obtain ⟨h6, h7⟩ := and2 h
  exact ⟨SF, FB, h1, h2, h3, of_decide_eq_true h4, of_decide_eq_true h5, of_decide_eq_true h6, h7⟩
def kTabX0 (K : PySem.W.Frag) (Cs : List Addr) : Bool := Cs.all fun C => PySem.W.excIn K C btV "ValueError.__new__" && PySem.W.keepIn K (.ref C)
theorem all_mk {l : PySem.W.OpenLaw} {w : World} {K : PySem.W.Frag} {h : Heap} {mg : Str → Option Value} {fa : Addr} (X : K.In h) (G : h.Ns mainGlobals mg) (hfa : mg "law" = some (.ref fa))
    {C_BadScale : Addr}
    {C_EndlessScale : Addr}
    {C_MixedScales : Addr}
    {C_NegativeCount : Addr}
    {C_NoBound : Addr}
    {C_BadText : Addr}
    {C_NoRedex : Addr}
    {C_BadMap : Addr}
    {C_TooMany : Addr}
    {C_BadCode : Addr}
    {C_KindClash : Addr}
    {C_WrongForm : Addr}
    {C_Overuse : Addr}
    {C_NoTurns : Addr}
    {C_TwiceBound : Addr}
    {C_LooseGap : Addr}
    {C_GoneTerm : Addr}
    {C_OutOfMoves : Addr}
    {C_GoneReached : Addr}
    {C_NotDone : Addr}
    {C_Refused : Addr}
    {C_InUse : Addr}
    {C_BadName : Addr}
    {C_BadLimit : Addr}
    {C_WrongCount : Addr}
    {C_TooLarge : Addr}
    {C_UnknownGrade : Addr}
    {C_UnboundName : Addr}
    {C_Undefined : Addr}
    {C_UsescaleError : Addr}
    {C_CheckError : Addr}
    {C_RunError : Addr}
    {C_BookError : Addr}
    {C_NameMissing : Addr}
    {f_ei_NegativeCount_init : Addr} {oc_ei_NegativeCount_init kV_ei_NegativeCount_init dc_ei_NegativeCount_init pm_ei_NegativeCount_init cd_ei_NegativeCount_init ct_ei_NegativeCount_init : Value} {od_ei_NegativeCount_init an_ei_NegativeCount_init : Option Addr} {sl_ei_NegativeCount_init : Array (Option Value)}
    {f_ei_NoBound_init : Addr} {oc_ei_NoBound_init kV_ei_NoBound_init dc_ei_NoBound_init pm_ei_NoBound_init cd_ei_NoBound_init ct_ei_NoBound_init : Value} {od_ei_NoBound_init an_ei_NoBound_init : Option Addr} {sl_ei_NoBound_init : Array (Option Value)}
    {f_ei_BadText_init : Addr} {oc_ei_BadText_init kV_ei_BadText_init dc_ei_BadText_init pm_ei_BadText_init cd_ei_BadText_init ct_ei_BadText_init : Value} {od_ei_BadText_init an_ei_BadText_init : Option Addr} {sl_ei_BadText_init : Array (Option Value)}
    {f_ei_NoRedex_init : Addr} {oc_ei_NoRedex_init kV_ei_NoRedex_init dc_ei_NoRedex_init pm_ei_NoRedex_init cd_ei_NoRedex_init ct_ei_NoRedex_init : Value} {od_ei_NoRedex_init an_ei_NoRedex_init : Option Addr} {sl_ei_NoRedex_init : Array (Option Value)}
    {f_ei_TooMany_init : Addr} {oc_ei_TooMany_init kV_ei_TooMany_init dc_ei_TooMany_init pm_ei_TooMany_init cd_ei_TooMany_init ct_ei_TooMany_init : Value} {od_ei_TooMany_init an_ei_TooMany_init : Option Addr} {sl_ei_TooMany_init : Array (Option Value)}
    {f_ei_BadCode_init : Addr} {oc_ei_BadCode_init kV_ei_BadCode_init dc_ei_BadCode_init pm_ei_BadCode_init cd_ei_BadCode_init ct_ei_BadCode_init : Value} {od_ei_BadCode_init an_ei_BadCode_init : Option Addr} {sl_ei_BadCode_init : Array (Option Value)}
    {f_ei_KindClash_init : Addr} {oc_ei_KindClash_init kV_ei_KindClash_init dc_ei_KindClash_init pm_ei_KindClash_init cd_ei_KindClash_init ct_ei_KindClash_init : Value} {od_ei_KindClash_init an_ei_KindClash_init : Option Addr} {sl_ei_KindClash_init : Array (Option Value)}
    {f_ei_WrongForm_init : Addr} {oc_ei_WrongForm_init kV_ei_WrongForm_init dc_ei_WrongForm_init pm_ei_WrongForm_init cd_ei_WrongForm_init ct_ei_WrongForm_init : Value} {od_ei_WrongForm_init an_ei_WrongForm_init : Option Addr} {sl_ei_WrongForm_init : Array (Option Value)}
    {f_ei_Overuse_init : Addr} {oc_ei_Overuse_init kV_ei_Overuse_init dc_ei_Overuse_init pm_ei_Overuse_init cd_ei_Overuse_init ct_ei_Overuse_init : Value} {od_ei_Overuse_init an_ei_Overuse_init : Option Addr} {sl_ei_Overuse_init : Array (Option Value)}
    {f_ei_NoTurns_init : Addr} {oc_ei_NoTurns_init kV_ei_NoTurns_init dc_ei_NoTurns_init pm_ei_NoTurns_init cd_ei_NoTurns_init ct_ei_NoTurns_init : Value} {od_ei_NoTurns_init an_ei_NoTurns_init : Option Addr} {sl_ei_NoTurns_init : Array (Option Value)}
    {f_ei_TwiceBound_init : Addr} {oc_ei_TwiceBound_init kV_ei_TwiceBound_init dc_ei_TwiceBound_init pm_ei_TwiceBound_init cd_ei_TwiceBound_init ct_ei_TwiceBound_init : Value} {od_ei_TwiceBound_init an_ei_TwiceBound_init : Option Addr} {sl_ei_TwiceBound_init : Array (Option Value)}
    {f_ei_LooseGap_init : Addr} {oc_ei_LooseGap_init kV_ei_LooseGap_init dc_ei_LooseGap_init pm_ei_LooseGap_init cd_ei_LooseGap_init ct_ei_LooseGap_init : Value} {od_ei_LooseGap_init an_ei_LooseGap_init : Option Addr} {sl_ei_LooseGap_init : Array (Option Value)}
    {f_ei_OutOfMoves_init : Addr} {oc_ei_OutOfMoves_init kV_ei_OutOfMoves_init dc_ei_OutOfMoves_init pm_ei_OutOfMoves_init cd_ei_OutOfMoves_init ct_ei_OutOfMoves_init : Value} {od_ei_OutOfMoves_init an_ei_OutOfMoves_init : Option Addr} {sl_ei_OutOfMoves_init : Array (Option Value)}
    {f_ei_Refused_init : Addr} {oc_ei_Refused_init kV_ei_Refused_init dc_ei_Refused_init pm_ei_Refused_init cd_ei_Refused_init ct_ei_Refused_init : Value} {od_ei_Refused_init an_ei_Refused_init : Option Addr} {sl_ei_Refused_init : Array (Option Value)}
    {f_ei_InUse_init : Addr} {oc_ei_InUse_init kV_ei_InUse_init dc_ei_InUse_init pm_ei_InUse_init cd_ei_InUse_init ct_ei_InUse_init : Value} {od_ei_InUse_init an_ei_InUse_init : Option Addr} {sl_ei_InUse_init : Array (Option Value)}
    {f_ei_BadName_init : Addr} {oc_ei_BadName_init kV_ei_BadName_init dc_ei_BadName_init pm_ei_BadName_init cd_ei_BadName_init ct_ei_BadName_init : Value} {od_ei_BadName_init an_ei_BadName_init : Option Addr} {sl_ei_BadName_init : Array (Option Value)}
    {f_ei_BadLimit_init : Addr} {oc_ei_BadLimit_init kV_ei_BadLimit_init dc_ei_BadLimit_init pm_ei_BadLimit_init cd_ei_BadLimit_init ct_ei_BadLimit_init : Value} {od_ei_BadLimit_init an_ei_BadLimit_init : Option Addr} {sl_ei_BadLimit_init : Array (Option Value)}
    {f_ei_WrongCount_init : Addr} {oc_ei_WrongCount_init kV_ei_WrongCount_init dc_ei_WrongCount_init pm_ei_WrongCount_init cd_ei_WrongCount_init ct_ei_WrongCount_init : Value} {od_ei_WrongCount_init an_ei_WrongCount_init : Option Addr} {sl_ei_WrongCount_init : Array (Option Value)}
    {f_ei_TooLarge_init : Addr} {oc_ei_TooLarge_init kV_ei_TooLarge_init dc_ei_TooLarge_init pm_ei_TooLarge_init cd_ei_TooLarge_init ct_ei_TooLarge_init : Value} {od_ei_TooLarge_init an_ei_TooLarge_init : Option Addr} {sl_ei_TooLarge_init : Array (Option Value)}
    {f_ei_UnknownGrade_init : Addr} {oc_ei_UnknownGrade_init kV_ei_UnknownGrade_init dc_ei_UnknownGrade_init pm_ei_UnknownGrade_init cd_ei_UnknownGrade_init ct_ei_UnknownGrade_init : Value} {od_ei_UnknownGrade_init an_ei_UnknownGrade_init : Option Addr} {sl_ei_UnknownGrade_init : Array (Option Value)}
    {f_ei_UnboundName_init : Addr} {oc_ei_UnboundName_init kV_ei_UnboundName_init dc_ei_UnboundName_init pm_ei_UnboundName_init cd_ei_UnboundName_init ct_ei_UnboundName_init : Value} {od_ei_UnboundName_init an_ei_UnboundName_init : Option Addr} {sl_ei_UnboundName_init : Array (Option Value)}
    {f_ei_Undefined_init : Addr} {oc_ei_Undefined_init kV_ei_Undefined_init dc_ei_Undefined_init pm_ei_Undefined_init cd_ei_Undefined_init ct_ei_Undefined_init : Value} {od_ei_Undefined_init an_ei_Undefined_init : Option Addr} {sl_ei_Undefined_init : Array (Option Value)}
    {f__law_draws : Addr} {oc__law_draws kV__law_draws dc__law_draws pm__law_draws cd__law_draws ct__law_draws : Value} {od__law_draws an__law_draws : Option Addr} {sl__law_draws : Array (Option Value)}
    {f__law_draw : Addr} {oc__law_draw kV__law_draw dc__law_draw pm__law_draw cd__law_draw ct__law_draw : Value} {od__law_draw an__law_draw : Option Addr} {sl__law_draw : Array (Option Value)}
    {f__law_classes : Addr} {oc__law_classes kV__law_classes dc__law_classes pm__law_classes cd__law_classes ct__law_classes : Value} {od__law_classes an__law_classes : Option Addr} {sl__law_classes : Array (Option Value)}
    {f__law_bases : Addr} {oc__law_bases kV__law_bases dc__law_bases pm__law_bases cd__law_bases ct__law_bases : Value} {od__law_bases an__law_bases : Option Addr} {sl__law_bases : Array (Option Value)}
    {f__law_made : Addr} {oc__law_made kV__law_made dc__law_made pm__law_made cd__law_made ct__law_made : Value} {od__law_made an__law_made : Option Addr} {sl__law_made : Array (Option Value)}
    {f__law_fields : Addr} {oc__law_fields kV__law_fields dc__law_fields pm__law_fields cd__law_fields ct__law_fields : Value} {od__law_fields an__law_fields : Option Addr} {sl__law_fields : Array (Option Value)}
    {f_law : Addr} {oc_law kV_law dc_law pm_law cd_law ct_law : Value} {od_law an_law : Option Addr} {sl_law : Array (Option Value)}
    (aC_BadScale : PySem.W.nsIn K mainGlobals "BadScale" = some (some (.ref C_BadScale)))
    (aC_EndlessScale : PySem.W.nsIn K mainGlobals "EndlessScale" = some (some (.ref C_EndlessScale)))
    (aC_MixedScales : PySem.W.nsIn K mainGlobals "MixedScales" = some (some (.ref C_MixedScales)))
    (aC_NegativeCount : PySem.W.nsIn K mainGlobals "NegativeCount" = some (some (.ref C_NegativeCount)))
    (aC_NoBound : PySem.W.nsIn K mainGlobals "NoBound" = some (some (.ref C_NoBound)))
    (aC_BadText : PySem.W.nsIn K mainGlobals "BadText" = some (some (.ref C_BadText)))
    (aC_NoRedex : PySem.W.nsIn K mainGlobals "NoRedex" = some (some (.ref C_NoRedex)))
    (aC_BadMap : PySem.W.nsIn K mainGlobals "BadMap" = some (some (.ref C_BadMap)))
    (aC_TooMany : PySem.W.nsIn K mainGlobals "TooMany" = some (some (.ref C_TooMany)))
    (aC_BadCode : PySem.W.nsIn K mainGlobals "BadCode" = some (some (.ref C_BadCode)))
    (aC_KindClash : PySem.W.nsIn K mainGlobals "KindClash" = some (some (.ref C_KindClash)))
    (aC_WrongForm : PySem.W.nsIn K mainGlobals "WrongForm" = some (some (.ref C_WrongForm)))
    (aC_Overuse : PySem.W.nsIn K mainGlobals "Overuse" = some (some (.ref C_Overuse)))
    (aC_NoTurns : PySem.W.nsIn K mainGlobals "NoTurns" = some (some (.ref C_NoTurns)))
    (aC_TwiceBound : PySem.W.nsIn K mainGlobals "TwiceBound" = some (some (.ref C_TwiceBound)))
    (aC_LooseGap : PySem.W.nsIn K mainGlobals "LooseGap" = some (some (.ref C_LooseGap)))
    (aC_GoneTerm : PySem.W.nsIn K mainGlobals "GoneTerm" = some (some (.ref C_GoneTerm)))
    (aC_OutOfMoves : PySem.W.nsIn K mainGlobals "OutOfMoves" = some (some (.ref C_OutOfMoves)))
    (aC_GoneReached : PySem.W.nsIn K mainGlobals "GoneReached" = some (some (.ref C_GoneReached)))
    (aC_NotDone : PySem.W.nsIn K mainGlobals "NotDone" = some (some (.ref C_NotDone)))
    (aC_Refused : PySem.W.nsIn K mainGlobals "Refused" = some (some (.ref C_Refused)))
    (aC_InUse : PySem.W.nsIn K mainGlobals "InUse" = some (some (.ref C_InUse)))
    (aC_BadName : PySem.W.nsIn K mainGlobals "BadName" = some (some (.ref C_BadName)))
    (aC_BadLimit : PySem.W.nsIn K mainGlobals "BadLimit" = some (some (.ref C_BadLimit)))
    (aC_WrongCount : PySem.W.nsIn K mainGlobals "WrongCount" = some (some (.ref C_WrongCount)))
    (aC_TooLarge : PySem.W.nsIn K mainGlobals "TooLarge" = some (some (.ref C_TooLarge)))
    (aC_UnknownGrade : PySem.W.nsIn K mainGlobals "UnknownGrade" = some (some (.ref C_UnknownGrade)))
    (aC_UnboundName : PySem.W.nsIn K mainGlobals "UnboundName" = some (some (.ref C_UnboundName)))
    (aC_Undefined : PySem.W.nsIn K mainGlobals "Undefined" = some (some (.ref C_Undefined)))
    (aC_UsescaleError : PySem.W.nsIn K mainGlobals "UsescaleError" = some (some (.ref C_UsescaleError)))
    (aC_CheckError : PySem.W.nsIn K mainGlobals "CheckError" = some (some (.ref C_CheckError)))
    (aC_RunError : PySem.W.nsIn K mainGlobals "RunError" = some (some (.ref C_RunError)))
    (aC_BookError : PySem.W.nsIn K mainGlobals "BookError" = some (some (.ref C_BookError)))
    (aC_NameMissing : PySem.W.nsIn K mainGlobals "NameMissing" = some (some (.ref C_NameMissing)))
    (a_ei_NegativeCount_init : PySem.W.findIn K (.ref C_NegativeCount) "__init__" = some (some (.ref f_ei_NegativeCount_init)))
    (l_ei_NegativeCount_init : K.lookup f_ei_NegativeCount_init = some ⟨oc_ei_NegativeCount_init, od_ei_NegativeCount_init, .func (PySem.W.fnOf "__init__" "NegativeCount.__init__" (defArgs (inClass (top 5) 0)) (defBody (inClass (top 5) 0)) (defScope (inClass (top 5) 0)) .none kV_ei_NegativeCount_init dc_ei_NegativeCount_init pm_ei_NegativeCount_init an_ei_NegativeCount_init cd_ei_NegativeCount_init ct_ei_NegativeCount_init), sl_ei_NegativeCount_init⟩)
    (c_ei_NegativeCount_init : PySem.W.codeIn K cd_ei_NegativeCount_init "NegativeCount.__init__" = true)
    (k_ei_NegativeCount_init : PySem.W.keepIn K (.ref f_ei_NegativeCount_init) = true)
    (ty_ei_NegativeCount_init : PySem.W.typeIn K (.ref f_ei_NegativeCount_init) = some (.type "function"))
    (a_ei_NoBound_init : PySem.W.findIn K (.ref C_NoBound) "__init__" = some (some (.ref f_ei_NoBound_init)))
    (l_ei_NoBound_init : K.lookup f_ei_NoBound_init = some ⟨oc_ei_NoBound_init, od_ei_NoBound_init, .func (PySem.W.fnOf "__init__" "NoBound.__init__" (defArgs (inClass (top 6) 0)) (defBody (inClass (top 6) 0)) (defScope (inClass (top 6) 0)) .none kV_ei_NoBound_init dc_ei_NoBound_init pm_ei_NoBound_init an_ei_NoBound_init cd_ei_NoBound_init ct_ei_NoBound_init), sl_ei_NoBound_init⟩)
    (c_ei_NoBound_init : PySem.W.codeIn K cd_ei_NoBound_init "NoBound.__init__" = true)
    (k_ei_NoBound_init : PySem.W.keepIn K (.ref f_ei_NoBound_init) = true)
    (ty_ei_NoBound_init : PySem.W.typeIn K (.ref f_ei_NoBound_init) = some (.type "function"))
    (a_ei_BadText_init : PySem.W.findIn K (.ref C_BadText) "__init__" = some (some (.ref f_ei_BadText_init)))
    (l_ei_BadText_init : K.lookup f_ei_BadText_init = some ⟨oc_ei_BadText_init, od_ei_BadText_init, .func (PySem.W.fnOf "__init__" "BadText.__init__" (defArgs (inClass (top 7) 0)) (defBody (inClass (top 7) 0)) (defScope (inClass (top 7) 0)) .none kV_ei_BadText_init dc_ei_BadText_init pm_ei_BadText_init an_ei_BadText_init cd_ei_BadText_init ct_ei_BadText_init), sl_ei_BadText_init⟩)
    (c_ei_BadText_init : PySem.W.codeIn K cd_ei_BadText_init "BadText.__init__" = true)
    (k_ei_BadText_init : PySem.W.keepIn K (.ref f_ei_BadText_init) = true)
    (ty_ei_BadText_init : PySem.W.typeIn K (.ref f_ei_BadText_init) = some (.type "function"))
    (a_ei_NoRedex_init : PySem.W.findIn K (.ref C_NoRedex) "__init__" = some (some (.ref f_ei_NoRedex_init)))
    (l_ei_NoRedex_init : K.lookup f_ei_NoRedex_init = some ⟨oc_ei_NoRedex_init, od_ei_NoRedex_init, .func (PySem.W.fnOf "__init__" "NoRedex.__init__" (defArgs (inClass (top 8) 0)) (defBody (inClass (top 8) 0)) (defScope (inClass (top 8) 0)) .none kV_ei_NoRedex_init dc_ei_NoRedex_init pm_ei_NoRedex_init an_ei_NoRedex_init cd_ei_NoRedex_init ct_ei_NoRedex_init), sl_ei_NoRedex_init⟩)
    (c_ei_NoRedex_init : PySem.W.codeIn K cd_ei_NoRedex_init "NoRedex.__init__" = true)
    (k_ei_NoRedex_init : PySem.W.keepIn K (.ref f_ei_NoRedex_init) = true)
    (ty_ei_NoRedex_init : PySem.W.typeIn K (.ref f_ei_NoRedex_init) = some (.type "function"))
    (a_ei_TooMany_init : PySem.W.findIn K (.ref C_TooMany) "__init__" = some (some (.ref f_ei_TooMany_init)))
    (l_ei_TooMany_init : K.lookup f_ei_TooMany_init = some ⟨oc_ei_TooMany_init, od_ei_TooMany_init, .func (PySem.W.fnOf "__init__" "TooMany.__init__" (defArgs (inClass (top 10) 0)) (defBody (inClass (top 10) 0)) (defScope (inClass (top 10) 0)) .none kV_ei_TooMany_init dc_ei_TooMany_init pm_ei_TooMany_init an_ei_TooMany_init cd_ei_TooMany_init ct_ei_TooMany_init), sl_ei_TooMany_init⟩)
    (c_ei_TooMany_init : PySem.W.codeIn K cd_ei_TooMany_init "TooMany.__init__" = true)
    (k_ei_TooMany_init : PySem.W.keepIn K (.ref f_ei_TooMany_init) = true)
    (ty_ei_TooMany_init : PySem.W.typeIn K (.ref f_ei_TooMany_init) = some (.type "function"))
    (a_ei_BadCode_init : PySem.W.findIn K (.ref C_BadCode) "__init__" = some (some (.ref f_ei_BadCode_init)))
    (l_ei_BadCode_init : K.lookup f_ei_BadCode_init = some ⟨oc_ei_BadCode_init, od_ei_BadCode_init, .func (PySem.W.fnOf "__init__" "BadCode.__init__" (defArgs (inClass (top 11) 0)) (defBody (inClass (top 11) 0)) (defScope (inClass (top 11) 0)) .none kV_ei_BadCode_init dc_ei_BadCode_init pm_ei_BadCode_init an_ei_BadCode_init cd_ei_BadCode_init ct_ei_BadCode_init), sl_ei_BadCode_init⟩)
    (c_ei_BadCode_init : PySem.W.codeIn K cd_ei_BadCode_init "BadCode.__init__" = true)
    (k_ei_BadCode_init : PySem.W.keepIn K (.ref f_ei_BadCode_init) = true)
    (ty_ei_BadCode_init : PySem.W.typeIn K (.ref f_ei_BadCode_init) = some (.type "function"))
    (a_ei_KindClash_init : PySem.W.findIn K (.ref C_KindClash) "__init__" = some (some (.ref f_ei_KindClash_init)))
    (l_ei_KindClash_init : K.lookup f_ei_KindClash_init = some ⟨oc_ei_KindClash_init, od_ei_KindClash_init, .func (PySem.W.fnOf "__init__" "KindClash.__init__" (defArgs (inClass (top 13) 0)) (defBody (inClass (top 13) 0)) (defScope (inClass (top 13) 0)) .none kV_ei_KindClash_init dc_ei_KindClash_init pm_ei_KindClash_init an_ei_KindClash_init cd_ei_KindClash_init ct_ei_KindClash_init), sl_ei_KindClash_init⟩)
    (c_ei_KindClash_init : PySem.W.codeIn K cd_ei_KindClash_init "KindClash.__init__" = true)
    (k_ei_KindClash_init : PySem.W.keepIn K (.ref f_ei_KindClash_init) = true)
    (ty_ei_KindClash_init : PySem.W.typeIn K (.ref f_ei_KindClash_init) = some (.type "function"))
    (a_ei_WrongForm_init : PySem.W.findIn K (.ref C_WrongForm) "__init__" = some (some (.ref f_ei_WrongForm_init)))
    (l_ei_WrongForm_init : K.lookup f_ei_WrongForm_init = some ⟨oc_ei_WrongForm_init, od_ei_WrongForm_init, .func (PySem.W.fnOf "__init__" "WrongForm.__init__" (defArgs (inClass (top 14) 0)) (defBody (inClass (top 14) 0)) (defScope (inClass (top 14) 0)) .none kV_ei_WrongForm_init dc_ei_WrongForm_init pm_ei_WrongForm_init an_ei_WrongForm_init cd_ei_WrongForm_init ct_ei_WrongForm_init), sl_ei_WrongForm_init⟩)
    (c_ei_WrongForm_init : PySem.W.codeIn K cd_ei_WrongForm_init "WrongForm.__init__" = true)
    (k_ei_WrongForm_init : PySem.W.keepIn K (.ref f_ei_WrongForm_init) = true)
    (ty_ei_WrongForm_init : PySem.W.typeIn K (.ref f_ei_WrongForm_init) = some (.type "function"))
    (a_ei_Overuse_init : PySem.W.findIn K (.ref C_Overuse) "__init__" = some (some (.ref f_ei_Overuse_init)))
    (l_ei_Overuse_init : K.lookup f_ei_Overuse_init = some ⟨oc_ei_Overuse_init, od_ei_Overuse_init, .func (PySem.W.fnOf "__init__" "Overuse.__init__" (defArgs (inClass (top 15) 0)) (defBody (inClass (top 15) 0)) (defScope (inClass (top 15) 0)) .none kV_ei_Overuse_init dc_ei_Overuse_init pm_ei_Overuse_init an_ei_Overuse_init cd_ei_Overuse_init ct_ei_Overuse_init), sl_ei_Overuse_init⟩)
    (c_ei_Overuse_init : PySem.W.codeIn K cd_ei_Overuse_init "Overuse.__init__" = true)
    (k_ei_Overuse_init : PySem.W.keepIn K (.ref f_ei_Overuse_init) = true)
    (ty_ei_Overuse_init : PySem.W.typeIn K (.ref f_ei_Overuse_init) = some (.type "function"))
    (a_ei_NoTurns_init : PySem.W.findIn K (.ref C_NoTurns) "__init__" = some (some (.ref f_ei_NoTurns_init)))
    (l_ei_NoTurns_init : K.lookup f_ei_NoTurns_init = some ⟨oc_ei_NoTurns_init, od_ei_NoTurns_init, .func (PySem.W.fnOf "__init__" "NoTurns.__init__" (defArgs (inClass (top 16) 0)) (defBody (inClass (top 16) 0)) (defScope (inClass (top 16) 0)) .none kV_ei_NoTurns_init dc_ei_NoTurns_init pm_ei_NoTurns_init an_ei_NoTurns_init cd_ei_NoTurns_init ct_ei_NoTurns_init), sl_ei_NoTurns_init⟩)
    (c_ei_NoTurns_init : PySem.W.codeIn K cd_ei_NoTurns_init "NoTurns.__init__" = true)
    (k_ei_NoTurns_init : PySem.W.keepIn K (.ref f_ei_NoTurns_init) = true)
    (ty_ei_NoTurns_init : PySem.W.typeIn K (.ref f_ei_NoTurns_init) = some (.type "function"))
    (a_ei_TwiceBound_init : PySem.W.findIn K (.ref C_TwiceBound) "__init__" = some (some (.ref f_ei_TwiceBound_init)))
    (l_ei_TwiceBound_init : K.lookup f_ei_TwiceBound_init = some ⟨oc_ei_TwiceBound_init, od_ei_TwiceBound_init, .func (PySem.W.fnOf "__init__" "TwiceBound.__init__" (defArgs (inClass (top 17) 0)) (defBody (inClass (top 17) 0)) (defScope (inClass (top 17) 0)) .none kV_ei_TwiceBound_init dc_ei_TwiceBound_init pm_ei_TwiceBound_init an_ei_TwiceBound_init cd_ei_TwiceBound_init ct_ei_TwiceBound_init), sl_ei_TwiceBound_init⟩)
    (c_ei_TwiceBound_init : PySem.W.codeIn K cd_ei_TwiceBound_init "TwiceBound.__init__" = true)
    (k_ei_TwiceBound_init : PySem.W.keepIn K (.ref f_ei_TwiceBound_init) = true)
    (ty_ei_TwiceBound_init : PySem.W.typeIn K (.ref f_ei_TwiceBound_init) = some (.type "function"))
    (a_ei_LooseGap_init : PySem.W.findIn K (.ref C_LooseGap) "__init__" = some (some (.ref f_ei_LooseGap_init)))
    (l_ei_LooseGap_init : K.lookup f_ei_LooseGap_init = some ⟨oc_ei_LooseGap_init, od_ei_LooseGap_init, .func (PySem.W.fnOf "__init__" "LooseGap.__init__" (defArgs (inClass (top 18) 0)) (defBody (inClass (top 18) 0)) (defScope (inClass (top 18) 0)) .none kV_ei_LooseGap_init dc_ei_LooseGap_init pm_ei_LooseGap_init an_ei_LooseGap_init cd_ei_LooseGap_init ct_ei_LooseGap_init), sl_ei_LooseGap_init⟩)
    (c_ei_LooseGap_init : PySem.W.codeIn K cd_ei_LooseGap_init "LooseGap.__init__" = true)
    (k_ei_LooseGap_init : PySem.W.keepIn K (.ref f_ei_LooseGap_init) = true)
    (ty_ei_LooseGap_init : PySem.W.typeIn K (.ref f_ei_LooseGap_init) = some (.type "function"))
    (a_ei_OutOfMoves_init : PySem.W.findIn K (.ref C_OutOfMoves) "__init__" = some (some (.ref f_ei_OutOfMoves_init)))
    (l_ei_OutOfMoves_init : K.lookup f_ei_OutOfMoves_init = some ⟨oc_ei_OutOfMoves_init, od_ei_OutOfMoves_init, .func (PySem.W.fnOf "__init__" "OutOfMoves.__init__" (defArgs (inClass (top 21) 0)) (defBody (inClass (top 21) 0)) (defScope (inClass (top 21) 0)) .none kV_ei_OutOfMoves_init dc_ei_OutOfMoves_init pm_ei_OutOfMoves_init an_ei_OutOfMoves_init cd_ei_OutOfMoves_init ct_ei_OutOfMoves_init), sl_ei_OutOfMoves_init⟩)
    (c_ei_OutOfMoves_init : PySem.W.codeIn K cd_ei_OutOfMoves_init "OutOfMoves.__init__" = true)
    (k_ei_OutOfMoves_init : PySem.W.keepIn K (.ref f_ei_OutOfMoves_init) = true)
    (ty_ei_OutOfMoves_init : PySem.W.typeIn K (.ref f_ei_OutOfMoves_init) = some (.type "function"))
    (a_ei_Refused_init : PySem.W.findIn K (.ref C_Refused) "__init__" = some (some (.ref f_ei_Refused_init)))
    (l_ei_Refused_init : K.lookup f_ei_Refused_init = some ⟨oc_ei_Refused_init, od_ei_Refused_init, .func (PySem.W.fnOf "__init__" "Refused.__init__" (defArgs (inClass (top 25) 0)) (defBody (inClass (top 25) 0)) (defScope (inClass (top 25) 0)) .none kV_ei_Refused_init dc_ei_Refused_init pm_ei_Refused_init an_ei_Refused_init cd_ei_Refused_init ct_ei_Refused_init), sl_ei_Refused_init⟩)
    (c_ei_Refused_init : PySem.W.codeIn K cd_ei_Refused_init "Refused.__init__" = true)
    (k_ei_Refused_init : PySem.W.keepIn K (.ref f_ei_Refused_init) = true)
    (ty_ei_Refused_init : PySem.W.typeIn K (.ref f_ei_Refused_init) = some (.type "function"))
    (a_ei_InUse_init : PySem.W.findIn K (.ref C_InUse) "__init__" = some (some (.ref f_ei_InUse_init)))
    (l_ei_InUse_init : K.lookup f_ei_InUse_init = some ⟨oc_ei_InUse_init, od_ei_InUse_init, .func (PySem.W.fnOf "__init__" "InUse.__init__" (defArgs (inClass (top 26) 0)) (defBody (inClass (top 26) 0)) (defScope (inClass (top 26) 0)) .none kV_ei_InUse_init dc_ei_InUse_init pm_ei_InUse_init an_ei_InUse_init cd_ei_InUse_init ct_ei_InUse_init), sl_ei_InUse_init⟩)
    (c_ei_InUse_init : PySem.W.codeIn K cd_ei_InUse_init "InUse.__init__" = true)
    (k_ei_InUse_init : PySem.W.keepIn K (.ref f_ei_InUse_init) = true)
    (ty_ei_InUse_init : PySem.W.typeIn K (.ref f_ei_InUse_init) = some (.type "function"))
    (a_ei_BadName_init : PySem.W.findIn K (.ref C_BadName) "__init__" = some (some (.ref f_ei_BadName_init)))
    (l_ei_BadName_init : K.lookup f_ei_BadName_init = some ⟨oc_ei_BadName_init, od_ei_BadName_init, .func (PySem.W.fnOf "__init__" "BadName.__init__" (defArgs (inClass (top 27) 0)) (defBody (inClass (top 27) 0)) (defScope (inClass (top 27) 0)) .none kV_ei_BadName_init dc_ei_BadName_init pm_ei_BadName_init an_ei_BadName_init cd_ei_BadName_init ct_ei_BadName_init), sl_ei_BadName_init⟩)
    (c_ei_BadName_init : PySem.W.codeIn K cd_ei_BadName_init "BadName.__init__" = true)
    (k_ei_BadName_init : PySem.W.keepIn K (.ref f_ei_BadName_init) = true)
    (ty_ei_BadName_init : PySem.W.typeIn K (.ref f_ei_BadName_init) = some (.type "function"))
    (a_ei_BadLimit_init : PySem.W.findIn K (.ref C_BadLimit) "__init__" = some (some (.ref f_ei_BadLimit_init)))
    (l_ei_BadLimit_init : K.lookup f_ei_BadLimit_init = some ⟨oc_ei_BadLimit_init, od_ei_BadLimit_init, .func (PySem.W.fnOf "__init__" "BadLimit.__init__" (defArgs (inClass (top 28) 0)) (defBody (inClass (top 28) 0)) (defScope (inClass (top 28) 0)) .none kV_ei_BadLimit_init dc_ei_BadLimit_init pm_ei_BadLimit_init an_ei_BadLimit_init cd_ei_BadLimit_init ct_ei_BadLimit_init), sl_ei_BadLimit_init⟩)
    (c_ei_BadLimit_init : PySem.W.codeIn K cd_ei_BadLimit_init "BadLimit.__init__" = true)
    (k_ei_BadLimit_init : PySem.W.keepIn K (.ref f_ei_BadLimit_init) = true)
    (ty_ei_BadLimit_init : PySem.W.typeIn K (.ref f_ei_BadLimit_init) = some (.type "function"))
    (a_ei_WrongCount_init : PySem.W.findIn K (.ref C_WrongCount) "__init__" = some (some (.ref f_ei_WrongCount_init)))
    (l_ei_WrongCount_init : K.lookup f_ei_WrongCount_init = some ⟨oc_ei_WrongCount_init, od_ei_WrongCount_init, .func (PySem.W.fnOf "__init__" "WrongCount.__init__" (defArgs (inClass (top 29) 0)) (defBody (inClass (top 29) 0)) (defScope (inClass (top 29) 0)) .none kV_ei_WrongCount_init dc_ei_WrongCount_init pm_ei_WrongCount_init an_ei_WrongCount_init cd_ei_WrongCount_init ct_ei_WrongCount_init), sl_ei_WrongCount_init⟩)
    (c_ei_WrongCount_init : PySem.W.codeIn K cd_ei_WrongCount_init "WrongCount.__init__" = true)
    (k_ei_WrongCount_init : PySem.W.keepIn K (.ref f_ei_WrongCount_init) = true)
    (ty_ei_WrongCount_init : PySem.W.typeIn K (.ref f_ei_WrongCount_init) = some (.type "function"))
    (a_ei_TooLarge_init : PySem.W.findIn K (.ref C_TooLarge) "__init__" = some (some (.ref f_ei_TooLarge_init)))
    (l_ei_TooLarge_init : K.lookup f_ei_TooLarge_init = some ⟨oc_ei_TooLarge_init, od_ei_TooLarge_init, .func (PySem.W.fnOf "__init__" "TooLarge.__init__" (defArgs (inClass (top 30) 0)) (defBody (inClass (top 30) 0)) (defScope (inClass (top 30) 0)) .none kV_ei_TooLarge_init dc_ei_TooLarge_init pm_ei_TooLarge_init an_ei_TooLarge_init cd_ei_TooLarge_init ct_ei_TooLarge_init), sl_ei_TooLarge_init⟩)
    (c_ei_TooLarge_init : PySem.W.codeIn K cd_ei_TooLarge_init "TooLarge.__init__" = true)
    (k_ei_TooLarge_init : PySem.W.keepIn K (.ref f_ei_TooLarge_init) = true)
    (ty_ei_TooLarge_init : PySem.W.typeIn K (.ref f_ei_TooLarge_init) = some (.type "function"))
    (a_ei_UnknownGrade_init : PySem.W.findIn K (.ref C_UnknownGrade) "__init__" = some (some (.ref f_ei_UnknownGrade_init)))
    (l_ei_UnknownGrade_init : K.lookup f_ei_UnknownGrade_init = some ⟨oc_ei_UnknownGrade_init, od_ei_UnknownGrade_init, .func (PySem.W.fnOf "__init__" "UnknownGrade.__init__" (defArgs (inClass (top 32) 0)) (defBody (inClass (top 32) 0)) (defScope (inClass (top 32) 0)) .none kV_ei_UnknownGrade_init dc_ei_UnknownGrade_init pm_ei_UnknownGrade_init an_ei_UnknownGrade_init cd_ei_UnknownGrade_init ct_ei_UnknownGrade_init), sl_ei_UnknownGrade_init⟩)
    (c_ei_UnknownGrade_init : PySem.W.codeIn K cd_ei_UnknownGrade_init "UnknownGrade.__init__" = true)
    (k_ei_UnknownGrade_init : PySem.W.keepIn K (.ref f_ei_UnknownGrade_init) = true)
    (ty_ei_UnknownGrade_init : PySem.W.typeIn K (.ref f_ei_UnknownGrade_init) = some (.type "function"))
    (a_ei_UnboundName_init : PySem.W.findIn K (.ref C_UnboundName) "__init__" = some (some (.ref f_ei_UnboundName_init)))
    (l_ei_UnboundName_init : K.lookup f_ei_UnboundName_init = some ⟨oc_ei_UnboundName_init, od_ei_UnboundName_init, .func (PySem.W.fnOf "__init__" "UnboundName.__init__" (defArgs (inClass (top 33) 0)) (defBody (inClass (top 33) 0)) (defScope (inClass (top 33) 0)) .none kV_ei_UnboundName_init dc_ei_UnboundName_init pm_ei_UnboundName_init an_ei_UnboundName_init cd_ei_UnboundName_init ct_ei_UnboundName_init), sl_ei_UnboundName_init⟩)
    (c_ei_UnboundName_init : PySem.W.codeIn K cd_ei_UnboundName_init "UnboundName.__init__" = true)
    (k_ei_UnboundName_init : PySem.W.keepIn K (.ref f_ei_UnboundName_init) = true)
    (ty_ei_UnboundName_init : PySem.W.typeIn K (.ref f_ei_UnboundName_init) = some (.type "function"))
    (a_ei_Undefined_init : PySem.W.findIn K (.ref C_Undefined) "__init__" = some (some (.ref f_ei_Undefined_init)))
    (l_ei_Undefined_init : K.lookup f_ei_Undefined_init = some ⟨oc_ei_Undefined_init, od_ei_Undefined_init, .func (PySem.W.fnOf "__init__" "Undefined.__init__" (defArgs (inClass (top 34) 0)) (defBody (inClass (top 34) 0)) (defScope (inClass (top 34) 0)) .none kV_ei_Undefined_init dc_ei_Undefined_init pm_ei_Undefined_init an_ei_Undefined_init cd_ei_Undefined_init ct_ei_Undefined_init), sl_ei_Undefined_init⟩)
    (c_ei_Undefined_init : PySem.W.codeIn K cd_ei_Undefined_init "Undefined.__init__" = true)
    (k_ei_Undefined_init : PySem.W.keepIn K (.ref f_ei_Undefined_init) = true)
    (ty_ei_Undefined_init : PySem.W.typeIn K (.ref f_ei_Undefined_init) = some (.type "function"))
    (rd_bi_UsescaleError : PySem.W.readsIn K C_UsescaleError (.type "type") = true)
    (ga_bi_UsescaleError : PySem.W.specialIn K (.ref C_UsescaleError) "__getattribute__" = some (some (.builtin "type.__getattribute__")))
    (a_bi_UsescaleError : PySem.W.findCls K (.ref C_UsescaleError) (.type "type") "__init__" = some (.val (.builtin "ValueError.__init__")))
    (rd_bi_CheckError : PySem.W.readsIn K C_CheckError (.type "type") = true)
    (ga_bi_CheckError : PySem.W.specialIn K (.ref C_CheckError) "__getattribute__" = some (some (.builtin "type.__getattribute__")))
    (a_bi_CheckError : PySem.W.findCls K (.ref C_CheckError) (.type "type") "__init__" = some (.val (.builtin "ValueError.__init__")))
    (rd_bi_RunError : PySem.W.readsIn K C_RunError (.type "type") = true)
    (ga_bi_RunError : PySem.W.specialIn K (.ref C_RunError) "__getattribute__" = some (some (.builtin "type.__getattribute__")))
    (a_bi_RunError : PySem.W.findCls K (.ref C_RunError) (.type "type") "__init__" = some (.val (.builtin "ValueError.__init__")))
    (rd_bi_BookError : PySem.W.readsIn K C_BookError (.type "type") = true)
    (ga_bi_BookError : PySem.W.specialIn K (.ref C_BookError) "__getattribute__" = some (some (.builtin "type.__getattribute__")))
    (a_bi_BookError : PySem.W.findCls K (.ref C_BookError) (.type "type") "__init__" = some (.val (.builtin "ValueError.__init__")))
    (rd_bi_NameMissing : PySem.W.readsIn K C_NameMissing (.type "type") = true)
    (ga_bi_NameMissing : PySem.W.specialIn K (.ref C_NameMissing) "__getattribute__" = some (some (.builtin "type.__getattribute__")))
    (a_bi_NameMissing : PySem.W.findCls K (.ref C_NameMissing) (.type "type") "__init__" = some (.val (.builtin "LookupError.__init__")))
    (a__law_draws : PySem.W.nsIn K mainGlobals "_law_draws" = some (some (.ref f__law_draws)))
    (l__law_draws : K.lookup f__law_draws = some ⟨oc__law_draws, od__law_draws, .func (PySem.W.fnOf "_law_draws" "_law_draws" (defArgs (top 36)) (defBody (top 36)) (defScope (top 36)) .none kV__law_draws dc__law_draws pm__law_draws an__law_draws cd__law_draws ct__law_draws), sl__law_draws⟩)
    (c__law_draws : PySem.W.codeIn K cd__law_draws "_law_draws" = true)
    (k__law_draws : PySem.W.keepIn K (.ref f__law_draws) = true)
    (a__law_draw : PySem.W.nsIn K mainGlobals "_law_draw" = some (some (.ref f__law_draw)))
    (l__law_draw : K.lookup f__law_draw = some ⟨oc__law_draw, od__law_draw, .func (PySem.W.fnOf "_law_draw" "_law_draw" (defArgs (top 37)) (defBody (top 37)) (defScope (top 37)) .none kV__law_draw dc__law_draw pm__law_draw an__law_draw cd__law_draw ct__law_draw), sl__law_draw⟩)
    (c__law_draw : PySem.W.codeIn K cd__law_draw "_law_draw" = true)
    (k__law_draw : PySem.W.keepIn K (.ref f__law_draw) = true)
    (a__law_classes : PySem.W.nsIn K mainGlobals "_law_classes" = some (some (.ref f__law_classes)))
    (l__law_classes : K.lookup f__law_classes = some ⟨oc__law_classes, od__law_classes, .func (PySem.W.fnOf "_law_classes" "_law_classes" (defArgs (top 38)) (defBody (top 38)) (defScope (top 38)) .none kV__law_classes dc__law_classes pm__law_classes an__law_classes cd__law_classes ct__law_classes), sl__law_classes⟩)
    (c__law_classes : PySem.W.codeIn K cd__law_classes "_law_classes" = true)
    (k__law_classes : PySem.W.keepIn K (.ref f__law_classes) = true)
    (a__law_bases : PySem.W.nsIn K mainGlobals "_law_bases" = some (some (.ref f__law_bases)))
    (l__law_bases : K.lookup f__law_bases = some ⟨oc__law_bases, od__law_bases, .func (PySem.W.fnOf "_law_bases" "_law_bases" (defArgs (top 39)) (defBody (top 39)) (defScope (top 39)) .none kV__law_bases dc__law_bases pm__law_bases an__law_bases cd__law_bases ct__law_bases), sl__law_bases⟩)
    (c__law_bases : PySem.W.codeIn K cd__law_bases "_law_bases" = true)
    (k__law_bases : PySem.W.keepIn K (.ref f__law_bases) = true)
    (a__law_made : PySem.W.nsIn K mainGlobals "_law_made" = some (some (.ref f__law_made)))
    (l__law_made : K.lookup f__law_made = some ⟨oc__law_made, od__law_made, .func (PySem.W.fnOf "_law_made" "_law_made" (defArgs (top 40)) (defBody (top 40)) (defScope (top 40)) .none kV__law_made dc__law_made pm__law_made an__law_made cd__law_made ct__law_made), sl__law_made⟩)
    (c__law_made : PySem.W.codeIn K cd__law_made "_law_made" = true)
    (k__law_made : PySem.W.keepIn K (.ref f__law_made) = true)
    (a__law_fields : PySem.W.nsIn K mainGlobals "_law_fields" = some (some (.ref f__law_fields)))
    (l__law_fields : K.lookup f__law_fields = some ⟨oc__law_fields, od__law_fields, .func (PySem.W.fnOf "_law_fields" "_law_fields" (defArgs (top 41)) (defBody (top 41)) (defScope (top 41)) .none kV__law_fields dc__law_fields pm__law_fields an__law_fields cd__law_fields ct__law_fields), sl__law_fields⟩)
    (c__law_fields : PySem.W.codeIn K cd__law_fields "_law_fields" = true)
    (k__law_fields : PySem.W.keepIn K (.ref f__law_fields) = true)
    (a_law : PySem.W.nsIn K mainGlobals "law" = some (some (.ref f_law)))
    (l_law : K.lookup f_law = some ⟨oc_law, od_law, .func (PySem.W.fnOf "law" "law" (defArgs (top 42)) (defBody (top 42)) (defScope (top 42)) .none kV_law dc_law pm_law an_law cd_law ct_law), sl_law⟩)
    (c_law : PySem.W.codeIn K cd_law "law" = true)
    (k_law : PySem.W.keepIn K (.ref f_law) = true)
    (z_int : PySem.W.nsIn K mainGlobals "int" = some none)
    (z_len : PySem.W.nsIn K mainGlobals "len" = some none)
    (z_range : PySem.W.nsIn K mainGlobals "range" = some none)
    (z_isinstance : PySem.W.nsIn K mainGlobals "isinstance" = some none)
    (z_bool : PySem.W.nsIn K mainGlobals "bool" = some none)
    (z_str : PySem.W.nsIn K mainGlobals "str" = some none)
    (z_tuple : PySem.W.nsIn K mainGlobals "tuple" = some none)
    (z_list : PySem.W.nsIn K mainGlobals "list" = some none)
    (z_ValueError : PySem.W.nsIn K mainGlobals "ValueError" = some none)
    (z_LookupError : PySem.W.nsIn K mainGlobals "LookupError" = some none)
    (x_cg : PySem.W.specialIn K (.builtin "object.__class__") "__get__" = some (some (.builtin "getset_descriptor.__get__")))
    (x_ct : PySem.W.takesIn K (.builtin "object.__class__") = some true)
    (t_kit : kTabKit K [C_BadScale, C_EndlessScale, C_MixedScales, C_NegativeCount, C_NoBound, C_BadText, C_NoRedex, C_BadMap, C_TooMany, C_BadCode, C_KindClash, C_WrongForm, C_Overuse, C_NoTurns, C_TwiceBound, C_LooseGap, C_GoneTerm, C_OutOfMoves, C_GoneReached, C_NotDone, C_Refused, C_InUse, C_BadName, C_BadLimit, C_WrongCount, C_TooLarge, C_UnknownGrade, C_UnboundName, C_Undefined, C_UsescaleError, C_CheckError, C_RunError, C_BookError, C_NameMissing] = true)
    (t_er : kTabEr K [C_BadScale, C_EndlessScale, C_MixedScales, C_NegativeCount, C_NoBound, C_BadText, C_NoRedex, C_BadMap, C_TooMany, C_BadCode, C_KindClash, C_WrongForm, C_Overuse, C_NoTurns, C_TwiceBound, C_LooseGap, C_GoneTerm, C_OutOfMoves, C_GoneReached, C_NotDone, C_Refused, C_InUse, C_BadName, C_BadLimit, C_WrongCount, C_TooLarge, C_UnknownGrade, C_UnboundName, C_Undefined] = true)
    (t_no : kTabNo K [(C_NegativeCount, "count"), (C_NoBound, "name"), (C_NoBound, "first"), (C_NoBound, "second"), (C_BadText, "at"), (C_NoRedex, "place"), (C_TooMany, "size"), (C_BadCode, "block"), (C_BadCode, "row"), (C_KindClash, "wanted"), (C_KindClash, "found"), (C_WrongForm, "word"), (C_WrongForm, "found"), (C_Overuse, "name"), (C_Overuse, "used"), (C_Overuse, "allowed"), (C_NoTurns, "name"), (C_TwiceBound, "name"), (C_LooseGap, "name"), (C_OutOfMoves, "bound"), (C_Refused, "name"), (C_InUse, "name"), (C_InUse, "users"), (C_BadName, "name"), (C_BadLimit, "bound"), (C_WrongCount, "wanted"), (C_WrongCount, "found"), (C_TooLarge, "size"), (C_UnknownGrade, "name"), (C_UnboundName, "name"), (C_Undefined, "name")] = true)
    (t_ov : kTabOex K "ValueError.__new__" btV [C_NegativeCount, C_NoBound, C_BadText, C_NoRedex, C_TooMany, C_BadCode, C_KindClash, C_WrongForm, C_Overuse, C_NoTurns, C_TwiceBound, C_LooseGap, C_OutOfMoves, C_Refused, C_InUse, C_BadName, C_BadLimit, C_WrongCount, C_TooLarge] = true)
    (t_ol : kTabOex K "LookupError.__new__" btL [C_UnknownGrade, C_UnboundName, C_Undefined] = true)
    (t_x0 : kTabX0 K [C_BadScale, C_EndlessScale, C_MixedScales, C_BadMap, C_GoneTerm, C_GoneReached, C_NotDone] = true)
    : ∃ fd : FuncData, (∀ (s : Shared) (v : Value), BindsTo s fd ⟨[v], []⟩ [("_law_script", v)]) ∧ ∀ base : Heap, K.In base → base.Ns mainGlobals mg → FnOk l.prog w K mg base CX0 5 fa fd ["_law_script"] (spLaw K) := by
  have e := hfa.symm.trans (PySem.W.mg_of X G a_law)
  cases e
  have g_BadScale := PySem.W.mg_of X G aC_BadScale
  have g_EndlessScale := PySem.W.mg_of X G aC_EndlessScale
  have g_MixedScales := PySem.W.mg_of X G aC_MixedScales
  have g_NegativeCount := PySem.W.mg_of X G aC_NegativeCount
  have g_NoBound := PySem.W.mg_of X G aC_NoBound
  have g_BadText := PySem.W.mg_of X G aC_BadText
  have g_NoRedex := PySem.W.mg_of X G aC_NoRedex
  have g_BadMap := PySem.W.mg_of X G aC_BadMap
  have g_TooMany := PySem.W.mg_of X G aC_TooMany
  have g_BadCode := PySem.W.mg_of X G aC_BadCode
  have g_KindClash := PySem.W.mg_of X G aC_KindClash
  have g_WrongForm := PySem.W.mg_of X G aC_WrongForm
  have g_Overuse := PySem.W.mg_of X G aC_Overuse
  have g_NoTurns := PySem.W.mg_of X G aC_NoTurns
  have g_TwiceBound := PySem.W.mg_of X G aC_TwiceBound
  have g_LooseGap := PySem.W.mg_of X G aC_LooseGap
  have g_GoneTerm := PySem.W.mg_of X G aC_GoneTerm
  have g_OutOfMoves := PySem.W.mg_of X G aC_OutOfMoves
  have g_GoneReached := PySem.W.mg_of X G aC_GoneReached
  have g_NotDone := PySem.W.mg_of X G aC_NotDone
  have g_Refused := PySem.W.mg_of X G aC_Refused
  have g_InUse := PySem.W.mg_of X G aC_InUse
  have g_BadName := PySem.W.mg_of X G aC_BadName
  have g_BadLimit := PySem.W.mg_of X G aC_BadLimit
  have g_WrongCount := PySem.W.mg_of X G aC_WrongCount
  have g_TooLarge := PySem.W.mg_of X G aC_TooLarge
  have g_UnknownGrade := PySem.W.mg_of X G aC_UnknownGrade
  have g_UnboundName := PySem.W.mg_of X G aC_UnboundName
  have g_Undefined := PySem.W.mg_of X G aC_Undefined
  have g_UsescaleError := PySem.W.mg_of X G aC_UsescaleError
  have g_CheckError := PySem.W.mg_of X G aC_CheckError
  have g_RunError := PySem.W.mg_of X G aC_RunError
  have g_BookError := PySem.W.mg_of X G aC_BookError
  have g_NameMissing := PySem.W.mg_of X G aC_NameMissing
  have F_ei_NegativeCount_init := fun_mk (st := (inClass (top 5) 0)) l_ei_NegativeCount_init c_ei_NegativeCount_init k_ei_NegativeCount_init
  have b_ei_NegativeCount_init := F_ei_NegativeCount_init.binds (ps := ["self", "count"]) fun _ _ _ _ _ _ us hl => match us, hl with | [_, _], _ => rfl
  have F_ei_NoBound_init := fun_mk (st := (inClass (top 6) 0)) l_ei_NoBound_init c_ei_NoBound_init k_ei_NoBound_init
  have b_ei_NoBound_init := F_ei_NoBound_init.binds (ps := ["self", "name", "first", "second"]) fun _ _ _ _ _ _ us hl => match us, hl with | [_, _, _, _], _ => rfl
  have F_ei_BadText_init := fun_mk (st := (inClass (top 7) 0)) l_ei_BadText_init c_ei_BadText_init k_ei_BadText_init
  have b_ei_BadText_init := F_ei_BadText_init.binds (ps := ["self", "at"]) fun _ _ _ _ _ _ us hl => match us, hl with | [_, _], _ => rfl
  have F_ei_NoRedex_init := fun_mk (st := (inClass (top 8) 0)) l_ei_NoRedex_init c_ei_NoRedex_init k_ei_NoRedex_init
  have b_ei_NoRedex_init := F_ei_NoRedex_init.binds (ps := ["self", "place"]) fun _ _ _ _ _ _ us hl => match us, hl with | [_, _], _ => rfl
  have F_ei_TooMany_init := fun_mk (st := (inClass (top 10) 0)) l_ei_TooMany_init c_ei_TooMany_init k_ei_TooMany_init
  have b_ei_TooMany_init := F_ei_TooMany_init.binds (ps := ["self", "size"]) fun _ _ _ _ _ _ us hl => match us, hl with | [_, _], _ => rfl
  have F_ei_BadCode_init := fun_mk (st := (inClass (top 11) 0)) l_ei_BadCode_init c_ei_BadCode_init k_ei_BadCode_init
  have b_ei_BadCode_init := F_ei_BadCode_init.binds (ps := ["self", "block", "row"]) fun _ _ _ _ _ _ us hl => match us, hl with | [_, _, _], _ => rfl
  have F_ei_KindClash_init := fun_mk (st := (inClass (top 13) 0)) l_ei_KindClash_init c_ei_KindClash_init k_ei_KindClash_init
  have b_ei_KindClash_init := F_ei_KindClash_init.binds (ps := ["self", "wanted", "found"]) fun _ _ _ _ _ _ us hl => match us, hl with | [_, _, _], _ => rfl
  have F_ei_WrongForm_init := fun_mk (st := (inClass (top 14) 0)) l_ei_WrongForm_init c_ei_WrongForm_init k_ei_WrongForm_init
  have b_ei_WrongForm_init := F_ei_WrongForm_init.binds (ps := ["self", "word", "found"]) fun _ _ _ _ _ _ us hl => match us, hl with | [_, _, _], _ => rfl
  have F_ei_Overuse_init := fun_mk (st := (inClass (top 15) 0)) l_ei_Overuse_init c_ei_Overuse_init k_ei_Overuse_init
  have b_ei_Overuse_init := F_ei_Overuse_init.binds (ps := ["self", "name", "used", "allowed"]) fun _ _ _ _ _ _ us hl => match us, hl with | [_, _, _, _], _ => rfl
  have F_ei_NoTurns_init := fun_mk (st := (inClass (top 16) 0)) l_ei_NoTurns_init c_ei_NoTurns_init k_ei_NoTurns_init
  have b_ei_NoTurns_init := F_ei_NoTurns_init.binds (ps := ["self", "name"]) fun _ _ _ _ _ _ us hl => match us, hl with | [_, _], _ => rfl
  have F_ei_TwiceBound_init := fun_mk (st := (inClass (top 17) 0)) l_ei_TwiceBound_init c_ei_TwiceBound_init k_ei_TwiceBound_init
  have b_ei_TwiceBound_init := F_ei_TwiceBound_init.binds (ps := ["self", "name"]) fun _ _ _ _ _ _ us hl => match us, hl with | [_, _], _ => rfl
  have F_ei_LooseGap_init := fun_mk (st := (inClass (top 18) 0)) l_ei_LooseGap_init c_ei_LooseGap_init k_ei_LooseGap_init
  have b_ei_LooseGap_init := F_ei_LooseGap_init.binds (ps := ["self", "name"]) fun _ _ _ _ _ _ us hl => match us, hl with | [_, _], _ => rfl
  have F_ei_OutOfMoves_init := fun_mk (st := (inClass (top 21) 0)) l_ei_OutOfMoves_init c_ei_OutOfMoves_init k_ei_OutOfMoves_init
  have b_ei_OutOfMoves_init := F_ei_OutOfMoves_init.binds (ps := ["self", "bound"]) fun _ _ _ _ _ _ us hl => match us, hl with | [_, _], _ => rfl
  have F_ei_Refused_init := fun_mk (st := (inClass (top 25) 0)) l_ei_Refused_init c_ei_Refused_init k_ei_Refused_init
  have b_ei_Refused_init := F_ei_Refused_init.binds (ps := ["self", "name"]) fun _ _ _ _ _ _ us hl => match us, hl with | [_, _], _ => rfl
  have F_ei_InUse_init := fun_mk (st := (inClass (top 26) 0)) l_ei_InUse_init c_ei_InUse_init k_ei_InUse_init
  have b_ei_InUse_init := F_ei_InUse_init.binds (ps := ["self", "name", "users"]) fun _ _ _ _ _ _ us hl => match us, hl with | [_, _, _], _ => rfl
  have F_ei_BadName_init := fun_mk (st := (inClass (top 27) 0)) l_ei_BadName_init c_ei_BadName_init k_ei_BadName_init
  have b_ei_BadName_init := F_ei_BadName_init.binds (ps := ["self", "name"]) fun _ _ _ _ _ _ us hl => match us, hl with | [_, _], _ => rfl
  have F_ei_BadLimit_init := fun_mk (st := (inClass (top 28) 0)) l_ei_BadLimit_init c_ei_BadLimit_init k_ei_BadLimit_init
  have b_ei_BadLimit_init := F_ei_BadLimit_init.binds (ps := ["self", "bound"]) fun _ _ _ _ _ _ us hl => match us, hl with | [_, _], _ => rfl
  have F_ei_WrongCount_init := fun_mk (st := (inClass (top 29) 0)) l_ei_WrongCount_init c_ei_WrongCount_init k_ei_WrongCount_init
  have b_ei_WrongCount_init := F_ei_WrongCount_init.binds (ps := ["self", "wanted", "found"]) fun _ _ _ _ _ _ us hl => match us, hl with | [_, _, _], _ => rfl
  have F_ei_TooLarge_init := fun_mk (st := (inClass (top 30) 0)) l_ei_TooLarge_init c_ei_TooLarge_init k_ei_TooLarge_init
  have b_ei_TooLarge_init := F_ei_TooLarge_init.binds (ps := ["self", "size"]) fun _ _ _ _ _ _ us hl => match us, hl with | [_, _], _ => rfl
  have F_ei_UnknownGrade_init := fun_mk (st := (inClass (top 32) 0)) l_ei_UnknownGrade_init c_ei_UnknownGrade_init k_ei_UnknownGrade_init
  have b_ei_UnknownGrade_init := F_ei_UnknownGrade_init.binds (ps := ["self", "name"]) fun _ _ _ _ _ _ us hl => match us, hl with | [_, _], _ => rfl
  have F_ei_UnboundName_init := fun_mk (st := (inClass (top 33) 0)) l_ei_UnboundName_init c_ei_UnboundName_init k_ei_UnboundName_init
  have b_ei_UnboundName_init := F_ei_UnboundName_init.binds (ps := ["self", "name"]) fun _ _ _ _ _ _ us hl => match us, hl with | [_, _], _ => rfl
  have F_ei_Undefined_init := fun_mk (st := (inClass (top 34) 0)) l_ei_Undefined_init c_ei_Undefined_init k_ei_Undefined_init
  have b_ei_Undefined_init := F_ei_Undefined_init.binds (ps := ["self", "name"]) fun _ _ _ _ _ _ us hl => match us, hl with | [_, _], _ => rfl
  have bi_UsescaleError : BInit K mg "UsescaleError" "ValueError.__init__" := ⟨_, g_UsescaleError, rd_bi_UsescaleError, ga_bi_UsescaleError, a_bi_UsescaleError, by decide +kernel⟩
  have bi_CheckError : BInit K mg "CheckError" "ValueError.__init__" := ⟨_, g_CheckError, rd_bi_CheckError, ga_bi_CheckError, a_bi_CheckError, by decide +kernel⟩
  have bi_RunError : BInit K mg "RunError" "ValueError.__init__" := ⟨_, g_RunError, rd_bi_RunError, ga_bi_RunError, a_bi_RunError, by decide +kernel⟩
  have bi_BookError : BInit K mg "BookError" "ValueError.__init__" := ⟨_, g_BookError, rd_bi_BookError, ga_bi_BookError, a_bi_BookError, by decide +kernel⟩
  have bi_NameMissing : BInit K mg "NameMissing" "LookupError.__init__" := ⟨_, g_NameMissing, rd_bi_NameMissing, ga_bi_NameMissing, a_bi_NameMissing, by decide +kernel⟩
  have F__law_draws := fun_mk (st := (top 36)) l__law_draws c__law_draws k__law_draws
  have g__law_draws := PySem.W.mg_of X G a__law_draws
  have b__law_draws := F__law_draws.binds (ps := ["_law_script"]) fun _ _ _ _ _ _ us hl => match us, hl with | [_], _ => rfl
  have F__law_draw := fun_mk (st := (top 37)) l__law_draw c__law_draw k__law_draw
  have g__law_draw := PySem.W.mg_of X G a__law_draw
  have b__law_draw := F__law_draw.binds (ps := ["_law_state", "_law_many"]) fun _ _ _ _ _ _ us hl => match us, hl with | [_, _], _ => rfl
  have F__law_classes := fun_mk (st := (top 38)) l__law_classes c__law_classes k__law_classes
  have g__law_classes := PySem.W.mg_of X G a__law_classes
  have b__law_classes := F__law_classes.binds (ps := ["_law_e"]) fun _ _ _ _ _ _ us hl => match us, hl with | [_], _ => rfl
  have F__law_bases := fun_mk (st := (top 39)) l__law_bases c__law_bases k__law_bases
  have g__law_bases := PySem.W.mg_of X G a__law_bases
  have b__law_bases := F__law_bases.binds (ps := ["_law_e"]) fun _ _ _ _ _ _ us hl => match us, hl with | [_], _ => rfl
  have F__law_made := fun_mk (st := (top 40)) l__law_made c__law_made k__law_made
  have g__law_made := PySem.W.mg_of X G a__law_made
  have b__law_made := F__law_made.binds (ps := ["_law_words", "_law_count", "_law_place", "_law_kind", "_law_users"]) fun _ _ _ _ _ _ us hl => match us, hl with | [_, _, _, _, _], _ => rfl
  have F__law_fields := fun_mk (st := (top 41)) l__law_fields c__law_fields k__law_fields
  have g__law_fields := PySem.W.mg_of X G a__law_fields
  have b__law_fields := F__law_fields.binds (ps := ["_law_e"]) fun _ _ _ _ _ _ us hl => match us, hl with | [_], _ => rfl
  have F_law := fun_mk (st := (top 42)) l_law c_law k_law
  have g_law := PySem.W.mg_of X G a_law
  have zn_int := PySem.W.mg_none_of X G z_int
  have zn_len := PySem.W.mg_none_of X G z_len
  have zn_range := PySem.W.mg_none_of X G z_range
  have zn_isinstance := PySem.W.mg_none_of X G z_isinstance
  have zn_bool := PySem.W.mg_none_of X G z_bool
  have zn_str := PySem.W.mg_none_of X G z_str
  have zn_tuple := PySem.W.mg_none_of X G z_tuple
  have zn_list := PySem.W.mg_none_of X G z_list
  have zn_ValueError := PySem.W.mg_none_of X G z_ValueError
  have zn_LookupError := PySem.W.mg_none_of X G z_LookupError
  refine ⟨PySem.W.fnOf "law" "law" (defArgs (top 42)) (defBody (top 42)) (defScope (top 42)) .none kV_law dc_law pm_law an_law cd_law ct_law, fun s v => .of_eq rfl, fun base _ _ => ?_⟩
  have TL : TxL K mg := ⟨zn_int, zn_len, zn_range, zn_isinstance, zn_bool, zn_str, zn_tuple, zn_list⟩
  obtain ⟨C, hC⟩ : ∃ C : Nat → Addr, C = fun i => ([C_BadScale, C_EndlessScale, C_MixedScales, C_NegativeCount, C_NoBound, C_BadText, C_NoRedex, C_BadMap, C_TooMany, C_BadCode, C_KindClash, C_WrongForm, C_Overuse, C_NoTurns, C_TwiceBound, C_LooseGap, C_GoneTerm, C_OutOfMoves, C_GoneReached, C_NotDone, C_Refused, C_InUse, C_BadName, C_BadLimit, C_WrongCount, C_TooLarge, C_UnknownGrade, C_UnboundName, C_Undefined, C_UsescaleError, C_CheckError, C_RunError, C_BookError, C_NameMissing] : List Addr).getD i 0 := ⟨_, rfl⟩
  have q_BadScale : C 0 = C_BadScale := by rw [hC]; rfl
  have q_EndlessScale : C 1 = C_EndlessScale := by rw [hC]; rfl
  have q_MixedScales : C 2 = C_MixedScales := by rw [hC]; rfl
  have q_NegativeCount : C 3 = C_NegativeCount := by rw [hC]; rfl
  have q_NoBound : C 4 = C_NoBound := by rw [hC]; rfl
  have q_BadText : C 5 = C_BadText := by rw [hC]; rfl
  have q_NoRedex : C 6 = C_NoRedex := by rw [hC]; rfl
  have q_BadMap : C 7 = C_BadMap := by rw [hC]; rfl
  have q_TooMany : C 8 = C_TooMany := by rw [hC]; rfl
  have q_BadCode : C 9 = C_BadCode := by rw [hC]; rfl
  have q_KindClash : C 10 = C_KindClash := by rw [hC]; rfl
  have q_WrongForm : C 11 = C_WrongForm := by rw [hC]; rfl
  have q_Overuse : C 12 = C_Overuse := by rw [hC]; rfl
  have q_NoTurns : C 13 = C_NoTurns := by rw [hC]; rfl
  have q_TwiceBound : C 14 = C_TwiceBound := by rw [hC]; rfl
  have q_LooseGap : C 15 = C_LooseGap := by rw [hC]; rfl
  have q_GoneTerm : C 16 = C_GoneTerm := by rw [hC]; rfl
  have q_OutOfMoves : C 17 = C_OutOfMoves := by rw [hC]; rfl
  have q_GoneReached : C 18 = C_GoneReached := by rw [hC]; rfl
  have q_NotDone : C 19 = C_NotDone := by rw [hC]; rfl
  have q_Refused : C 20 = C_Refused := by rw [hC]; rfl
  have q_InUse : C 21 = C_InUse := by rw [hC]; rfl
  have q_BadName : C 22 = C_BadName := by rw [hC]; rfl
  have q_BadLimit : C 23 = C_BadLimit := by rw [hC]; rfl
  have q_WrongCount : C 24 = C_WrongCount := by rw [hC]; rfl
  have q_TooLarge : C 25 = C_TooLarge := by rw [hC]; rfl
  have q_UnknownGrade : C 26 = C_UnknownGrade := by rw [hC]; rfl
  have q_UnboundName : C 27 = C_UnboundName := by rw [hC]; rfl
  have q_Undefined : C 28 = C_Undefined := by rw [hC]; rfl
  have q_UsescaleError : C 29 = C_UsescaleError := by rw [hC]; rfl
  have q_CheckError : C 30 = C_CheckError := by rw [hC]; rfl
  have q_RunError : C 31 = C_RunError := by rw [hC]; rfl
  have q_BookError : C 32 = C_BookError := by rw [hC]; rfl
  have q_NameMissing : C 33 = C_NameMissing := by rw [hC]; rfl
  have kitC : ∀ i < 29, ((List.range 34).all fun j => decide (PySem.W.kitOne K (.ref (C i)) (.ref (C j)) = some (isT i j))) = true ∧ PySem.W.kitOne K (.ref (C i)) (.type "ValueError") = some (isT i 29) ∧ PySem.W.kitOne K (.ref (C i)) (.type "LookupError") = some (isT i 33) := fun i hi => by
    rw [hC]
    obtain ⟨h1, h⟩ := and2 (List.all_eq_true.mp t_kit i (List.mem_range.mpr hi))
    obtain ⟨h2, h3⟩ := and2 h
    exact ⟨h1, of_decide_eq_true h2, of_decide_eq_true h3⟩
  have erC : ∀ i < 29, erB K (C i) = true := fun i hi => by
    have z := all_get t_er 0 (show i < ([C_BadScale, C_EndlessScale, C_MixedScales, C_NegativeCount, C_NoBound, C_BadText, C_NoRedex, C_BadMap, C_TooMany, C_BadCode, C_KindClash, C_WrongForm, C_Overuse, C_NoTurns, C_TwiceBound, C_LooseGap, C_GoneTerm, C_OutOfMoves, C_GoneReached, C_NotDone, C_Refused, C_InUse, C_BadName, C_BadLimit, C_WrongCount, C_TooLarge, C_UnknownGrade, C_UnboundName, C_Undefined] : List Addr).length from hi)
    rw [hC]
    match i, hi, z with
    | 0, _, z => exact z
    | 1, _, z => exact z
    | 2, _, z => exact z
    | 3, _, z => exact z
    | 4, _, z => exact z
    | 5, _, z => exact z
    | 6, _, z => exact z
    | 7, _, z => exact z
    | 8, _, z => exact z
    | 9, _, z => exact z
    | 10, _, z => exact z
    | 11, _, z => exact z
    | 12, _, z => exact z
    | 13, _, z => exact z
    | 14, _, z => exact z
    | 15, _, z => exact z
    | 16, _, z => exact z
    | 17, _, z => exact z
    | 18, _, z => exact z
    | 19, _, z => exact z
    | 20, _, z => exact z
    | 21, _, z => exact z
    | 22, _, z => exact z
    | 23, _, z => exact z
    | 24, _, z => exact z
    | 25, _, z => exact z
    | 26, _, z => exact z
    | 27, _, z => exact z
    | 28, _, z => exact z
    | n + 29, h, _ => exact absurd h (by omega)
  have no_NegativeCount_count : PySem.W.findIn K (.ref C_NegativeCount) "count" = some none := of_decide_eq_true (all_get t_no (0, Str.empty) (i := 0) (by show 0 < 31; decide))
  have no_NoBound_name : PySem.W.findIn K (.ref C_NoBound) "name" = some none := of_decide_eq_true (all_get t_no (0, Str.empty) (i := 1) (by show 1 < 31; decide))
  have no_NoBound_first : PySem.W.findIn K (.ref C_NoBound) "first" = some none := of_decide_eq_true (all_get t_no (0, Str.empty) (i := 2) (by show 2 < 31; decide))
  have no_NoBound_second : PySem.W.findIn K (.ref C_NoBound) "second" = some none := of_decide_eq_true (all_get t_no (0, Str.empty) (i := 3) (by show 3 < 31; decide))
  have no_BadText_at : PySem.W.findIn K (.ref C_BadText) "at" = some none := of_decide_eq_true (all_get t_no (0, Str.empty) (i := 4) (by show 4 < 31; decide))
  have no_NoRedex_place : PySem.W.findIn K (.ref C_NoRedex) "place" = some none := of_decide_eq_true (all_get t_no (0, Str.empty) (i := 5) (by show 5 < 31; decide))
  have no_TooMany_size : PySem.W.findIn K (.ref C_TooMany) "size" = some none := of_decide_eq_true (all_get t_no (0, Str.empty) (i := 6) (by show 6 < 31; decide))
  have no_BadCode_block : PySem.W.findIn K (.ref C_BadCode) "block" = some none := of_decide_eq_true (all_get t_no (0, Str.empty) (i := 7) (by show 7 < 31; decide))
  have no_BadCode_row : PySem.W.findIn K (.ref C_BadCode) "row" = some none := of_decide_eq_true (all_get t_no (0, Str.empty) (i := 8) (by show 8 < 31; decide))
  have no_KindClash_wanted : PySem.W.findIn K (.ref C_KindClash) "wanted" = some none := of_decide_eq_true (all_get t_no (0, Str.empty) (i := 9) (by show 9 < 31; decide))
  have no_KindClash_found : PySem.W.findIn K (.ref C_KindClash) "found" = some none := of_decide_eq_true (all_get t_no (0, Str.empty) (i := 10) (by show 10 < 31; decide))
  have no_WrongForm_word : PySem.W.findIn K (.ref C_WrongForm) "word" = some none := of_decide_eq_true (all_get t_no (0, Str.empty) (i := 11) (by show 11 < 31; decide))
  have no_WrongForm_found : PySem.W.findIn K (.ref C_WrongForm) "found" = some none := of_decide_eq_true (all_get t_no (0, Str.empty) (i := 12) (by show 12 < 31; decide))
  have no_Overuse_name : PySem.W.findIn K (.ref C_Overuse) "name" = some none := of_decide_eq_true (all_get t_no (0, Str.empty) (i := 13) (by show 13 < 31; decide))
  have no_Overuse_used : PySem.W.findIn K (.ref C_Overuse) "used" = some none := of_decide_eq_true (all_get t_no (0, Str.empty) (i := 14) (by show 14 < 31; decide))
  have no_Overuse_allowed : PySem.W.findIn K (.ref C_Overuse) "allowed" = some none := of_decide_eq_true (all_get t_no (0, Str.empty) (i := 15) (by show 15 < 31; decide))
  have no_NoTurns_name : PySem.W.findIn K (.ref C_NoTurns) "name" = some none := of_decide_eq_true (all_get t_no (0, Str.empty) (i := 16) (by show 16 < 31; decide))
  have no_TwiceBound_name : PySem.W.findIn K (.ref C_TwiceBound) "name" = some none := of_decide_eq_true (all_get t_no (0, Str.empty) (i := 17) (by show 17 < 31; decide))
  have no_LooseGap_name : PySem.W.findIn K (.ref C_LooseGap) "name" = some none := of_decide_eq_true (all_get t_no (0, Str.empty) (i := 18) (by show 18 < 31; decide))
  have no_OutOfMoves_bound : PySem.W.findIn K (.ref C_OutOfMoves) "bound" = some none := of_decide_eq_true (all_get t_no (0, Str.empty) (i := 19) (by show 19 < 31; decide))
  have no_Refused_name : PySem.W.findIn K (.ref C_Refused) "name" = some none := of_decide_eq_true (all_get t_no (0, Str.empty) (i := 20) (by show 20 < 31; decide))
  have no_InUse_name : PySem.W.findIn K (.ref C_InUse) "name" = some none := of_decide_eq_true (all_get t_no (0, Str.empty) (i := 21) (by show 21 < 31; decide))
  have no_InUse_users : PySem.W.findIn K (.ref C_InUse) "users" = some none := of_decide_eq_true (all_get t_no (0, Str.empty) (i := 22) (by show 22 < 31; decide))
  have no_BadName_name : PySem.W.findIn K (.ref C_BadName) "name" = some none := of_decide_eq_true (all_get t_no (0, Str.empty) (i := 23) (by show 23 < 31; decide))
  have no_BadLimit_bound : PySem.W.findIn K (.ref C_BadLimit) "bound" = some none := of_decide_eq_true (all_get t_no (0, Str.empty) (i := 24) (by show 24 < 31; decide))
  have no_WrongCount_wanted : PySem.W.findIn K (.ref C_WrongCount) "wanted" = some none := of_decide_eq_true (all_get t_no (0, Str.empty) (i := 25) (by show 25 < 31; decide))
  have no_WrongCount_found : PySem.W.findIn K (.ref C_WrongCount) "found" = some none := of_decide_eq_true (all_get t_no (0, Str.empty) (i := 26) (by show 26 < 31; decide))
  have no_TooLarge_size : PySem.W.findIn K (.ref C_TooLarge) "size" = some none := of_decide_eq_true (all_get t_no (0, Str.empty) (i := 27) (by show 27 < 31; decide))
  have no_UnknownGrade_name : PySem.W.findIn K (.ref C_UnknownGrade) "name" = some none := of_decide_eq_true (all_get t_no (0, Str.empty) (i := 28) (by show 28 < 31; decide))
  have no_UnboundName_name : PySem.W.findIn K (.ref C_UnboundName) "name" = some none := of_decide_eq_true (all_get t_no (0, Str.empty) (i := 29) (by show 29 < 31; decide))
  have no_Undefined_name : PySem.W.findIn K (.ref C_Undefined) "name" = some none := of_decide_eq_true (all_get t_no (0, Str.empty) (i := 30) (by show 30 < 31; decide))
  have ox_NegativeCount : OexB K C_NegativeCount "ValueError" "ValueError.__new__" "ValueError.__init__" btV := oexT_of (all_get t_ov 0 (i := 0) (by show 0 < 19; decide)) PySem.F.store_ValueError PySem.F.excBase_ValueError
  have ox_NoBound : OexB K C_NoBound "ValueError" "ValueError.__new__" "ValueError.__init__" btV := oexT_of (all_get t_ov 0 (i := 1) (by show 1 < 19; decide)) PySem.F.store_ValueError PySem.F.excBase_ValueError
  have ox_BadText : OexB K C_BadText "ValueError" "ValueError.__new__" "ValueError.__init__" btV := oexT_of (all_get t_ov 0 (i := 2) (by show 2 < 19; decide)) PySem.F.store_ValueError PySem.F.excBase_ValueError
  have ox_NoRedex : OexB K C_NoRedex "ValueError" "ValueError.__new__" "ValueError.__init__" btV := oexT_of (all_get t_ov 0 (i := 3) (by show 3 < 19; decide)) PySem.F.store_ValueError PySem.F.excBase_ValueError
  have ox_TooMany : OexB K C_TooMany "ValueError" "ValueError.__new__" "ValueError.__init__" btV := oexT_of (all_get t_ov 0 (i := 4) (by show 4 < 19; decide)) PySem.F.store_ValueError PySem.F.excBase_ValueError
  have ox_BadCode : OexB K C_BadCode "ValueError" "ValueError.__new__" "ValueError.__init__" btV := oexT_of (all_get t_ov 0 (i := 5) (by show 5 < 19; decide)) PySem.F.store_ValueError PySem.F.excBase_ValueError
  have ox_KindClash : OexB K C_KindClash "ValueError" "ValueError.__new__" "ValueError.__init__" btV := oexT_of (all_get t_ov 0 (i := 6) (by show 6 < 19; decide)) PySem.F.store_ValueError PySem.F.excBase_ValueError
  have ox_WrongForm : OexB K C_WrongForm "ValueError" "ValueError.__new__" "ValueError.__init__" btV := oexT_of (all_get t_ov 0 (i := 7) (by show 7 < 19; decide)) PySem.F.store_ValueError PySem.F.excBase_ValueError
  have ox_Overuse : OexB K C_Overuse "ValueError" "ValueError.__new__" "ValueError.__init__" btV := oexT_of (all_get t_ov 0 (i := 8) (by show 8 < 19; decide)) PySem.F.store_ValueError PySem.F.excBase_ValueError
  have ox_NoTurns : OexB K C_NoTurns "ValueError" "ValueError.__new__" "ValueError.__init__" btV := oexT_of (all_get t_ov 0 (i := 9) (by show 9 < 19; decide)) PySem.F.store_ValueError PySem.F.excBase_ValueError
  have ox_TwiceBound : OexB K C_TwiceBound "ValueError" "ValueError.__new__" "ValueError.__init__" btV := oexT_of (all_get t_ov 0 (i := 10) (by show 10 < 19; decide)) PySem.F.store_ValueError PySem.F.excBase_ValueError
  have ox_LooseGap : OexB K C_LooseGap "ValueError" "ValueError.__new__" "ValueError.__init__" btV := oexT_of (all_get t_ov 0 (i := 11) (by show 11 < 19; decide)) PySem.F.store_ValueError PySem.F.excBase_ValueError
  have ox_OutOfMoves : OexB K C_OutOfMoves "ValueError" "ValueError.__new__" "ValueError.__init__" btV := oexT_of (all_get t_ov 0 (i := 12) (by show 12 < 19; decide)) PySem.F.store_ValueError PySem.F.excBase_ValueError
  have ox_Refused : OexB K C_Refused "ValueError" "ValueError.__new__" "ValueError.__init__" btV := oexT_of (all_get t_ov 0 (i := 13) (by show 13 < 19; decide)) PySem.F.store_ValueError PySem.F.excBase_ValueError
  have ox_InUse : OexB K C_InUse "ValueError" "ValueError.__new__" "ValueError.__init__" btV := oexT_of (all_get t_ov 0 (i := 14) (by show 14 < 19; decide)) PySem.F.store_ValueError PySem.F.excBase_ValueError
  have ox_BadName : OexB K C_BadName "ValueError" "ValueError.__new__" "ValueError.__init__" btV := oexT_of (all_get t_ov 0 (i := 15) (by show 15 < 19; decide)) PySem.F.store_ValueError PySem.F.excBase_ValueError
  have ox_BadLimit : OexB K C_BadLimit "ValueError" "ValueError.__new__" "ValueError.__init__" btV := oexT_of (all_get t_ov 0 (i := 16) (by show 16 < 19; decide)) PySem.F.store_ValueError PySem.F.excBase_ValueError
  have ox_WrongCount : OexB K C_WrongCount "ValueError" "ValueError.__new__" "ValueError.__init__" btV := oexT_of (all_get t_ov 0 (i := 17) (by show 17 < 19; decide)) PySem.F.store_ValueError PySem.F.excBase_ValueError
  have ox_TooLarge : OexB K C_TooLarge "ValueError" "ValueError.__new__" "ValueError.__init__" btV := oexT_of (all_get t_ov 0 (i := 18) (by show 18 < 19; decide)) PySem.F.store_ValueError PySem.F.excBase_ValueError
  have ox_UnknownGrade : OexB K C_UnknownGrade "LookupError" "LookupError.__new__" "LookupError.__init__" btL := oexT_of (all_get t_ol 0 (i := 0) (by show 0 < 3; decide)) PySem.F.store_LookupError PySem.F.excBase_LookupError
  have ox_UnboundName : OexB K C_UnboundName "LookupError" "LookupError.__new__" "LookupError.__init__" btL := oexT_of (all_get t_ol 0 (i := 1) (by show 1 < 3; decide)) PySem.F.store_LookupError PySem.F.excBase_LookupError
  have ox_Undefined : OexB K C_Undefined "LookupError" "LookupError.__new__" "LookupError.__init__" btL := oexT_of (all_get t_ol 0 (i := 2) (by show 2 < 3; decide)) PySem.F.store_LookupError PySem.F.excBase_LookupError
  have x0_BadScale := and2 (all_get t_x0 0 (i := 0) (by show 0 < 7; decide))
  have x0_EndlessScale := and2 (all_get t_x0 0 (i := 1) (by show 1 < 7; decide))
  have x0_MixedScales := and2 (all_get t_x0 0 (i := 2) (by show 2 < 7; decide))
  have x0_BadMap := and2 (all_get t_x0 0 (i := 3) (by show 3 < 7; decide))
  have x0_GoneTerm := and2 (all_get t_x0 0 (i := 4) (by show 4 < 7; decide))
  have x0_GoneReached := and2 (all_get t_x0 0 (i := 5) (by show 5 < 7; decide))
  have x0_NotDone := and2 (all_get t_x0 0 (i := 6) (by show 6 < 7; decide))
  have x_NegativeCount : ExM l.prog w K mg base 1 "NegativeCount" C_NegativeCount (spEr C_NegativeCount ["count"] ok_NegativeCount) := ⟨_, _, _, _, _, _, _, ox_NegativeCount, g_NegativeCount, a_ei_NegativeCount_init, ty_ei_NegativeCount_init, in_NegativeCount F_ei_NegativeCount_init ox_NegativeCount no_NegativeCount_count bi_UsescaleError, b_ei_NegativeCount_init⟩
  have x_NoBound : ExM l.prog w K mg base 1 "NoBound" C_NoBound (spEr C_NoBound ["name", "first", "second"] ok_NoBound) := ⟨_, _, _, _, _, _, _, ox_NoBound, g_NoBound, a_ei_NoBound_init, ty_ei_NoBound_init, in_NoBound F_ei_NoBound_init ox_NoBound no_NoBound_name no_NoBound_first no_NoBound_second bi_UsescaleError, b_ei_NoBound_init⟩
  have x_BadText : ExM l.prog w K mg base 1 "BadText" C_BadText (spEr C_BadText ["at"] ok_BadText) := ⟨_, _, _, _, _, _, _, ox_BadText, g_BadText, a_ei_BadText_init, ty_ei_BadText_init, in_BadText F_ei_BadText_init ox_BadText no_BadText_at bi_UsescaleError, b_ei_BadText_init⟩
  have x_NoRedex : ExM l.prog w K mg base 1 "NoRedex" C_NoRedex (spEr C_NoRedex ["place"] ok_NoRedex) := ⟨_, _, _, _, _, _, _, ox_NoRedex, g_NoRedex, a_ei_NoRedex_init, ty_ei_NoRedex_init, in_NoRedex F_ei_NoRedex_init ox_NoRedex no_NoRedex_place bi_UsescaleError, b_ei_NoRedex_init⟩
  have x_TooMany : ExM l.prog w K mg base 1 "TooMany" C_TooMany (spEr C_TooMany ["size"] ok_TooMany) := ⟨_, _, _, _, _, _, _, ox_TooMany, g_TooMany, a_ei_TooMany_init, ty_ei_TooMany_init, in_TooMany F_ei_TooMany_init ox_TooMany no_TooMany_size bi_UsescaleError, b_ei_TooMany_init⟩
  have x_BadCode : ExM l.prog w K mg base 1 "BadCode" C_BadCode (spEr C_BadCode ["block", "row"] ok_BadCode) := ⟨_, _, _, _, _, _, _, ox_BadCode, g_BadCode, a_ei_BadCode_init, ty_ei_BadCode_init, in_BadCode F_ei_BadCode_init ox_BadCode no_BadCode_block no_BadCode_row bi_UsescaleError, b_ei_BadCode_init⟩
  have x_KindClash : ExM l.prog w K mg base 1 "KindClash" C_KindClash (spEr C_KindClash ["wanted", "found"] ok_KindClash) := ⟨_, _, _, _, _, _, _, ox_KindClash, g_KindClash, a_ei_KindClash_init, ty_ei_KindClash_init, in_KindClash F_ei_KindClash_init ox_KindClash no_KindClash_wanted no_KindClash_found bi_CheckError, b_ei_KindClash_init⟩
  have x_WrongForm : ExM l.prog w K mg base 1 "WrongForm" C_WrongForm (spEr C_WrongForm ["word", "found"] ok_WrongForm) := ⟨_, _, _, _, _, _, _, ox_WrongForm, g_WrongForm, a_ei_WrongForm_init, ty_ei_WrongForm_init, in_WrongForm F_ei_WrongForm_init ox_WrongForm no_WrongForm_word no_WrongForm_found bi_CheckError, b_ei_WrongForm_init⟩
  have x_Overuse : ExM l.prog w K mg base 1 "Overuse" C_Overuse (spEr C_Overuse ["name", "used", "allowed"] ok_Overuse) := ⟨_, _, _, _, _, _, _, ox_Overuse, g_Overuse, a_ei_Overuse_init, ty_ei_Overuse_init, in_Overuse F_ei_Overuse_init ox_Overuse no_Overuse_name no_Overuse_used no_Overuse_allowed bi_CheckError, b_ei_Overuse_init⟩
  have x_NoTurns : ExM l.prog w K mg base 1 "NoTurns" C_NoTurns (spEr C_NoTurns ["name"] ok_NoTurns) := ⟨_, _, _, _, _, _, _, ox_NoTurns, g_NoTurns, a_ei_NoTurns_init, ty_ei_NoTurns_init, in_NoTurns F_ei_NoTurns_init ox_NoTurns no_NoTurns_name bi_CheckError, b_ei_NoTurns_init⟩
  have x_TwiceBound : ExM l.prog w K mg base 1 "TwiceBound" C_TwiceBound (spEr C_TwiceBound ["name"] ok_TwiceBound) := ⟨_, _, _, _, _, _, _, ox_TwiceBound, g_TwiceBound, a_ei_TwiceBound_init, ty_ei_TwiceBound_init, in_TwiceBound F_ei_TwiceBound_init ox_TwiceBound no_TwiceBound_name bi_CheckError, b_ei_TwiceBound_init⟩
  have x_LooseGap : ExM l.prog w K mg base 1 "LooseGap" C_LooseGap (spEr C_LooseGap ["name"] ok_LooseGap) := ⟨_, _, _, _, _, _, _, ox_LooseGap, g_LooseGap, a_ei_LooseGap_init, ty_ei_LooseGap_init, in_LooseGap F_ei_LooseGap_init ox_LooseGap no_LooseGap_name bi_CheckError, b_ei_LooseGap_init⟩
  have x_OutOfMoves : ExM l.prog w K mg base 1 "OutOfMoves" C_OutOfMoves (spEr C_OutOfMoves ["bound"] ok_OutOfMoves) := ⟨_, _, _, _, _, _, _, ox_OutOfMoves, g_OutOfMoves, a_ei_OutOfMoves_init, ty_ei_OutOfMoves_init, in_OutOfMoves F_ei_OutOfMoves_init ox_OutOfMoves no_OutOfMoves_bound bi_RunError, b_ei_OutOfMoves_init⟩
  have x_Refused : ExM l.prog w K mg base 1 "Refused" C_Refused (spEr C_Refused ["name"] ok_Refused) := ⟨_, _, _, _, _, _, _, ox_Refused, g_Refused, a_ei_Refused_init, ty_ei_Refused_init, in_Refused F_ei_Refused_init ox_Refused no_Refused_name bi_BookError, b_ei_Refused_init⟩
  have x_InUse : ExM l.prog w K mg base 1 "InUse" C_InUse (spInUse C_InUse) := ⟨_, _, _, _, _, _, _, ox_InUse, g_InUse, a_ei_InUse_init, ty_ei_InUse_init, in_InUse F_ei_InUse_init ox_InUse TL no_InUse_name no_InUse_users bi_BookError, b_ei_InUse_init⟩
  have x_BadName : ExM l.prog w K mg base 1 "BadName" C_BadName (spEr C_BadName ["name"] ok_BadName) := ⟨_, _, _, _, _, _, _, ox_BadName, g_BadName, a_ei_BadName_init, ty_ei_BadName_init, in_BadName F_ei_BadName_init ox_BadName no_BadName_name bi_BookError, b_ei_BadName_init⟩
  have x_BadLimit : ExM l.prog w K mg base 1 "BadLimit" C_BadLimit (spEr C_BadLimit ["bound"] ok_BadLimit) := ⟨_, _, _, _, _, _, _, ox_BadLimit, g_BadLimit, a_ei_BadLimit_init, ty_ei_BadLimit_init, in_BadLimit F_ei_BadLimit_init ox_BadLimit no_BadLimit_bound bi_BookError, b_ei_BadLimit_init⟩
  have x_WrongCount : ExM l.prog w K mg base 1 "WrongCount" C_WrongCount (spEr C_WrongCount ["wanted", "found"] ok_WrongCount) := ⟨_, _, _, _, _, _, _, ox_WrongCount, g_WrongCount, a_ei_WrongCount_init, ty_ei_WrongCount_init, in_WrongCount F_ei_WrongCount_init ox_WrongCount no_WrongCount_wanted no_WrongCount_found bi_BookError, b_ei_WrongCount_init⟩
  have x_TooLarge : ExM l.prog w K mg base 1 "TooLarge" C_TooLarge (spEr C_TooLarge ["size"] ok_TooLarge) := ⟨_, _, _, _, _, _, _, ox_TooLarge, g_TooLarge, a_ei_TooLarge_init, ty_ei_TooLarge_init, in_TooLarge F_ei_TooLarge_init ox_TooLarge no_TooLarge_size bi_BookError, b_ei_TooLarge_init⟩
  have x_UnknownGrade : ExM l.prog w K mg base 1 "UnknownGrade" C_UnknownGrade (spEr C_UnknownGrade ["name"] ok_UnknownGrade) := ⟨_, _, _, _, _, _, _, ox_UnknownGrade, g_UnknownGrade, a_ei_UnknownGrade_init, ty_ei_UnknownGrade_init, in_UnknownGrade F_ei_UnknownGrade_init ox_UnknownGrade no_UnknownGrade_name bi_NameMissing, b_ei_UnknownGrade_init⟩
  have x_UnboundName : ExM l.prog w K mg base 1 "UnboundName" C_UnboundName (spEr C_UnboundName ["name"] ok_UnboundName) := ⟨_, _, _, _, _, _, _, ox_UnboundName, g_UnboundName, a_ei_UnboundName_init, ty_ei_UnboundName_init, in_UnboundName F_ei_UnboundName_init ox_UnboundName no_UnboundName_name bi_NameMissing, b_ei_UnboundName_init⟩
  have x_Undefined : ExM l.prog w K mg base 1 "Undefined" C_Undefined (spEr C_Undefined ["name"] ok_Undefined) := ⟨_, _, _, _, _, _, _, ox_Undefined, g_Undefined, a_ei_Undefined_init, ty_ei_Undefined_init, in_Undefined F_ei_Undefined_init ox_Undefined no_Undefined_name bi_NameMissing, b_ei_Undefined_init⟩
  clear hC t_kit t_er t_no t_ov t_ol t_x0
  subst q_BadScale q_EndlessScale q_MixedScales q_NegativeCount q_NoBound q_BadText q_NoRedex q_BadMap q_TooMany q_BadCode q_KindClash q_WrongForm q_Overuse q_NoTurns q_TwiceBound q_LooseGap q_GoneTerm q_OutOfMoves q_GoneReached q_NotDone q_Refused q_InUse q_BadName q_BadLimit q_WrongCount q_TooLarge q_UnknownGrade q_UnboundName q_Undefined q_UsescaleError q_CheckError q_RunError q_BookError q_NameMissing
  have T : TxE K mg C := ⟨TL, ⟨_, g_BadScale, rfl⟩, ⟨_, g_EndlessScale, rfl⟩, ⟨_, g_MixedScales, rfl⟩, ⟨_, g_NegativeCount, rfl⟩, ⟨_, g_NoBound, rfl⟩, ⟨_, g_BadText, rfl⟩, ⟨_, g_NoRedex, rfl⟩, ⟨_, g_BadMap, rfl⟩, ⟨_, g_TooMany, rfl⟩, ⟨_, g_BadCode, rfl⟩, ⟨_, g_KindClash, rfl⟩, ⟨_, g_WrongForm, rfl⟩, ⟨_, g_Overuse, rfl⟩, ⟨_, g_NoTurns, rfl⟩, ⟨_, g_TwiceBound, rfl⟩, ⟨_, g_LooseGap, rfl⟩, ⟨_, g_GoneTerm, rfl⟩, ⟨_, g_OutOfMoves, rfl⟩, ⟨_, g_GoneReached, rfl⟩, ⟨_, g_NotDone, rfl⟩, ⟨_, g_Refused, rfl⟩, ⟨_, g_InUse, rfl⟩, ⟨_, g_BadName, rfl⟩, ⟨_, g_BadLimit, rfl⟩, ⟨_, g_WrongCount, rfl⟩, ⟨_, g_TooLarge, rfl⟩, ⟨_, g_UnknownGrade, rfl⟩, ⟨_, g_UnboundName, rfl⟩, ⟨_, g_Undefined, rfl⟩, ⟨_, g_UsescaleError, rfl⟩, ⟨_, g_CheckError, rfl⟩, ⟨_, g_RunError, rfl⟩, ⟨_, g_BookError, rfl⟩, ⟨_, g_NameMissing, rfl⟩, zn_ValueError, zn_LookupError, fun i hi => erB_i (erC i hi) x_cg x_ct, fun i hi => erB_x (erC i hi), fun i hi j hj => of_decide_eq_true (List.all_eq_true.mp (kitC i hi).1 j (List.mem_range.mpr hj)), fun i hi => (kitC i hi).2.1, fun i hi => (kitC i hi).2.2, x0_BadScale, x0_EndlessScale, x0_MixedScales, no_NegativeCount_count, no_NoBound_name, no_NoBound_first, no_NoBound_second, no_BadText_at, no_NoRedex_place, x0_BadMap, no_TooMany_size, no_BadCode_block, no_BadCode_row, no_KindClash_wanted, no_KindClash_found, no_WrongForm_word, no_WrongForm_found, no_Overuse_name, no_Overuse_used, no_Overuse_allowed, no_NoTurns_name, no_TwiceBound_name, no_LooseGap_name, x0_GoneTerm, no_OutOfMoves_bound, x0_GoneReached, x0_NotDone, no_Refused_name, no_InUse_name, no_InUse_users, no_BadName_name, no_BadLimit_bound, no_WrongCount_wanted, no_WrongCount_found, no_TooLarge_size, no_UnknownGrade_name, no_UnboundName_name, no_Undefined_name⟩
  have c__law_draws : Cal l.prog w K mg base CX0 1 "_law_draws" (spDraws K) := ⟨_, _, _, ok_draws F__law_draws TL, g__law_draws, k__law_draws, b__law_draws⟩
  have c__law_draw : Cal l.prog w K mg base CX0 1 "_law_draw" spDraw := ⟨_, _, _, ok_draw F__law_draw TL, g__law_draw, k__law_draw, b__law_draw⟩
  have c__law_classes : Cal l.prog w K mg base CX0 1 "_law_classes" (spLCls C) := ⟨_, _, _, ok_lclasses F__law_classes T, g__law_classes, k__law_classes, b__law_classes⟩
  have c__law_bases : Cal l.prog w K mg base CX0 1 "_law_bases" (spLBas C) := ⟨_, _, _, ok_lbases F__law_bases T, g__law_bases, k__law_bases, b__law_bases⟩
  have c__law_made : Cal l.prog w K mg base CX0 3 "_law_made" (spMade C) := ⟨_, _, _, ok_lmade F__law_made T x_NegativeCount x_NoBound x_BadText x_NoRedex x_TooMany x_BadCode x_KindClash x_WrongForm x_Overuse x_NoTurns x_TwiceBound x_LooseGap x_OutOfMoves x_Refused x_InUse x_BadName x_BadLimit x_WrongCount x_TooLarge x_UnknownGrade x_UnboundName x_Undefined, g__law_made, k__law_made, b__law_made⟩
  have c__law_fields : Cal l.prog w K mg base CX0 1 "_law_fields" (spFields C) := ⟨_, _, _, ok_lfields F__law_fields T, g__law_fields, k__law_fields, b__law_fields⟩
  exact ok_law F_law T c__law_draws c__law_draw c__law_classes c__law_bases c__law_made c__law_fields
theorem walk {l : PySem.W.OpenLaw} {q : Program} {loose : List Str} {XP : (Str → Option Value) → Heap → Prop} {YP : World → Heap → Prop} {d : DefRec} {K : Params → PySem.W.Frag} (hn : l.most = some 63) (hdf : d.params.defaults = [])
    (hY : ∀ (w : World) (h : Heap), YP w h → (K w.params).In h)
    (F : ∀ (w : World) (mg : Str → Option Value) (fa : Addr) (h : Heap), (K w.params).In h → h.Ns mainGlobals mg → mg d.name = some (.ref fa) →
      ∃ fd : FuncData, (∀ (s : Shared) (u : Value), BindsTo s fd ⟨[u], []⟩ [("_law_script", u)]) ∧ ∀ base : Heap, (K w.params).In base → base.Ns mainGlobals mg → FnOk l.prog w (K w.params) mg base CX0 5 fa fd ["_law_script"] (spLaw (K w.params))) :
    PySem.W.WalkO q loose XP YP l.row.toRowW d [] (fun f vs => PySem.call f vs) :=
  L2.walk_of (n := 63) (k := 5) (x := "_law_script") (CX := fun _ => CX0) (sp := fun w => spLaw (K w.params)) hn (by decide) hdf ⟨rfl, by decide, by decide⟩ hY F (fun _ _ a ns hl _ hS => ⟨a, ns, rfl, hS, hl, fun _ => rfl⟩) fun _ _ _ _ _ z => z
end Q
open PySem PySem.W PyProof.Rows
set_option maxRecDepth 100000 in
set_option maxHeartbeats 0 in
theorem PySem.Challenge.cw_usescale_k50_errors_holds : PySem.Challenge.rw_usescale_k50_errors.Holds := by
  w_on; o_law; k_head; (case hw => w_witness2)
  k_fill
  refine Q.walk (l := PySem.Challenge.rw_usescale_k50_errors) rfl rfl (fun w h Y => PySem.W.kIn_of Y) ?F
  case F =>
    intro w mg fa h KX G hmg
    refine' Q.all_mk KX G hmg ?aC_BadScale ?aC_EndlessScale ?aC_MixedScales ?aC_NegativeCount ?aC_NoBound ?aC_BadText ?aC_NoRedex ?aC_BadMap ?aC_TooMany ?aC_BadCode ?aC_KindClash ?aC_WrongForm ?aC_Overuse ?aC_NoTurns ?aC_TwiceBound ?aC_LooseGap ?aC_GoneTerm ?aC_OutOfMoves ?aC_GoneReached ?aC_NotDone ?aC_Refused ?aC_InUse ?aC_BadName ?aC_BadLimit ?aC_WrongCount ?aC_TooLarge ?aC_UnknownGrade ?aC_UnboundName ?aC_Undefined ?aC_UsescaleError ?aC_CheckError ?aC_RunError ?aC_BookError ?aC_NameMissing ?a_ei_NegativeCount_init ?l_ei_NegativeCount_init ?c_ei_NegativeCount_init ?k_ei_NegativeCount_init ?ty_ei_NegativeCount_init ?a_ei_NoBound_init ?l_ei_NoBound_init ?c_ei_NoBound_init ?k_ei_NoBound_init ?ty_ei_NoBound_init ?a_ei_BadText_init ?l_ei_BadText_init ?c_ei_BadText_init ?k_ei_BadText_init ?ty_ei_BadText_init ?a_ei_NoRedex_init ?l_ei_NoRedex_init ?c_ei_NoRedex_init ?k_ei_NoRedex_init ?ty_ei_NoRedex_init ?a_ei_TooMany_init ?l_ei_TooMany_init ?c_ei_TooMany_init ?k_ei_TooMany_init ?ty_ei_TooMany_init ?a_ei_BadCode_init ?l_ei_BadCode_init ?c_ei_BadCode_init ?k_ei_BadCode_init ?ty_ei_BadCode_init ?a_ei_KindClash_init ?l_ei_KindClash_init ?c_ei_KindClash_init ?k_ei_KindClash_init ?ty_ei_KindClash_init ?a_ei_WrongForm_init ?l_ei_WrongForm_init ?c_ei_WrongForm_init ?k_ei_WrongForm_init ?ty_ei_WrongForm_init ?a_ei_Overuse_init ?l_ei_Overuse_init ?c_ei_Overuse_init ?k_ei_Overuse_init ?ty_ei_Overuse_init ?a_ei_NoTurns_init ?l_ei_NoTurns_init ?c_ei_NoTurns_init ?k_ei_NoTurns_init ?ty_ei_NoTurns_init ?a_ei_TwiceBound_init ?l_ei_TwiceBound_init ?c_ei_TwiceBound_init ?k_ei_TwiceBound_init ?ty_ei_TwiceBound_init ?a_ei_LooseGap_init ?l_ei_LooseGap_init ?c_ei_LooseGap_init ?k_ei_LooseGap_init ?ty_ei_LooseGap_init ?a_ei_OutOfMoves_init ?l_ei_OutOfMoves_init ?c_ei_OutOfMoves_init ?k_ei_OutOfMoves_init ?ty_ei_OutOfMoves_init ?a_ei_Refused_init ?l_ei_Refused_init ?c_ei_Refused_init ?k_ei_Refused_init ?ty_ei_Refused_init ?a_ei_InUse_init ?l_ei_InUse_init ?c_ei_InUse_init ?k_ei_InUse_init ?ty_ei_InUse_init ?a_ei_BadName_init ?l_ei_BadName_init ?c_ei_BadName_init ?k_ei_BadName_init ?ty_ei_BadName_init ?a_ei_BadLimit_init ?l_ei_BadLimit_init ?c_ei_BadLimit_init ?k_ei_BadLimit_init ?ty_ei_BadLimit_init ?a_ei_WrongCount_init ?l_ei_WrongCount_init ?c_ei_WrongCount_init ?k_ei_WrongCount_init ?ty_ei_WrongCount_init ?a_ei_TooLarge_init ?l_ei_TooLarge_init ?c_ei_TooLarge_init ?k_ei_TooLarge_init ?ty_ei_TooLarge_init ?a_ei_UnknownGrade_init ?l_ei_UnknownGrade_init ?c_ei_UnknownGrade_init ?k_ei_UnknownGrade_init ?ty_ei_UnknownGrade_init ?a_ei_UnboundName_init ?l_ei_UnboundName_init ?c_ei_UnboundName_init ?k_ei_UnboundName_init ?ty_ei_UnboundName_init ?a_ei_Undefined_init ?l_ei_Undefined_init ?c_ei_Undefined_init ?k_ei_Undefined_init ?ty_ei_Undefined_init ?rd_bi_UsescaleError ?ga_bi_UsescaleError ?a_bi_UsescaleError ?rd_bi_CheckError ?ga_bi_CheckError ?a_bi_CheckError ?rd_bi_RunError ?ga_bi_RunError ?a_bi_RunError ?rd_bi_BookError ?ga_bi_BookError ?a_bi_BookError ?rd_bi_NameMissing ?ga_bi_NameMissing ?a_bi_NameMissing ?a__law_draws ?l__law_draws ?c__law_draws ?k__law_draws ?a__law_draw ?l__law_draw ?c__law_draw ?k__law_draw ?a__law_classes ?l__law_classes ?c__law_classes ?k__law_classes ?a__law_bases ?l__law_bases ?c__law_bases ?k__law_bases ?a__law_made ?l__law_made ?c__law_made ?k__law_made ?a__law_fields ?l__law_fields ?c__law_fields ?k__law_fields ?a_law ?l_law ?c_law ?k_law ?z_int ?z_len ?z_range ?z_isinstance ?z_bool ?z_str ?z_tuple ?z_list ?z_ValueError ?z_LookupError ?x_cg ?x_ct ?t_kit ?t_er ?t_no ?t_ov ?t_ol ?t_x0
    (case aC_BadScale => k_is)
    (case aC_EndlessScale => k_is)
    (case aC_MixedScales => k_is)
    (case aC_NegativeCount => k_is)
    (case aC_NoBound => k_is)
    (case aC_BadText => k_is)
    (case aC_NoRedex => k_is)
    (case aC_BadMap => k_is)
    (case aC_TooMany => k_is)
    (case aC_BadCode => k_is)
    (case aC_KindClash => k_is)
    (case aC_WrongForm => k_is)
    (case aC_Overuse => k_is)
    (case aC_NoTurns => k_is)
    (case aC_TwiceBound => k_is)
    (case aC_LooseGap => k_is)
    (case aC_GoneTerm => k_is)
    (case aC_OutOfMoves => k_is)
    (case aC_GoneReached => k_is)
    (case aC_NotDone => k_is)
    (case aC_Refused => k_is)
    (case aC_InUse => k_is)
    (case aC_BadName => k_is)
    (case aC_BadLimit => k_is)
    (case aC_WrongCount => k_is)
    (case aC_TooLarge => k_is)
    (case aC_UnknownGrade => k_is)
    (case aC_UnboundName => k_is)
    (case aC_Undefined => k_is)
    (case aC_UsescaleError => k_is)
    (case aC_CheckError => k_is)
    (case aC_RunError => k_is)
    (case aC_BookError => k_is)
    (case aC_NameMissing => k_is)
    (case a_ei_NegativeCount_init => k_is)
    (case l_ei_NegativeCount_init => k_is)
    (case c_ei_NegativeCount_init => k_is)
    (case k_ei_NegativeCount_init => k_is)
    (case ty_ei_NegativeCount_init => k_is)
    (case a_ei_NoBound_init => k_is)
    (case l_ei_NoBound_init => k_is)
    (case c_ei_NoBound_init => k_is)
    (case k_ei_NoBound_init => k_is)
    (case ty_ei_NoBound_init => k_is)
    (case a_ei_BadText_init => k_is)
    (case l_ei_BadText_init => k_is)
    (case c_ei_BadText_init => k_is)
    (case k_ei_BadText_init => k_is)
    (case ty_ei_BadText_init => k_is)
    (case a_ei_NoRedex_init => k_is)
    (case l_ei_NoRedex_init => k_is)
    (case c_ei_NoRedex_init => k_is)
    (case k_ei_NoRedex_init => k_is)
    (case ty_ei_NoRedex_init => k_is)
    (case a_ei_TooMany_init => k_is)
    (case l_ei_TooMany_init => k_is)
    (case c_ei_TooMany_init => k_is)
    (case k_ei_TooMany_init => k_is)
    (case ty_ei_TooMany_init => k_is)
    (case a_ei_BadCode_init => k_is)
    (case l_ei_BadCode_init => k_is)
    (case c_ei_BadCode_init => k_is)
    (case k_ei_BadCode_init => k_is)
    (case ty_ei_BadCode_init => k_is)
    (case a_ei_KindClash_init => k_is)
    (case l_ei_KindClash_init => k_is)
    (case c_ei_KindClash_init => k_is)
    (case k_ei_KindClash_init => k_is)
    (case ty_ei_KindClash_init => k_is)
    (case a_ei_WrongForm_init => k_is)
    (case l_ei_WrongForm_init => k_is)
    (case c_ei_WrongForm_init => k_is)
    (case k_ei_WrongForm_init => k_is)
    (case ty_ei_WrongForm_init => k_is)
    (case a_ei_Overuse_init => k_is)
    (case l_ei_Overuse_init => k_is)
    (case c_ei_Overuse_init => k_is)
    (case k_ei_Overuse_init => k_is)
    (case ty_ei_Overuse_init => k_is)
    (case a_ei_NoTurns_init => k_is)
    (case l_ei_NoTurns_init => k_is)
    (case c_ei_NoTurns_init => k_is)
    (case k_ei_NoTurns_init => k_is)
    (case ty_ei_NoTurns_init => k_is)
    (case a_ei_TwiceBound_init => k_is)
    (case l_ei_TwiceBound_init => k_is)
    (case c_ei_TwiceBound_init => k_is)
    (case k_ei_TwiceBound_init => k_is)
    (case ty_ei_TwiceBound_init => k_is)
    (case a_ei_LooseGap_init => k_is)
    (case l_ei_LooseGap_init => k_is)
    (case c_ei_LooseGap_init => k_is)
    (case k_ei_LooseGap_init => k_is)
    (case ty_ei_LooseGap_init => k_is)
    (case a_ei_OutOfMoves_init => k_is)
    (case l_ei_OutOfMoves_init => k_is)
    (case c_ei_OutOfMoves_init => k_is)
    (case k_ei_OutOfMoves_init => k_is)
    (case ty_ei_OutOfMoves_init => k_is)
    (case a_ei_Refused_init => k_is)
    (case l_ei_Refused_init => k_is)
    (case c_ei_Refused_init => k_is)
    (case k_ei_Refused_init => k_is)
    (case ty_ei_Refused_init => k_is)
    (case a_ei_InUse_init => k_is)
    (case l_ei_InUse_init => k_is)
    (case c_ei_InUse_init => k_is)
    (case k_ei_InUse_init => k_is)
    (case ty_ei_InUse_init => k_is)
    (case a_ei_BadName_init => k_is)
    (case l_ei_BadName_init => k_is)
    (case c_ei_BadName_init => k_is)
    (case k_ei_BadName_init => k_is)
    (case ty_ei_BadName_init => k_is)
    (case a_ei_BadLimit_init => k_is)
    (case l_ei_BadLimit_init => k_is)
    (case c_ei_BadLimit_init => k_is)
    (case k_ei_BadLimit_init => k_is)
    (case ty_ei_BadLimit_init => k_is)
    (case a_ei_WrongCount_init => k_is)
    (case l_ei_WrongCount_init => k_is)
    (case c_ei_WrongCount_init => k_is)
    (case k_ei_WrongCount_init => k_is)
    (case ty_ei_WrongCount_init => k_is)
    (case a_ei_TooLarge_init => k_is)
    (case l_ei_TooLarge_init => k_is)
    (case c_ei_TooLarge_init => k_is)
    (case k_ei_TooLarge_init => k_is)
    (case ty_ei_TooLarge_init => k_is)
    (case a_ei_UnknownGrade_init => k_is)
    (case l_ei_UnknownGrade_init => k_is)
    (case c_ei_UnknownGrade_init => k_is)
    (case k_ei_UnknownGrade_init => k_is)
    (case ty_ei_UnknownGrade_init => k_is)
    (case a_ei_UnboundName_init => k_is)
    (case l_ei_UnboundName_init => k_is)
    (case c_ei_UnboundName_init => k_is)
    (case k_ei_UnboundName_init => k_is)
    (case ty_ei_UnboundName_init => k_is)
    (case a_ei_Undefined_init => k_is)
    (case l_ei_Undefined_init => k_is)
    (case c_ei_Undefined_init => k_is)
    (case k_ei_Undefined_init => k_is)
    (case ty_ei_Undefined_init => k_is)
    (case rd_bi_UsescaleError => k_is)
    (case ga_bi_UsescaleError => k_is)
    (case a_bi_UsescaleError => k_is)
    (case rd_bi_CheckError => k_is)
    (case ga_bi_CheckError => k_is)
    (case a_bi_CheckError => k_is)
    (case rd_bi_RunError => k_is)
    (case ga_bi_RunError => k_is)
    (case a_bi_RunError => k_is)
    (case rd_bi_BookError => k_is)
    (case ga_bi_BookError => k_is)
    (case a_bi_BookError => k_is)
    (case rd_bi_NameMissing => k_is)
    (case ga_bi_NameMissing => k_is)
    (case a_bi_NameMissing => k_is)
    (case a__law_draws => k_is)
    (case l__law_draws => k_is)
    (case c__law_draws => k_is)
    (case k__law_draws => k_is)
    (case a__law_draw => k_is)
    (case l__law_draw => k_is)
    (case c__law_draw => k_is)
    (case k__law_draw => k_is)
    (case a__law_classes => k_is)
    (case l__law_classes => k_is)
    (case c__law_classes => k_is)
    (case k__law_classes => k_is)
    (case a__law_bases => k_is)
    (case l__law_bases => k_is)
    (case c__law_bases => k_is)
    (case k__law_bases => k_is)
    (case a__law_made => k_is)
    (case l__law_made => k_is)
    (case c__law_made => k_is)
    (case k__law_made => k_is)
    (case a__law_fields => k_is)
    (case l__law_fields => k_is)
    (case c__law_fields => k_is)
    (case k__law_fields => k_is)
    (case a_law => k_is)
    (case l_law => k_is)
    (case c_law => k_is)
    (case k_law => k_is)
    (case z_int => k_is)
    (case z_len => k_is)
    (case z_range => k_is)
    (case z_isinstance => k_is)
    (case z_bool => k_is)
    (case z_str => k_is)
    (case z_tuple => k_is)
    (case z_list => k_is)
    (case z_ValueError => k_is)
    (case z_LookupError => k_is)
    (case x_cg => k_is)
    (case x_ct => k_is)
    (case t_kit => kernel_rfl)
    (case t_er => kernel_rfl)
    (case t_no => kernel_rfl)
    (case t_ov => kernel_rfl)
    (case t_ol => kernel_rfl)
    (case t_x0 => kernel_rfl)
