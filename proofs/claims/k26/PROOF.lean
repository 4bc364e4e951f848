import PyProof.Rows.All
import Wide.All
import OpenK.AllK
import Wide.FinOn
import HandS.ForMost
import HandS.Defaults
import HandS.MakeKwOnly
import HandS.Conv
import HandS.Style
import HandS.IsInst
import HandS.FStr
import HandS.DictComp
import HandS.ClsMeth
import HandS.Steps
import KE.KExcInit
import KE.KExcIs
import HandS.ForExc
import HandS.ExcInit
import HandS.ExcField
import HandS.ExcIs
import KE.KxField
import KE.KEqSeq
import HandS.StrMore
import HandS.Strs
import HandS.SetKeys
import HandS.Walk
import HandS.WordsDict
import HandS.Flow
import HandS.ExcValue
import KE.GoesEnumKw
import PyProof.Rows.CallKwBuiltin
import HandS.More
import HandS.RaiseMore
import HandS.Wide
import KE.DataCmp
import KE.KExcLine
import KE.RegKTryMore
import KE.RegKIsAll
import PySem.Challenge.RW_usescale_k26_alike_terms
set_option Elab.async false
set_option linter.all false
set_option maxRecDepth 100000
set_option maxHeartbeats 4000000
section
/-! Rules of my own over the hand layer, for every law of this program. -/
namespace U
open PySem PySem.Spec PyProof.Rows L2

/-! ### tests whose answer is known -/
theorem ifY {c A B : Prop} [Decidable c] (hc : c) (h : A) : if decide c = true then A else B := by
  rw [decide_eq_true hc]; exact iteT h
theorem ifN {c A B : Prop} [Decidable c] (hc : ¬ c) (h : B) : if decide c = true then A else B := by
  rw [decide_eq_false hc]; exact iteF h
theorem nifY {c A B : Prop} [Decidable c] (hc : c) (h : B) : if (!decide c) = true then A else B := by
  rw [decide_eq_true hc]; exact iteF h
theorem nifN {c A B : Prop} [Decidable c] (hc : ¬ c) (h : A) : if (!decide c) = true then A else B := by
  rw [decide_eq_false hc]; exact iteT h
theorem ifD {c A B : Prop} [Decidable c] (h1 : c → A) (h2 : ¬ c → B) : if decide c = true then A else B := by
  by_cases h : c
  · exact ifY h (h1 h)
  · exact ifN h (h2 h)
theorem ifB {b : Bool} {A B : Prop} (h1 : b = true → A) (h2 : b = false → B) : if b = true then A else B := by
  cases b
  · exact iteF (h2 rfl)
  · exact iteT (h1 rfl)
theorem ifT {b : Bool} {A B : Prop} (e : b = true) (h : A) : if b = true then A else B := by
  rw [e]; exact iteT h
theorem ifF {b : Bool} {A B : Prop} (e : b = false) (h : B) : if b = true then A else B := by
  rw [e]; exact iteF h

theorem tYesI {σ : L2.St} {H : Hp} {Q : Bool → Hp → Prop} (h : Q true H) : tYes σ H Q := h
theorem sameNew {H : Hp} {p : Addr} {o : HO} (h : H p = none) : Same H (upd H p o) := fun b u e => by
  rw [upd_ne (ne_of_none e h)]; exact e
theorem at_map {ns : List Int} {i : Nat} {y : V} (hi : (ns.map V.int)[i]? = some y) : ∃ n, y = V.int n ∧ ns[i]? = some n := by
  rw [List.getElem?_map] at hi
  cases e : ns[i]? with
  | none => rw [e] at hi; cases hi
  | some n => rw [e] at hi; exact ⟨n, (Option.some.inj hi).symm, rfl⟩
theorem take_snoc {α : Type} {l : List α} {i : Nat} {x : α} (h : l[i]? = some x) : l.take (i + 1) = l.take i ++ [x] := by
  rw [List.take_succ, h]; rfl

/-- a while: W with its measure, B where it ends by its test or a break -/
theorem whileX {c : TT} {tb : TS} {D : Ends} {σ : L2.St} {H : Hp} (W : Nat → L2.St → Hp → Prop) (B : L2.St → Hp → Prop) (n : Nat) (h0 : W n σ H) (hB : ∀ σ H, B σ H → D.nx σ H)
    (hs : ∀ (nx : L2.St → Hp → Prop), (∀ σ H, B σ H → nx σ H) → ∀ m σ H, W m σ H → c σ H fun b H1 => if b = true then ∃ N : L2.St → Hp → Prop, (∀ σ' H', N σ' H' → ∃ m', m' < m ∧ W m' σ' H') ∧ tb { D with nx := N, ct := N, bk := nx } σ H1 else nx σ H1) :
    tWhile c tb D σ H := ⟨W, ⟨n, h0⟩, hs D.nx hB⟩

/-! ### attributes by position -/
theorem lk : ∀ {ks : List Str} {vs : List V} {f : Str} {i : Nat} {v : V}, ks.findIdx? (fun k => k == f) = some i → vs[i]? = some v → (ks.zip vs).lookup f = some v
  | [], vs, f, i, v, h, _ => by simp at h
  | k :: ks, [], f, i, v, _, hv => by simp at hv
  | k :: ks, x :: vs, f, i, v, h, hv => by
    rw [List.findIdx?_cons] at h
    by_cases e : (k == f) = true
    · rw [if_pos e] at h
      obtain rfl : 0 = i := Option.some.inj h
      have e1 : f = k := (beq_iff_eq.mp e).symm
      subst e1
      obtain rfl : x = v := by simpa using hv
      simp [List.lookup]
    · rw [if_neg e] at h
      cases i with
      | zero => simp at h
      | succ i =>
        have h' : ks.findIdx? (fun k => k == f) = some i := by
          cases q : ks.findIdx? (fun k => k == f) with
          | none => rw [q] at h; simp at h
          | some j => rw [q] at h; simp at h; rw [h]
        have e2 : (f == k) = false := by
          rw [Bool.eq_false_iff]; intro z
          exact e (beq_iff_eq.mpr (beq_iff_eq.mp z).symm)
        show (match f == k with | true => some x | false => (ks.zip vs).lookup f) = some v
        rw [e2]
        exact lk h' (by simpa using hv)
theorem lkn : ∀ {ks : List Str} {vs : List V} {f : Str}, ks.findIdx? (fun k => k == f) = none → (ks.zip vs).lookup f = none
  | [], vs, f, h => by simp
  | k :: ks, [], f, _ => by simp
  | k :: ks, x :: vs, f, h => by
    rw [List.findIdx?_cons] at h
    by_cases e : (k == f) = true
    · rw [if_pos e] at h; simp at h
    · rw [if_neg e] at h
      have h' : ks.findIdx? (fun k => k == f) = none := by
        cases q : ks.findIdx? (fun k => k == f) with
        | none => rfl
        | some j => rw [q] at h; simp at h
      have e2 : (f == k) = false := by
        rw [Bool.eq_false_iff]; intro z
        exact e (beq_iff_eq.mpr (beq_iff_eq.mp z).symm)
      show (match f == k with | true => some x | false => (ks.zip vs).lookup f) = none
      rw [e2]
      exact lkn h'
/-- a new attribute -/
theorem pf : ∀ {ks : List Str} {vs : List V} {f : Str} {v : V}, ks.findIdx? (fun k => k == f) = none → ks.length = vs.length → putF f v (ks.zip vs) = (ks ++ [f]).zip (vs ++ [v])
  | [], [], f, v, _, _ => rfl
  | [], x :: vs, f, v, _, h => by simp at h
  | k :: ks, [], f, v, _, h => by simp at h
  | k :: ks, x :: vs, f, v, h, hl => by
    rw [List.findIdx?_cons] at h
    by_cases e : (k == f) = true
    · rw [if_pos e] at h; simp at h
    · rw [if_neg e] at h
      have h' : ks.findIdx? (fun k => k == f) = none := by
        cases q : ks.findIdx? (fun k => k == f) with
        | none => rfl
        | some j => rw [q] at h; simp at h
      have e2 : ¬ k = f := fun z => e (beq_iff_eq.mpr z)
      show (if k = f then (k, v) :: ks.zip vs else (k, x) :: putF f v (ks.zip vs)) = _
      rw [if_neg e2, pf h' (by simpa using hl)]
      rfl

/-! ### o[i] of a list, for o[i] op= e -/
def rGetL (K : PySem.W.Frag) : V → V → Hp → VK → Prop := fun x y H Q => ∃ p xs i v, x = .ref p ∧ y = .int i ∧ SqL K H p xs ∧ 0 ≤ i ∧ xs[i.toNat]? = some v ∧ Q v H
theorem get_list {X : Cx} : PGet X (rGetL X.K) := by
  intro pins s σ H x y v u Q I rx ry h
  obtain ⟨p, xs, i, z, rfl, rfl, hq, h0, he, q⟩ := h
  cases (show v = Value.ref p from rx)
  obtain ⟨t, rfl⟩ := ry
  obtain ⟨its, r, pl, hz⟩ := I.list hq
  obtain ⟨w, ew, rw'⟩ := r.get he
  have hl := r.length
  have hn := line63
  have hb := (List.getElem?_eq_some_iff.mp he).1
  exact wpAny_getItem_list pl.isList h0 (by omega) (by simpa using ew) ⟨z, H, I, rw', q⟩

/-! ### a[i], a a list or a tuple -/
theorem ix_or {X : Cx} {r r' : R2} (h : IxR X r) (h' : IxR X r') : IxR X (fun x y H Q => r x y H Q ∨ r' x y H Q) := by
  intro value slice pins s σ H x y v u Q I rx ry hq hs
  rcases hq with q | q
  · exact h value slice pins s σ H x y v u Q I rx ry q hs
  · exact h' value slice pins s σ H x y v u Q I rx ry q hs
def rIxLT (K : PySem.W.Frag) : R2 := fun x y H Q => rIxL K x y H Q ∨ rIxT K x y H Q
theorem ix_ls {X : Cx} : IxR X (rIxLT X.K) := ix_or ix_list ix_tup

/-! ### x is True, x is False: x anything -/
def rIsBA : R2 := fun x y H Q => ∃ b : Bool, y = .bl b ∧ Q (.bl (decide (x = .bl b))) H
theorem plain_bl {x : V} {v : Value} (b : Bool) (rx : RelV x v) : plainIs v (.bool b) = true := by
  cases x with
  | non => cases (show v = Value.none from rx); rfl
  | bl c => cases (show v = Value.bool c from rx); rfl
  | int i => obtain ⟨t, rfl⟩ := rx; rfl
  | str i => obtain ⟨t, rfl⟩ := rx; rfl
  | byt i => obtain ⟨t, rfl⟩ := rx; rfl
  | flt i => obtain ⟨t, rfl⟩ := rx; rfl
  | ref a => cases (show v = Value.ref a from rx); rfl
  | ty n => cases (show v = Value.type n from rx); rfl
theorem op_isBA {X : Cx} : OpR X (compareOp .Is) rIsBA := by
  intro pins s σ H x y v u Q I rx ry h
  obtain ⟨b, rfl, q⟩ := h
  cases (show u = Value.bool b from ry)
  by_cases e : x = .bl b
  · subst e
    cases (show v = Value.bool b from rx)
    exact wpAny_is_self rfl ⟨.bl true, H, I, rfl, by simpa using q⟩
  · refine wpAny_is_other (plain_bl b rx) (fun z => ?_) ⟨.bl false, H, I, rfl, by simpa [e] using q⟩
    subst z
    exact e (RelV.inj rx (show RelV (.bl b) (.bool b) from rfl))

/-! ### Base.m(self, ..): a def of an own class read off the class -/
structure CFn (K : PySem.W.Frag) (C : Addr) (mc : Value) (m : Str) (f : Addr) : Prop where
  rd : PySem.W.readsIn K C mc = true
  ga : PySem.W.specialIn K (.ref C) "__getattribute__" = some (some (.builtin "type.__getattribute__"))
  at_ : PySem.W.findCls K (.ref C) mc m = some (.val (.ref f))
  kp : PySem.W.keepIn K (.ref f) = true
def tCFn (C : Addr) (sp : Sp) (E : XK) (ta : TE) (t : TA) : TE := fun σ H Q => ta σ H fun x H1 => x = .ref C ∧ t σ H1 fun vs H2 => sp vs H2 Q E
section
variable {X : Cx} {CX : CXT} {k : Nat} {f C : Addr} {mc : Value} {fd : FuncData} {ps : List Str} {sp : Sp} {E : XK} {m : Str} {pos apos : Pos} {e o : Expr} {es : List Expr} {ta : TE} {t : TA}
theorem pe_cfn {pl : Sem Bool} (he : PE X o ta) (c : CFn X.K C mc m f) (F : FnOk X.prog X.w X.K X.mg X.base CX k f fd ps sp) (hr : Room k X.A) (hb : Binds X.K fd ps []) (hx : Passes CX X E) (ha : PA X (e :: es) t)
    (hst : starEach (e :: es) X.env = (false, eval e X.env) :: starEach es X.env := by rfl) (hpl : (backTo pos (starEach es X.env)).any (·.1) = false := by rfl)
    (ht : eval (.Call (.Attribute o m apos) (e :: es) [] pos) X.env = (do
      let ov ← eval o X.env
      standAt apos.atName
      let (f, first) ← holding [ov] (getMethod ov m pl)
      callWith pos f first (backTo pos (starEach (e :: es) X.env)) (backToKw pos (keywordEach [] X.env))) := by rfl) :
    PE X (.Call (.Attribute o m apos) (e :: es) [] pos) (tCFn C sp E ta t) := by
  refine ⟨fun pins s σ H Q I h => ?_⟩
  refine PySem.W.methodCall_KW (pl := pl) (thn (he.run pins s σ H _ I h) fun u s1 ⟨x, H1, I1, rx, ex, q⟩ => ?_) ht
  subst ex
  obtain rfl : u = Value.ref C := rx
  refine PySem.W.method_cls I1.kIn c.ga (PySem.W.cls_value I1.kIn c.rd c.at_ rfl ?_)
  refine PySem.W.callWith_K (first := []) (h₀ := X.base) I.ok.mod.kin c.kp (thn (ha.run pos pins _ σ H1 _ (I1.tok _) q) fun us s2 ⟨vs, H2, I2, r, q2⟩ => ⟨I2.kIn, ?_⟩) hst hpl
  exact run_fn (us := us) (vs := vs) F hr hb .nil hx I2 r (by rw [List.append_nil]; exact q2)
end
end U
namespace U
open PySem PySem.Spec PyProof.Rows L2
/-! ### calls of what has been proved, by name -/
structure Cal (P : Program) (w : World) (K : PySem.W.Frag) (mg : Str → Option Value) (base : Heap) (CX : CXT) (k : Nat) (x : Str) (sp : Sp) : Prop where
  ex : ∃ (f : Addr) (fd : FuncData) (ps : List Str), FnOk P w K mg base CX k f fd ps sp ∧ mg x = some (.ref f) ∧ PySem.W.keepIn K (.ref f) = true ∧ Binds K fd ps []
structure Met (P : Program) (w : World) (K : PySem.W.Frag) (mg : Str → Option Value) (base : Heap) (CX : CXT) (k : Nat) (C : Addr) (m : Str) (sp : Sp) : Prop where
  ex : ∃ (f : Addr) (fd : FuncData) (ps : List Str), Cls K C ∧ Meth K C m f ∧ FnOk P w K mg base CX k f fd ps sp ∧ Binds K fd ps []
structure Mak (P : Program) (w : World) (K : PySem.W.Frag) (mg : Str → Option Value) (base : Heap) (CX : CXT) (k : Nat) (x : Str) (C : Addr) (sp : Sp) : Prop where
  ex : ∃ (f : Addr) (fd : FuncData) (ps : List Str), Mk K C f ∧ FnOk P w K mg base CX k f fd ps sp ∧ mg x = some (.ref C) ∧ Binds K fd ps []
structure CFB (P : Program) (w : World) (K : PySem.W.Frag) (mg : Str → Option Value) (base : Heap) (CX : CXT) (k : Nat) (x m : Str) (sp : Sp) : Prop where
  ex : ∃ (C : Addr) (mc : Value) (f : Addr) (fd : FuncData) (ps : List Str), mg x = some (.ref C) ∧ CFn K C mc m f ∧ FnOk P w K mg base CX k f fd ps sp ∧ Binds K fd ps []
/-- a promise that asks the impossible is kept by any def -/
theorem cal_false {P : Program} {w : World} {K : PySem.W.Frag} {mg : Str → Option Value} {base : Heap} {CX : CXT} {k : Nat} {f : Addr} {fd : FuncData} {ps : List Str} {x : Str} (hm : mg x = some (.ref f)) (kp : PySem.W.keepIn K (.ref f) = true) (b : Binds K fd ps []) :
    Cal P w K mg base CX k x (fun _ _ _ _ => False) := ⟨f, fd, ps, ⟨fun _ _ _ _ h => h.elim, fun _ _ _ _ _ _ _ _ _ _ _ _ _ h => h.elim⟩, hm, kp, b⟩
section
variable {X : Cx} {k j : Nat} {C : Addr} {x m : Str} {sp : Sp} {p pos apos : Pos} {e o : Expr} {es : List Expr} {ta : TE} {t : TA}
theorem pe_c (c : Cal X.prog X.w X.K X.mg X.base CX0 k x sp) (hr : Room j X.A) (hk : k ≤ j) (hg : Gl X x) (ha : PA X (e :: es) t)
    (hdb : (x == ("__debug__" : Str)) = false := by decide) (he : starEach (e :: es) X.env = (false, eval e X.env) :: starEach es X.env := by rfl) (hpl : (backTo pos (starEach es X.env)).any (·.1) = false := by rfl) :
    PE X (.Call (.Name x p) (e :: es) [] pos) (tCall sp [] E0 t) := by
  obtain ⟨f, fd, ps, F, hm, kp, b⟩ := c.ex
  exact pe_call F (hr.mono hk) hg hm kp b .nil pass0 ha hdb he hpl
theorem pe_c0 (c : Cal X.prog X.w X.K X.mg X.base CX0 k x sp) (hr : Room j X.A) (hk : k ≤ j) (hg : Gl X x)
    (hdb : (x == ("__debug__" : Str)) = false := by decide) :
    PE X (.Call (.Name x p) [] [] pos) (tCall sp [] E0 tNil) := by
  obtain ⟨f, fd, ps, F, hm, kp, b⟩ := c.ex
  exact pe_call0 F (hr.mono hk) hg hm kp b .nil pass0 hdb
theorem pe_mk (c : Mak X.prog X.w X.K X.mg X.base CX0 k x C sp) (hr : Room j X.A) (hk : k + 1 ≤ j) (hg : Gl X x) (ha : PA X (e :: es) t)
    (hdb : (x == ("__debug__" : Str)) = false := by decide) (he : starEach (e :: es) X.env = (false, eval e X.env) :: starEach es X.env := by rfl) (hpl : (backTo pos (starEach es X.env)).any (·.1) = false := by rfl) :
    PE X (.Call (.Name x p) (e :: es) [] pos) (tMake C sp [] E0 t) := by
  obtain ⟨f, fd, ps, M, F, hm, b⟩ := c.ex
  exact pe_make M F (hr.mono hk) hg hm b .nil pass0 ha hdb he hpl
theorem pe_mt {pl : Sem Bool} (c : Met X.prog X.w X.K X.mg X.base CX0 k C m sp) (hr : Room j X.A) (hk : k ≤ j) (he : PE X o ta) (ha : PA X (e :: es) t)
    (hst : starEach (e :: es) X.env = (false, eval e X.env) :: starEach es X.env := by rfl) (hpl : (backTo pos (starEach es X.env)).any (·.1) = false := by rfl)
    (ht : eval (.Call (.Attribute o m apos) (e :: es) [] pos) X.env = (do
      let ov ← eval o X.env
      standAt apos.atName
      let (f, first) ← holding [ov] (getMethod ov m pl)
      callWith pos f first (backTo pos (starEach (e :: es) X.env)) (backToKw pos (keywordEach [] X.env))) := by rfl) :
    PE X (.Call (.Attribute o m apos) (e :: es) [] pos) (tMeth C m sp [] E0 ta t) := by
  obtain ⟨f, fd, ps, hc, hm, F, b⟩ := c.ex
  exact pe_meth (pl := pl) he hc hm F (hr.mono hk) b .nil pass0 ha hst hpl ht
theorem pe_mt0 {pl : Sem Bool} (c : Met X.prog X.w X.K X.mg X.base CX0 k C m sp) (hr : Room j X.A) (hk : k ≤ j) (he : PE X o ta)
    (ht : eval (.Call (.Attribute o m apos) [] [] pos) X.env = (do
      let ov ← eval o X.env
      standAt apos.atName
      let (f, first) ← holding [ov] (getMethod ov m pl)
      callWith pos f first (backTo pos (starEach [] X.env)) (backToKw pos (keywordEach [] X.env))) := by rfl) :
    PE X (.Call (.Attribute o m apos) [] [] pos) (tMeth C m sp [] E0 ta tNil) := by
  obtain ⟨f, fd, ps, hc, hm, F, b⟩ := c.ex
  exact pe_meth0 (pl := pl) he hc hm F (hr.mono hk) b .nil pass0 ht
/-- Base.m(self, ..) -/
def tCF (sp : Sp) (t : TA) : TE := fun σ H Q => t σ H fun vs H1 => sp vs H1 Q E0
theorem pe_cf {pl : Sem Bool} (c : CFB X.prog X.w X.K X.mg X.base CX0 k x m sp) (hr : Room j X.A) (hk : k ≤ j) (hg : Gl X x) (ha : PA X (e :: es) t)
    (hdb : (x == ("__debug__" : Str)) = false := by decide)
    (hst : starEach (e :: es) X.env = (false, eval e X.env) :: starEach es X.env := by rfl) (hpl : (backTo pos (starEach es X.env)).any (·.1) = false := by rfl)
    (ht : eval (.Call (.Attribute (.Name x p) m apos) (e :: es) [] pos) X.env = (do
      let ov ← eval (.Name x p) X.env
      standAt apos.atName
      let (f, first) ← holding [ov] (getMethod ov m pl)
      callWith pos f first (backTo pos (starEach (e :: es) X.env)) (backToKw pos (keywordEach [] X.env))) := by rfl) :
    PE X (.Call (.Attribute (.Name x p) m apos) (e :: es) [] pos) (tCF sp t) := by
  obtain ⟨C, mc, f, fd, ps, hm, cf, F, b⟩ := c.ex
  have z : PE X (.Call (.Attribute (.Name x p) m apos) (e :: es) [] pos) (tCFn C sp E0 (tC (.ref C)) t) := pe_cfn (pl := pl) (pe_glob hg hm rfl hdb) cf F (hr.mono hk) b pass0 ha hst hpl ht
  exact ⟨fun pins s σ H Q I h => z.run pins s σ H Q I ⟨rfl, h⟩⟩
end
end U
namespace U
open PySem PySem.Spec PyProof.Rows L2
/-- a module's constant -/
theorem pe_gx {X : Cx} {x : Str} {v : V} {p : Pos} (hg : Gl X x) (h : ∃ u, X.mg x = some u ∧ RelV v u) (hd : (x == ("__debug__" : Str)) = false := by decide) : PE X (.Name x p) (tC v) := by
  obtain ⟨u, hm, r⟩ := h
  exact pe_glob hg hm r hd
/-- a dict comprehension over a range -/
theorem dc_rng {lo : Int} {n : Nat} {g : TG} {tt : TT} {tk tv : TE} {vs : List Nat} {σ : L2.St} {H1 : Hp} {D : Addr} {Qd : Hp → Prop} (Pv : Nat → Hp → Prop) (h0 : Pv 0 (upd H1 D (.dK [])))
    (hs : ∀ (i : Nat) (H : Hp), i < n → Pv i H → g (.int (lo + i)) (wipe σ vs) H fun σ2 H2 => wipe σ2 vs = wipe σ vs ∧ tt σ2 H2 fun b H3 =>
      if b = true then tk σ2 H3 fun y H4 => tv σ2 H4 fun z H5 => ∃ kvs k, y = kV k ∧ H5 D = some (.dK kvs) ∧ kvs.length < sizeLine ∧ Pv (i + 1) (upd H5 D (.dK (putK kvs k z))) else Pv (i + 1) H3) (hd : ∀ H, Pv n H → Qd H) :
    ∃ W : Nat → Nat → Hp → Prop, (∃ m, W 0 m (upd H1 D (.dK []))) ∧ ∀ i m H, W i m H →
      ((Itr lo n).stop i H ∧ Qd H) ∨ ((Itr lo n).go i H ∧ ∃ Nx : Hp → Prop, (∀ H', Nx H' → ∃ m', m' < m ∧ W (i + 1) m' H') ∧ ∀ x H', (Itr lo n).yld i H x H' → g x (wipe σ vs) H' fun σ2 H2 => wipe σ2 vs = wipe σ vs ∧ tt σ2 H2 fun b H3 =>
        if b = true then tk σ2 H3 fun y H4 => tv σ2 H4 fun z H5 => ∃ kvs k, y = kV k ∧ H5 D = some (.dK kvs) ∧ kvs.length < sizeLine ∧ Nx (upd H5 D (.dK (putK kvs k z))) else Nx H3) := by
  refine ⟨fun i m H => m = n - i ∧ i ≤ n ∧ Pv i H, ⟨n, by omega, Nat.zero_le _, h0⟩, ?_⟩
  rintro i m H ⟨rfl, hi, p⟩
  by_cases hlt : i < n
  · refine .inr ⟨hlt, Pv (i + 1), fun H' p' => ⟨n - (i + 1), by omega, rfl, hlt, p'⟩, fun x H' y => ?_⟩
    obtain ⟨e, y⟩ := y
    subst e y
    exact hs i _ hlt p
  · have e : i = n := by omega
    subst e
    exact .inl ⟨Nat.le_refl _, hd H p⟩
theorem range_at {n i : Nat} (h : i < n) : (List.range n)[i]? = some i := by simp [h]
/-- the heap is as it was, but at p -/
def But (p : Addr) (H H' : Hp) : Prop := ∀ b o, H b = some o → b ≠ p → H' b = some o
theorem But.refl {p : Addr} {H : Hp} : But p H H := fun _ _ h _ => h
theorem But.trans {p : Addr} {H H1 H2 : Hp} (a : But p H H1) (b : But p H1 H2) : But p H H2 := fun c o h n => b c o (a c o h n) n
theorem But.upd {p : Addr} {H H1 : Hp} {o : HO} (a : But p H H1) : But p H (upd H1 p o) := fun c u h n => by rw [upd_ne n]; exact a c u h n
theorem But.new {p q : Addr} {H H1 : Hp} {o : HO} (a : But p H H1) (hq : H1 q = none) : But p H (L2.upd H1 q o) := fun c u h n => by
  have z := a c u h n
  rw [upd_ne (ne_of_none z hq)]; exact z
theorem But.of {p : Addr} {H H1 : Hp} (a : Same H H1) : But p H H1 := fun c u h _ => a c u h
end U
namespace U
open PySem PySem.Spec PyProof.Rows L2
theorem putF_le (f : Str) (v : V) : ∀ fs : List (Str × V), (putF f v fs).length ≤ fs.length + 1
  | [] => Nat.le_refl _
  | (g, x) :: r => by
    show (if g = f then (g, v) :: r else (g, x) :: putF f v r).length ≤ r.length + 1 + 1
    split
    · rw [List.length_cons]; omega
    · rw [List.length_cons]; have := putF_le f v r; omega
theorem putF_n {f : Str} {v : V} {fs : List (Str × V)} {n : Nat} (h : fs.length ≤ n) : (putF f v fs).length ≤ n + 1 := Nat.le_trans (putF_le f v fs) (Nat.succ_le_succ h)
end U
namespace U
open PySem PySem.Spec PyProof.Rows L2
theorem putK_le (kvs : List (Key × V)) (k : Key) (v : V) : (putK kvs k v).length ≤ kvs.length + 1 := by
  unfold putK
  split
  · rw [List.length_map]; omega
  · rw [List.length_append]; exact Nat.le_refl _
/-- the dict of the places of names -/
def foundTo (zs : List Str) : Nat → List (Key × V)
  | 0 => []
  | i + 1 => putK (foundTo zs i) (Sum.inr (zs.getD i Str.empty)) (.int (i : Int))
theorem foundTo_le (zs : List Str) : ∀ i, (foundTo zs i).length ≤ i
  | 0 => Nat.le_refl _
  | i + 1 => Nat.le_trans (putK_le _ _ _) (Nat.succ_le_succ (foundTo_le zs i))
theorem at_mapS {ns : List Str} {i : Nat} (h : i < ns.length) : (ns.map V.str)[i]? = some (.str (ns.getD i Str.empty)) := by
  rw [List.getElem?_map, List.getElem?_eq_getElem h, List.getD_eq_getElem?_getD, List.getElem?_eq_getElem h]
  rfl
end U
namespace U
open PySem PySem.Spec PyProof.Rows L2
/-! ### the same rules with the written part named, for the inside of comprehensions -/
theorem ix_listK {X : Cx} (K : PySem.W.Frag) (h : X.K = K) : IxR X (rIxL K) := by subst h; exact ix_list
theorem ix_tupK {X : Cx} (K : PySem.W.Frag) (h : X.K = K) : IxR X (rIxT K) := by subst h; exact ix_tup
theorem ix_lsK {X : Cx} (K : PySem.W.Frag) (h : X.K = K) : IxR X (rIxLT K) := by subst h; exact ix_ls
theorem pe_fldK {X : Cx} (K : PySem.W.Frag) (h : X.K = K) {e : Expr} {ta : TE} {f : Str} {pos : Pos} (he : PE X e ta) (hb : attributeBase e f X.env (eval e X.env) = eval e X.env) : PE X (.Attribute e f pos) (tFld K ta f) := by
  subst h; exact pe_fld he hb
def rLenLT (K : PySem.W.Frag) : List V → Hp → VK → Prop := fun xs H Q => ∃ p ys, xs = [V.ref p] ∧ (SqL K H p ys ∨ SqT K H p ys) ∧ Q (V.int (ys.length : Int)) H
theorem call_lenK {X : Cx} (K : PySem.W.Frag) (h : X.K = K) : CallR X (.builtin "len") (rLenLT K) := by subst h; exact call_len_seq
theorem op_inK {X : Cx} (K : PySem.W.Frag) (h : X.K = K) : OpR X (compareOp .In) (rIn K false) := by subst h; exact op_in_seq
theorem call_isiKn {X : Cx} (K : PySem.W.Frag) (h : X.K = K) : CallR X (.builtin "isinstance") (rIsi K) := by subst h; exact call_isi
end U
namespace U
open PySem PySem.Spec PyProof.Rows L2
/-! ### comprehensions that change nothing but their own new object: F i is what it holds ahead of turn i -/
theorem dcF_range {lo : Int} {n : Nat} {g : TG} {tt : TT} {tk tv : TE} {vs : List Nat} {σ : L2.St} {HB : Hp} {D : Addr} {Qd : Hp → Prop} (F : Nat → List (Key × V)) (h0 : F 0 = [])
    (hs : ∀ (i : Nat), i < n → g (.int (lo + i)) (wipe σ vs) (upd HB D (.dK (F i))) fun σ2 H2 => wipe σ2 vs = wipe σ vs ∧ tt σ2 H2 fun b H3 =>
      if b = true then tk σ2 H3 fun y H4 => tv σ2 H4 fun z H5 => ∃ kvs k, y = kV k ∧ H5 D = some (.dK kvs) ∧ kvs.length < sizeLine ∧ upd H5 D (.dK (putK kvs k z)) = upd HB D (.dK (F (i + 1))) else H3 = upd HB D (.dK (F (i + 1)))) (hd : Qd (upd HB D (.dK (F n)))) :
    ∃ W : Nat → Nat → Hp → Prop, (∃ m, W 0 m (upd HB D (.dK []))) ∧ ∀ i m H, W i m H →
      ((Itr lo n).stop i H ∧ Qd H) ∨ ((Itr lo n).go i H ∧ ∃ Nx : Hp → Prop, (∀ H', Nx H' → ∃ m', m' < m ∧ W (i + 1) m' H') ∧ ∀ x H', (Itr lo n).yld i H x H' → g x (wipe σ vs) H' fun σ2 H2 => wipe σ2 vs = wipe σ vs ∧ tt σ2 H2 fun b H3 =>
        if b = true then tk σ2 H3 fun y H4 => tv σ2 H4 fun z H5 => ∃ kvs k, y = kV k ∧ H5 D = some (.dK kvs) ∧ kvs.length < sizeLine ∧ Nx (upd H5 D (.dK (putK kvs k z))) else Nx H3) :=
  dc_rng (fun i H => H = upd HB D (.dK (F i))) (by rw [h0]) (fun i H hi e => by subst e; exact hs i hi) (fun H e => by subst e; exact hd)
theorem lcF_range {lo : Int} {n : Nat} {g : TG} {tt : TT} {te : TE} {vs : List Nat} {σ : L2.St} {HB : Hp} {D : Addr} {Qd : Hp → Prop} (F : Nat → List V) (h0 : F 0 = [])
    (hs : ∀ (i : Nat), i < n → g (.int (lo + i)) (wipe σ vs) (upd HB D (.lst (F i))) fun σ2 H2 => wipe σ2 vs = wipe σ vs ∧ tt σ2 H2 fun b H3 =>
      if b = true then te σ2 H3 fun y H4 => ∃ acc, H4 D = some (.lst acc) ∧ acc.length < sizeLine ∧ upd H4 D (.lst (acc ++ [y])) = upd HB D (.lst (F (i + 1))) else H3 = upd HB D (.lst (F (i + 1)))) (hd : Qd (upd HB D (.lst (F n)))) :
    ∃ W : Nat → Nat → Hp → Prop, (∃ m, W 0 m (upd HB D (.lst []))) ∧ ∀ i m H, W i m H →
      ((Itr lo n).stop i H ∧ Qd H) ∨ ((Itr lo n).go i H ∧ ∃ Nx : Hp → Prop, (∀ H', Nx H' → ∃ m', m' < m ∧ W (i + 1) m' H') ∧ ∀ x H', (Itr lo n).yld i H x H' → g x (wipe σ vs) H' fun σ2 H2 => wipe σ2 vs = wipe σ vs ∧ tt σ2 H2 fun b H3 =>
        if b = true then te σ2 H3 fun y H4 => ∃ acc, H4 D = some (.lst acc) ∧ acc.length < sizeLine ∧ Nx (upd H4 D (.lst (acc ++ [y]))) else Nx H3) :=
  lc_range (fun i H => H = upd HB D (.lst (F i))) (by rw [h0]) (fun i H hi e => by subst e; exact hs i hi) (fun H e => by subst e; exact hd)
theorem lcF_list {K : PySem.W.Frag} {a : Addr} {xs : List V} {g : TG} {tt : TT} {te : TE} {vs : List Nat} {σ : L2.St} {HB : Hp} {D : Addr} {Qd : Hp → Prop} (F : Nat → List V) (hD : HB D = none) (hl : SqL K HB a xs) (h0 : F 0 = [])
    (hs : ∀ (i : Nat) (x : V), xs[i]? = some x → g x (wipe σ vs) (upd HB D (.lst (F i))) fun σ2 H2 => wipe σ2 vs = wipe σ vs ∧ tt σ2 H2 fun b H3 =>
      if b = true then te σ2 H3 fun y H4 => ∃ acc, H4 D = some (.lst acc) ∧ acc.length < sizeLine ∧ upd H4 D (.lst (acc ++ [y])) = upd HB D (.lst (F (i + 1))) else H3 = upd HB D (.lst (F (i + 1)))) (hd : Qd (upd HB D (.lst (F xs.length)))) :
    ∃ W : Nat → Nat → Hp → Prop, (∃ m, W 0 m (upd HB D (.lst []))) ∧ ∀ i m H, W i m H →
      ((Itl K a).stop i H ∧ Qd H) ∨ ((Itl K a).go i H ∧ ∃ Nx : Hp → Prop, (∀ H', Nx H' → ∃ m', m' < m ∧ W (i + 1) m' H') ∧ ∀ x H', (Itl K a).yld i H x H' → g x (wipe σ vs) H' fun σ2 H2 => wipe σ2 vs = wipe σ vs ∧ tt σ2 H2 fun b H3 =>
        if b = true then te σ2 H3 fun y H4 => ∃ acc, H4 D = some (.lst acc) ∧ acc.length < sizeLine ∧ Nx (upd H4 D (.lst (acc ++ [y]))) else Nx H3) :=
  lc_list (xs := xs) (fun i H => H = upd HB D (.lst (F i))) (by rw [h0]) (fun i H _ e => by subst e; exact (sameNew hD).seq hl) (fun i x H hx e => by subst e; exact hs i x hx) (fun H e => by subst e; exact hd)
end U
namespace U
open PySem PySem.Spec PyProof.Rows L2
/-- a number in decimal -/
abbrev num (i : Int) : Str := Str.ofString (toString i)
theorem num_short (i : Int) (h0 : 0 ≤ i) (h1 : i < 130) : (num i).length ≤ 3 := by
  have z : ∀ n : Nat, n < 130 → (num (n : Int)).length ≤ 3 := by decide +kernel
  obtain ⟨n, rfl⟩ := Int.eq_ofNat_of_zero_le h0
  exact z n (by omega)
theorem num_log (i : Int) (h0 : 0 ≤ i) (h1 : i < 130) : i.natAbs.log2 < 1920 := by
  have e : i.natAbs < 2 ^ 1920 := Nat.lt_of_lt_of_le (show i.natAbs < 130 by omega) (by decide +kernel)
  by_cases hz : i.natAbs = 0
  · rw [hz]; decide
  · exact (Nat.log2_lt hz).mpr e
theorem len_app (a b : Str) : (a ++ b).length = a.length + b.length := by
  show (a.cps ++ b.cps).size = a.cps.size + b.cps.size
  rw [Array.size_append]
theorem rg_at {n : Int} {i : Nat} (h : (i : Int) < n) : (rgV 0 n)[i]? = some (.int (i : Int)) := by
  unfold rgV
  rw [List.getElem?_map, range_at (by omega)]
  simp
end U
namespace U
open PySem PySem.Spec PyProof.Rows L2
abbrev fld (fs : List (Str × V)) (f : Str) : Option V := fs.lookup f
theorem fld_put (f g : Str) (v : V) (fs : List (Str × V)) : fld (putF f v fs) g = if g = f then some v else fld fs g := lookup_putF f g v fs
end U
namespace U
open PySem PySem.Spec PyProof.Rows L2
theorem tNextI {D : Ends} {σ : L2.St} {H : Hp} (h : D.nx σ H) : tNext D σ H := h
end U
namespace U
open PySem PySem.Spec PyProof.Rows L2
/-- the ways of a statement meet in B -/
theorem join {t : TS} {D : Ends} {σ : L2.St} {H : Hp} (B : L2.St → Hp → Prop) (h : ∀ D' : Ends, (∀ σ H, B σ H → D'.nx σ H) → t D' σ H) (k : ∀ σ H, B σ H → D.nx σ H) : t D σ H := h D k
theorem joinR {t : TS} {D : Ends} {σ : L2.St} {H : Hp} (B : L2.St → Hp → Prop) (h : ∀ D' : Ends, D'.rt = D.rt → (∀ σ H, B σ H → D'.nx σ H) → t D' σ H) (k : ∀ σ H, B σ H → D.nx σ H) : t D σ H := h D rfl k
theorem range_map_snoc {β : Type} (f : Nat → β) (i : Nat) : (List.range (i + 1)).map f = (List.range i).map f ++ [f i] := by
  rw [List.range_succ, List.map_append]; rfl
theorem rg_inv {n : Int} {i : Nat} {x : V} (h : (rgV 0 n)[i]? = some x) : x = .int (i : Int) ∧ (i : Int) < n := by
  have hi : i < (rgV 0 n).length := (List.getElem?_eq_some_iff.mp h).1
  rw [rgV_length] at hi
  have hn : (i : Int) < n := by omega
  rw [rg_at hn] at h
  exact ⟨(Option.some.inj h).symm, hn⟩
end U
namespace U
open PySem PySem.Spec PyProof.Rows L2
theorem gNameI {i : Nat} {v : V} {σ : L2.St} {H : Hp} {Q : L2.St → Hp → Prop} (h : Q (σ.set i (some v)) H) : gName i v σ H Q := h
end U
namespace U
open PySem PySem.Spec PyProof.Rows L2
theorem app_le {a b : Str} {m n : Nat} (ha : a.length ≤ m) (hb : b.length ≤ n) : (a ++ b).length ≤ m + n := by rw [len_app]; omega
theorem sz {n m : Nat} (h : n ≤ m) (hm : m ≤ 1000) : n ≤ sizeLine := Nat.le_trans h (Nat.le_trans hm (by decide))
end U
namespace U
open PySem PySem.Spec PyProof.Rows L2
theorem find_at {α : Type} {p : α → Bool} : ∀ {us : List α} {i : Nat} {x : α}, us[i]? = some x → p x = true → (∀ y ∈ us.take i, p y = false) → us.find? p = some x
  | [], i, x, h, _, _ => by simp at h
  | u :: us, 0, x, h, hp, _ => by
    obtain rfl : u = x := by simpa using h
    rw [List.find?_cons, hp]
  | u :: us, i + 1, x, h, hp, ht => by
    rw [List.find?_cons, ht u (by simp)]
    exact find_at (i := i) (by simpa using h) hp (fun y hy => ht y (by simp [hy]))
theorem find_none {α : Type} {p : α → Bool} {us : List α} (h : ∀ y ∈ us, p y = false) : us.find? p = none := by
  rw [List.find?_eq_none]
  intro y hy
  rw [h y hy]; decide
end U
namespace U
open PySem PySem.Spec PyProof.Rows L2
/-- a class made with keywords -/
structure MakK (P : Program) (w : World) (K : PySem.W.Frag) (mg : Str → Option Value) (base : Heap) (CX : CXT) (k : Nat) (x : Str) (C : Addr) (sp : Sp) (n : Nat) (ks : List Str) (gV : List V → List V → List V) : Prop where
  ex : ∃ (f : Addr) (fd : FuncData) (ps : List Str) (g : List Value → List Value → List Value), Mk K C f ∧ FnOk P w K mg base CX k f fd ps sp ∧ mg x = some (.ref C) ∧ KBn K fd ps (n + 1) ks g gV
theorem pe_mkK {X : Cx} {k j n : Nat} {C : Addr} {x : Str} {sp : Sp} {p pos : Pos} {e : Expr} {es : List Expr} {t tk : TA} {ks : List Str} {kws : List Keyword} {gV : List V → List V → List V}
    (c : MakK X.prog X.w X.K X.mg X.base CX0 k x C sp n ks gV) (hr : Room j X.A) (hk : k + 1 ≤ j) (hg : Gl X x) (ha : PA X (e :: es) t) (hkw : PK X kws tk)
    (hall : (backToKw pos (keywordEach kws X.env)).all (·.1.isSome) = true := by rfl) (hks : (backToKw pos (keywordEach kws X.env)).filterMap (·.1) = ks := by rfl) (hdb : (x == ("__debug__" : Str)) = false := by decide)
    (he : starEach (e :: es) X.env = (false, eval e X.env) :: starEach es X.env := by rfl) (hpl : ((backTo pos (starEach (e :: es) X.env)).any (·.1) || (backToKw pos (keywordEach kws X.env)).any (·.1.isNone)) = false := by rfl) :
    PE X (.Call (.Name x p) (e :: es) kws pos) (tMakeK C n ks.length sp gV E0 t tk) := by
  obtain ⟨f, fd, ps, g, M, F, hm, hb⟩ := c.ex
  exact pe_makeK M F (hr.mono hk) hg hm hb pass0 ha hkw hall hks hdb he hpl
end U
namespace U
open PySem PySem.Spec PyProof.Rows L2
theorem tAsgC {i : Nat} {v : V} {D : Ends} {σ : L2.St} {H : Hp} (h : D.nx (σ.set i (some v)) H) : tAsg (tC v) (gName i) D σ H := h
end U
namespace U
open PySem PySem.Spec PyProof.Rows L2
theorem upd_none {H : Hp} {a b : Addr} {o : HO} (h : upd H a o b = none) : b ≠ a ∧ H b = none := by
  by_cases e : b = a
  · subst e; rw [upd_same] at h; cases h
  · rw [upd_ne e] at h; exact ⟨e, h⟩
/-- a class made by its name, with these defaults behind what is written -/
structure MakD (P : Program) (w : World) (K : PySem.W.Frag) (mg : Str → Option Value) (base : Heap) (CX : CXT) (k : Nat) (x : Str) (C : Addr) (sp : Sp) (dvs : List V) : Prop where
  ex : ∃ (f : Addr) (fd : FuncData) (ps : List Str) (ds : List Value), Mk K C f ∧ FnOk P w K mg base CX k f fd ps sp ∧ mg x = some (.ref C) ∧ Binds K fd ps ds ∧ Vals dvs ds
theorem pe_mkD {X : Cx} {k j : Nat} {C : Addr} {x : Str} {sp : Sp} {dvs : List V} {p pos : Pos} {e : Expr} {es : List Expr} {t : TA} (c : MakD X.prog X.w X.K X.mg X.base CX0 k x C sp dvs) (hr : Room j X.A) (hk : k + 1 ≤ j) (hg : Gl X x) (ha : PA X (e :: es) t)
    (hdb : (x == ("__debug__" : Str)) = false := by decide) (he : starEach (e :: es) X.env = (false, eval e X.env) :: starEach es X.env := by rfl) (hpl : (backTo pos (starEach es X.env)).any (·.1) = false := by rfl) :
    PE X (.Call (.Name x p) (e :: es) [] pos) (tMake C sp dvs E0 t) := by
  obtain ⟨f, fd, ps, ds, M, F, hm, b, d⟩ := c.ex
  exact pe_make M F (hr.mono hk) hg hm b d pass0 ha hdb he hpl
end U
namespace U
open PySem PySem.Spec PyProof.Rows L2
theorem found_get (zs : List Str) (z : Str) : ∀ n, n ≤ zs.length → (∀ i < n, zs.getD i Str.empty ≠ z) → valV (foundTo zs n) (Sum.inr z : Key) = none
  | 0, _, _ => rfl
  | n + 1, h, hne => by
    show valV (putK (foundTo zs n) (Sum.inr (zs.getD n Str.empty)) (.int (n : Int))) (Sum.inr z : Key) = none
    rw [valV_put, if_neg (fun e => hne n (Nat.lt_succ_self n) (Sum.inr.inj e).symm)]
    exact found_get zs z n (by omega) fun i hi => hne i (by omega)
theorem found_at (zs : List Str) (k : Nat) (hd : ∀ i < zs.length, zs.getD i Str.empty = zs.getD k Str.empty → i = k) : ∀ n, n ≤ zs.length → k < n → valV (foundTo zs n) (Sum.inr (zs.getD k Str.empty) : Key) = some (.int (k : Int))
  | 0, _, h => absurd h (by omega)
  | n + 1, h, hk => by
    show valV (putK (foundTo zs n) (Sum.inr (zs.getD n Str.empty)) (.int (n : Int))) (Sum.inr (zs.getD k Str.empty) : Key) = some (.int (k : Int))
    rw [valV_put]
    by_cases e : k = n
    · subst e; rw [if_pos rfl]
    · rw [if_neg (fun q => e (hd n (by omega) (Sum.inr.inj q).symm).symm)]
      exact found_at zs k hd n (by omega) (by omega)
end U
namespace U
open PySem PySem.Spec PyProof.Rows L2
/-- an expression that changes nothing, by its value -/
theorem pe_joinV {X : Cx} {e : Expr} {t : TE} (h : PE X e t) : PE X e (fun σ H Q => ∃ v, (∀ Q' : VK, Q' v H → t σ H Q') ∧ Q v H) :=
  ⟨fun pins s σ H Q I ⟨v, h1, h2⟩ => h.run pins s σ H Q I (h1 Q h2)⟩
theorem num_inj : ∀ i : Nat, i < 65 → ∀ j : Nat, j < 65 → num (i : Int) = num (j : Int) → i = j := by decide +kernel
theorem num_not : ∀ i : Nat, i < 65 → ∀ w ∈ (["many", "-1", "", " 1", "1 ", "+1", "MANY"] : List Str), num (i : Int) ≠ w := by decide +kernel
theorem num_zero : ∀ s : Nat, s < 64 → ∀ i : Nat, i < 64 → num (i : Int) ≠ ("0" : Str) ++ num (s : Int) := by decide +kernel
theorem many_zero : ∀ s : Nat, s < 64 → ("many" : Str) ≠ ("0" : Str) ++ num (s : Int) := by decide +kernel
end U
end
section
/-! Errors of own classes over any base: made with a walked __init__, their attributes, isinstance. -/
namespace UX
open PySem PySem.Spec PyProof.Rows L2 U

/-- what the written part says of an own error class at C over the built-in B -/
structure OexB (K : PySem.W.Frag) (C : Addr) (B newId initId : String) (bt : List Value) : Prop where
  SF : StoreFacts B bt "object.__setattr__" "object"
  FB : ExcBaseFacts B newId initId bt
  ini : PySem.W.excInitIn K C bt newId = true
  ov : PySem.W.excOver K C bt = true
  hd : PySem.W.hasDictIn K C = true
  sa : PySem.W.findIn K (.ref C) "__setattr__" = some (some (.builtin "object.__setattr__"))
  exC : PySem.W.subIn K (.ref C) (.type "BaseException") = some true
  tyC : PySem.W.typeIn K (.ref C) = some (.type "type")
  kC : PySem.W.keepIn K (.ref C) = true
section
variable {X : Cx} {pins : List (Addr × Obj)} {σ : L2.St} {H : Hp} {s : Shared} {a C dx : Addr} {f : Str} {y : V} {u : Value} {fs : List (Str × V)} {E : Value → Shared → Prop} {A : Around} {B newId initId : String} {bt : List Value}
theorem storeB {hp h' : Heap} {g : Array GenState} {d : Drawn} {t t' : Nat} {os : OsState} {t1 : Addr} (I : Inv X pins σ H ⟨hp, g, d, t, os⟩) (e : H a = some (exo a C none)) (old : ∀ b o, b ≠ a → hp.get? b = some o → h'.get? b = some o) (hdx : hp.objs.size ≤ dx) (hne : dx ≠ a)
    (hx : h'.get? a = some ({ cls := .ref C, dict := some dx, data := .fields #[.ref t1, .none, .none, .none, .bool false, .none] } : Obj)) (hn : h'.Ns1 dx (fun y => if y = f then some u else none)) (ry : RelV y u) :
    Inv X pins σ (upd (upd H dx (exd dx [(f, y)])) a (exo a C (some dx))) ⟨h', g, d, t', os⟩ := by
  have hnd : H dx = none := I.hok.fresh hdx
  have lt : ∀ {b : Addr} {o : Obj}, hp.get? b = some o → b ≠ dx := fun q => Nat.ne_of_lt (Nat.lt_of_lt_of_le (Heap.lt_size q) hdx)
  have na : ∀ {b : Addr}, H b = none → b ≠ a := fun n z => by rw [z, e] at n; cases n
  refine I.un (t' := t') ⟨fun b o q n _ _ => old b o (na n) q, fun b o q n _ _ => ⟨o.slots, old b o (na n) q⟩, fun b o q n _ => by rw [upd_ne (na n), upd_ne (lt q)]; exact n, fun b o q _ => ?_,
    fun b xs q => by rw [upd_ne (at_ne e q exo_tup), upd_ne (ne_of_none q hnd)]; exact q, fun b o v q => by rw [upd_ne (at_ne e q exo_frz), upd_ne (ne_of_none q hnd)]; exact q,
    fun b ps q => ⟨#[], by rw [upd_ne (at_ne e q exo_tbl), upd_ne (ne_of_none q hnd), q]; simp⟩⟩ fun b o q => ?_
  · by_cases hb : b = a
    · exact ⟨_, hb ▸ hx⟩
    · exact ⟨o, old b o hb q⟩
  · by_cases hb : b = a
    · subst hb
      rw [upd_same] at q
      cases q
      exact exo_ok hx
    · rw [upd_ne hb] at q
      by_cases hd : b = dx
      · subst hd
        rw [upd_same] at q
        cases q
        exact exd_ok hn (relO_put (fs := []) ry fun _ => True.intro)
      · rw [upd_ne hd] at q
        refine (I.hok b o q).stay (fun c v hc z => old c v ?_ z) (fun c hc => by rw [upd_ne (at_ne e hc exo_own), upd_ne (ne_of_none hc hnd)]; exact hc) fun c xs hc => by rw [upd_ne (at_ne e hc exo_tup), upd_ne (ne_of_none hc hnd)]; exact hc
        rcases hc with rfl | hc
        · exact hb
        · exact at_ne e hc exo_own
theorem ostB_new {Q : Unit → Shared → Prop} (T : OexB X.K C B newId initId bt) (I : Inv X pins σ H s) (e : H a = some (exo a C none)) (hno : NoAttr X.K C f) (ry : RelV y u)
    (h : ∀ dx s', H dx = none → dx ≠ a → Inv X pins σ (upd (upd H dx (exd dx [(f, y)])) a (exo a C (some dx))) s' → Q () s') : wpAny (model X.prog X.w) A (setAttr (.ref a) f u) Q E s := by
  obtain ⟨t1, ho⟩ := exo_at I.hok e
  obtain ⟨cd, hc, hdc⟩ := PySem.W.any_some T.hd
  obtain ⟨hp, g, d, t, os⟩ := s
  refine PySem.W.set_plain I.kIn (ox := { cls := .ref C, dict := none, data := .fields #[.ref t1, .none, .none, .none, .bool false, .none] }) (od := none) ⟨ho, rfl, rfl, trivial⟩ T.sa ?_
  refine PySem.W.osa_openX (od := none) T.SF I.kIn ⟨ho, rfl, rfl, trivial⟩ T.ov hno.taker fun b => ?_
  refine wpAny_bind (wpAny_pure (wpAny_bind (PySem.W.instanceDict_exc (c2 := .none) ho (PySem.W.looks_clsIn I.kIn hc) hdc ?_)))
  have lta : a < hp.objs.size := Heap.lt_size ho
  have nsa : hp.objs.size ≠ a := Nat.ne_of_gt lta
  show wpAny _ _ (Builtin.ObjectAttr.storeInDict hp.objs.size (.str f t) f u) _ _ _
  refine PySem.HandSPX.store_in_new ⟨_, #[], _, (Heap.get?_update_ne _ _ _ _ nsa).trans (Heap.get?_push_at rfl rfl), rfl, fun e he => absurd he (by simp), fun _ => rfl⟩ fun h' tk' hn hs => ?_
  -- the heap behind it
  have old : ∀ b o, b ≠ a → hp.get? b = some o → h'.get? b = some o := fun b o hb q =>
    (hs.2 b (Nat.ne_of_lt (Heap.lt_size q))).trans ((Heap.get?_update_ne _ _ _ _ hb).trans (Heap.get?_push_of_some _ q))
  have hx : h'.get? a = some { cls := .ref C, dict := some hp.objs.size, data := .fields #[.ref t1, .none, .none, .none, .bool false, .none] } :=
    (hs.2 a nsa.symm).trans (Heap.get?_update_self _ (Heap.get?_push_of_some _ ho) rfl)
  have hnd : H hp.objs.size = none := I.hok.fresh (Nat.le_refl _)
  refine h hp.objs.size _ hnd nsa (storeB (t' := tk') I e old (Nat.le_refl _) nsa hx hn ry)
/-- a further attribute -/
theorem ostB_old {Q : Unit → Shared → Prop} (T : OexB X.K C B newId initId bt) (I : Inv X pins σ H s) (e : H a = some (exo a C (some dx))) (ed : H dx = some (exd dx fs)) (hl : fs.length ≤ 900) (hno : NoAttr X.K C f) (ry : RelV y u)
    (h : ∀ s', Inv X pins σ (upd H dx (exd dx ((f, y) :: fs))) s' → Q () s') : wpAny (model X.prog X.w) A (setAttr (.ref a) f u) Q E s := by
  obtain ⟨t1, ho⟩ := exo_at I.hok e
  obtain ⟨mA, hns, rel⟩ := exd_at I.hok ed
  have hw := within_of rel
  obtain ⟨cd, hc, hdc⟩ := PySem.W.any_some T.hd
  obtain ⟨hp, g, d, t, os⟩ := s
  obtain ⟨oD, _, _, hoD, _, _⟩ := hns.count hw
  refine PySem.W.set_plain I.kIn (ox := { cls := .ref C, dict := some dx, data := .fields #[.ref t1, .none, .none, .none, .bool false, .none] }) (od := some oD) ⟨ho, rfl, rfl, hoD⟩ T.sa ?_
  refine PySem.W.osa_openX (od := some oD) T.SF I.kIn ⟨ho, rfl, rfl, hoD⟩ T.ov hno.taker fun b => ?_
  have di : ∀ {R : Option Addr → Shared → Prop} {E' : Value → Shared → Prop} {A' : Around} {t' : Nat}, R (some dx) ⟨hp, g, d, t', os⟩ → wpAny (model X.prog X.w) A' (instanceDict a true) R E' ⟨hp, g, d, t', os⟩ := fun q => by
    unfold instanceDict
    refine wpAny_bind (wpAny_loadPart ho ?_)
    dsimp only
    refine wpAny_bind ((PySem.W.looks_clsIn (M := model X.prog X.w) I.kIn hc).at ?_)
    rw [hdc]
    exact wpAny_pure q
  refine wpAny_bind (wpAny_pure (wpAny_bind (di ?_)))
  show wpAny _ _ (Builtin.ObjectAttr.storeInDict dx (.str f t) f u) _ _ _
  refine PySem.OEX.store_in_old hns hw (by rw [List.length_map]; omega) fun h' tk' hn hs => ?_
  have hd : ∃ o, h'.get? dx = some o := by
    obtain ⟨o, _, _, e', _⟩ := hn
    exact ⟨o, e'⟩
  exact h _ (I.write (t' := tk') (x := dx) (e := dx) (o := exd dx ((f, y) :: fs)) (by rw [ed]; exact True.intro) (.inl rfl) (fun b o hb q => (hs.2 b hb).trans q) hd (exd_ok hn (relO_put ry rel)))
/-- B.__init__(self, ..) through an own class: nothing of it is told -/
theorem oinitB {us : List Value} {Q : Value → Shared → Prop} (T : OexB X.K C B newId initId bt) (I : Inv X pins σ H s) (e : H a = some (exo a C none)) (hl : us.length ≤ sizeLine) (h : ∀ s', Inv X pins σ H s' → Q .none s') :
    wpAny (model X.prog X.w) A (call (.builtin initId) (.ref a :: us)) Q E s := by
  obtain ⟨nm, N, qn, bs, bm, hdct, sn, sub, ab, col, dd, k0, k1, k2, k3, k5, hC, hT⟩ := PySem.W.excInit_of I.kIn T.ini
  obtain ⟨t1, ho⟩ := exo_at I.hok e
  obtain ⟨hp, g, d, t, os⟩ := s
  refine wpAny_call (PySem.HandSPX.init_base T.FB hT hC ho hl fun h' t2 k hx => ?_)
  have J := I.write (t' := t) (x := a) (e := a) (o := exo a C none) (by rw [e]; exact True.intro) (.inl rfl) k ⟨_, hx⟩ (exo_ok hx)
  have eu : upd H a (exo a C none) = H := by
    funext b
    by_cases hb : b = a
    · subst hb; rw [upd_same, e]
    · exact upd_ne hb
  rw [eu] at J
  exact h _ J
end

/-! ### rules -/
/-- D.__init__(self, ..), D an own class without __init__ over the built-in B; nothing of it is told -/
def tBI (K : PySem.W.Frag) (B newId initId : String) (bt : List Value) (ta : TA) : TE := fun σ H Q => ta σ H fun vs H1 => ∃ (a C : Addr) (ws : List V), vs = .ref a :: ws ∧ ws.length ≤ 1000 ∧ OexB K C B newId initId bt ∧ H1 a = some (exo a C none) ∧ Q .non H1
/-- self.f = e, self an error -/
def tOstB (K : PySem.W.Frag) (B newId initId : String) (bt : List Value) (f : Str) (to te : TE) : TS := fun D σ H => te σ H fun y H1 => to σ H1 fun x H2 => ∃ a C : Addr, x = .ref a ∧ OexB K C B newId initId bt ∧ NoAttr K C f ∧
  ((H2 a = some (exo a C none) ∧ ∀ dx, H2 dx = none → dx ≠ a → D.nx σ (upd (upd H2 dx (exd dx [(f, y)])) a (exo a C (some dx)))) ∨
    ∃ (dx : Addr) (fs : List (Str × V)), H2 a = some (exo a C (some dx)) ∧ H2 dx = some (exd dx fs) ∧ fs.length ≤ 900 ∧ D.nx σ (upd H2 dx (exd dx ((f, y) :: fs))))
/-- what is known of the class that is named -/
structure BInit (K : PySem.W.Frag) (mg : Str → Option Value) (x : Str) (initId : String) : Prop where
  ex : ∃ D : Addr, mg x = some (.ref D) ∧ PySem.W.readsIn K D (.type "type") = true ∧ PySem.W.specialIn K (.ref D) "__getattribute__" = some (some (.builtin "type.__getattribute__")) ∧
    PySem.W.findCls K (.ref D) (.type "type") "__init__" = some (.val (.builtin initId)) ∧ PySem.W.handedIn (.builtin initId) = true
section
variable {X : Cx} {o e : Expr} {es : List Expr} {to te : TE} {ta : TA} {f x : Str} {p p' p1 p2 pos : Pos} {B newId initId : String} {bt : List Value}
theorem pe_binit {pl : Sem Bool} (c : BInit X.K X.mg x initId) (hg : Gl X x) (ha : PA X (e :: es) ta) (hdb : (x == ("__debug__" : Str)) = false := by decide)
    (hc : eval (.Call (.Attribute (.Name x p1) "__init__" p2) (e :: es) [] pos) X.env = (do
      let ov ← eval (.Name x p1) X.env
      standAt p2.atName
      let (f, first) ← holding [ov] (getMethod ov "__init__" pl)
      callWith pos f first (backTo pos (starEach (e :: es) X.env)) (backToKw pos (keywordEach [] X.env))) := by rfl)
    (he : starEach (e :: es) X.env = (false, eval e X.env) :: starEach es X.env := by rfl) (hpl : (backTo pos (starEach es X.env)).any (·.1) = false := by rfl) :
    PE X (.Call (.Attribute (.Name x p1) "__init__" p2) (e :: es) [] pos) (tBI X.K B newId initId bt ta) := by
  obtain ⟨D, hm, hrd, hga, hat, hh⟩ := c.ex
  refine ⟨fun pins s σ H Q I h => ?_⟩
  refine PySem.W.methodCall_KW (pl := pl) (ld_glob I hg hm ?_ hdb) hc
  refine PySem.W.method_cls I.kIn hga (PySem.W.cls_value I.kIn hrd hat hh ?_)
  refine PyProof.Rows.callWith_method1 (thn (ha.run pos pins _ σ H _ (I.tok _) h) fun us s1 ⟨vs, H1, I1, r1, a, C, ws, ev, hl, T, ea, q⟩ => ?_) he hpl
  subst ev
  cases r1 with
  | @cons _ u0 _ ur ra rw' =>
    obtain rfl : u0 = Value.ref a := ra
    refine oinitB T I1 ea ?_ fun s' J => ⟨.non, H1, J, rfl, q⟩
    rw [← Paired.length rw', sizeLine_eq]
    omega
theorem ps_ostB (ho : PE X o to) (he : PE X e te) (hs : swapsWith e (some (.Attribute o f p')) pos.line X.env = pure false := by rfl) : PS X (.Assign [.Attribute o f p'] e pos) (tOstB X.K B newId initId bt f to te) := by
  refine ⟨fun pins s σ H D I h => ?_⟩
  refine plainObj_wpAny_Assign_Attribute (thn (he.run pins s σ H _ I h) fun v s1 ⟨y, H1, I1, r1, q1⟩ => thn (ho.run pins s1 σ H1 _ I1 q1) fun u s2 ⟨x, H2, I2, r2, a, C, ex, T, hno, q⟩ => ?_) hs
  subst ex
  obtain rfl : u = Value.ref a := r2
  rcases q with ⟨ea, q⟩ | ⟨dx, fs, ea, ed, hl, q⟩
  · exact ostB_new T I2 ea hno r1 fun dx s' n ne J => ⟨σ, _, J, q dx n ne⟩
  · exact ostB_old T I2 ea ed hl hno r1 fun s' J => ⟨σ, _, J, q⟩
end
/-- C(e, ..), an error of an own class whose __init__ keeps sp, to be raised -/
def tMkB (C : Addr) (sp : Sp) (ta : TA) : L2.St → Hp → XK → Prop := fun σ H Q => ta σ H fun vs H1 => vs.length ≤ 1000 ∧ ∀ a, H1 a = none → sp (.ref a :: vs) (upd H1 a (exo a C none))
  (fun v H2 => v = .non ∧ ∃ (d : Addr) (fs : List (Str × V)), H2 a = some (exo a C (some d)) ∧ H2 d = some (exd d fs) ∧ H1 d = none ∧ Q (.ref C) (some d) (upd (del H2 a) d (.xd fs))) E0
structure ExM (P : Program) (w : World) (K : PySem.W.Frag) (mg : Str → Option Value) (base : Heap) (k : Nat) (x : Str) (C : Addr) (sp : Sp) : Prop where
  ex : ∃ (B newId initId : String) (bt : List Value) (f : Addr) (fd : FuncData) (ps : List Str), OexB K C B newId initId bt ∧ mg x = some (.ref C) ∧ PySem.W.findIn K (.ref C) "__init__" = some (some (.ref f)) ∧ PySem.W.typeIn K (.ref f) = some (.type "function") ∧
    FnOk P w K mg base CX0 k f fd ps sp ∧ Binds K fd ps []
section
variable {X : Cx} {e : Expr} {es : List Expr} {ta : TA} {x : Str} {p pos : Pos} {C : Addr} {sp : Sp} {k j : Nat}
theorem pmk_B (c : ExM X.prog X.w X.K X.mg X.base k x C sp) (hr : Room j X.A) (hk : k + 1 ≤ j) (hg : Gl X x) (ha : PA X (e :: es) ta)
    (hdb : (x == ("__debug__" : Str)) = false := by decide) (he : starEach (e :: es) X.env = (false, eval e X.env) :: starEach es X.env := by rfl) (hpl : (backTo pos (starEach es X.env)).any (·.1) = false := by rfl) :
    PMk X (.Call (.Name x p) (e :: es) [] pos) (tMkB C sp ta) := by
  obtain ⟨B, newId, initId, bt, f, fd, ps, T, hm, iC, tI, F, hb⟩ := c.ex
  have hr' : Room (k + 1) X.A := hr.mono hk
  intro pins s σ H Q I h
  refine wpAny_Call_Name_kw (ld_glob I hg hm ?_ hdb)
  refine PySem.W.callWith_K (h₀ := X.base) I.ok.mod.kin T.kC (thn (ha.run pos pins s σ H _ I h) fun us s1 ⟨vs, H1, I1, r1, hz, q1⟩ => ⟨I1.kIn, ?_⟩) he hpl
  show wpAny _ _ (call (.ref C) us) _ _ _
  obtain ⟨nm, N, qn, bs, bm, hdct, sn, sub, ab, col, dd, k0, k1, k2, k3, k5, hC, hT⟩ := PySem.W.excInit_of I1.kIn T.ini
  obtain ⟨hp, g, dr, tk, os⟩ := s1
  have hsz : hp.objs.size ≤ hp.objs.size + 1 := Nat.le_succ _
  have hq := q1 (hp.objs.size + 1) (I1.hok.fresh hsz)
  have kk : ∀ b o, hp.get? b = some o → ((hp.push (PySem.W.kdv_tup us)).push (PySem.HandSPX.excO C hp.objs.size)).get? b = some o := fun b o q => Heap.get?_push_of_some _ (Heap.get?_push_of_some _ q)
  have hget : ((hp.push (PySem.W.kdv_tup us)).push (PySem.HandSPX.excO C hp.objs.size)).get? (hp.objs.size + 1) = some (PySem.HandSPX.excO C hp.objs.size) := by heap_get
  have I2 : Inv X pins σ (upd H1 (hp.objs.size + 1) (exo (hp.objs.size + 1) C none)) ⟨(hp.push (PySem.W.kdv_tup us)).push (PySem.HandSPX.excO C hp.objs.size), g, dr, tk, os⟩ :=
    I1.laid (t' := tk) (a := hp.objs.size + 1) (o := exo (hp.objs.size + 1) C none) (h' := (hp.push (PySem.W.kdv_tup us)).push (PySem.HandSPX.excO C hp.objs.size)) kk hsz (exo_ok hget)
  have r2 : Vals (V.ref (hp.objs.size + 1) :: vs) (Value.ref (hp.objs.size + 1) :: us) := .cons rfl r1
  have hl : (Value.ref (hp.objs.size + 1) :: us).length = ps.length := by
    have z := F.len _ _ _ _ hq
    rw [r2.length] at z
    exact z
  have hus : us.length ≤ sizeLine := by
    rw [← Paired.length r1, sizeLine_eq]
    omega
  have hbb := hb _ (Value.ref (hp.objs.size + 1) :: us) I2.kIn (by rw [List.append_nil]; exact hl)
  rw [List.append_nil] at hbb
  refine wpAny_call (PySem.HandSPX.call_own T.FB hT hC (PySem.W.looks_findIn I1.kIn iC) (fun self => PySem.W.bind_fn I1.kIn self tI) hus
    (codeAny_mono (F.run _ X.stack _ _ ⟨Value.ref (hp.objs.size + 1) :: us, []⟩ (Value.ref (hp.objs.size + 1) :: us) _ _ E0 (hr'.make C us []) (I2.env0.make C us []) hbb r2 hq) fun r s' hq' => ?_))
  cases r with
  | error er => exact False.elim hq'
  | ok fl =>
    cases fl with
    | ret u =>
      obtain ⟨v, H2, os2, bare2, un2, hok2, rv, ev, d, fs, ea, ed, hd1, q2⟩ := hq'
      subst ev
      obtain ⟨h2, g2, d2, t2, os'⟩ := s'
      exact ⟨rv, mk_end (raises_own T.exC T.tyC) I1 hsz kk un2 hok2 os2 bare2 ea ed hd1 q2⟩
    | next => exact False.elim hq'
    | brk => exact False.elim hq'
    | cont => exact False.elim hq'
end

/-! ### o.m(e, ..) in a try: what is raised is wished for at the caller's slots -/
def tMtS (C : Addr) (m : Str) (sp : Sp) (E : L2.St → XK) (ta : TE) (t : TA) : TE := fun σ H Q => ta σ H fun x H1 => ∃ a dx fs, x = .ref a ∧ H1 a = some (.ins C dx fs) ∧ fld fs m = none ∧ t σ H1 fun vs H2 => sp (.ref a :: vs) H2 Q (E σ)
theorem pe_mtS {X : Cx} {CX : CXT} {k j : Nat} {C : Addr} {m : Str} {sp : Sp} {E : L2.St → XK} {pos apos : Pos} {e o : Expr} {es : List Expr} {ta : TE} {t : TA} {pl : Sem Bool} (c : Met X.prog X.w X.K X.mg X.base CX k C m sp) (hr : Room j X.A) (hk : k ≤ j) (hx : ∀ σ, PassesAt CX X σ (E σ)) (he : PE X o ta) (ha : PA X (e :: es) t)
    (hst : starEach (e :: es) X.env = (false, eval e X.env) :: starEach es X.env := by rfl) (hpl : (backTo pos (starEach es X.env)).any (·.1) = false := by rfl)
    (ht : eval (.Call (.Attribute o m apos) (e :: es) [] pos) X.env = (do
      let ov ← eval o X.env
      standAt apos.atName
      let (f, first) ← holding [ov] (getMethod ov m pl)
      callWith pos f first (backTo pos (starEach (e :: es) X.env)) (backToKw pos (keywordEach [] X.env))) := by rfl) :
    PE X (.Call (.Attribute o m apos) (e :: es) [] pos) (tMtS C m sp E ta t) := by
  obtain ⟨f, fd, ps, hc, hm, F, b⟩ := c.ex
  refine ⟨fun pins s σ H Q I h => ?_⟩
  refine PySem.W.methodCall_KW (pl := pl) (thn (he.run pins s σ H _ I h) fun u s1 ⟨x, H1, I1, rx, a, dx, fs, ex, ea, l, q⟩ => ?_) ht
  subst ex
  obtain rfl : u = Value.ref a := rx
  refine getmeth_ok I1 ea hc hm l ?_
  refine PySem.W.callWith_K (first := [.ref a]) (h₀ := X.base) I.ok.mod.kin hm.kp (thn (ha.run pos pins s1 σ H1 _ I1 q) fun us s2 ⟨vs, H2, I2, r, q2⟩ => ⟨I2.kIn, ?_⟩) hst hpl
  exact run_fnS (us := .ref a :: us) (vs := .ref a :: vs) F (hr.mono hk) b (hx σ) I2 (.cons rfl r) q2

/-! ### isinstance of a caught error that has attributes -/
structure ExcI (K : PySem.W.Frag) (D : Addr) : Prop where
  cl : (PySem.W.clsIn K D).isSome = true
  ga : PySem.W.findIn K (.ref D) "__getattribute__" = some (some (.builtin "BaseException.__getattribute__"))
  gg : PySem.W.findIn K (.ref D) "__getattr__" = some none
  exC : PySem.W.subIn K (.ref D) (.type "BaseException") = some true
  ca : PySem.W.findIn K (.ref D) "__class__" = some (some (.builtin "object.__class__"))
  cg : PySem.W.specialIn K (.builtin "object.__class__") "__get__" = some (some (.builtin "getset_descriptor.__get__"))
  ct : PySem.W.takesIn K (.builtin "object.__class__") = some true
  mo : PySem.W.mroIn K D (.type "object") = some true
def rIsD (K : PySem.W.Frag) (D a : Addr) (cls : Value) (d : Option Addr) : List V → Hp → VK → Prop := fun xs H Q => ∃ (c : V) (cv : Value) (b : Bool) (dd : Addr) (fs : List (Str × V)), xs = [.ref a, c] ∧ ClsV c cv ∧ cls = .ref D ∧ d = some dd ∧ H dd = some (.xd fs) ∧ PySem.W.kitOne K (.ref D) cv = some b ∧ Q (.bl b) H
theorem call_isD {X : Cx} {a D : Addr} {cls : Value} {d : Option Addr} {oe : Obj} {pn : List (Addr × Obj)} (C : ExcI X.K D) (hz : Zc cls d oe) (hf : ∃ vs, oe.data = .fields vs) : CallR (X.suite a ((a, oe) :: pn)) (.builtin "isinstance") (rIsD X.K D a cls d) := by
  intro pins s σ H xs us Q I r h
  obtain ⟨c, cv, b, dd, fs, rfl, hcv, rfl, rfl, hdd, e, q⟩ := h
  cases r with
  | cons rx rr =>
    cases rr with
    | cons rt rr =>
      cases rr
      cases rx
      have ec := hcv.eq rt
      subst ec
      obtain ⟨hget, _⟩ := I.pin (a, oe) (List.mem_append_left _ List.mem_cons_self)
      obtain ⟨mA, ⟨od, es, ep, hod, _⟩, _⟩ := (show ObjOk X.prog X.w H s.heap dd (.xd fs) from I.hok dd _ hdd)
      obtain ⟨vs, hv⟩ := hf
      have J : PySem.W.InstAt s.heap a oe D (some od) := ⟨hget, hz.1, by unfold PySem.W.notCls; rw [hv] <;> rfl, by rw [hz.2]; exact hod⟩
      exact PySem.W.kia_one (PySem.W.kitx_exc C.cl C.ga C.gg C.exC C.ca C.cg C.ct C.mo) I.kIn J e (fun z => nomatch z) fun tk => ⟨.bl b, H, I.kept (t' := tk) fun _ _ z => z, rfl, q⟩
end UX
namespace UX
open PySem PySem.Spec PyProof.Rows L2 U
/-- a def that lets nothing out, calling defs that may raise where they don't -/
theorem okN {P : Program} {w : World} {K : PySem.W.Frag} {mg : Str → Option Value} {base : Heap} {x qual : Str} {st : Stmt} {f : Addr} {fd : FuncData} {N ps : List Str} {k : Nat} {sp : Sp} (F : Fun K x qual st f fd) (S : FnScope N ps (defScope st)) (len : ∀ vs H Q E, sp vs H Q E → vs.length = ps.length)
    (hbody : ∀ (cdv : Value) (A : Around) (outer : List Env) (s : Shared) (H : Hp) (vs : List V) (Q : VK) (E : XK), Room k (A.deeper (envOfC qual (defScope st) s.heap.objs.size f cdv)) → sp vs H Q E →
      ∃ t, PSs (cxOf (L2.CX P w) P w K mg base N qual (defScope st) f cdv A outer s H E).nox (defBody st) t ∧ t { nx := fun _ H' => Q .non H', rt := Q } (start N vs) H) : FnOk P w K mg base (L2.CX P w) (k + 1) f fd ps sp := by
  obtain ⟨oc, od, kV, doc, pm, an, cdv, ct, osl, rfl, lk, hcd⟩ := F.ex
  refine fn_of lk hcd S len fun A outer s H vs Q E hr hsp => ?_
  obtain ⟨t, h, q⟩ := hbody cdv A outer s H vs Q E hr hsp
  exact ⟨t, h.nox, q⟩
section
variable {X : Cx} {k j : Nat} {C : Addr} {x m : Str} {sp : Sp} {p pos apos : Pos} {e o : Expr} {es : List Expr} {ta : TE} {t : TA}
theorem pe_cL (c : Cal X.prog X.w X.K X.mg X.base (L2.CX X.prog X.w) k x sp) (hr : Room j X.A) (hk : k ≤ j) (hg : Gl X x) (ha : PA X (e :: es) t)
    (hdb : (x == ("__debug__" : Str)) = false := by decide) (he : starEach (e :: es) X.env = (false, eval e X.env) :: starEach es X.env := by rfl) (hpl : (backTo pos (starEach es X.env)).any (·.1) = false := by rfl) :
    PE X (.Call (.Name x p) (e :: es) [] pos) (tCall sp [] L2.E0 t) := by
  obtain ⟨f, fd, ps, F, hm, kp, b⟩ := c.ex
  exact pe_call F (hr.mono hk) hg hm kp b .nil passL ha hdb he hpl
theorem pe_mtL {pl : Sem Bool} (c : Met X.prog X.w X.K X.mg X.base (L2.CX X.prog X.w) k C m sp) (hr : Room j X.A) (hk : k ≤ j) (he : PE X o ta) (ha : PA X (e :: es) t)
    (hst : starEach (e :: es) X.env = (false, eval e X.env) :: starEach es X.env := by rfl) (hpl : (backTo pos (starEach es X.env)).any (·.1) = false := by rfl)
    (ht : eval (.Call (.Attribute o m apos) (e :: es) [] pos) X.env = (do
      let ov ← eval o X.env
      standAt apos.atName
      let (f, first) ← holding [ov] (getMethod ov m pl)
      callWith pos f first (backTo pos (starEach (e :: es) X.env)) (backToKw pos (keywordEach [] X.env))) := by rfl) :
    PE X (.Call (.Attribute o m apos) (e :: es) [] pos) (tMeth C m sp [] L2.E0 ta t) := by
  obtain ⟨f, fd, ps, hc, hm, F, b⟩ := c.ex
  exact pe_meth (pl := pl) he hc hm F (hr.mono hk) b .nil passL ha hst hpl ht
end
end UX
namespace UX
open PySem PySem.Spec PyProof.Rows L2 U
theorem cxF {P : Program} {w : World} {H : Hp} {s : Shared} {e : Value} {s' : Shared} (h : L2.CX P w [] H s (fun _ _ _ => False) e s') : False := by
  obtain ⟨_, _, _, _, _, _, _, _, _, _, _, _, z⟩ := h
  exact z.elim
end UX
end
section
open PySem PySem.Spec PyProof.Rows L2 U
set_option maxHeartbeats 400000
namespace UF
open Builtin Builtin.Str Builtin.Int Builtin.Float
def binT (n : Nat) : Str := PySem.Str.ofString (String.ofList (Nat.toDigits 2 n))
theorem meetsB0 (n : Nat) (hn : n < 64) (t u : Tok) (spec : PySem.Str) (hne : (spec.length == 0) = false) (hasc : ((spec.cps.toList.drop 1).any (· ≥ 128) || (spec.cps.getD 0 0 ≥ 128 && !([60, 62, 61, 94] : List Nat).contains (spec.cps.getD 1 0))) = false)
    (hp : parseFormatSpec spec.cps.toList "int" 62 = .ok { align := 62, type := some 98 }) : Meets (Builtin.«int.__format__» ⟨[.int (n : Int) t, .str spec u], []⟩) (fun _ R s => ∀ t' k, R (.ok (.ret (.str (binT n) t'))) { s with toks := k }) := by
  apply PySem.W.KPc.meets_of
  intro _ _ _ _ _ _ a
  unfold Builtin.«int.__format__»
  simp only [selfAndOne, noKeywords, Int.intOfSelf, asInt?, asStr?, List.isEmpty_nil, if_true, pure_bind, bind_pure, bind_assoc, hne, hasc, Bool.false_eq_true, if_false,
    show (Value.str spec u == Value.none) = false from rfl]
  refine wpAny_bind (wpAny_typeNameOf (T := "str") (typeIs_str _ _ _) (by decide) fun _ => ?_)
  refine wpAny_bind (wpAny_typeNameOfCut_int ?_)
  simp only [hp, Option.getD]
  refine wpAny_ite (PySem.W.KPc.ite_yes (by decide +kernel) ?_)
  refine PySem.W.KXf.ret_text (T := binT n) ?e ?l ?_
  case e => clear a; revert n; decide +kernel
  case l => clear a; revert n; decide +kernel
  exact a
/-- the rule: f'{x:b}' of a small number -/
def tFmtB (te : TE) : TE := fun σ H Q => te σ H fun x H1 => ∃ n : Nat, x = .int (n : Int) ∧ n < 64 ∧ Q (.str (binT n)) H1
theorem pe_fmtB {X : Cx} {e : Expr} {te : TE} {kk : Nat} {p1 p2 p3 : Pos} (he : PE X e te) : PE X (.FormattedValue e (-1) (some (.JoinedStr [.Constant (.str "b") kk p1] p2)) p3) (tFmtB te) := by
  refine ⟨fun pins s σ H Q I h => ?_⟩
  refine wpAny_FormattedValue_spec (thn (he.run pins s σ H _ I h) fun v s1 hv => ?_)
  obtain ⟨x, H1, I1, r1, n, rfl, hn, q⟩ := hv
  obtain ⟨t, rfl⟩ := r1
  refine thn ((pe_joined1 (X := X) pe_str).run pins s1 σ H1 (fun y H2 => y = .str "b" ∧ H2 = H1) I1 ?_) fun v2 s2 hv2 => ?_
  · exact ⟨rfl, rfl⟩
  obtain ⟨y, H2, I2, r2, rfl, rfl⟩ := hv2
  obtain ⟨t2, rfl⟩ := r2
  refine ⟨_, t2, rfl, ?_⟩
  exact PySem.W.KXf.field_int rfl (by decide +kernel) (by decide +kernel) (fun u => meetsB0 n hn t u _ (by decide +kernel) (by decide +kernel) (by rfl)) fun t' k => ⟨.str (binT n), H2, I2.tok _, ⟨_, rfl⟩, q⟩
theorem pe_joinK {X : Cx} (K : PySem.W.Frag) (hK : X.K = K) {o e : Expr} {to te : TE} {apos pos : Pos} (ho : PE X o to) (he : PE X e te) (hs : starEach [e] X.env = [(false, eval e X.env)]) (hbase : attributeBase o "join" X.env (eval o X.env) = eval o X.env) (hline : (apos.endLine == pos.line) = true) :
    PE X (.Call (.Attribute o "join" apos) [e] [] pos) (tM1 (fun x xs H Q => ∃ a p, ∃ ys : List Str, x = .str a ∧ xs = [.ref p] ∧ (SqL K H p (ys.map V.str) ∨ SqT K H p (ys.map V.str)) ∧
      (ys.map (·.length)).sum + ys.length * a.length ≤ 16777216 ∧ Q (.str (Txt.join a ys)) H) to te) := by
  subst hK; exact pe_join ho he hs hbase hline
/-- one of several readings -/
theorem pe_ex {ι : Type} {X : Cx} {e : Expr} {t : ι → TE} (h : ∀ i, PE X e (t i)) : PE X e (fun σ H Q => ∃ i, t i σ H Q) := ⟨fun pins s σ H Q I ⟨i, h1⟩ => (h i).run pins s σ H Q I h1⟩
end UF
namespace UF
theorem op_mulS {X : Cx} : OpR X (binaryOp .Mult) (fun x y H Q => ∃ (i : Str) (n : Int), x = .str i ∧ y = .int n ∧ PySem.MulOk i n ∧ Q (.str (PySem.Txt.mul i n)) H) := by
  intro pins s σ H x y v u Q I rx ry h
  obtain ⟨i, n, rfl, rfl, hz, q⟩ := h
  obtain ⟨t, rfl⟩ := rx
  obtain ⟨t', rfl⟩ := ry
  exact PySem.SB.mul hz (fun t' tk => ⟨.str (PySem.Txt.mul i n), H, I.tok _, ⟨_, rfl⟩, q⟩)
theorem cutS_le (z : Str) (lo hi : Option Int) : (cutS z lo hi).length ≤ z.length := by
  unfold cutS
  show (((z.cps.toList.drop _).take _).toArray).size ≤ z.cps.size
  rw [List.size_toArray, List.length_take, List.length_drop, Array.length_toList]
  omega
end UF
namespace UF
theorem pi_listK {X : Cx} {tg : Expr} (K : PySem.W.Frag) (hK : X.K = K) {l : Expr} {tl : TE} (hl : PE X l tl) : PI X tg l (iList K tl) := by subst hK; exact pi_list hl
end UF
end
section
set_option maxHeartbeats 3200000
/-! set(xs) of a list of any keys of one kind, and len(set(xs)) of a list of texts -/
namespace US
open PySem PySem.Spec PyProof.Rows L2 U
section
variable {T : Type} [DecidableEq T]
/-- the keys met before place i, each once -/
def dd (ks : Nat → T) : Nat → List T
  | 0 => []
  | i + 1 => if ks i ∈ dd ks i then dd ks i else dd ks i ++ [ks i]
theorem dd_mem {ks : Nat → T} {i : Nat} {x : T} : x ∈ dd ks (i + 1) ↔ x ∈ dd ks i ∨ x = ks i := by
  rw [dd]
  by_cases h : ks i ∈ dd ks i
  · rw [if_pos h]
    exact ⟨Or.inl, fun q => q.elim id fun e => e ▸ h⟩
  · rw [if_neg h, List.mem_append, List.mem_singleton]
theorem dd_le (ks : Nat → T) : ∀ i, (dd ks i).length ≤ i
  | 0 => Nat.le_refl _
  | i + 1 => by
    rw [dd]
    have := dd_le ks i
    by_cases h : ks i ∈ dd ks i
    · rw [if_pos h]; omega
    · rw [if_neg h, List.length_append]; show _ + 1 ≤ _; omega
theorem dd_len {ks : Nat → T} {i : Nat} : (dd ks (i + 1)).length = if decide (ks i ∈ dd ks i) = true then (dd ks i).length else (dd ks i).length + 1 := by
  rw [dd]
  by_cases h : ks i ∈ dd ks i
  · rw [if_pos h, if_pos (decide_eq_true h)]
  · rw [if_neg h, if_neg (by rw [decide_eq_false h]; decide), List.length_append]; rfl
end
section
variable {prog : Program} {w : World} {A : Around} {T : Type} [DecidableEq T] {knd : KeyKind prog w T}
theorem kept {h h' : Heap} {S : Addr} {f : T → Bool} {n : Nat} (q : h.SetOf knd S f n) (k : ∀ o, h.get? S = some o → h'.get? S = some o) : h'.SetOf knd S f n := by
  obtain ⟨o, es, ep, tb, at0, more⟩ := q
  exact ⟨o, es, ep, tb, k o at0, more⟩
/-- the loop that fills the set -/
theorem fill {R : Result → Shared → Prop} {I S : Addr} {fp wr : List Addr} {G : Array GenState → Array GenState → Prop} {n : Nat} {Pv : Nat → Value → Prop} {St : Nat → Shared → Prop} {ks : Nat → T}
    (W : WalksS prog w A.in1 I fp wr G n Pv St) (out : S ∉ fp) (key : ∀ i v, Pv i v → knd.is (ks i) v = true ∧ v.scannable = true) (few : n + 1 < scanBound) :
    ∀ (r i : Nat) (s : Shared), i + r = n → St i s → s.heap.SetOf knd S (fun x => decide (x ∈ dd ks i)) (dd ks i).length →
      (∀ s', Moved (S :: wr) G s s' → s'.heap.SetOf knd S (fun x => decide (x ∈ dd ks n)) (dd ks n).length → R (.ok (.ret .none)) s') →
      codeAny (model prog w) A (.builtin "set.update.loop" ⟨[.ref S, .ref I], []⟩) R s := by
  have off : S ∉ wr := fun q => out (W.sub S q)
  have more : ∀ b, b ∈ wr → b ∈ S :: wr := fun b q => .tail _ q
  intro r
  induction r with
  | zero =>
    rintro i s e st hS fin
    obtain rfl : i = n := e
    apply codeAny_builtin PyProof.Rows.F.entry_set_update_loop
    rw [Around.under_plainId PyProof.Rows.F.plain_set_update_loop]
    refine wpAny_bind (m := pyNext (.ref I)) (W.done s _ _ st fun s' mv => ?_)
    refine wpAny_pure (fin s' (mv.mono more) (kept hS fun o at0 => mv.heap S o off at0))
  | succ r ih =>
    rintro i s e st hS fin
    have lt : i < n := by omega
    apply codeAny_builtin PyProof.Rows.F.entry_set_update_loop
    rw [Around.under_plainId PyProof.Rows.F.plain_set_update_loop]
    refine wpAny_bind (m := pyNext (.ref I)) (W.item i s _ _ lt st fun v s' pv st' mv => ?_)
    obtain ⟨isk, scn⟩ := key i v pv
    refine wpAny_bind (m := holding [v] (setAdd S v)) (wpAny_holding ?_)
    unfold setAdd
    refine wpAny_holding (wpAny_bind (knd.pyHash (k := ks i) isk ?_))
    have room := dd_le ks i
    refine wpAny_setAddHashed_of isk scn (kept hS fun o at0 => mv.heap S o off at0) (by omega) fun h2 but put => ?_
    have put' : h2.SetOf knd S (fun x => decide (x ∈ dd ks (i + 1))) (dd ks (i + 1)).length := by
      rw [dd_len]
      have ef : (fun x => decide (x ∈ dd ks (i + 1))) = fun x => decide (x ∈ dd ks i) || decide (x = ks i) := by
        funext x
        by_cases h1 : x ∈ dd ks i <;> by_cases h2 : x = ks i <;> simp [dd_mem, h1, h2]
      rw [ef]
      exact put
    have far : ∀ b o, b ≠ S → s'.heap.get? b = some o → h2.get? b = some o := fun b o nb q => by rw [but.2 b nb]; exact q
    refine wpAny_pure ⟨plainId_quiet PyProof.Rows.F.plain_set_update_loop _, ih (i + 1) _ (by omega) ?_ put' fun s2 mv2 q2 => fin s2 ?_ q2⟩
    · exact W.frame _ s' _ _ st' (Nat.le_succ _) fun b inb o q => far b o (fun z => out (z ▸ inb)) q
    · exact .trans W.gtrans ((mv.mono more).then_heap (Nat.le_succ _) fun b o nb q => far b o (fun z => nb (z ▸ .head _)) q) mv2
end
section
variable {prog : Program} {w : World} {A : Around} {E : Value → Shared → Prop} {s : Shared} {T : Type} [DecidableEq T] {knd : KeyKind prog w T}
/-- a set that was just made -/
abbrev bare (led : Bool) : Obj := { cls := .type "set", dict := none, data := .set #[] 0 (.fresh 0 0 led) }
theorem set_of_list {l : Addr} {items : Array Value} {ks : Nat → T} {Q : Value → Shared → Prop} (calm : A.handled = none) (isl : s.heap.IsList l items) (key : ∀ i v, items[i]? = some v → knd.is (ks i) v = true ∧ v.scannable = true) (few : items.size + 1 < scanBound)
    (go : ∀ (h' : Heap) (tk : Nat), h'.SetOf knd s.heap.objs.size (fun x => decide (x ∈ dd ks items.size)) (dd ks items.size).length → (∀ b o, s.heap.get? b = some o → h'.get? b = some o) → Q (.ref s.heap.objs.size) { s with heap := h', toks := tk }) :
    wpAny (model prog w) A (call (.type "set") [.ref l]) Q E s := by
  obtain ⟨m1, m2, mro0⟩ := PySem.F.called_set.mro
  have made0 := PySem.F.called_set.made; have sub0 := PySem.F.called_set.sub; have nt0 := PySem.F.called_set.notType; have cc0 := PySem.F.called_set.canCreate
  have tc0 := PySem.F.typeCall_set_1 (.ref l)
  apply wpAny_call; apply codeAny_of_tree
  show wpAny _ _ (callAny (.type "set") _) _ _ _
  refine wpAny_pure ⟨Code.quiet_builtin _ (by decide +kernel), ?_⟩
  apply codeAny_builtin PySem.F.entry_type_call
  rw [Around.under_plain (weight_type_call_type "set" [.ref l] []) rfl]
  repeat (any_goals (first | assumption | wp_step))
  refine codeAny_mono (code_set_new_1 (.ref l) (E := E) (Q₁ := fun v s1 => ∃ led : Bool, v = .ref s.heap.objs.size ∧ s1 = { s with heap := s.heap.push (bare led) }) fun led => ⟨led, rfl, rfl⟩) fun r s1 got => ?_
  cases r with
  | error e => exact got
  | ok fl => cases fl with
    | ret v =>
      obtain ⟨led, rfl, rfl⟩ := got
      generalize hp0 : s.heap.push (bare led) = H0
      have at0 : H0.get? s.heap.objs.size = some (bare led) := by rw [← hp0]; exact Heap.get?_push_size _ rfl
      have old0 : ∀ b o, s.heap.get? b = some o → H0.get? b = some o := fun b o q => by rw [← hp0]; exact Heap.get?_push_of_some _ q
      have ty0 : Shared.TypeIs { s with heap := H0 } (.ref s.heap.objs.size) "set" := ⟨_, at0, rfl⟩
      have look0 := PySem.F.called_set.init.lookup; have bind0 := PySem.F.called_set.init.bind (.ref s.heap.objs.size)
      repeat (any_goals (first | assumption | wp_step))
      refine codeAny_mono (codeAny_call_builtin (R := wants (fun v s2 => v = .none ∧ ∃ h' tk, s2 = { s with heap := h', toks := tk } ∧ h'.SetOf knd s.heap.objs.size (fun x => decide (x ∈ dd ks items.size)) (dd ks items.size).length ∧ ∀ b o, s.heap.get? b = some o → h'.get? b = some o) E)
        PySem.F.called_set.init.plain PySem.F.entry_set_init (check_set_init_1 ty0 ?_)) fun r2 s2 got2 => ?_
      · obtain ⟨⟨lc, ld, lda, ls⟩, lat, lcl, ln, ldd⟩ := isl
        dsimp only at lcl ldd
        cases lcl; cases ldd
        have lat0 := old0 _ _ lat
        have nl0 := PySem.F.sub_list_set; have nf0 := PySem.F.sub_list_frozenset
        have nd0 : (Value.type "list" == Value.type "dict") = false := by decide
        have isl0 : H0.IsList l items := ⟨_, lat0, rfl, ln, rfl⟩
        unfold Builtin.«set.__init__» noKeywords Builtin.Frozenset.updateFrom
        generalize hit : pyIter = iter0
        wp_walk
        subst hit
        refine wpAny_pyIter_list isl0 ?_
        refine wpAny_bind (wpAny_runValue ?_)
        have b1 : l < s.heap.objs.size := Heap.lt_size lat
        have b2 : s.heap.objs.size < H0.objs.size := Heap.lt_size at0
        have calm3 : A.in1.in1.in1.handled = none := by simp [calm]
        refine fill ((Walks.list calm3 _ l (Nat.ne_of_lt (Nat.lt_trans b1 b2)) items).toS) (S := s.heap.objs.size) (knd := knd) ?out key few items.size 0 _ (Nat.zero_add _) ⟨⟨_, Heap.get?_push_size _ rfl, rfl, rfl⟩, isl0.push _⟩ ?start ?stop
        case out =>
          intro q
          rcases List.mem_cons.mp q with e | q
          · exact Nat.ne_of_lt b2 e
          · exact Nat.ne_of_gt b1 (List.mem_singleton.mp q)
        case start =>
          have z := (setObjOf_fresh (knd := knd) led).setOf at0 (by unfold scanBound; omega)
          refine kept (SetOf_congr z (fun x => ?_) ?_) fun o q => Heap.get?_push_of_some _ q
          · rfl
          · rfl
        case stop =>
          rintro ⟨h', g', d', tk', os'⟩ mv put
          obtain rfl : g' = s.gens := mv.gens
          obtain rfl : d' = s.drawn := mv.drawn
          obtain rfl : os' = s.os := mv.os
          refine wpAny_pure (a := ()) ?_
          refine wpAny_pure (a := Fin.done (.ret Value.none)) ⟨rfl, h', tk', rfl, put, fun b o q => mv.heap b o (fun i => ?_) (Heap.get?_push_of_some _ (old0 b o q))⟩
          have b3 : b < s.heap.objs.size := Heap.lt_size q
          rcases List.mem_cons.mp i with e | i
          · exact Nat.ne_of_lt b3 e
          · exact Nat.ne_of_lt (Nat.lt_trans b3 b2) (List.mem_singleton.mp i)
      · cases r2 with
        | error e => exact got2
        | ok fl2 => cases fl2 with
          | ret v2 =>
            obtain ⟨rfl, h', tk, rfl, put, keep⟩ := got2
            repeat (any_goals (first | assumption | wp_step))
            exact go _ _ put keep
          | _ => exact got2.elim
    | _ => exact got.elim
end
/-- the number of different texts of a list -/
def kinds (xs : List Str) : Nat := (dd (fun i => xs.getD i Str.empty) xs.length).length
def tLenSetS (K : PySem.W.Frag) (ta : TE) : TE := fun σ H Q => ta σ H fun x H1 => ∃ (l : Addr) (xs : List Str), x = .ref l ∧ SqL K H1 l (xs.map V.str) ∧ xs.length ≤ 4000 ∧ Q (.int ((kinds xs : Nat) : Int)) H1
theorem strs_at {xs : List Str} {us : List Value} (r : Vals (xs.map V.str) us) (i : Nat) (v : Value) (q : us[i]? = some v) : ∃ t, v = .str (xs.getD i Str.empty) t := by
  induction xs generalizing us i with
  | nil => cases r; cases q
  | cons x xs ih =>
    cases r with
    | cons a b =>
      obtain ⟨t, rfl⟩ := a
      cases i with
      | zero => cases q; exact ⟨t, rfl⟩
      | succ i => exact ih b i q
theorem pe_lenSetS {X : Cx} {a : Expr} {ta : TE} {p p2 q pos : Pos} (gl : Gl X "len") (ml : X.mg "len" = none) (gs : Gl X "set") (ms : X.mg "set" = none) (ha : PE X a ta) (calm : X.calm = true := by rfl) (one : starEach [a] X.env = (false, eval a X.env) :: starEach [] X.env := by rfl) :
    PE X (.Call (.Name "len" p) [.Call (.Name "set" p2) [a] [] q] [] pos) (tLenSetS X.K ta) := by
  refine ⟨fun pins s σ H Q I h => Call_ (ld_blt I gl ml boot_len ?_)⟩
  refine callWith_builtin1 (args_cons (Call_ (ld_blt I gs ms boot_set ?_)) rfl) rfl rfl
  refine callWith_type1 (args_cons (thn (ha.run pins s σ H _ I h) fun v s1 got => args_nil ?_) one) one rfl
  obtain ⟨x, H1, I1, r1, l, xs, rfl, isl, few, q1⟩ := got
  cases r1
  obtain ⟨its, r, pl, _⟩ := I1.list isl
  have size : its.toArray.size = xs.length := by rw [List.size_toArray, ← r.length, List.length_map]
  refine set_of_list (knd := PySem.strKind X.prog X.w) (ks := fun i => xs.getD i Str.empty) (I1.ok.hd calm) pl.isList (fun i v e => ?_) (by rw [size]; unfold scanBound; omega) fun h' tk put keep => args_nil ?_
  · rw [List.getElem?_toArray] at e
    obtain ⟨t, rfl⟩ := strs_at r i v e
    exact ⟨strKind_is _ _ _ _, rfl⟩
  · rw [size] at put
    obtain ⟨o, es, ep, tb, at1, ex, dt, _, _, _, fits, num⟩ := put
    have I2 : Inv X pins σ H1 { s1 with heap := h', toks := tk } := I1.kept fun b o e => keep b o e
    have le : kinds xs ≤ xs.length := dd_le _ _
    exact call_len_set at1 ex dt fits (by rw [num]; unfold kinds at le; omega) ⟨.int (kinds xs : Nat), H1, I2.tok _, ⟨_, by rw [num]; rfl⟩, q1⟩
end US
end
section
namespace UW
open PySem PySem.Spec PyProof.Rows L2 U
theorem at_strs {xs : List Str} {i : Nat} {y : V} (h : (xs.map V.str)[i]? = some y) : ∃ x, y = .str x ∧ xs[i]? = some x := by
  rw [List.getElem?_map] at h
  obtain ⟨x, hx, rfl⟩ := Option.map_eq_some_iff.mp h
  exact ⟨x, rfl, hx⟩
theorem at_refs {xs : List Addr} {i : Nat} {y : V} (h : (xs.map V.ref)[i]? = some y) : ∃ x, y = .ref x ∧ xs[i]? = some x := by
  rw [List.getElem?_map] at h
  obtain ⟨x, hx, rfl⟩ := Option.map_eq_some_iff.mp h
  exact ⟨x, rfl, hx⟩
/-- a walk over a list, whatever is done with an item (for a comprehension of two clauses) -/
theorem loopL {K : PySem.W.Frag} {a : Addr} {xs : List V} {B : V → Hp → (Hp → Prop) → Prop} {H0 : Hp} {Qd : Hp → Prop} (Pv : Nat → Hp → Prop) (h0 : Pv 0 H0) (st : ∀ i H, Pv i H → SqL K H a xs) (step : ∀ i x H, xs[i]? = some x → Pv i H → B x H (Pv (i + 1))) (fin : ∀ H, Pv xs.length H → Qd H) :
    ∃ W : Nat → Nat → Hp → Prop, (∃ m, W 0 m H0) ∧ ∀ i m H, W i m H → ((Itl K a).stop i H ∧ Qd H) ∨ ((Itl K a).go i H ∧ ∃ Nx : Hp → Prop, (∀ H', Nx H' → ∃ m', m' < m ∧ W (i + 1) m' H') ∧ ∀ x H', (Itl K a).yld i H x H' → B x H' Nx) := by
  refine ⟨fun i m H => i + m = xs.length ∧ Pv i H, ⟨_, Nat.zero_add _, h0⟩, ?_⟩
  rintro i m H ⟨e, p⟩
  have q := st i H p
  cases m with
  | zero =>
    obtain rfl : i = xs.length := e
    exact .inl ⟨⟨xs, q, Nat.le_refl _⟩, fin H p⟩
  | succ m =>
    have lt : i < xs.length := by omega
    refine .inr ⟨⟨xs, xs[i], q, List.getElem?_eq_getElem lt⟩, Pv (i + 1), fun H' p' => ⟨m, Nat.lt_succ_self m, by omega, p'⟩, ?_⟩
    rintro x _ ⟨rfl, y⟩
    exact step i x _ (y xs q) p
section
variable {X : Cx}
theorem swD {kx vx : Expr} {cs : List Comprehension} {sc : Scope} {p py : Pos} {y : Str} {n : Nat} {e : Env} (fn : e.scope.kind = .function) (loc : e.scope.names.lookup y = some .local) (line : (py.line == p.line) = true)
    (free : (sc.names.any fun (z, k) => z == y && (k == .local || k == .cell)) = false) : swapsWith (.DictComp kx vx cs sc p) (some (.Name y py)) n e = pure true := by
  have k1 : e.kindOf y = some .local := loc
  have k2 : e.blockKind = .function := by unfold Env.blockKind; rw [fn]; rfl
  unfold swapsWith; simp only [k1, k2, free, line, Expr.pos]; rfl
/-- name = {.. for ..} on one line, the name a local -/
theorem ps_setDc {i : Nat} {y : Str} {py pos spos : Pos} {kx vx tg iter : Expr} {ifs : List Expr} {sc : Scope} {own : List (Str × Nat)} {wi : TI} {g : TG} {tt : TT} {tk tv : TE} (calm : X.calm = true) (nd : X.N.Nodup) (hy : X.N[i]? = some y) (loc : X.env.scope.names.lookup y = some .local)
    (sw : swapsWith (.DictComp kx vx [⟨tg, iter, ifs, 0⟩] sc pos) (some (.Name y py)) spos.line X.env = pure true) (hi : PI X tg iter wi) (ok : BlkOk X.N X.env.scope sc own)
    (hg : ∀ (s : Shared) (H : Hp) (C : Addr) (cl : List (Str × Addr)) (fp : List Addr), PG (X.blk s H sc (compEnvC sc cl C X.env) fp) tg g) (ht : ∀ (s : Shared) (H : Hp) (C : Addr) (cl : List (Str × Addr)) (fp : List Addr), PTs (X.blk s H sc (compEnvC sc cl C X.env) fp) ifs tt)
    (hk : ∀ (s : Shared) (H : Hp) (C : Addr) (cl : List (Str × Addr)) (fp : List Addr), PE (X.blk s H sc (compEnvC sc cl C X.env) fp) kx tk) (he : ∀ (s : Shared) (H : Hp) (C : Addr) (cl : List (Str × Addr)) (fp : List Addr), PE (X.blk s H sc (compEnvC sc cl C X.env) fp) vx tv)
    (fold : ∀ x, foldedSetIterable iter X.env x = pure x := by intro _; rfl) : PS X (.Assign [.Name y py] (.DictComp kx vx [⟨tg, iter, ifs, 0⟩] sc pos) spos) (tAsg (tDc wi g tt tk tv (own.map (·.2))) (gName i)) := by
  refine ⟨fun pins s σ H D I got => ?_⟩
  rw [exec_Assign_Name_used _ _ _ _ sw]
  refine wpAny_bind (wpAny_standAt (wpAny_bind ?_))
  show wpAny _ X.A (do let _ ← comprehension (.DictComp kx vx [⟨tg, iter, ifs, 0⟩] sc pos) sc X.env (firstIterPos [⟨tg, iter, ifs, 0⟩] pos) newDict false (eval iter X.env) (some (assign (.Name y py) X.env))) _ _ s
  have got : tDc wi g tt tk tv (own.map (·.2)) σ H (fun x H1 => gName i x σ H1 D.nx) := got
  refine wpAny_bind (thn (dc_core (Qf := fun _ s1 => SP X pins D .next s1) calm nd I hi ok hg ht hk he fold got fun L C s1 m H1 I1 q1 ns f => ?_) fun _ s1 z => wpAny_pure (wpAny_pure z))
  show wpAny _ _ (assign (.Name y py) X.env (.ref L)) _ _ _
  refine wpAny_assign_Name (store_ok2 (v := V.ref L) I1 nd hy (.inl loc) rfl (fun s2 I2 ⟨b, but, hb⟩ => ?_) (.inr loc))
  obtain ⟨f0, f1, f2, f3, f4, f5⟩ := f
  have far : C ≠ b := hb.elim (fun z => by rw [z]; exact f1) fun z e => f4 y b z e.symm
  exact ⟨m, ns.sameBut but far, fun h3 but3 => ⟨_, H1, I2.turned (t' := s2.toks) (fun c o hc e => (but3.2 c hc).trans e) f0 f1 f3 f4 f5, q1⟩⟩
end
end UW
end
section
/-! What stands in the heap, as a list; one lemma for each question, so that a walk can be found by its head. -/
namespace V
open PySem PySem.Spec PyProof.Rows L2 U

/-! ### the heap as a list of cells -/
abbrev Cells := List (Bool × Addr × HO)
def Nd (a : Addr) : Cells → Prop
  | [] => True
  | c :: L => c.2.1 ≠ a ∧ Nd a L
/-- each cell stands; those that are marked may be written: they are not frozen -/
def Ok (Z H : Hp) : Cells → Prop
  | [] => True
  | c :: L => (H c.2.1 = some c.2.2 ∧ (c.1 = true → Z c.2.1 = none)) ∧ Nd c.2.1 L ∧ Ok Z H L
/-- the state of the draws: the list at S, what is left of the script at T -/
def StD (H : Hp) (S T : Addr) : Prop := S ≠ T ∧ ∃ (ns : List Int) (a b c : Int), ns.length ≤ 63 ∧ H S = some (.lst [.ref T, .int a, .int b, .int c]) ∧ H T = some (.lst (ns.map V.int))
def StO (Z H : Hp) (L : Cells) : Option (Addr × Addr) → Prop
  | none => True
  | some (S, T) => (StD H S T ∧ Z S = none ∧ Z T = none) ∧ Nd S L ∧ Nd T L
/-- what is frozen (Z) stands, the cells L stand, and the state of the draws -/
structure Hw (Z : Hp) (s : Option (Addr × Addr)) (H : Hp) (L : Cells) : Prop where
  fr : Same Z H
  ok : Ok Z H L
  st : StO Z H L s
inductive At (a : Addr) (o : HO) : Cells → Prop
  | here {f L} : At a o ((f, a, o) :: L)
  | there {c L} : At a o L → At a o (c :: L)
inductive Up (a : Addr) (o : HO) : Cells → Cells → Prop
  | here {u L} : Up a o ((true, a, u) :: L) ((true, a, o) :: L)
  | there {c L L'} : Up a o L L' → Up a o (c :: L) (c :: L')
inductive Sub : Cells → Cells → Prop
  | nil {L} : Sub [] L
  | cons {c L L'} : Sub L L' → Sub (c :: L) (c :: L')
  | skip {c L L'} : Sub L L' → Sub L (c :: L')
variable {Z Z' H H' : Hp} {s : Option (Addr × Addr)} {L L' : Cells} {a b p S T : Addr} {o u : HO} {f : Bool}
theorem Ok.get : ∀ {L : Cells}, Ok Z H L → At a o L → H a = some o
  | _, k, .here => k.1.1
  | _, k, .there h => Ok.get k.2.2 h
theorem Hw.get (w : Hw Z s H L) (h : At a o L) : H a = some o := w.ok.get h
theorem Hw.fro (w : Hw Z s H L) (h : Z a = some o) : H a = some o := w.fr _ _ h
theorem Ok.stay : ∀ {L : Cells}, Ok Z H L → (∀ b o, H b = some o → H' b = some o) → Ok Z H' L
  | [], _, _ => trivial
  | _ :: _, k, s => ⟨⟨s _ _ k.1.1, k.1.2⟩, k.2.1, Ok.stay k.2.2 s⟩
theorem Ok.nd_none : ∀ {L : Cells}, Ok Z H L → H p = none → Nd p L
  | [], _, _ => trivial
  | c :: _, k, n => ⟨fun e => (by have := k.1.1; rw [e, n] at this; cases this), Ok.nd_none k.2.2 n⟩
theorem StD.stay (k : StD H S T) (s : ∀ b o, H b = some o → b = S ∨ b = T → H' b = some o) : StD H' S T := by
  obtain ⟨n, ns, x, y, z, l, h1, h2⟩ := k
  exact ⟨n, ns, x, y, z, l, s _ _ h1 (.inl rfl), s _ _ h2 (.inr rfl)⟩
theorem StD.some1 (k : StD H S T) : ∃ o, H S = some o := by obtain ⟨n, ns, x, y, z, l, h1, h2⟩ := k; exact ⟨_, h1⟩
theorem StD.some2 (k : StD H S T) : ∃ o, H T = some o := by obtain ⟨n, ns, x, y, z, l, h1, h2⟩ := k; exact ⟨_, h2⟩
theorem Hw.new (w : Hw Z s H L) (n : H p = none) : Hw Z s (upd H p o) ((true, p, o) :: L) :=
  have k : ∀ b u, H b = some u → upd H p o b = some u := fun b u e => by rw [upd_ne (ne_of_none e n)]; exact e
  ⟨fun b u e => k b u (w.fr b u e), ⟨⟨upd_same, fun _ => w.fr.free n⟩, w.ok.nd_none n, w.ok.stay k⟩, by
    have t := w.st
    match s, t with
    | none, _ => trivial
    | some (S, T), ⟨⟨t1, t2, t3⟩, t4, t5⟩ =>
      obtain ⟨o1, e1⟩ := t1.some1
      obtain ⟨o2, e2⟩ := t1.some2
      exact ⟨⟨t1.stay fun b o e _ => k b o e, t2, t3⟩, ⟨(ne_of_none e1 n).symm, t4⟩, (ne_of_none e2 n).symm, t5⟩⟩
theorem Nd.ne : ∀ {L : Cells}, Nd a L → At b o L → b ≠ a
  | _, k, .here => k.1
  | _, k, .there h => Nd.ne k.2 h
theorem Up.nd : ∀ {L L' : Cells}, Up a o L L' → Nd b L → Nd b L'
  | _, _, .here, k => k
  | _, _, .there h, k => ⟨k.1, Up.nd h k.2⟩
theorem Up.ne : ∀ {L L' : Cells}, Up a o L L' → Nd b L → a ≠ b
  | _, _, .here, k => k.1
  | _, _, .there h, k => Up.ne h k.2
theorem Up.free : ∀ {L L' : Cells}, Up a o L L' → Ok Z H L → Z a = none
  | _, _, .here, k => k.1.2 rfl
  | _, _, .there h, k => Up.free h k.2.2
theorem Ok.away : ∀ {L : Cells}, Ok Z H L → Nd a L → Ok Z (upd H a o) L
  | [], _, _ => trivial
  | _ :: _, k, n => ⟨⟨by rw [upd_ne n.1]; exact k.1.1, k.1.2⟩, k.2.1, Ok.away k.2.2 n.2⟩
theorem Ok.up : ∀ {L L' : Cells}, Ok Z H L → Up a o L L' → Ok Z (upd H a o) L'
  | _, _, k, .here => ⟨⟨upd_same, k.1.2⟩, k.2.1, k.2.2.away k.2.1⟩
  | _, _, k, .there h => ⟨⟨by rw [upd_ne (h.ne k.2.1).symm]; exact k.1.1, k.1.2⟩, h.nd k.2.1, Ok.up k.2.2 h⟩
theorem Hw.up (w : Hw Z s H L) (h : Up a o L L') : Hw Z s (upd H a o) L' := ⟨fun b u e => by
  have n : b ≠ a := fun q => by
    subst q
    rw [h.free w.ok] at e; cases e
  rw [upd_ne n]; exact w.fr b u e, w.ok.up h, by
    have t := w.st
    match s, t with
    | none, _ => trivial
    | some (S, T), ⟨⟨t1, t2, t3⟩, t4, t5⟩ =>
      exact ⟨⟨t1.stay fun b o e q => by
        have n : b ≠ a := by
          rcases q with rfl | rfl
          · exact (h.ne t4).symm
          · exact (h.ne t5).symm
        rw [upd_ne n]; exact e, t2, t3⟩, h.nd t4, h.nd t5⟩⟩
theorem Sub.nd : ∀ {L L' : Cells}, Sub L L' → Nd b L' → Nd b L
  | _, _, .nil, _ => trivial
  | _, _, .cons h, k => ⟨k.1, Sub.nd h k.2⟩
  | _, _, .skip h, k => Sub.nd h k.2
theorem Ok.sub : ∀ {L L' : Cells}, Ok Z H L' → Sub L L' → Ok Z H L
  | _, _, _, .nil => trivial
  | _, _, k, .cons h => ⟨k.1, h.nd k.2.1, Ok.sub k.2.2 h⟩
  | _, _, k, .skip h => Ok.sub k.2.2 h
theorem Hw.sub (w : Hw Z s H L') (h : Sub L L') : Hw Z s H L := ⟨w.fr, w.ok.sub h, by
  have t := w.st
  match s, t with
  | none, _ => trivial
  | some (S, T), ⟨t1, t4, t5⟩ => exact ⟨t1, h.nd t4, h.nd t5⟩⟩
theorem Sub.refl : ∀ L : Cells, Sub L L
  | [] => .nil
  | _ :: L => .cons (Sub.refl L)
theorem Hw.start : Hw H none H [] := ⟨fun _ _ e => e, trivial, trivial⟩
/-- a heap without some places -/
def cut (H : Hp) (ds : List Addr) : Hp := fun b => if b ∈ ds then none else H b
theorem cut_some {ds : List Addr} (h : cut H ds b = some o) : b ∉ ds ∧ H b = some o := by
  unfold cut at h
  by_cases e : b ∈ ds
  · rw [if_pos e] at h; cases h
  · rw [if_neg e] at h; exact ⟨e, h⟩
theorem cut_in {ds : List Addr} (h : b ∈ ds) : cut H ds b = none := by unfold cut; rw [if_pos h]
theorem cut_not {ds : List Addr} (h : b ∉ ds) : cut H ds b = H b := by unfold cut; rw [if_neg h]
theorem cut_same {ds : List Addr} : Same (cut H ds) H := fun _ _ e => (cut_some e).2
theorem Hw.startD (k : StD H S T) : Hw (cut H [S, T]) (some (S, T)) H [] := ⟨cut_same, trivial, ⟨k, cut_in (by simp), cut_in (by simp)⟩, trivial, trivial⟩
theorem Hw.startM (ds : List Addr) : Hw (cut H ds) none H [] := ⟨cut_same, trivial, trivial⟩
/-- a thing that stands, read alone -/
theorem Hw.add (w : Hw Z none H L) (e : H a = some o) (n : Nd a L) : Hw Z none H ((false, a, o) :: L) := ⟨w.fr, ⟨⟨e, fun z => nomatch z⟩, n, w.ok⟩, trivial⟩
theorem Hw.addM (w : Hw Z none H L) (e : H a = some o) (m : Z a = none) (n : Nd a L) : Hw Z none H ((true, a, o) :: L) := ⟨w.fr, ⟨⟨e, fun _ => m⟩, n, w.ok⟩, trivial⟩
/-- what is written is not frozen -/
theorem Ok.out : ∀ {L : Cells}, Ok Z H L → (true, a, o) ∈ L → Z a = none
  | _ :: _, k, h => by
    rcases List.mem_cons.mp h with e | e
    · subst e; exact k.1.2 rfl
    · exact Ok.out k.2.2 e
/-- what a call does that changes nothing that stood -/
theorem Hw.call (w : Hw Z s H L) (e : Same H H') : Hw Z s H' L := ⟨fun b u q => e _ _ (w.fr b u q), w.ok.stay e, by
  have t := w.st
  match s, t with
  | none, _ => trivial
  | some (S, T), ⟨⟨t1, t2⟩, t4⟩ => exact ⟨⟨t1.stay fun b o q _ => e b o q, t2⟩, t4⟩⟩
/-- what stood stands but the state -/
def Keeps (S T : Addr) (H H' : Hp) : Prop := ∀ d o, H d = some o → d ≠ S → d ≠ T → H' d = some o
/-- a call that draws -/
theorem Hw.callD (w : Hw Z (some (S, T)) H L) (k : StD H' S T) (e : Keeps S T H H') : Hw Z (some (S, T)) H' L := by
  obtain ⟨w1, w2, ⟨⟨t1, t2, t3⟩, t4, t5⟩⟩ := w
  refine ⟨fun b u q => e b u (w1 b u q) (fun n => ?_) fun n => ?_, ?_, ⟨⟨k, t2, t3⟩, t4, t5⟩⟩
  · rw [n, t2] at q; cases q
  · rw [n, t3] at q; cases q
  · have g : ∀ {L : Cells}, Ok Z H L → Nd S L → Nd T L → Ok Z H' L := fun {L} => by
      induction L with
      | nil => intros; trivial
      | cons c L ih => exact fun k n1 n2 => ⟨⟨e _ _ k.1.1 n1.1 n2.1, k.1.2⟩, k.2.1, ih k.2.2 n1.2 n2.2⟩
    exact g w2 t4 t5
theorem Hw.std (w : Hw Z (some (S, T)) H L) : StD H S T := w.st.1.1
/-- at the end of a def that draws -/
theorem Hw.keeps {H0 : Hp} (w : Hw Z s H' L) (e : Same (cut H0 [S, T]) Z) : Keeps S T H0 H' := fun d o q n1 n2 => w.fr _ _ (e _ _ (by rw [cut_not (by simp [n1, n2])]; exact q))
/-- a cell that is written no more -/
theorem Hw.freeze (w : Hw Z s H ((f, a, o) :: L)) (n : Z a = none) : Hw (upd Z a o) s H L ∧ Same Z (upd Z a o) ∧ upd Z a o a = some o := by
  obtain ⟨w1, ⟨k1, k2, k3⟩, w3⟩ := w
  have g : ∀ {L : Cells}, Ok Z H L → Nd a L → Ok (upd Z a o) H L := fun {L} => by
    induction L with
    | nil => intros; trivial
    | cons c L ih => exact fun k n1 => ⟨⟨k.1.1, fun e => by rw [upd_ne n1.1]; exact k.1.2 e⟩, k.2.1, ih k.2.2 n1.2⟩
  refine ⟨⟨fun b u q => ?_, g k3 k2, ?_⟩, sameNew n, upd_same⟩
  · by_cases e : b = a
    · subst e; rw [upd_same] at q; rw [← q]; exact k1.1
    · rw [upd_ne e] at q; exact w1 b u q
  · match s, w3 with
    | none, _ => trivial
    | some (S, T), ⟨⟨t1, t2, t3⟩, t4, t5⟩ => exact ⟨⟨t1, by rw [upd_ne (fun e => t4.1 e.symm)]; exact t2, by rw [upd_ne (fun e => t5.1 e.symm)]; exact t3⟩, t4.2, t5.2⟩
/-- a thing that was made on the way was not there at the start -/
theorem Hw.fresh {H0 : Hp} (w : Hw Z (some (S, T)) H' ((true, a, o) :: L)) (e : Same (cut H0 [S, T]) Z) : H0 a = none := by
  cases q : H0 a with
  | none => rfl
  | some u =>
    have n1 : a ≠ S := w.st.2.1.1
    have n2 : a ≠ T := w.st.2.2.1
    have z : cut H0 [S, T] a = some u := by rw [cut_not (by simp [n1, n2])]; exact q
    have z2 := e _ _ z
    rw [w.ok.1.2 rfl] at z2; cases z2
theorem Hw.fresh0 {H0 : Hp} (w : Hw Z s H' ((true, a, o) :: L)) (e : Same H0 Z) : H0 a = none := by
  cases q : H0 a with
  | none => rfl
  | some u =>
    have z2 := e _ _ q
    rw [w.ok.1.2 rfl] at z2; cases z2
theorem Hw.frz (w : Hw Z s H ((true, a, o) :: L)) : Hw (upd Z a o) s H L ∧ Same Z (upd Z a o) ∧ upd Z a o a = some o := w.freeze (w.ok.1.2 rfl)
/-- what is new since Z0 -/
def nw (Z0 Z : Hp) : Hp := fun b => match Z0 b with
  | some _ => none
  | none => Z b
theorem nw_of {Z0 : Hp} (n : Z0 a = none) (e : Z a = some o) : nw Z0 Z a = some o := by unfold nw; rw [n]; exact e
theorem nw_some {Z0 : Hp} (e : nw Z0 Z a = some o) : Z0 a = none ∧ Z a = some o := by
  unfold nw at e
  cases q : Z0 a with
  | some u => rw [q] at e; cases e
  | none => rw [q] at e; exact ⟨rfl, e⟩
theorem nw_same {Z0 : Hp} (e : Same Z Z') : Same (nw Z0 Z) (nw Z0 Z') := fun b o h => nw_of (nw_some h).1 (e _ _ (nw_some h).2)
theorem nw_sub {Z0 : Hp} : Same (nw Z0 Z) Z := fun b o h => (nw_some h).2
theorem Hw.nwH {H0 : Hp} (w : Hw Z (some (S, T)) H' L) : Same (nw (cut H0 [S, T]) Z) (nw H0 H') := fun b o e => by
  obtain ⟨e1, e2⟩ := nw_some e
  refine nw_of ?_ (w.fr _ _ e2)
  cases q : H0 b with
  | none => rfl
  | some u =>
    obtain ⟨⟨_, t2, t3⟩, _⟩ := w.st
    rw [cut_not (by simp only [List.mem_cons, List.not_mem_nil, or_false]; rintro (r | r) <;> (subst r; first | (rw [t2] at e2; cases e2) | (rw [t3] at e2; cases e2)))] at e1
    rw [q] at e1; cases e1
/-- what is new in H', frozen too, but at ds -/
def uni (Z H H' : Hp) (ds : List Addr) : Hp := fun b => match Z b with
  | some o => some o
  | none => match H b with
    | some _ => none
    | none => if b ∈ ds then none else H' b
theorem uni_old {ds : List Addr} : Same Z (uni Z H H' ds) := fun b o e => by unfold uni; rw [e]
theorem uni_new {ds : List Addr} (z : Same Z H) (n : H b = none) (m : b ∉ ds) (e : H' b = some o) : uni Z H H' ds b = some o := by
  unfold uni
  rw [z.free n, n]
  show (if b ∈ ds then none else H' b) = _
  rw [if_neg m]; exact e
theorem uni_had {ds : List Addr} (e : H b = some o) : uni Z H H' ds b = Z b := by
  unfold uni
  cases q : Z b with
  | some o => rfl
  | none => rw [e]
theorem uni_in {ds : List Addr} (m : b ∈ ds) : uni Z H H' ds b = Z b := by
  unfold uni
  cases q : Z b with
  | some o => rfl
  | none =>
    cases H b with
    | some _ => rfl
    | none => show (if b ∈ ds then none else H' b) = none; rw [if_pos m]
theorem uni_sub {ds : List Addr} (z : Same Z H') : Same (uni Z H H' ds) H' := fun b o e => by
  cases q : Z b with
  | some u => unfold uni at e; rw [q] at e; cases e; exact z _ _ q
  | none =>
    unfold uni at e
    rw [q] at e
    cases h : H b with
    | some u => rw [h] at e; cases e
    | none =>
      rw [h] at e
      have e : (if b ∈ ds then none else H' b) = some o := e
      by_cases m : b ∈ ds
      · rw [if_pos m] at e; cases e
      · rw [if_neg m] at e; exact e
theorem Ok.uni {ds : List Addr} : ∀ {L : Cells}, Ok Z H L → Ok Z H' L → Ok (uni Z H H' ds) H' L
  | [], _, _ => trivial
  | _ :: _, k, k' => ⟨⟨k'.1.1, fun e => by rw [uni_had k.1.1]; exact k.1.2 e⟩, k.2.1, Ok.uni k.2.2 k'.2.2⟩
theorem StO.uni {ds : List Addr} (k : StO Z H L s) (k' : StO Z H' L s) : StO (uni Z H H' ds) H' L s := by
  match s, k, k' with
  | none, _, _ => trivial
  | some (S, T), ⟨⟨t1, t2, t3⟩, t4⟩, ⟨⟨u1, u2⟩, u4⟩ =>
    obtain ⟨o1, e1⟩ := t1.some1
    obtain ⟨o2, e2⟩ := t1.some2
    exact ⟨⟨u1, by rw [uni_had e1]; exact t2, by rw [uni_had e2]; exact t3⟩, t4⟩
/-- what a call made is frozen -/
theorem Hw.allNew (w : Hw Z s H L) (w' : Hw Z s H' L) : ∃ Z', Hw Z' s H' L ∧ Same Z Z' ∧ ∀ b o, H b = none → H' b = some o → Z' b = some o :=
  ⟨uni Z H H' [], ⟨uni_sub w'.fr, w.ok.uni w'.ok, w.st.uni w'.st⟩, uni_old, fun b o n e => uni_new w.fr n (by simp) e⟩
theorem Hw.callNew (w : Hw Z s H L) (e : Same H H') : ∃ Z', Hw Z' s H' L ∧ Same Z Z' ∧ ∀ b o, H b = none → H' b = some o → Z' b = some o := w.allNew (w.call e)
theorem Hw.callNewD (w : Hw Z (some (S, T)) H L) (k : StD H' S T) (e : Keeps S T H H') : ∃ Z', Hw Z' (some (S, T)) H' L ∧ Same Z Z' ∧ ∀ b o, H b = none → H' b = some o → Z' b = some o := w.allNew (w.callD k e)
/-- the same, for what was frozen early too -/
theorem Hw.callNew2 {Y : Hp} (w : Hw Z s H L) (e : Same H H') (y : Same Y Z) : ∃ Z' Y', Hw Z' s H' L ∧ Same Z Z' ∧ Same Y Y' ∧ Same Y' Z' ∧ (∀ b o, H b = none → H' b = some o → Y' b = some o) ∧ ∀ b o, H b = some o → Y b = none → Y' b = none :=
  have w' := w.call e
  ⟨uni Z H H' [], uni Y H H' [], ⟨uni_sub w'.fr, w.ok.uni w'.ok, w.st.uni w'.st⟩, uni_old, uni_old, fun b o q => by
    cases n : H b with
    | some u =>
      rw [uni_had n] at q ⊢
      exact y _ _ q
    | none =>
      have z := w.fr.free n
      unfold uni at q ⊢
      rw [y.free z, n] at q
      rw [z, n]; exact q, fun b o n q => uni_new (fun b o e => w.fr _ _ (y _ _ e)) n (by simp) q, fun b o q n => by rw [uni_had q]; exact n⟩
theorem Hw.thaw {Y : Hp} (w : Hw Z s H L) (y : Same Y Z) : Hw Y s H L := by
  refine ⟨fun b o e => w.fr _ _ (y _ _ e), ?_, ?_⟩
  · have g : ∀ {L : Cells}, Ok Z H L → Ok Y H L := fun {L} => by
      induction L with
      | nil => intros; trivial
      | cons c L ih => exact fun k => ⟨⟨k.1.1, fun q => y.free (k.1.2 q)⟩, k.2.1, ih k.2.2⟩
    exact g w.ok
  · have t := w.st
    match s, t with
    | none, _ => trivial
    | some (S, T), ⟨⟨t1, t2, t3⟩, t4⟩ => exact ⟨⟨t1, y.free t2, y.free t3⟩, t4⟩
/-- a store into a thing that is no cell -/
theorem Hw.write (w : Hw Z (some (S, T)) H L) (n : Z a = none) (d : Nd a L) (nS : a ≠ S) (nT : a ≠ T) : Hw Z (some (S, T)) (upd H a o) L := by
  refine ⟨fun b u e => ?_, w.ok.away d, ?_⟩
  · rw [upd_ne (fun q => by subst q; rw [n] at e; cases e)]; exact w.fr b u e
  · obtain ⟨⟨t1, t2, t3⟩, t4, t5⟩ := w.st
    exact ⟨⟨t1.stay fun b o e q => by
      rw [upd_ne (by rcases q with rfl | rfl; exact nS.symm; exact nT.symm)]; exact e, t2, t3⟩, t4, t5⟩
/-- what a call made is frozen but the thing at a, which may be written -/
theorem Hw.oneNew (w : Hw Z s H L) (w' : Hw Z s H' L) (n : H a = none) (h : H' a = some o) : ∃ Z', Hw Z' s H' ((true, a, o) :: L) ∧ Same Z Z' ∧ ∀ b o, H b = none → b ≠ a → H' b = some o → Z' b = some o := by
  refine ⟨uni Z H H' [a], ⟨uni_sub w'.fr, ⟨⟨h, fun _ => ?_⟩, w.ok.nd_none n, w.ok.uni w'.ok⟩, ?_⟩, uni_old, fun b o n m e => uni_new w.fr n (by simpa using m) e⟩
  · rw [uni_in (by simp)]; exact w.fr.free n
  · have k := w.st.uni (ds := [a]) w'.st
    have t := w.st
    match s, t, k with
    | none, _, _ => trivial
    | some (S, T), ⟨⟨t1, t2⟩, t4⟩, ⟨k1, k4, k5⟩ =>
      obtain ⟨o1, e1⟩ := t1.some1
      obtain ⟨o2, e2⟩ := t1.some2
      exact ⟨k1, ⟨(ne_of_none e1 n).symm, k4⟩, (ne_of_none e2 n).symm, k5⟩
/-- a cell of a thing that a call made, nothing frozen -/
theorem Hw.cellNew (w : Hw Z s H L) (w' : Hw Z s H' L) (n : H a = none) (h : H' a = some o) : Hw Z s H' ((true, a, o) :: L) := by
  refine ⟨w'.fr, ⟨⟨h, fun _ => w.fr.free n⟩, w.ok.nd_none n, w'.ok⟩, ?_⟩
  have t := w.st
  have t' := w'.st
  match s, t, t' with
  | none, _, _ => trivial
  | some (S, T), ⟨⟨t1, t2⟩, t4⟩, ⟨k1, k4, k5⟩ =>
    obtain ⟨o1, e1⟩ := t1.some1
    obtain ⟨o2, e2⟩ := t1.some2
    exact ⟨k1, ⟨(ne_of_none e1 n).symm, k4⟩, (ne_of_none e2 n).symm, k5⟩
end V
namespace V
open PySem PySem.Spec PyProof.Rows L2 U
/-! ### one lemma a question -/
section
variable {K : PySem.W.Frag} {Z H : Hp} {so : Option (Addr × Addr)} {L L' : Cells} {a b p C dx : Addr} {o u : HO} {σ σ' : L2.St} {Q : VK} {QB : Bool → Hp → Prop} {x y z v : V} {i j : Int} {D : Ends}
variable {ta tb tc te to : TE} {t t' : TA} {tt tt' : TT} {s s' : TS} {f m : Str} {vs ws dvs : List V} {E : XK}
inductive SetAt : L2.St → Nat → V → L2.St → Prop
  | z {w σ v} : SetAt (w :: σ) 0 v (some v :: σ)
  | s {w σ i v σ'} : SetAt σ i v σ' → SetAt (w :: σ) (i + 1) v (w :: σ')
theorem SetAt.eq : ∀ {σ : L2.St} {i : Nat} {v : V} {σ' : L2.St}, SetAt σ i v σ' → σ.set i (some v) = σ'
  | _, _, _, _, .z => rfl
  | _, _, _, _, .s h => by rw [List.set_cons_succ, h.eq]
theorem w_var {n : Nat} (h : σ[n]? = some (some v)) (q : Q v H) : tVar n σ H Q := ⟨v, h, q⟩
theorem w_c (q : Q v H) : tC v σ H Q := q
theorem w_op {r : R2} (q : ta σ H fun x H1 => tb σ H1 fun y H2 => r x y H2 Q) : tOp r ta tb σ H Q := q
theorem w_un {r : V → Hp → VK → Prop} (q : ta σ H fun x H1 => r x H1 Q) : tUn r ta σ H Q := q
theorem w_ri {c : Int → Int → Prop} {g : Int → Int → V} (h : c i j) (q : Q (g i j) H) : rI c g (.int i) (.int j) H Q := ⟨i, j, rfl, rfl, h, q⟩
theorem w_ri0 {g : Int → Int → V} (q : Q (g i j) H) : rI0 g (.int i) (.int j) H Q := ⟨i, j, rfl, rfl, q⟩
theorem w_ru {g : Int → V} (q : Q (g i) H) : rU g (.int i) H Q := ⟨i, rfl, q⟩
theorem w_eq (h : scal x y = true) (q : Q (.bl (decide (x = y))) H) : rEq x y H Q := ⟨h, q⟩
theorem w_nei (h : scal x y = true) (q : Q (.bl (!decide (x = y))) H) : rNe x y H Q := ⟨h, q⟩
theorem w_eqI (q : Q (.bl (decide (i = j))) H) : rEq (.int i) (.int j) H Q := ⟨rfl, by
  have e : decide (V.int i = V.int j) = decide (i = j) := by simp
  rw [e]; exact q⟩
theorem w_eqS {a b : Str} (q : Q (.bl (decide (a = b))) H) : rEq (.str a) (.str b) H Q := ⟨rfl, by
  have e : decide (V.str a = V.str b) = decide (a = b) := by simp
  rw [e]; exact q⟩
theorem w_neI (q : Q (.bl (!decide (i = j))) H) : rNe (.int i) (.int j) H Q := ⟨rfl, by
  have e : decide (V.int i = V.int j) = decide (i = j) := by simp
  rw [e]; exact q⟩
theorem w_neS {a b : Str} (q : Q (.bl (!decide (a = b))) H) : rNe (.str a) (.str b) H Q := ⟨rfl, by
  have e : decide (V.str a = V.str b) = decide (a = b) := by simp
  rw [e]; exact q⟩
/-- a bool at last -/
def gBl (Q : Bool → Hp → Prop) (x : V) (H : Hp) : Prop := ∃ c, x = .bl c ∧ Q c H
theorem w_bl {c : Bool} (q : QB c H) : gBl QB (.bl c) H := ⟨c, rfl, q⟩
theorem w_b (q : te σ H (gBl QB)) : tB te σ H QB := q
theorem w_test (q : te σ H (gBl QB)) : tTest te σ H QB := q
theorem w_and (q : tt σ H fun c H1 => if c = true then tt' σ H1 QB else QB false H1) : tAnd tt tt' σ H QB := q
theorem w_or (q : tt σ H fun c H1 => if c = true then QB true H1 else tt' σ H1 QB) : tOr tt tt' σ H QB := q
theorem w_not (q : tt σ H fun c H1 => QB (!c) H1) : tNot tt σ H QB := q
theorem w_andV (q : ta σ H (gBl fun c H1 => if c = true then tb σ H1 Q else Q (.bl false) H1)) : tAndV ta tb σ H Q := q
theorem w_orV (q : ta σ H (gBl fun c H1 => if c = true then Q (.bl true) H1 else tb σ H1 Q)) : tOrV ta tb σ H Q := q
theorem w_notV (q : ta σ H (gBl fun c H1 => Q (.bl (!c)) H1)) : tNotV ta σ H Q := q
theorem w_if (q : tt σ H fun c H1 => if c = true then ta σ H1 Q else tb σ H1 Q) : tIf tt ta tb σ H Q := q
theorem w_isN (q : ta σ H fun x H1 => Q (.bl (decide (x = .non))) H1) : tIsN ta σ H Q := q
theorem w_isn {A : Prop} (q : A) : V.non = V.non ∧ A := ⟨rfl, q⟩
theorem w_yes (q : QB true H) : tYes σ H QB := q
theorem w_seq (q : s { D with nx := s' D } σ H) : tSeq s s' D σ H := q
theorem w_next (q : D.nx σ H) : tNext D σ H := q
theorem w_break (q : D.bk σ H) : tBreak D σ H := q
theorem w_cont (q : D.ct σ H) : tCont D σ H := q
theorem w_drop (q : te σ H fun _ H1 => D.nx σ H1) : tDrop te D σ H := q
theorem w_ret (q : te σ H D.rt) : tRet te D σ H := q
theorem w_retN (q : D.rt .non H) : tRetN D σ H := q
theorem w_ifS (q : tt σ H fun b H1 => if b = true then s D σ H1 else s' D σ H1) : tIfS tt s s' D σ H := q
theorem w_asg {g : TG} (q : te σ H fun x H1 => g x σ H1 D.nx) : tAsg te g D σ H := q
theorem w_name {n : Nat} {R : L2.St → Hp → Prop} (h : SetAt σ n v σ') (q : R σ' H) : gName n v σ H R := by unfold gName; rw [h.eq]; exact q
theorem w_aug {n : Nat} {ti : TIp} (h : σ[n]? = some (some x)) (q : te σ H fun y H1 => ti x y H1 fun z H2 => gName n z σ H2 D.nx) : tAug n te ti D σ H := ⟨x, h, q⟩
theorem w_Dnx {nx bk ct : L2.St → Hp → Prop} {rt : VK} (q : nx σ H) : Ends.nx ⟨nx, rt, bk, ct⟩ σ H := q
theorem w_Drt {nx bk ct : L2.St → Hp → Prop} {rt : VK} (q : rt v H) : Ends.rt ⟨nx, rt, bk, ct⟩ v H := q
theorem w_Dbk {nx bk ct : L2.St → Hp → Prop} {rt : VK} (q : bk σ H) : Ends.bk ⟨nx, rt, bk, ct⟩ σ H := q
theorem w_Dct {nx bk ct : L2.St → Hp → Prop} {rt : VK} (q : ct σ H) : Ends.ct ⟨nx, rt, bk, ct⟩ σ H := q
/-! attributes -/
def gFld (K : PySem.W.Frag) (f : Str) (Q : VK) (x : V) (H1 : Hp) : Prop := ∃ a C dx fs v, x = .ref a ∧ H1 a = some (.ins C dx fs) ∧ Cls K C ∧ NoAttr K C f ∧ fs.lookup f = some v ∧ Q v H1
theorem w_fld (q : ta σ H (gFld K f Q)) : tFld K ta f σ H Q := q
theorem w_fld2 {fs : List (Str × V)} (h : H a = some (.ins C dx fs)) (c : Cls K C) (n : NoAttr K C f) (l : fs.lookup f = some v) (q : Q v H) : gFld K f Q (.ref a) H := ⟨a, C, dx, fs, v, rfl, h, c, n, l, q⟩
/-! dicts -/
def gDGet (Q : VK) (x y : V) (H2 : Hp) : Prop := ∃ a v, x = .ref a ∧ DGet H2 a y (some v) ∧ Q v H2
def gDIn (Q : VK) (x y : V) (H2 : Hp) : Prop := ∃ a o, x = .ref a ∧ DGet H2 a y o ∧ Q (.bl o.isSome) H2
def gDNotIn (Q : VK) (x y : V) (H2 : Hp) : Prop := ∃ a o, x = .ref a ∧ DGet H2 a y o ∧ Q (.bl (!o.isSome)) H2
theorem w_dget (q : ta σ H fun x H1 => tb σ H1 fun y H2 => gDGet Q x y H2) : tDGet ta tb σ H Q := q
theorem w_din (q : tb σ H fun y H1 => ta σ H1 fun x H2 => gDIn Q x y H2) : tDIn tb ta σ H Q := q
theorem w_dnin (q : tb σ H fun y H1 => ta σ H1 fun x H2 => gDNotIn Q x y H2) : tDNotIn tb ta σ H Q := q
theorem w_dgetS {kvs : List (Key × V)} {k : Str} (h : H a = some (.dK kvs)) (l : valV kvs (Sum.inr k) = some v) (q : Q v H) : gDGet Q (.ref a) (.str k) H := ⟨a, v, rfl, l ▸ DGet.k (k := Sum.inr k) h, q⟩
theorem w_dgetI {kvs : List (Key × V)} {k : Int} (h : H a = some (.dK kvs)) (l : valV kvs (Sum.inl k) = some v) (q : Q v H) : gDGet Q (.ref a) (.int k) H := ⟨a, v, rfl, l ▸ DGet.k (k := Sum.inl k) h, q⟩
theorem w_dinS {kvs : List (Key × V)} {k : Str} (h : H a = some (.dK kvs)) (q : Q (.bl (valV kvs (Sum.inr k)).isSome) H) : gDIn Q (.ref a) (.str k) H := ⟨a, _, rfl, DGet.k (k := Sum.inr k) h, q⟩
theorem w_dninS {kvs : List (Key × V)} {k : Str} (h : H a = some (.dK kvs)) (q : Q (.bl (!(valV kvs (Sum.inr k)).isSome)) H) : gDNotIn Q (.ref a) (.str k) H := ⟨a, _, rfl, DGet.k (k := Sum.inr k) h, q⟩
theorem w_dnin1 {kvs : List (Key × V)} {k : Str} (h : H a = some (.dK kvs)) (l : valV kvs (Sum.inr k) = some v) (q : Q (.bl false) H) : gDNotIn Q (.ref a) (.str k) H := w_dninS h (by rw [l]; exact q)
theorem w_dnin0 {kvs : List (Key × V)} {k : Str} (h : H a = some (.dK kvs)) (l : valV kvs (Sum.inr k) = none) (q : Q (.bl true) H) : gDNotIn Q (.ref a) (.str k) H := w_dninS h (by rw [l]; exact q)
theorem w_din1 {kvs : List (Key × V)} {k : Str} (h : H a = some (.dK kvs)) (l : valV kvs (Sum.inr k) = some v) (q : Q (.bl true) H) : gDIn Q (.ref a) (.str k) H := w_dinS h (by rw [l]; exact q)
theorem w_din0 {kvs : List (Key × V)} {k : Str} (h : H a = some (.dK kvs)) (l : valV kvs (Sum.inr k) = none) (q : Q (.bl false) H) : gDIn Q (.ref a) (.str k) H := w_dinS h (by rw [l]; exact q)
/-! new lists and tuples -/
def gTup (Q : VK) (xs : List V) (H1 : Hp) : Prop := xs.length ≤ sizeLine ∧ ∀ p, H1 p = none → Q (.ref p) (upd H1 p (.tup xs))
def gLst (Q : VK) (xs : List V) (H1 : Hp) : Prop := xs.length ≤ sizeLine ∧ ∀ p, H1 p = none → Q (.ref p) (upd H1 p (.lst xs))
theorem w_tup (q : t σ H (gTup Q)) : tTup t σ H Q := q
theorem w_lst (q : t σ H (gLst Q)) : tLst t σ H Q := q
theorem w_tup2 (w : Hw Z so H L) (l : vs.length ≤ sizeLine) (k : ∀ p H', H p = none → Hw Z so H' ((true, p, .tup vs) :: L) → Q (.ref p) H') : gTup Q vs H := ⟨l, fun p n => k p _ n (w.new n)⟩
theorem w_lst2 (w : Hw Z so H L) (l : vs.length ≤ sizeLine) (k : ∀ p H', H p = none → Hw Z so H' ((true, p, .lst vs) :: L) → Q (.ref p) H') : gLst Q vs H := ⟨l, fun p n => k p _ n (w.new n)⟩
theorem w_nil {R : List V → Hp → Prop} (q : R [] H) : tNil σ H R := q
theorem w_cons {R : List V → Hp → Prop} (q : ta σ H fun x H1 => t σ H1 fun xs H2 => R (x :: xs) H2) : tCons ta t σ H R := q
/-! sequences read -/
theorem w_ixL {xs : List V} (h : SqL K H a xs) (l : atI xs i = some v) (q : Q v H) : rIxL K (.ref a) (.int i) H Q := ⟨a, xs, i, v, rfl, rfl, h, l, q⟩
theorem w_ixT {xs : List V} (h : SqT K H a xs) (l : atI xs i = some v) (q : Q v H) : rIxT K (.ref a) (.int i) H Q := ⟨a, xs, i, v, rfl, rfl, h, l, q⟩
theorem w_ixLs {xs : List V} (h : SqL K H a xs) (l : atI xs i = some v) (q : Q v H) : rIxLT K (.ref a) (.int i) H Q := .inl (w_ixL h l q)
theorem w_ixTs {xs : List V} (h : SqT K H a xs) (l : atI xs i = some v) (q : Q v H) : rIxLT K (.ref a) (.int i) H Q := .inr (w_ixT h l q)
theorem w_sl {r : V → Option Int → Option Int → Hp → VK → Prop} {tl th : TO} (q : te σ H fun x H1 => tl σ H1 fun l H2 => th σ H2 fun u H3 => r x l u H3 Q) : tSl r te tl th σ H Q := q
theorem w_nopart {R : Option Int → Hp → Prop} (q : R none H) : tNoPart σ H R := q
def gPart (R : Option Int → Hp → Prop) (x : V) (H1 : Hp) : Prop := ∃ i, x = .int i ∧ R (some i) H1
theorem w_part {R : Option Int → Hp → Prop} (q : te σ H (gPart R)) : tPart te σ H R := q
theorem w_part2 {R : Option Int → Hp → Prop} (q : R (some i) H) : gPart R (.int i) H := ⟨i, rfl, q⟩
theorem w_slL {xs : List V} {lo hi : Option Int} (w : Hw Z so H L) (h : SqL K H a xs) (k : ∀ p H', H p = none → Hw Z so H' ((true, p, .lst (cutV xs lo hi)) :: L) → Q (.ref p) H') : rSlL K (.ref a) lo hi H Q := ⟨a, xs, rfl, h, fun p n => k p _ n (w.new n)⟩
/-! calls -/
theorem w_call {sp : Sp} (q : t σ H fun vs H1 => sp vs H1 Q E) : tCall sp [] E t σ H Q := by
  have e : (fun vs H1 => sp (vs ++ []) H1 Q E) = fun vs H1 => sp vs H1 Q E := by funext vs H1; rw [List.append_nil]
  show t σ H fun vs H1 => sp (vs ++ []) H1 Q E
  rw [e]; exact q
theorem w_cf {sp : Sp} (q : t σ H fun vs H1 => sp vs H1 Q E0) : tCF sp t σ H Q := q
def gMeth (C : Addr) (m : Str) (sp : Sp) (E : XK) (t : TA) (σ : L2.St) (Q : VK) (x : V) (H1 : Hp) : Prop := ∃ a dx fs, x = .ref a ∧ H1 a = some (.ins C dx fs) ∧ fs.lookup m = none ∧ t σ H1 fun vs H2 => sp (x :: vs) H2 Q E
theorem w_meth {sp : Sp} (q : ta σ H (gMeth C m sp E t σ Q)) : tMeth C m sp [] E ta t σ H Q := by
  unfold tMeth
  simp only [List.append_nil]
  exact q
theorem w_meth2 {sp : Sp} {fs : List (Str × V)} (h : H a = some (.ins C dx fs)) (n : fs.lookup m = none) (q : t σ H fun vs H2 => sp (.ref a :: vs) H2 Q E) : gMeth C m sp E t σ Q (.ref a) H := ⟨a, dx, fs, rfl, h, n, q⟩
theorem w_cb {r : List V → Hp → VK → Prop} (q : t σ H fun vs H1 => r vs H1 Q) : tCB r t σ H Q := q
def gMk (C : Addr) (sp : Sp) (dvs : List V) (E : XK) (Q : VK) (vs : List V) (H1 : Hp) : Prop := ∀ x dx, H1 x = none → H1 dx = none → dx ≠ x → sp (.ref x :: (vs ++ dvs)) (upd (upd H1 dx (.own x)) x (.ins C dx [])) (fun v H2 => v = .non ∧ Q (.ref x) H2) E
theorem w_mk {sp : Sp} (q : t σ H (gMk C sp dvs E Q)) : tMake C sp dvs E t σ H Q := q
def gMkK (C : Addr) (n m : Nat) (sp : Sp) (gV : List V → List V → List V) (E : XK) (Q : VK) (vs zs : List V) (H2 : Hp) : Prop := vs.length = n ∧ zs.length = m ∧ ∀ x dx, H2 x = none → H2 dx = none → dx ≠ x → sp (gV (.ref x :: vs) zs) (upd (upd H2 dx (.own x)) x (.ins C dx [])) (fun v H3 => v = .non ∧ Q (.ref x) H3) E
theorem w_mkK {n k : Nat} {sp : Sp} {gV : List V → List V → List V} {tk : TA} (q : t σ H fun vs H1 => tk σ H1 fun zs H2 => gMkK C n k sp gV E Q vs zs H2) : tMakeK C n k sp gV E t tk σ H Q := q
/-! methods of lists -/
def gBM (K : PySem.W.Frag) (T : String) (r : V → List V → Hp → VK → Prop) (t : TA) (σ : L2.St) (Q : VK) (x : V) (H1 : Hp) : Prop := tyV K T x H1 ∧ t σ H1 fun xs H2 => r x xs H2 Q
def gBM0 (K : PySem.W.Frag) (T : String) (r : V → List V → Hp → VK → Prop) (Q : VK) (x : V) (H1 : Hp) : Prop := tyV K T x H1 ∧ r x [] H1 Q
variable {T : String} {r : V → List V → Hp → VK → Prop}
theorem w_bm (q : to σ H (gBM K T r t σ Q)) : tBM K T r to t σ H Q := q
theorem w_bm0 (q : to σ H (gBM0 K T r Q)) : tBM0 K T r to σ H Q := q
theorem w_bmL {xs : List V} (h : SqL K H a xs) (q : t σ H fun ys H2 => r (.ref a) ys H2 Q) : gBM K "list" r t σ Q (.ref a) H := ⟨.inl ⟨rfl, _, h⟩, q⟩
theorem w_bm0L {xs : List V} (h : SqL K H a xs) (q : r (.ref a) [] H Q) : gBM0 K "list" r Q (.ref a) H := ⟨.inl ⟨rfl, _, h⟩, q⟩
theorem w_bmD {kvs : List (Key × V)} (h : H a = some (.dK kvs)) (q : t σ H fun ys H2 => r (.ref a) ys H2 Q) : gBM K "dict" r t σ Q (.ref a) H := ⟨.inr (.inr (.inl ⟨rfl, .inl ⟨_, h⟩⟩)), q⟩
theorem w_bm0D {kvs : List (Key × V)} (h : H a = some (.dK kvs)) (q : r (.ref a) [] H Q) : gBM0 K "dict" r Q (.ref a) H := ⟨.inr (.inr (.inl ⟨rfl, .inl ⟨_, h⟩⟩)), q⟩
theorem w_bmS {z : Str} (q : t σ H fun ys H2 => r (.str z) ys H2 Q) : gBM K "str" r t σ Q (.str z) H := ⟨rfl, q⟩
theorem w_bm0S {z : Str} (q : r (.str z) [] H Q) : gBM0 K "str" r Q (.str z) H := ⟨rfl, q⟩
theorem w_append {xs : List V} (w : Hw Z so H L) (h : At a (.lst xs) L) (u : Up a (.lst (xs ++ [y])) L L') (l : xs.length < sizeLine) (k : ∀ H', Hw Z so H' L' → Q .non H') : rAppend (.ref a) [y] H Q := ⟨a, xs, y, rfl, rfl, w.get h, l, k _ (w.up u)⟩
theorem w_pop {xs : List V} (w : Hw Z so H L) (h : At a (.lst (xs ++ [y])) L) (u : Up a (.lst xs) L L') (k : ∀ H', Hw Z so H' L' → Q y H') : rPop (.ref a) [] H Q := ⟨a, xs ++ [y], y, rfl, rfl, w.get h, by simp, by rw [List.dropLast_concat]; exact k _ (w.up u)⟩
theorem w_setL {xs : List V} {n : Nat} {k : Int} {R : Hp → Prop} (w : Hw Z so H L) (h : At a (.lst xs) L) (u : Up a (.lst (xs.set n v)) L L') (l : ixN xs.length k = some n) (q : ∀ H', Hw Z so H' L' → R H') : rSetL (.ref a) (.int k) v H R := ⟨a, xs, k, n, rfl, rfl, w.get h, l, q _ (w.up u)⟩
/-! stores -/
theorem ixN_nat {n j : Nat} (h : j < n) : ixN n (j : Int) = some j := by
  unfold ixN
  rw [if_pos (by omega), if_pos (by omega)]; simp
theorem w_gsub {ti : TE} {ts : TSet} {R : L2.St → Hp → Prop} (q : to σ H fun o H1 => ti σ H1 fun i H2 => ts o i v H2 fun H3 => R σ H3) : gSub to ti ts v σ H R := q
theorem w_setR {xs : List V} {n : Nat} {k : Int} {R : Hp → Prop} (h : H a = some (.lst xs)) (l : ixN xs.length k = some n) (q : R (upd H a (.lst (xs.set n v)))) : rSetL (.ref a) (.int k) v H R := ⟨a, xs, k, n, rfl, rfl, h, l, q⟩
theorem putLt {n : Nat} {fs : List (Str × V)} (h : fs.length < n) : (putF f y fs).length < n + 1 := Nat.lt_of_le_of_lt (putF_le _ _ _) (Nat.succ_lt_succ h)
def gSF (K : PySem.W.Frag) (f : Str) (D : Ends) (σ : L2.St) (y x : V) (H2 : Hp) : Prop := ∃ a C dx fs, x = .ref a ∧ H2 a = some (.ins C dx fs) ∧ Cls K C ∧ NoAttr K C f ∧ fs.length < 1000 ∧ D.nx σ (upd H2 a (.ins C dx (putF f y fs)))
theorem w_sfld {tv : TE} (q : tv σ H fun y H1 => ta σ H1 fun x H2 => gSF K f D σ y x H2) : sFld K ta tv f D σ H := q
theorem w_sfld2 {fs fs' : List (Str × V)} (w : Hw Z so H L) (h : At a (.ins C dx fs) L) (c : Cls K C) (n : NoAttr K C f) (l : fs.length < 1000) (e : putF f y fs = fs') (u : Up a (.ins C dx fs') L L') (q : ∀ H', Hw Z so H' L' → D.nx σ H') : gSF K f D σ y (.ref a) H := ⟨a, C, dx, fs, rfl, w.get h, c, n, l, q _ (e ▸ w.up u)⟩
def gDP (D : Ends) (σ : L2.St) (v x y : V) (H3 : Hp) : Prop := ∃ a H4, x = .ref a ∧ DPut H3 a y v H4 ∧ D.nx σ H4
theorem w_dput {td ty tv : TE} (q : tv σ H fun v H1 => td σ H1 fun x H2 => ty σ H2 fun y H3 => gDP D σ v x y H3) : sDPut td ty tv D σ H := q
theorem w_dputS {kvs kvs' : List (Key × V)} {k : Str} (w : Hw Z so H L) (h : At a (.dK kvs) L) (l : kvs.length < sizeLine) (e : putK kvs (Sum.inr k) v = kvs') (u : Up a (.dK kvs') L L') (q : ∀ H', Hw Z so H' L' → D.nx σ H') : gDP D σ v (.ref a) (.str k) H := ⟨a, _, rfl, DPut.k (k := Sum.inr k) (w.get h) l, q _ (e ▸ w.up u)⟩
/-! texts -/
def gFmt (Q : VK) (x : V) (H1 : Hp) : Prop := (∃ y : Str, x = .str y ∧ y.length ≤ sizeLine ∧ Q (.str y) H1) ∨ ∃ i : Int, x = .int i ∧ i.natAbs.log2 < 1920 ∧ Q (.str (toString i)) H1
theorem w_fmt (q : te σ H (gFmt Q)) : tFmt te σ H Q := q
theorem w_fmtS {z : Str} (l : z.length ≤ sizeLine) (q : Q (.str z) H) : gFmt Q (.str z) H := .inl ⟨z, rfl, l, q⟩
theorem w_fmtI (l : i.natAbs.log2 < 1920) (q : Q (.str (num i)) H) : gFmt Q (.int i) H := .inr ⟨i, rfl, l, q⟩
end
section
variable {A B : Prop}
theorem iTT (h : A) : if true = true then A else B := iteT h
theorem iTF (h : B) : if false = true then A else B := iteF h
theorem iNT (h : B) : if (!true) = true then A else B := iteF h
theorem iNF (h : A) : if (!false) = true then A else B := iteT h
end
/-- the ways of an if meet in B -/
theorem meetIf {s s' : TS} {D : Ends} {σ : L2.St} {H : Hp} {b : Bool} (B : L2.St → Hp → Prop) (h : ∀ D' : Ends, (∀ σ H, B σ H → D'.nx σ H) → D'.rt = D.rt → D'.bk = D.bk → D'.ct = D.ct → if b = true then s D' σ H else s' D' σ H) (k : ∀ σ H, B σ H → D.nx σ H) : if b = true then s D σ H else s' D σ H := h D k rfl rfl rfl
/-! ### int, bool, len, str, list -/
def rInt1 : List V → Hp → VK → Prop := fun xs H Q => (∃ i, xs = [.int i] ∧ Q (.int i) H) ∨ ∃ k, xs = [.bl k] ∧ Q (.int (if k then 1 else 0)) H
def rBool1 : List V → Hp → VK → Prop := fun xs H Q => (∃ i, xs = [.int i] ∧ Q (.bl (i != 0)) H) ∨ ∃ k, xs = [.bl k] ∧ Q (.bl k) H
def rStrI : List V → Hp → VK → Prop := fun xs H Q => ∃ i, xs = [.int i] ∧ i.natAbs.log2 < 1920 ∧ Q (.str (toString i)) H
def rLen (K : PySem.W.Frag) : List V → Hp → VK → Prop := fun xs H Q => ∃ p ys, xs = [V.ref p] ∧ (SqL K H p ys ∨ SqT K H p ys) ∧ Q (V.int (ys.length : Int)) H
def rListOf (K : PySem.W.Frag) : List V → Hp → VK → Prop := fun xs H Q => ∃ p ys, xs = [.ref p] ∧ (SqL K H p ys ∨ SqT K H p ys) ∧ ∀ l, H l = none → Q (.ref l) (upd H l (.lst ys))
theorem call_int1 {X : Cx} : CallR X (.type "int") rInt1 := L2.call_int1
theorem call_bool1 {X : Cx} : CallR X (.type "bool") rBool1 := L2.call_bool1
theorem call_str {X : Cx} : CallR X (.type "str") rStrI := L2.call_str_int
theorem call_len {X : Cx} (K : PySem.W.Frag) (h : X.K = K) : CallR X (.builtin "len") (rLen K) := by subst h; exact call_len_seq
theorem call_list {X : Cx} (K : PySem.W.Frag) (h : X.K = K) : CallR X (.type "list") (rListOf K) := by subst h; exact call_list_of
section
variable {K : PySem.W.Frag} {Z H : Hp} {so : Option (Addr × Addr)} {L : Cells} {a : Addr} {Q : VK} {i : Int} {b : Bool} {xs : List V}
theorem w_int1 (q : Q (.int i) H) : rInt1 [.int i] H Q := .inl ⟨i, rfl, q⟩
theorem w_int1b (q : Q (.int (if b then 1 else 0)) H) : rInt1 [.bl b] H Q := .inr ⟨b, rfl, q⟩
theorem w_bool1 (q : Q (.bl b) H) : rBool1 [.bl b] H Q := .inr ⟨b, rfl, q⟩
theorem w_str (l : i.natAbs.log2 < 1920) (q : Q (.str (num i)) H) : rStrI [.int i] H Q := ⟨i, rfl, l, q⟩
theorem w_lenL (h : SqL K H a xs) (q : Q (.int (xs.length : Int)) H) : rLen K [.ref a] H Q := ⟨a, xs, rfl, .inl (h), q⟩
theorem w_lenT (h : SqT K H a xs) (q : Q (.int (xs.length : Int)) H) : rLen K [.ref a] H Q := ⟨a, xs, rfl, .inr (h), q⟩
theorem w_listL (w : Hw Z so H L) (h : SqL K H a xs) (k : ∀ p H', H p = none → Hw Z so H' ((true, p, .lst xs) :: L) → Q (.ref p) H') : rListOf K [.ref a] H Q := ⟨a, xs, rfl, .inl (h), fun p n => k p _ n (w.new n)⟩
end
/-! ### texts -/
def rJoin (K : PySem.W.Frag) : V → List V → Hp → VK → Prop := fun x xs H Q => ∃ a p, ∃ ys : List Str, x = .str a ∧ xs = [.ref p] ∧ (SqL K H p (ys.map V.str) ∨ SqT K H p (ys.map V.str)) ∧ (ys.map (·.length)).sum + ys.length * a.length ≤ 16777216 ∧ Q (.str (Txt.join a ys)) H
section
variable {X : Cx} {o e : Expr} {to te : TE}
theorem pe_join (K : PySem.W.Frag) (hK : X.K = K) {apos pos : Pos} (ho : PE X o to) (he : PE X e te) (hs : starEach [e] X.env = [(false, eval e X.env)] := by rfl) (hbase : attributeBase o "join" X.env (eval o X.env) = eval o X.env := by rfl) (hline : (apos.endLine == pos.line) = true := by rfl) :
    PE X (.Call (.Attribute o "join" apos) [e] [] pos) (tM1 (rJoin K) to te) := by subst hK; exact L2.pe_join ho he hs hbase hline
end
theorem op_addS {X : Cx} : OpR X (binaryOp .Add) rAddS := op_add_str
theorem w_addS {a b : Str} {H : Hp} {Q : VK} (l : a.length + b.length ≤ sizeLine) (q : Q (.str (a ++ b)) H) : rAddS (.str a) (.str b) H Q := ⟨a, b, rfl, rfl, l, q⟩
theorem w_cat {Z H : Hp} {so : Option (Addr × Addr)} {L : Cells} {a b : Addr} {xs ys : List V} {Q : VK} (w : Hw Z so H L) (h1 : H a = some (.lst xs)) (h2 : H b = some (.lst ys)) (l : xs.length + ys.length ≤ sizeLine) (k : ∀ p H', H p = none → Hw Z so H' ((true, p, .lst (xs ++ ys)) :: L) → Q (.ref p) H') : rCat (.ref a) (.ref b) H Q := ⟨a, b, xs, ys, rfl, rfl, h1, h2, l, fun p n => k p _ n (w.new n)⟩
theorem w_gtup {K : PySem.W.Frag} {H : Hp} {a : Addr} {xs : List V} {n : Nat} {t : TGs} {σ : L2.St} {R : L2.St → Hp → Prop} (h : SqT K H a xs) (l : xs.length = n) (q : t xs σ H R) : L2.gTup K n t (.ref a) σ H R := ⟨a, xs, rfl, h, l, q⟩
theorem w_gcons {H : Hp} {v : V} {r : List V} {t : TG} {u : TGs} {σ : L2.St} {R : L2.St → Hp → Prop} (q : t v σ H fun σ' H' => u r σ' H' R) : gCons t u (v :: r) σ H R := ⟨v, r, rfl, q⟩
theorem w_gnil {H : Hp} {σ : L2.St} {R : L2.St → Hp → Prop} (q : R σ H) : gNil [] σ H R := ⟨rfl, q⟩
theorem w_inL {K : PySem.W.Frag} {H : Hp} {a : Addr} {x : V} {xs : List V} {Q : VK} (h : SqL K H a xs) (fx : flatV x = true) (fs : xs.all flatV = true) (q : Q (.bl (inV x xs)) H) : rIn K false x (.ref a) H Q := ⟨a, xs, rfl, .inl h, fx, fs, q⟩
theorem w_notInL {K : PySem.W.Frag} {H : Hp} {a : Addr} {x : V} {xs : List V} {Q : VK} (h : SqL K H a xs) (fx : flatV x = true) (fs : xs.all flatV = true) (q : Q (.bl (!inV x xs)) H) : rIn K true x (.ref a) H Q := ⟨a, xs, rfl, .inl h, fx, fs, q⟩
def gJs (ts : List TE) (acc : Str) (σ : L2.St) (R : Str → Hp → Prop) (x : V) (H1 : Hp) : Prop := ∃ y : Str, x = .str y ∧ (acc ++ y).length ≤ sizeLine ∧ tJs ts (acc ++ y) σ H1 R
theorem w_js0 {acc : Str} {σ : L2.St} {H : Hp} {R : Str → Hp → Prop} (q : R acc H) : tJs [] acc σ H R := q
theorem w_js1 {t : TE} {ts : List TE} {acc : Str} {σ : L2.St} {H : Hp} {R : Str → Hp → Prop} (q : t σ H (gJs ts acc σ R)) : tJs (t :: ts) acc σ H R := q
theorem w_js2 {ts : List TE} {acc y : Str} {σ : L2.St} {H : Hp} {R : Str → Hp → Prop} (l : (acc ++ y).length ≤ sizeLine) (q : tJs ts (acc ++ y) σ H R) : gJs ts acc σ R (.str y) H := ⟨y, rfl, l, q⟩
def gM1 (r : V → List V → Hp → VK → Prop) (te : TE) (σ : L2.St) (Q : VK) (x : V) (H1 : Hp) : Prop := (∃ a, x = .str a) ∧ te σ H1 fun y H2 => r x [y] H2 Q
section
variable {K : PySem.W.Frag} {H : Hp} {σ : L2.St} {Q : VK} {to te : TE} {p : Addr} {i : Int} {c : Nat} {z : Str}
theorem w_m1 {r : V → List V → Hp → VK → Prop} (q : to σ H (gM1 r te σ Q)) : tM1 r to te σ H Q := q
theorem w_m1s {r : V → List V → Hp → VK → Prop} (q : te σ H fun y H2 => r (.str z) [y] H2 Q) : gM1 r te σ Q (.str z) H := ⟨⟨z, rfl⟩, q⟩
theorem w_join {ys : List Str} (h : SqL K H p (ys.map V.str)) (l : (ys.map (·.length)).sum + ys.length * z.length ≤ 16777216) (q : Q (.str (Txt.join z ys)) H) : rJoin K (.str z) [.ref p] H Q := ⟨z, p, ys, rfl, rfl, .inl h, l, q⟩
theorem w_ixS (l : z.length ≤ sizeLine) (h : atI z.cps.toList i = some c) (q : Q (.str ⟨#[c]⟩) H) : rIxS (.str z) (.int i) H Q := ⟨z, i, c, rfl, rfl, l, h, q⟩
end
theorem seqT {K : PySem.W.Frag} {H H' : Hp} {a : Addr} {xs : List V} (e : Same H H') (h : SqT K H a xs) : SqT K H' a xs := by
  rcases h with h | h
  · refine .inl ?_
    rcases h with h | ⟨o, h⟩
    · exact .inl (e _ _ h)
    · exact .inr ⟨o, e _ _ h⟩
  · exact .inr h
/-! ### comprehensions: F i is what the new list holds ahead of turn i -/
def LcI (Z : Hp) (so : Option (Addr × Addr)) (L : Cells) (D : Addr) (xs : List V) (H : Hp) : Prop := Hw Z so H ((true, D, .lst xs) :: L)
def DcI (Z : Hp) (so : Option (Addr × Addr)) (L : Cells) (D : Addr) (kvs : List (Key × V)) (H : Hp) : Prop := Hw Z so H ((true, D, .dK kvs) :: L)
def gAcc (D : Addr) (Nx : Hp → Prop) (y : V) (H4 : Hp) : Prop := ∃ acc, H4 D = some (.lst acc) ∧ acc.length < sizeLine ∧ Nx (upd H4 D (.lst (acc ++ [y])))
def gDcc (D : Addr) (Nx : Hp → Prop) (y z : V) (H5 : Hp) : Prop := ∃ kvs k, y = kV k ∧ H5 D = some (.dK kvs) ∧ kvs.length < sizeLine ∧ Nx (upd H5 D (.dK (putK kvs k z)))
inductive Wi : L2.St → List Nat → L2.St → Prop
  | nil {σ} : Wi σ [] σ
  | cons {σ v vs σ'} (h : Wi σ vs σ') : Wi σ (v :: vs) (σ'.set v none)
theorem Wi.eq : ∀ {σ : L2.St} {vs : List Nat} {σ' : L2.St}, Wi σ vs σ' → wipe σ vs = σ'
  | _, _, _, .nil => rfl
  | _, _, _, .cons h => by rw [← h.eq]; rfl
section
variable {K : PySem.W.Frag} {Z H H' : Hp} {so : Option (Addr × Addr)} {L L' : Cells} {a D : Addr} {xs : List V} {y z : V} {g : TG} {tt : TT} {te tk tv : TE} {vs : List Nat} {σ σw : L2.St}
theorem w_acc {xs ys : List V} (w : Hw Z so H' L') (s : Sub ((true, D, .lst xs) :: L) L') (l : xs.length < sizeLine) (e : ys = xs ++ [y]) : gAcc D (LcI Z so L D ys) y H' := ⟨xs, (w.sub s).get .here, l, e ▸ (w.sub s).up .here⟩
theorem w_noacc {xs ys : List V} (w : Hw Z so H' L') (s : Sub ((true, D, .lst xs) :: L) L') (e : ys = xs) : LcI Z so L D ys H' := e ▸ w.sub s
theorem w_dccS {kvs kws : List (Key × V)} {k : Str} (w : Hw Z so H' L') (s : Sub ((true, D, .dK kvs) :: L) L') (l : kvs.length < sizeLine) (e : kws = putK kvs (Sum.inr k) z) : gDcc D (DcI Z so L D kws) (.str k) z H' := ⟨kvs, Sum.inr k, rfl, (w.sub s).get .here, l, e ▸ (w.sub s).up .here⟩
theorem w_dccI {kvs kws : List (Key × V)} {k : Int} (w : Hw Z so H' L') (s : Sub ((true, D, .dK kvs) :: L) L') (l : kvs.length < sizeLine) (e : kws = putK kvs (Sum.inl k) z) : gDcc D (DcI Z so L D kws) (.int k) z H' := ⟨kvs, Sum.inl k, rfl, (w.sub s).get .here, l, e ▸ (w.sub s).up .here⟩
theorem Hw.newU (w : Hw Z so H L) (n : H D = none) (o : HO) : Hw Z so (upd H D o) ((true, D, o) :: L) := w.new n
/-- over a list -/
theorem lcW {Qd : Addr → Hp → Prop} (F : Nat → List V) (w : Hw Z so H L) (hw : Wi σ vs σw) (hl : ∀ H', Hw Z so H' L → SqL K H' a xs) (h0 : F 0 = [])
    (hs : ∀ (i : Nat) (x : V) (D : Addr) (H' : Hp), xs[i]? = some x → Hw Z so H' ((true, D, .lst (F i)) :: L) → g x σw H' fun σ2 H2 => wipe σ2 vs = σw ∧ tt σ2 H2 fun b H3 =>
      if b = true then te σ2 H3 fun y H4 => gAcc D (LcI Z so L D (F (i + 1))) y H4 else LcI Z so L D (F (i + 1)) H3)
    (hd : ∀ (D : Addr) (H' : Hp), Hw Z so H' ((true, D, .lst (F xs.length)) :: L) → Qd D H') :
    ∀ D, H D = none → ∃ W : Nat → Nat → Hp → Prop, (∃ m, W 0 m (upd H D (.lst []))) ∧ ∀ i m H, W i m H →
      ((Itl K a).stop i H ∧ Qd D H) ∨ ((Itl K a).go i H ∧ ∃ Nx : Hp → Prop, (∀ H', Nx H' → ∃ m', m' < m ∧ W (i + 1) m' H') ∧ ∀ x H', (Itl K a).yld i H x H' → g x (wipe σ vs) H' fun σ2 H2 => wipe σ2 vs = wipe σ vs ∧ tt σ2 H2 fun b H3 =>
        if b = true then te σ2 H3 fun y H4 => ∃ acc, H4 D = some (.lst acc) ∧ acc.length < sizeLine ∧ Nx (upd H4 D (.lst (acc ++ [y]))) else Nx H3) := fun D n => by
  rw [hw.eq]
  refine UW.loopL (xs := xs) (fun i H => LcI Z so L D (F i) H) (by rw [h0]; exact w.new n) (fun i H h => hl H (h.sub (.skip (.refl _)))) (fun i x H hx h => ?_) (fun H h => hd D H h)
  exact hs i x D H hx h
/-- over lo, lo + 1, .. -/
theorem lcRW {Qd : Addr → Hp → Prop} {lo : Int} {n : Nat} (F : Nat → List V) (w : Hw Z so H L) (hw : Wi σ vs σw) (h0 : F 0 = [])
    (hs : ∀ (i : Nat) (D : Addr) (H' : Hp), i < n → Hw Z so H' ((true, D, .lst (F i)) :: L) → g (.int (lo + i)) σw H' fun σ2 H2 => wipe σ2 vs = σw ∧ tt σ2 H2 fun b H3 =>
      if b = true then te σ2 H3 fun y H4 => gAcc D (LcI Z so L D (F (i + 1))) y H4 else LcI Z so L D (F (i + 1)) H3)
    (hd : ∀ (D : Addr) (H' : Hp), Hw Z so H' ((true, D, .lst (F n)) :: L) → Qd D H') :
    ∀ D, H D = none → ∃ W : Nat → Nat → Hp → Prop, (∃ m, W 0 m (upd H D (.lst []))) ∧ ∀ i m H, W i m H →
      ((Itr lo n).stop i H ∧ Qd D H) ∨ ((Itr lo n).go i H ∧ ∃ Nx : Hp → Prop, (∀ H', Nx H' → ∃ m', m' < m ∧ W (i + 1) m' H') ∧ ∀ x H', (Itr lo n).yld i H x H' → g x (wipe σ vs) H' fun σ2 H2 => wipe σ2 vs = wipe σ vs ∧ tt σ2 H2 fun b H3 =>
        if b = true then te σ2 H3 fun y H4 => ∃ acc, H4 D = some (.lst acc) ∧ acc.length < sizeLine ∧ Nx (upd H4 D (.lst (acc ++ [y]))) else Nx H3) := fun D nn => by
  refine lc_range (fun i H => LcI Z so L D (F i) H) (by rw [h0]; exact w.new nn) (fun i H hi h => ?_) (fun H h => hd D H h)
  rw [hw.eq]
  exact hs i D H hi h
/-- a dict over lo, lo + 1, .. -/
theorem dcRW {Qd : Addr → Hp → Prop} {lo : Int} {n : Nat} (F : Nat → List (Key × V)) (w : Hw Z so H L) (hw : Wi σ vs σw) (h0 : F 0 = [])
    (hs : ∀ (i : Nat) (D : Addr) (H' : Hp), i < n → Hw Z so H' ((true, D, .dK (F i)) :: L) → g (.int (lo + i)) σw H' fun σ2 H2 => wipe σ2 vs = σw ∧ tt σ2 H2 fun b H3 =>
      if b = true then tk σ2 H3 fun y H4 => tv σ2 H4 fun z H5 => gDcc D (DcI Z so L D (F (i + 1))) y z H5 else DcI Z so L D (F (i + 1)) H3)
    (hd : ∀ (D : Addr) (H' : Hp), Hw Z so H' ((true, D, .dK (F n)) :: L) → Qd D H') :
    ∀ D, H D = none → ∃ W : Nat → Nat → Hp → Prop, (∃ m, W 0 m (upd H D (.dK []))) ∧ ∀ i m H, W i m H →
      ((Itr lo n).stop i H ∧ Qd D H) ∨ ((Itr lo n).go i H ∧ ∃ Nx : Hp → Prop, (∀ H', Nx H' → ∃ m', m' < m ∧ W (i + 1) m' H') ∧ ∀ x H', (Itr lo n).yld i H x H' → g x (wipe σ vs) H' fun σ2 H2 => wipe σ2 vs = wipe σ vs ∧ tt σ2 H2 fun b H3 =>
        if b = true then tk σ2 H3 fun y H4 => tv σ2 H4 fun z H5 => ∃ kvs k, y = kV k ∧ H5 D = some (.dK kvs) ∧ kvs.length < sizeLine ∧ Nx (upd H5 D (.dK (putK kvs k z))) else Nx H3) := fun D nn => by
  refine dc_rng (fun i H => DcI Z so L D (F i) H) (by rw [h0]; exact w.new nn) (fun i H hi h => ?_) (fun H h => hd D H h)
  rw [hw.eq]
  exact hs i D H hi h
/-- a dict over a list -/
theorem dcW {Qd : Addr → Hp → Prop} (F : Nat → List (Key × V)) (w : Hw Z so H L) (hw : Wi σ vs σw) (hl : ∀ H', Hw Z so H' L → SqL K H' a xs) (h0 : F 0 = [])
    (hs : ∀ (i : Nat) (x : V) (D : Addr) (H' : Hp), xs[i]? = some x → Hw Z so H' ((true, D, .dK (F i)) :: L) → g x σw H' fun σ2 H2 => wipe σ2 vs = σw ∧ tt σ2 H2 fun b H3 =>
      if b = true then tk σ2 H3 fun y H4 => tv σ2 H4 fun z H5 => gDcc D (DcI Z so L D (F (i + 1))) y z H5 else DcI Z so L D (F (i + 1)) H3)
    (hd : ∀ (D : Addr) (H' : Hp), Hw Z so H' ((true, D, .dK (F xs.length)) :: L) → Qd D H') :
    ∀ D, H D = none → ∃ W : Nat → Nat → Hp → Prop, (∃ m, W 0 m (upd H D (.dK []))) ∧ ∀ i m H, W i m H →
      ((Itl K a).stop i H ∧ Qd D H) ∨ ((Itl K a).go i H ∧ ∃ Nx : Hp → Prop, (∀ H', Nx H' → ∃ m', m' < m ∧ W (i + 1) m' H') ∧ ∀ x H', (Itl K a).yld i H x H' → g x (wipe σ vs) H' fun σ2 H2 => wipe σ2 vs = wipe σ vs ∧ tt σ2 H2 fun b H3 =>
        if b = true then tk σ2 H3 fun y H4 => tv σ2 H4 fun z H5 => ∃ kvs k, y = kV k ∧ H5 D = some (.dK kvs) ∧ kvs.length < sizeLine ∧ Nx (upd H5 D (.dK (putK kvs k z))) else Nx H3) := fun D n => by
  rw [hw.eq]
  refine UW.loopL (xs := xs) (fun i H => DcI Z so L D (F i) H) (by rw [h0]; exact w.new n) (fun i H h => hl H (h.sub (.skip (.refl _)))) (fun i x H hx h => ?_) (fun H h => hd D H h)
  exact hs i x D H hx h
/-! the same where the items are not told ahead, and frozen things may come along -/
def LcG (Z : Hp) (so : Option (Addr × Addr)) (L : Cells) (D : Addr) (P : Hp → List V → Prop) (H : Hp) : Prop := ∃ Z' acc, Same Z Z' ∧ P Z' acc ∧ Hw Z' so H ((true, D, .lst acc) :: L)
theorem w_accG {Z' : Hp} {P : Hp → List V → Prop} {acc : List V} (w : Hw Z' so H' L') (s : Sub ((true, D, .lst acc) :: L) L') (e : Same Z Z') (l : acc.length < sizeLine) (q : P Z' (acc ++ [y])) : gAcc D (LcG Z so L D P) y H' := ⟨acc, (w.sub s).get .here, l, Z', _, e, q, (w.sub s).up .here⟩
theorem w_noaccG {Z' : Hp} {P : Hp → List V → Prop} {acc : List V} (w : Hw Z' so H' L') (s : Sub ((true, D, .lst acc) :: L) L') (e : Same Z Z') (q : P Z' acc) : LcG Z so L D P H' := ⟨Z', _, e, q, w.sub s⟩
theorem lcG {Qd : Addr → Hp → Prop} (P : Nat → Hp → List V → Prop) (w : Hw Z so H L) (hw : Wi σ vs σw) (hl : ∀ Z' H', Same Z Z' → Hw Z' so H' L → SqL K H' a xs) (h0 : P 0 Z [])
    (hs : ∀ (i : Nat) (x : V) (D : Addr) (Z' H' : Hp) (acc : List V), xs[i]? = some x → Same Z Z' → P i Z' acc → Hw Z' so H' ((true, D, .lst acc) :: L) → g x σw H' fun σ2 H2 => wipe σ2 vs = σw ∧ tt σ2 H2 fun b H3 =>
      if b = true then te σ2 H3 fun y H4 => gAcc D (LcG Z so L D (P (i + 1))) y H4 else LcG Z so L D (P (i + 1)) H3)
    (hd : ∀ (D : Addr) (Z' H' : Hp) (acc : List V), Same Z Z' → P xs.length Z' acc → Hw Z' so H' ((true, D, .lst acc) :: L) → Qd D H') :
    ∀ D, H D = none → ∃ W : Nat → Nat → Hp → Prop, (∃ m, W 0 m (upd H D (.lst []))) ∧ ∀ i m H, W i m H →
      ((Itl K a).stop i H ∧ Qd D H) ∨ ((Itl K a).go i H ∧ ∃ Nx : Hp → Prop, (∀ H', Nx H' → ∃ m', m' < m ∧ W (i + 1) m' H') ∧ ∀ x H', (Itl K a).yld i H x H' → g x (wipe σ vs) H' fun σ2 H2 => wipe σ2 vs = wipe σ vs ∧ tt σ2 H2 fun b H3 =>
        if b = true then te σ2 H3 fun y H4 => ∃ acc, H4 D = some (.lst acc) ∧ acc.length < sizeLine ∧ Nx (upd H4 D (.lst (acc ++ [y]))) else Nx H3) := fun D n => by
  rw [hw.eq]
  refine UW.loopL (xs := xs) (fun i H => LcG Z so L D (P i) H) ⟨Z, [], fun _ _ e => e, h0, w.new n⟩ (fun i H ⟨Z', acc, e, _, h⟩ => hl Z' H e (h.sub (.skip (.refl _)))) (fun i x H hx ⟨Z', acc, e, q, h⟩ => ?_) (fun H ⟨Z', acc, e, q, h⟩ => hd D Z' H acc e q h)
  exact hs i x D Z' H acc hx e q h
theorem lcRG {Qd : Addr → Hp → Prop} {lo : Int} {n : Nat} (P : Nat → Hp → List V → Prop) (w : Hw Z so H L) (hw : Wi σ vs σw) (h0 : P 0 Z [])
    (hs : ∀ (i : Nat) (D : Addr) (Z' H' : Hp) (acc : List V), i < n → Same Z Z' → P i Z' acc → Hw Z' so H' ((true, D, .lst acc) :: L) → g (.int (lo + i)) σw H' fun σ2 H2 => wipe σ2 vs = σw ∧ tt σ2 H2 fun b H3 =>
      if b = true then te σ2 H3 fun y H4 => gAcc D (LcG Z so L D (P (i + 1))) y H4 else LcG Z so L D (P (i + 1)) H3)
    (hd : ∀ (D : Addr) (Z' H' : Hp) (acc : List V), Same Z Z' → P n Z' acc → Hw Z' so H' ((true, D, .lst acc) :: L) → Qd D H') :
    ∀ D, H D = none → ∃ W : Nat → Nat → Hp → Prop, (∃ m, W 0 m (upd H D (.lst []))) ∧ ∀ i m H, W i m H →
      ((Itr lo n).stop i H ∧ Qd D H) ∨ ((Itr lo n).go i H ∧ ∃ Nx : Hp → Prop, (∀ H', Nx H' → ∃ m', m' < m ∧ W (i + 1) m' H') ∧ ∀ x H', (Itr lo n).yld i H x H' → g x (wipe σ vs) H' fun σ2 H2 => wipe σ2 vs = wipe σ vs ∧ tt σ2 H2 fun b H3 =>
        if b = true then te σ2 H3 fun y H4 => ∃ acc, H4 D = some (.lst acc) ∧ acc.length < sizeLine ∧ Nx (upd H4 D (.lst (acc ++ [y]))) else Nx H3) := fun D nn => by
  refine lc_range (fun i H => LcG Z so L D (P i) H) ⟨Z, [], fun _ _ e => e, h0, w.new nn⟩ (fun i H hi ⟨Z', acc, e, q, h⟩ => ?_) (fun H ⟨Z', acc, e, q, h⟩ => hd D Z' H acc e q h)
  rw [hw.eq]
  exact hs i D Z' H acc hi e q h
/-- what a list comprehension walks: a list -/
def gIl (K : PySem.W.Frag) (R : It → Hp → Prop) (x : V) (H1 : Hp) : Prop := ∃ a, x = .ref a ∧ (∃ xs, SqL K H1 a xs) ∧ R (Itl K a) H1
theorem w_il {tl : TE} {R : It → Hp → Prop} (q : tl σ H (gIl K R)) : iList K tl σ H R := q
theorem w_il2 {R : It → Hp → Prop} (h : SqL K H a xs) (q : R (Itl K a) H) : gIl K R (.ref a) H := ⟨a, rfl, ⟨xs, h⟩, q⟩
def gIr1 (R : It → Hp → Prop) (vs : List V) (H1 : Hp) : Prop := ∃ j : Int, vs = [.int j] ∧ -(2 ^ 62) ≤ j ∧ j < 2 ^ 62 ∧ R (Itr 0 j.toNat) H1
theorem w_ir {ta : TA} {R : It → Hp → Prop} (q : ta σ H (gIr1 R)) : iRng1 ta σ H R := q
theorem w_ir1 {j : Int} {n : Nat} {R : It → Hp → Prop} (e : j = (n : Int)) (b : n < 4611686018427387904) (q : R (Itr 0 n) H) : gIr1 R [.int j] H := ⟨j, rfl, by omega, by omega, by rw [e]; exact q⟩
theorem w_for {wi : TI} {tb : TS} {D : Ends} (q : wi σ H fun J H1 => ∃ W : Nat → Nat → L2.St → Hp → Prop, (∃ m, W 0 m σ H1) ∧ ∀ i m σ H, W i m σ H →
  (J.stop i H ∧ D.nx σ H) ∨ (J.go i H ∧ ∃ N : L2.St → Hp → Prop, (∀ σ' H', N σ' H' → ∃ m', m' < m ∧ W (i + 1) m' σ' H') ∧ ∀ x H', J.yld i H x H' → g x σ H' fun σ2 H2 => tb { D with nx := N, ct := N, bk := D.nx } σ2 H2)) : tFor wi g tb D σ H := q
theorem w_lc {wi : TI} {Q : VK} (q : wi σ H fun J H1 => ∀ D, H1 D = none → ∃ W : Nat → Nat → Hp → Prop, (∃ m, W 0 m (upd H1 D (.lst []))) ∧ ∀ i m H, W i m H →
  (J.stop i H ∧ Q (.ref D) H) ∨ (J.go i H ∧ ∃ Nx : Hp → Prop, (∀ H', Nx H' → ∃ m', m' < m ∧ W (i + 1) m' H') ∧ ∀ x H', J.yld i H x H' → g x (wipe σ vs) H' fun σ2 H2 => wipe σ2 vs = wipe σ vs ∧ tt σ2 H2 fun b H3 =>
    if b = true then te σ2 H3 fun y H4 => ∃ acc, H4 D = some (.lst acc) ∧ acc.length < sizeLine ∧ Nx (upd H4 D (.lst (acc ++ [y]))) else Nx H3)) : tLc wi g tt te vs σ H Q := q
theorem w_dc {wi : TI} {Q : VK} (q : wi σ H fun J H1 => ∀ D, H1 D = none → ∃ W : Nat → Nat → Hp → Prop, (∃ m, W 0 m (upd H1 D (.dK []))) ∧ ∀ i m H, W i m H →
  (J.stop i H ∧ Q (.ref D) H) ∨ (J.go i H ∧ ∃ Nx : Hp → Prop, (∀ H', Nx H' → ∃ m', m' < m ∧ W (i + 1) m' H') ∧ ∀ x H', J.yld i H x H' → g x (wipe σ vs) H' fun σ2 H2 => wipe σ2 vs = wipe σ vs ∧ tt σ2 H2 fun b H3 =>
    if b = true then tk σ2 H3 fun y H4 => tv σ2 H4 fun z H5 => ∃ kvs k, y = kV k ∧ H5 D = some (.dK kvs) ∧ kvs.length < sizeLine ∧ Nx (upd H5 D (.dK (putK kvs k z))) else Nx H3)) : tDc wi g tt tk tv vs σ H Q := q
end
end V
end
section
/-! More rules. -/
namespace V
open PySem PySem.Spec PyProof.Rows L2 U
/-- a comprehension into a name that is a cell -/
theorem sw_cell {elt : Expr} {gs : List Comprehension} {scope : Scope} {pos py : Pos} {y : Str} {l : Nat} {env : Env} (hk : env.scope.kind = .function) (hy : env.scope.names.lookup y = some .cell) : swapsWith (.ListComp elt gs scope pos) (some (.Name y py)) l env = pure false := by
  have k1 : env.kindOf y = some .cell := hy
  have k2 : env.blockKind = .function := by unfold Env.blockKind; rw [hk]; rfl
  unfold swapsWith; simp only [k1, k2]; rfl
theorem sw_cellD {kx vx : Expr} {gs : List Comprehension} {scope : Scope} {pos py : Pos} {y : Str} {l : Nat} {env : Env} (hk : env.scope.kind = .function) (hy : env.scope.names.lookup y = some .cell) : swapsWith (.DictComp kx vx gs scope pos) (some (.Name y py)) l env = pure false := by
  have k1 : env.kindOf y = some .cell := hy
  have k2 : env.blockKind = .function := by unfold Env.blockKind; rw [hk]; rfl
  unfold swapsWith; simp only [k1, k2]; rfl
/-- i <= x < k, i and k written -/
theorem w_chC {σ : L2.St} {H : Hp} {Q : VK} {n : Nat} {i j k : Int} (hb : σ[n]? = some (some (.int j))) (h : Q (.bl (decide (i ≤ j) && decide (j < k))) H) : tChain (rI0 fun i j => V.bl (decide (i ≤ j))) (rI0 fun i j => V.bl (decide (i < j))) (tC (.int i)) (tVar n) (tC (.int k)) σ H Q := by
  refine ⟨_, hb, _, _, rfl, rfl, _, rfl, ?_⟩
  by_cases c : decide (i ≤ j) = true
  · rw [if_pos c]
    rw [c, Bool.true_and] at h
    exact ⟨_, _, rfl, rfl, h⟩
  · rw [if_neg c]
    have c2 : decide (i ≤ j) = false := by simpa using c
    rw [c2, Bool.false_and] at h
    exact h
end V
end
section
/-! Errors of own classes as values: made, their attributes read, isinstance. -/
namespace UE
open PySem PySem.Spec PyProof.Rows L2 U UX
/-- C(e, ..), an error of an own class whose __init__ keeps sp -/
def tMkV (C : Addr) (sp : Sp) (ta : TA) : TE := fun σ H Q => ta σ H fun vs H1 => vs.length ≤ 1000 ∧ ∀ a, H1 a = none → sp (.ref a :: vs) (upd H1 a (exo a C none)) (fun v H2 => v = .non ∧ Q (.ref a) H2) E0
section
variable {X : Cx} {e : Expr} {es : List Expr} {ta : TA} {te : TE} {x : Str} {p pos : Pos} {C : Addr} {sp : Sp} {k j : Nat}
theorem pe_mkB (c : ExM X.prog X.w X.K X.mg X.base k x C sp) (hr : Room j X.A) (hk : k + 1 ≤ j) (hg : Gl X x) (ha : PA X (e :: es) ta)
    (hdb : (x == ("__debug__" : Str)) = false := by decide) (he : starEach (e :: es) X.env = (false, eval e X.env) :: starEach es X.env := by rfl) (hpl : (backTo pos (starEach es X.env)).any (·.1) = false := by rfl) :
    PE X (.Call (.Name x p) (e :: es) [] pos) (tMkV C sp ta) := by
  obtain ⟨B, newId, initId, bt, f, fd, ps, T, hm, iC, tI, F, hb⟩ := c.ex
  have hr' : Room (k + 1) X.A := hr.mono hk
  refine ⟨fun pins s σ H Q I h => ?_⟩
  refine wpAny_Call_Name_kw (ld_glob I hg hm ?_ hdb)
  refine PySem.W.callWith_K (h₀ := X.base) I.ok.mod.kin T.kC (thn (ha.run pos pins s σ H _ I h) fun us s1 ⟨vs, H1, I1, r1, hz, q1⟩ => ⟨I1.kIn, ?_⟩) he hpl
  show wpAny _ _ (call (.ref C) us) _ _ _
  obtain ⟨nm, N, qn, bs, bm, hdct, sn, sub, ab, col, dd, k0, k1, k2, k3, k5, hC, hT⟩ := PySem.W.excInit_of I1.kIn T.ini
  obtain ⟨hp, g, dr, tk, os⟩ := s1
  have hsz : hp.objs.size ≤ hp.objs.size + 1 := Nat.le_succ _
  have hq := q1 (hp.objs.size + 1) (I1.hok.fresh hsz)
  have kk : ∀ b o, hp.get? b = some o → ((hp.push (PySem.W.kdv_tup us)).push (PySem.HandSPX.excO C hp.objs.size)).get? b = some o := fun b o q => Heap.get?_push_of_some _ (Heap.get?_push_of_some _ q)
  have hget : ((hp.push (PySem.W.kdv_tup us)).push (PySem.HandSPX.excO C hp.objs.size)).get? (hp.objs.size + 1) = some (PySem.HandSPX.excO C hp.objs.size) := by heap_get
  have I2 : Inv X pins σ (upd H1 (hp.objs.size + 1) (exo (hp.objs.size + 1) C none)) ⟨(hp.push (PySem.W.kdv_tup us)).push (PySem.HandSPX.excO C hp.objs.size), g, dr, tk, os⟩ :=
    I1.laid (t' := tk) (a := hp.objs.size + 1) (o := exo (hp.objs.size + 1) C none) (h' := (hp.push (PySem.W.kdv_tup us)).push (PySem.HandSPX.excO C hp.objs.size)) kk hsz (exo_ok hget)
  have r2 : Vals (V.ref (hp.objs.size + 1) :: vs) (Value.ref (hp.objs.size + 1) :: us) := .cons rfl r1
  have hl : (Value.ref (hp.objs.size + 1) :: us).length = ps.length := by
    have z := F.len _ _ _ _ hq
    rw [r2.length] at z
    exact z
  have hus : us.length ≤ sizeLine := by
    rw [← Paired.length r1, sizeLine_eq]
    omega
  have hbb := hb _ (Value.ref (hp.objs.size + 1) :: us) I2.kIn (by rw [List.append_nil]; exact hl)
  rw [List.append_nil] at hbb
  refine wpAny_call (PySem.HandSPX.call_own T.FB hT hC (PySem.W.looks_findIn I1.kIn iC) (fun self => PySem.W.bind_fn I1.kIn self tI) hus
    (codeAny_mono (F.run _ X.stack _ _ ⟨Value.ref (hp.objs.size + 1) :: us, []⟩ (Value.ref (hp.objs.size + 1) :: us) _ _ E0 (hr'.make C us []) (I2.env0.make C us []) hbb r2 hq) fun r s' hq' => ?_))
  cases r with
  | error er => exact False.elim hq'
  | ok fl =>
    cases fl with
    | ret u =>
      obtain ⟨v, H', I3, rv, ev, q3⟩ := I2.after hq'
      subst ev
      exact ⟨rv, ⟨V.ref (hp.objs.size + 1), H', I3, rfl, q3⟩⟩
    | next => exact False.elim hq'
    | brk => exact False.elim hq'
    | cont => exact False.elim hq'
/-- C(), an own class of errors without an own __init__ -/
theorem pe_exc0 {bmB : List Value} {B newId initId : String} (F : ExcBaseFacts B newId initId bmB) (q : PySem.W.excIn X.K C bmB newId = true) (gC : X.mg x = some (.ref C)) (kC : PySem.W.keepIn X.K (.ref C) = true) (hg : Gl X x) (hdb : (x == ("__debug__" : Str)) = false := by decide) :
    PE X (.Call (.Name x p) [] [] pos) (fun σ H Q => ∀ a, H a = none → Q (.ref a) (upd H a (exo a C none))) := by
  refine ⟨fun pins s σ H Q I h => ?_⟩
  refine wpAny_Call_Name_kw (ld_glob I hg gC ?_ hdb)
  refine PySem.W.callWith_K0 I.kIn kC ?_
  show wpAny _ _ (call (.ref C) []) _ _ _
  obtain ⟨bm, N, nm, qn, bs, hdct, sn, sub, ab, col, dd, k0, k1, k2, k3, k5, mN, hC, hN, hni, T⟩ := exc_obj I.kIn q
  refine wpAny_call_exc_subT F T hC hN hni (fun h' a hm => ?_) (by show 0 ≤ sizeLine; rw [sizeLine_eq]; omega)
  have hn : H a = none := I.hok.gone hm.new
  obtain ⟨t, ht, _, _⟩ := hm.there
  exact ⟨.ref a, upd H a (exo a C none), I.laidN hm.keeps hm.new hn (exo_ok ht), rfl, h a hn⟩
end
/-- an error of the class C stands at a -/
def ErAt (H : Hp) (a C : Addr) : Prop := H a = some (exo a C none) ∨ ∃ dd fs, H a = some (exo a C (some dd)) ∧ H dd = some (exd dd fs)
/-- o.f, o an error -/
def gXf (K : PySem.W.Frag) (f : Str) (Q : VK) (x : V) (H1 : Hp) : Prop := ∃ (a C dd : Addr) (fs : List (Str × V)) (v : V), x = .ref a ∧ XfC K C ∧ PySem.W.findIn K (.ref C) f = some none ∧ H1 a = some (exo a C (some dd)) ∧ H1 dd = some (exd dd fs) ∧ fs.lookup f = some v ∧ Q v H1
def tXfH (K : PySem.W.Frag) (f : Str) (te : TE) : TE := fun σ H Q => te σ H (gXf K f Q)
theorem pe_xfH {X : Cx} (K : PySem.W.Frag) (hK : X.K = K) {e : Expr} {te : TE} {pos : Pos} {n : Str} (he : PE X e te) (hb : attributeBase e n X.env (eval e X.env) = eval e X.env := by rfl) : PE X (.Attribute e n pos) (tXfH K n te) := by
  subst hK
  refine ⟨fun pins s σ H Q I h => ?_⟩
  refine attr_of hb (thn (he.run pins s σ H _ I h) fun u s1 hh => ?_)
  obtain ⟨x, H1, I1, rx, a, C, dd, fs, v, ex, T, hno, ea, ed, l, q⟩ := hh
  subst ex
  obtain rfl : u = Value.ref a := rx
  obtain ⟨t1, ho⟩ := exo_at I1.hok ea
  obtain ⟨mA, hns, hr⟩ := exd_at I1.hok ed
  obtain ⟨od, hod, hl⟩ := lookIn_ns hns
  obtain ⟨u, hu, ru⟩ := RelO.some_of (v := v) (o := mA n) (by rw [← l]; exact hr n)
  have J : PySem.W.InstAt s1.heap a { cls := .ref C, dict := some dd, data := .fields #[.ref t1, .none, .none, .none, .bool false, .none] } C (some od) := ⟨ho, rfl, rfl, hod⟩
  exact HandSPX.exc_get I1.kIn J T.ga T.gg T.exC (PySem.W.findObj_own T.hdC hno rfl (by rw [hl, hu])) (handed_of ru) ⟨v, H1, I1.tok _, ru, q⟩
/-- isinstance(e, c), e an error -/
def rIsH (K : PySem.W.Frag) : List V → Hp → VK → Prop := fun xs H Q => ∃ (a D : Addr) (c : V) (cv : Value) (b : Bool), xs = [.ref a, c] ∧ ClsV c cv ∧ ExcI K D ∧ ErAt H a D ∧ PySem.W.kitOne K (.ref D) cv = some b ∧ Q (.bl b) H
theorem call_isH {X : Cx} (K : PySem.W.Frag) (hK : X.K = K) : CallR X (.builtin "isinstance") (rIsH K) := by
  subst hK
  intro pins s σ H xs us Q I r h
  obtain ⟨a, D, c, cv, b, rfl, hcv, C, er, e, q⟩ := h
  cases r with
  | cons rx rr =>
    cases rr with
    | cons rt rr =>
      cases rr
      cases rx
      have ec := hcv.eq rt
      subst ec
      rcases er with ea | ⟨dd, fs, ea, ed⟩
      · obtain ⟨t1, ho⟩ := exo_at I.hok ea
        have J : PySem.W.InstAt s.heap a { cls := .ref D, dict := none, data := .fields #[.ref t1, .none, .none, .none, .bool false, .none] } D none := ⟨ho, rfl, rfl, trivial⟩
        exact PySem.W.kia_one (PySem.W.kitx_exc C.cl C.ga C.gg C.exC C.ca C.cg C.ct C.mo) I.kIn J e (fun z => nomatch z) fun tk => ⟨.bl b, H, I.kept (t' := tk) fun _ _ z => z, rfl, q⟩
      · obtain ⟨t1, ho⟩ := exo_at I.hok ea
        obtain ⟨mA, ⟨od, es, ep, hod, _⟩, _⟩ := exd_at I.hok ed
        have J : PySem.W.InstAt s.heap a { cls := .ref D, dict := some dd, data := .fields #[.ref t1, .none, .none, .none, .bool false, .none] } D (some od) := ⟨ho, rfl, rfl, hod⟩
        exact PySem.W.kia_one (PySem.W.kitx_exc C.cl C.ga C.gg C.exC C.ca C.cg C.ct C.mo) I.kIn J e (fun z => nomatch z) fun tk => ⟨.bl b, H, I.kept (t' := tk) fun _ _ z => z, rfl, q⟩
/-! ### walks -/
theorem ErAt.same {H H' : Hp} {a C : Addr} (h : ErAt H a C) (e : Same H H') : ErAt H' a C := by
  rcases h with h | ⟨dd, fs, h1, h2⟩
  · exact .inl (e _ _ h)
  · exact .inr ⟨dd, fs, e _ _ h1, e _ _ h2⟩
section
variable {K : PySem.W.Frag} {Z H : Hp} {so : Option (Addr × Addr)} {L : V.Cells} {a D Cj : Addr} {b : Bool} {Q : VK}
theorem w_isH (w : V.Hw Z so H L) (er : ErAt Z a D) (c : ExcI K D) (e : PySem.W.kitOne K (.ref D) (.ref Cj) = some b) (q : Q (.bl b) H) : rIsH K [.ref a, .ref Cj] H Q := ⟨a, D, _, _, b, rfl, .own _, c, er.same w.fr, e, q⟩
theorem w_isHt {t : String} (w : V.Hw Z so H L) (er : ErAt Z a D) (c : ExcI K D) (e : PySem.W.kitOne K (.ref D) (.type t) = some b) (q : Q (.bl b) H) : rIsH K [.ref a, .ty t] H Q := ⟨a, D, _, _, b, rfl, .ty _, c, er.same w.fr, e, q⟩
end
def tExc0 (C : Addr) : TE := fun _ H Q => ∀ a, H a = none → Q (.ref a) (upd H a (exo a C none))
theorem pe_e0 {X : Cx} {x : Str} {p pos : Pos} {C : Addr} {bmB : List Value} {B newId initId : String} (F : ExcBaseFacts B newId initId bmB) (q : PySem.W.excIn X.K C bmB newId = true ∧ PySem.W.keepIn X.K (.ref C) = true) (gC : ∃ u, X.mg x = some u ∧ RelV (.ref C) u) (hg : Gl X x) (hdb : (x == ("__debug__" : Str)) = false := by decide) :
    PE X (.Call (.Name x p) [] [] pos) (tExc0 C) := by
  obtain ⟨u, h1, h2⟩ := gC
  obtain rfl : u = Value.ref C := h2
  exact pe_exc0 F q.1 h1 q.2 hg hdb
def gMkV (C : Addr) (sp : Sp) (Q : VK) (vs : List V) (H1 : Hp) : Prop := vs.length ≤ 1000 ∧ ∀ a, H1 a = none → sp (.ref a :: vs) (upd H1 a (exo a C none)) (fun v H2 => v = .non ∧ Q (.ref a) H2) E0
section
variable {Z H : Hp} {so : Option (Addr × Addr)} {L : V.Cells} {C : Addr} {Q : VK} {σ : L2.St} {sp : Sp} {ta : TA}
theorem w_mkV (q : ta σ H (gMkV C sp Q)) : tMkV C sp ta σ H Q := q
theorem w_exc0 (w : V.Hw Z so H L) (k : ∀ a Z' H', V.Hw Z' so H' L → Same Z Z' → Z' a = some (exo a C none) → Q (.ref a) H') : tExc0 C σ H Q := fun a n => by
  obtain ⟨w', e', h'⟩ := (w.new (o := exo a C none) n).frz
  exact k a _ _ w' e' h'
end
/-! ### what an own __init__ promises -/
def spEr (C : Addr) (names : List Str) (ok : List V → Prop) : Sp := fun vs H Q _ => ∃ (a : Addr) (ys : List V), vs = .ref a :: ys ∧ ok ys ∧ H a = some (exo a C none) ∧
  ∀ dx H', H dx = none → (∀ b o, b ≠ a → H b = some o → H' b = some o) → H' a = some (exo a C (some dx)) → H' dx = some (exd dx (names.zip ys).reverse) → Q .non H'
def spInUse (C : Addr) : Sp := fun vs H Q _ => ∃ (a : Addr) (s : Str) (l : Addr) (us : List V), vs = [.ref a, .str s, .ref l] ∧ s.length ≤ 1000 ∧ H a = some (exo a C none) ∧ H l = some (.lst us) ∧
  ∀ q dx H', H q = none → H dx = none → q ≠ a → q ≠ dx → (∀ b o, b ≠ a → H b = some o → H' b = some o) → H' a = some (exo a C (some dx)) → H' dx = some (exd dx [("users", .ref q), ("name", .str s)]) → H' q = some (.lst us) → Q .non H'
/-- an error of the class C with these attributes stands at a -/
def Fl (H : Hp) (a C : Addr) (fs : List (Str × V)) : Prop := ∃ dd, H a = some (exo a C (some dd)) ∧ H dd = some (exd dd fs)
theorem Fl.same {H H' : Hp} {a C : Addr} {fs : List (Str × V)} (h : Fl H a C fs) (e : Same H H') : Fl H' a C fs := by
  obtain ⟨dd, h1, h2⟩ := h
  exact ⟨dd, e _ _ h1, e _ _ h2⟩
theorem Fl.er {H : Hp} {a C : Addr} {fs : List (Str × V)} (h : Fl H a C fs) : ErAt H a C := by
  obtain ⟨dd, h1, h2⟩ := h
  exact .inr ⟨dd, fs, h1, h2⟩
section
variable {K : PySem.W.Frag} {Z H : Hp} {so : Option (Addr × Addr)} {L : V.Cells} {C : Addr} {Q : VK} {vs : List V}
theorem w_mkEr {names : List Str} {ok : List V → Prop} (w : V.Hw Z so H L) (hl : vs.length ≤ 1000) (o : ok vs) (k : ∀ a Z' H', V.Hw Z' so H' L → Same Z Z' → Fl Z' a C (names.zip vs).reverse → Q (.ref a) H') : gMkV C (spEr C names ok) Q vs H :=
  ⟨hl, fun a na => ⟨a, vs, rfl, o, upd_same, fun dx H' nd kp ha hd => ⟨rfl, by
    have sC : Same H H' := fun b u e => kp b u (ne_of_none e na) (by rw [upd_ne (ne_of_none e na)]; exact e)
    obtain ⟨Z', w', e', new'⟩ := w.callNew sC
    exact k a Z' H' w' e' ⟨dx, new' _ _ na ha, new' _ _ (upd_none nd).2 hd⟩⟩⟩⟩
theorem w_mkUse {s : Str} {l : Addr} {us : List V} (w : V.Hw Z so H L) (hs : s.length ≤ 1000) (hu : H l = some (.lst us)) (k : ∀ a q Z' H', V.Hw Z' so H' L → Same Z Z' → Fl Z' a C [("users", .ref q), ("name", .str s)] → Z' q = some (.lst us) → Q (.ref a) H') : gMkV C (spInUse C) Q [.str s, .ref l] H :=
  ⟨Nat.le_of_ble_eq_true rfl, fun a na => ⟨a, s, l, us, rfl, hs, upd_same, by rw [upd_ne (ne_of_none hu na)]; exact hu, fun q dx H' nq nd qa qd kp ha hd hq => ⟨rfl, by
    have sC : Same H H' := fun b u e => kp b u (ne_of_none e na) (by rw [upd_ne (ne_of_none e na)]; exact e)
    obtain ⟨Z', w', e', new'⟩ := w.callNew sC
    exact k a q Z' H' w' e' ⟨dx, new' _ _ na ha, new' _ _ (upd_none nd).2 hd⟩ (new' _ _ (upd_none nq).2 hq)⟩⟩⟩
theorem w_xf {f : Str} {te : TE} {σ : L2.St} (q : te σ H (gXf K f Q)) : tXfH K f te σ H Q := q
theorem w_xf2 {a : Addr} {f : Str} {v : V} {fs : List (Str × V)} (w : V.Hw Z so H L) (h : Fl Z a C fs) (x : XfC K C) (n : PySem.W.findIn K (.ref C) f = some none) (l : fs.lookup f = some v) (q : Q v H) : gXf K f Q (.ref a) H := by
  obtain ⟨dd, h1, h2⟩ := h
  exact ⟨a, C, dd, fs, v, rfl, x, n, w.fr _ _ h1, w.fr _ _ h2, l, q⟩
end
/-! ### equal data -/
theorem dp_bools {K : PySem.W.Frag} {H : Hp} {a : Addr} (bs : List Bool) (h : SqL K H a (bs.map V.bl)) : Dp K H (.ref a) (.list (bs.map PyData.bool)) := by
  refine .lst h ?_
  clear h
  induction bs with
  | nil => exact .nil
  | cons b bs ih => exact .cons (.bl b) ih
def gd (n : Nat) (d : PyData) : Prop := d.canLay0 = true ∧ d.depth ≤ n
def gda (n : Nat) (ds : List PyData) : Prop := PyData.canLayAll0 ds = true ∧ PyData.depthAll ds ≤ n
theorem gda_nil {n : Nat} : gda n [] := ⟨rfl, Nat.zero_le _⟩
theorem gda_cons {n : Nat} {d : PyData} {ds : List PyData} (h : gd n d) (t : gda n ds) : gda n (d :: ds) := ⟨by rw [PyData.canLayAll0, h.1, t.1]; rfl, by rw [PyData.depthAll]; exact Nat.max_le.mpr ⟨h.2, t.2⟩⟩
theorem gd_list {n : Nat} {ds : List PyData} (h : gda n ds) : gd (n + 1) (.list ds) := ⟨by rw [PyData.canLay0]; exact h.1, by rw [PyData.depth]; exact Nat.succ_le_succ h.2⟩
theorem gd_tup {n : Nat} {ds : List PyData} (h : gda n ds) : gd (n + 1) (.tuple ds) := ⟨by rw [PyData.canLay0]; exact h.1, by rw [PyData.depth]; exact Nat.succ_le_succ h.2⟩
theorem gd_int {n : Nat} (i : Int) : gd n (.int i) := ⟨by rw [PyData.canLay0], by rw [PyData.depth]; exact Nat.zero_le _⟩
theorem gd_bool {n : Nat} (b : Bool) : gd n (.bool b) := ⟨by rw [PyData.canLay0], by rw [PyData.depth]; exact Nat.zero_le _⟩
theorem gd_str {n : Nat} {z : Str} (h : PySem.PyData.strOk z = true) : gd n (.str z) := ⟨by rw [PyData.canLay0]; exact h, by rw [PyData.depth]; exact Nat.zero_le _⟩
theorem gd.mono {n m : Nat} {d : PyData} (h : gd n d) (l : n ≤ m) : gd m d := ⟨h.1, Nat.le_trans h.2 l⟩
theorem gd.sh {n : Nat} {d : PyData} (h : gd n d) (l : n ≤ 64) : SeqAt.shaped d = true := by unfold SeqAt.shaped; rw [h.1, decide_eq_true (Nat.le_trans h.2 l)]; rfl
theorem gda_map {α : Type} {n : Nat} {f : α → PyData} (h : ∀ x, gd n (f x)) : ∀ xs : List α, gda n (xs.map f)
  | [] => gda_nil
  | x :: xs => gda_cons (h x) (gda_map h xs)
theorem dpa_map {α : Type} {K : PySem.W.Frag} {H : Hp} {f : α → V} {g : α → PyData} (h : ∀ x, Dp K H (f x) (g x)) : ∀ xs : List α, DpAll K H (xs.map f) (xs.map g)
  | [] => .nil
  | x :: xs => .cons (h x) (dpa_map h xs)
end UE
end
section
/-! Written tables (dicts with text keys, tuples), enumerate(t, start=c) over a tuple. -/
namespace UT
open PySem PySem.Spec PyProof.Rows L2 U
/-! ### enumerate(t, start=c) -/
def Ites (K : PySem.W.Frag) (a : Addr) (c : Int) : It :=
  ⟨fun i H => ∃ (xs : List V) (x : V), SqT K H a xs ∧ xs[i]? = some x, fun i H v H' => ∃ T x, v = .ref T ∧ H T = none ∧ H' = upd H T (.tup [.int (c + (i : Int)), x]) ∧ ∀ xs, SqT K H a xs → xs[i]? = some x, fun i H => ∃ xs : List V, SqT K H a xs ∧ xs.length ≤ i⟩
theorem wpAny_pyNext_enum_done {prog : Program} {w : World} {A : Around} {E : Value → Shared → Prop} {s : Shared} {e it l : Addr} {i : Nat} {c : Int} {items : Array Value} {old : Value} {Q : Option Value → Shared → Prop}
    (he : IsEnum s.heap e it c old) (hit : s.heap.IsTupleIter it l i) (hl : s.heap.IsTuple l items) (hx : items[i]? = none) (hh : A.handled = none)
    (hQ : ∀ h', Heap.ExtBut it s.heap h' → Q none { s with heap := h' }) : wpAny (model prog w) A (pyNext (.ref e)) Q E s := by
  have hT : s.TypeIs (.ref e) "enumerate" := ⟨_, he, rfl⟩
  unfold pyNext
  refine wpAny_bind (wpAny_attempt (wpAny_callSpecial?_slot (name := Str.ofString "__next__") hT F.slot_enumerate_next
    (wpAny_call_entry F.slot_enumerate_next hT F.entry_enumerate_next ?_ (F.args_enumerate_next_1 _))))
  show wpAny _ _ (field (.ref e) 2 >>= _) _ _ _
  refine wpAny_bind (wpAny_field he rfl (x := .ref it) rfl ?_)
  refine wpAny_bind (wpAny_nextOf_tuple_end (show A.in1.in1.handled = none from hh) hit hl hx fun h' x he' hx' => ?_)
  obtain ⟨o, ho, hc⟩ := hx'
  refine wpAny_bind (wpAny_isInstance (T := "StopIteration") (b := true) ⟨o, ho, hc⟩ isSubtype_stop ?_)
  exact wpAny_pure (hQ _ he')
theorem turn_enumT {P : Program} {w : World} {K : PySem.W.Frag} {elts : List Expr} {kk : Nat} {tpos : Pos} (a e it : Addr) (c : Int) :
    Turn P w K (.Tuple elts kk tpos) (Ites K a c) [e, it] e (fun i h => (∃ old, IsEnum h e it (c + (i : Int)) old) ∧ h.IsTupleIter it a i ∧ e ≠ it) where
  mem := by simp
  obj := fun i h st b hb => by
    obtain ⟨⟨old, he⟩, ⟨o, ho, hc, hd⟩, _⟩ := st
    have e' : b = e ∨ b = it := by simpa using hb
    rcases e' with z | z
    · rw [z]; exact ⟨_, he, fun v q => nomatch q⟩
    · rw [z]; exact ⟨o, ho, fun v q => by rw [hd] at q; cases q⟩
  keep := fun i h h' st k => let ⟨⟨old, he⟩, hi, hne⟩ := st; ⟨⟨old, k e (by simp) _ he⟩, hi.at fun o q => k it (by simp) o q, hne⟩
  item := by
    intro X hP hw hK hc i pins s σ H E I hf st hg
    subst hP hw hK
    obtain ⟨⟨old, he⟩, hit, hne⟩ := st
    obtain ⟨xs, x, hq, hx⟩ := hg
    obtain ⟨its, rv, p, hz⟩ := I.tuple hq
    obtain ⟨u, hu, ru⟩ := rv.get hx
    have hel : e < s.heap.objs.size := Heap.lt_size he
    have hil : it < s.heap.objs.size := by obtain ⟨_, q, _⟩ := hit; exact Heap.lt_size q
    have pt : s.heap.IsTuple a its.toArray := p
    have nei : a ≠ it := fun z => by
      subst z
      obtain ⟨o1, g1, c1, d1⟩ := hit
      obtain ⟨o2, g2, c2, _⟩ := pt
      rw [g1] at g2; cases g2
      rw [c1] at c2; exact absurd (Value.type.inj c2) (by decide)
    have nea : e ≠ a := fun z => by
      subst z
      obtain ⟨o2, g2, c2, _⟩ := pt
      rw [he] at g2; cases g2
      exact absurd (Value.type.inj c2) (by decide)
    have hlt : i < its.toArray.size := by
      rw [List.size_toArray]
      exact (List.getElem?_eq_some_iff.mp hu).1
    refine wpAny_pyNext_enum_itemC (Draws.tuple (A := X.A.in1) (I.ok.hd hc) it a nei its.toArray) he ⟨hit, pt⟩ hlt hne (by simp [hne, nea]) fun y h' tk hP ho hs' hT hsz hk => ?_
    have ey : u = y := by
      have e1 : its.toArray[i]? = some u := by simpa using hu
      have e2 : its.toArray[i]? = some y := hP
      rw [e1] at e2; exact Option.some.inj e2
    subst ey
    refine ⟨_, rfl, wpAny_letOwnedTupleGo_enum (s := { s with heap := h', toks := tk + 1 }) ho fun h'' he' sb => ?_⟩
    have hT2 : h''.get? s.heap.objs.size = some { cls := .type "tuple", data := .seq #[.int (c + (i : Int)) tk, u] } := (sb.2 _ (Nat.ne_of_gt hel)).trans hT
    have new : ObjOk X.prog X.w (upd H s.heap.objs.size (.tup [.int (c + (i : Int)), x])) h'' s.heap.objs.size (.tup [.int (c + (i : Int)), x]) :=
      ⟨by show 2 ≤ sizeLine; decide, [.int (c + (i : Int)) tk, u], .cons ⟨_, rfl⟩ (.cons ru .nil), ⟨_, hT2, rfl, _, rfl⟩⟩
    have I1 : Inv X pins σ (upd H s.heap.objs.size (.tup [.int (c + (i : Int)), x])) { s with heap := h'', toks := tk + 1 } :=
      I.turnedNew (ch := [e, it]) (fun b ob hb q => (sb.2 b (fun z => hb (by simp [z]))).trans (hk b ob (fun z => hb (by simp [z])) (fun z => hb (by simp [z])) q)) hf (Nat.le_refl _) new
    refine ⟨.ref s.heap.objs.size, _, I1, rfl, ⟨_, x, rfl, I.hok.fresh (Nat.le_refl _), rfl, fun ys hy => by rw [I.tuple_inj hy hq]; exact hx⟩, ⟨⟨u, ?_⟩, hs'.1.at fun o q => (sb.2 it (Ne.symm hne)).trans q, hne⟩, fun b hb => ?_⟩
    · have e1 : c + ((i + 1 : Nat) : Int) = c + (i : Int) + 1 := by omega
      rw [e1]; exact he'
    · have hb' : b < s.heap.objs.size := by
        have e' : b = e ∨ b = it := by simpa using hb
        rcases e' with z | z
        · rw [z]; exact hel
        · rw [z]; exact hil
      rw [upd_ne (Nat.ne_of_lt hb')]
      exact (hf b hb).1
  done := by
    intro X hP hw hK hc i pins s σ H E I hf st hg
    subst hP hw hK
    obtain ⟨⟨old, he⟩, hit, hne⟩ := st
    obtain ⟨xs, hq, hx⟩ := hg
    obtain ⟨its, rv, p, hz⟩ := I.tuple hq
    obtain ⟨f0, f1, f2, f3, f4, f5⟩ := hf it (by simp)
    have hl := rv.length
    have pt : s.heap.IsTuple a its.toArray := p
    exact wpAny_pyNext_enum_done he hit pt (by simp; omega) (I.ok.hd hc) fun h' eb => ⟨rfl, I.turned (t' := s.toks) (fun b o hb q => eb b o hb q) f0 f1 f3 f4 f5⟩
  self := fun A i s Q E st h => let ⟨⟨_, he⟩, _⟩ := st; wpAny_pyIter_enum he h
/-- a call of a built-in class with keywords -/
theorem callWith_typeK {M : Model} {A : Around} {E : Value → Shared → Prop} {s : Shared} {env : Env} {pos : Pos} {T : String} {e : Expr} {rest : List Expr} {kws : List Keyword} {Q : Value → Shared → Prop}
    (h : wpAny M A (spliced (backTo pos (starEach (e :: rest) env))) (fun vs s₁ => wpAny M A (evalAll ((backToKw pos (keywordEach kws env)).map (·.2)))
      (fun kvs s₂ => wpAny M A (call (.type T) vs (((backToKw pos (keywordEach kws env)).filterMap (·.1)).zip kvs)) Q E s₂) E s₁) E s)
    (he : backTo pos (starEach (e :: rest) env) = (false, eval e env) :: backTo pos (starEach rest env) := by rfl)
    (hplain : (backTo pos (starEach (e :: rest) env)).any (·.1) = false := by rfl)
    (hall : (backToKw pos (keywordEach kws env)).all (·.1.isSome) = true := by rfl)
    (hkw : (backToKw pos (keywordEach kws env)).any (·.1.isNone) = false := by rfl) :
    wpAny M A (callWith pos (.type T) [] (backTo pos (starEach (e :: rest) env)) (backToKw pos (keywordEach kws env))) Q E s := by
  have h2 : wpAny M A (evalArgs (.type T) true (backTo pos (starEach (e :: rest) env)) (backToKw pos (keywordEach kws env))) (fun a s₁ => wpAny M A (call (.type T) ([] ++ a.pos) a.kw) Q E s₁) E s := by
    rw [he] at h ⊢
    exact evalArgs_kwB hall h
  unfold callWith
  refine wpAny_bind (wpAny_holding (wpAny_mono h2 (fun a s₁ h₁ => wpAny_bind (wpAny_standAt ?_)) fun _ _ x => x))
  simp only [hplain, hkw, Bool.or_false]
  refine wpAny_bind (wpAny_pure ?_)
  exact wpAny_bind (wpAny_mono h₁ (fun r s₂ hr => wpAny_bind (wpAny_holding (wpAny_point (wpAny_pure hr)))) fun _ _ x => x)
def gEnS (K : PySem.W.Frag) (R : It → Hp → Prop) (vs zs : List V) (H1 : Hp) : Prop := ∃ a xs c, vs = [.ref a] ∧ zs = [.int c] ∧ SqT K H1 a xs ∧ (-(2 ^ 62) ≤ c ∧ c < 2 ^ 62) ∧ R (Ites K a c) H1
def iEnumS (K : PySem.W.Frag) (ta tk : TA) : TI := fun σ H R => ta σ H fun vs H1 => tk σ H1 fun zs H2 => gEnS K R vs zs H2
theorem pi_enumS {X : Cx} (K : PySem.W.Frag) (hK : X.K = K) {e ce : Expr} {ta tk : TA} {p pos tpos kp : Pos} {elts : List Expr} {kk : Nat} (hg : Gl X "enumerate") (hm : X.mg "enumerate" = none) (ha : PA X [e] ta) (hk : PK X [⟨some "start", ce, kp⟩] tk) (hs : starEach [e] X.env = [(false, eval e X.env)] := by rfl) :
    PI X (.Tuple elts kk tpos) (.Call (.Name "enumerate" p) [e] [⟨some "start", ce, kp⟩] pos) (iEnumS K ta tk) := by
  subst hK
  refine ⟨fun pins s σ H R I h => ?_⟩
  refine wpAny_Call_Name_kw (ld_blt I hg hm boot_enumerate (callWith_typeK (thn (ha.run pos pins s σ H _ I h) fun us s1 ⟨vs, H1, I1, r1, q1⟩ => thn (hk.run pos pins s1 σ H1 _ I1 q1) fun ks s2 ⟨zs, H2, I2, r2, q2⟩ => ?_) (by rw [hs]; rfl) (by rw [hs]; rfl)))
  obtain ⟨a, xs, c, ex, ez, hq, hc, q⟩ := q2
  subst ex
  subst ez
  cases r1 with
  | cons r rr =>
    cases rr
    cases r
    cases r2 with
    | cons r' rr' =>
      cases rr'
      obtain ⟨t, rfl⟩ := r'
      obtain ⟨its, rv, p', hz⟩ := I2.tuple hq
      have pt : s2.heap.IsTuple a its.toArray := p'
      refine enum_begins_start (begins_tuple a its.toArray) pt (by omega) (by omega) fun h' he hit hsz hkp => wpAny_pyIter_enum he ?_
      have I3 : Inv X pins σ H2 { s2 with heap := h' } := I2.kept (t' := s2.toks) hkp
      refine ⟨s2.heap.objs.size + 1, [s2.heap.objs.size + 1, s2.heap.objs.size], _, _, H2, rfl, I3, turn_enumT a (s2.heap.objs.size + 1) s2.heap.objs.size c, ⟨⟨.none, by show IsEnum _ _ _ (c + ((0 : Nat) : Int)) _; rw [show c + ((0 : Nat) : Int) = c by omega]; exact he⟩, ⟨_, hit, rfl, rfl⟩, Nat.succ_ne_self _⟩, fun b hb => ?_, q⟩
      have e' : b = s2.heap.objs.size + 1 ∨ b = s2.heap.objs.size := by simpa using hb
      have hle : s2.heap.objs.size ≤ b := by
        rcases e' with z | z
        · rw [z]; exact Nat.le_add_right _ _
        · rw [z]; exact Nat.le_refl _
      exact I2.fpOk hle (I2.hok.fresh hle)
/-- a walk over it -/
theorem loopE {K : PySem.W.Frag} {a : Addr} {c : Int} {xs : List V} {B : V → Hp → (Hp → Prop) → Prop} {H0 : Hp} {Qd : Hp → Prop} (Pv : Nat → Hp → Prop) (h0 : Pv 0 H0) (st : ∀ i H, Pv i H → SqT K H a xs)
    (step : ∀ i x T H, xs[i]? = some x → Pv i H → H T = none → B (.ref T) (upd H T (.tup [.int (c + (i : Int)), x])) (Pv (i + 1))) (fin : ∀ H, Pv xs.length H → Qd H) :
    ∃ W : Nat → Nat → Hp → Prop, (∃ m, W 0 m H0) ∧ ∀ i m H, W i m H → ((Ites K a c).stop i H ∧ Qd H) ∨ ((Ites K a c).go i H ∧ ∃ Nx : Hp → Prop, (∀ H', Nx H' → ∃ m', m' < m ∧ W (i + 1) m' H') ∧ ∀ x H', (Ites K a c).yld i H x H' → B x H' Nx) := by
  refine ⟨fun i m H => i + m = xs.length ∧ Pv i H, ⟨_, Nat.zero_add _, h0⟩, ?_⟩
  rintro i m H ⟨e, p⟩
  have q := st i H p
  cases m with
  | zero =>
    obtain rfl : i = xs.length := e
    exact .inl ⟨⟨xs, q, Nat.le_refl _⟩, fin H p⟩
  | succ m =>
    have lt : i < xs.length := by omega
    refine .inr ⟨⟨xs, xs[i], q, List.getElem?_eq_getElem lt⟩, Pv (i + 1), fun H' p' => ⟨m, Nat.lt_succ_self m, by omega, p'⟩, ?_⟩
    rintro x _ ⟨T, y, rfl, nT, rfl, hy⟩
    exact step i y T H (hy xs q) p nT
/-! ### written data -/
def all2 {α β : Type} (f : α → β → Bool) : List α → List β → Bool
  | [], [] => true
  | a :: as, b :: bs => f a b && all2 f as bs
  | [], _ :: _ => false
  | _ :: _, [] => false
def wrB (K : PySem.W.Frag) : Nat → Value → PyData → Bool
  | 0 => fun _ _ => false
  | n + 1 => fun v d => match v, d with
    | .int i _, .int j => i == j
    | .str a _, .str b => a == b
    | .ref a, .tuple ds => (match K.lookup a with
      | some ⟨.type "tuple", _, .seq its _, _⟩ => decide (its.size ≤ 1000) && all2 (wrB K n) its.toList ds
      | _ => false)
    | _, _ => false
theorem all2_ok {K : PySem.W.Frag} {f : Value → PyData → Bool} (hf : ∀ v d, f v d = true → ∃ x, RelV x v ∧ ∀ H, Dp K H x d) : ∀ (vs : List Value) (ds : List PyData), all2 f vs ds = true → ∃ xs, Vals xs vs ∧ ∀ H, DpAll K H xs ds
  | [], [], _ => ⟨[], .nil, fun _ => .nil⟩
  | v :: vs, d :: ds, h => by
    rw [all2, Bool.and_eq_true] at h
    obtain ⟨x, r, dp⟩ := hf _ _ h.1
    obtain ⟨xs, rs, dps⟩ := all2_ok hf _ _ h.2
    exact ⟨x :: xs, .cons r rs, fun H => .cons (dp H) (dps H)⟩
  | [], d :: ds, h => by rw [all2] at h; cases h
  | v :: vs, [], h => by rw [all2] at h; cases h
theorem wr_ok {K : PySem.W.Frag} : ∀ n v d, wrB K n v d = true → ∃ x, RelV x v ∧ ∀ H, Dp K H x d
  | 0, v, d, h => by rw [wrB] at h; cases h
  | n + 1, v, d, h => by
    have ih := wr_ok (K := K) n
    rw [wrB] at h
    dsimp only at h
    split at h
    · exact ⟨.int _, ⟨_, by rw [eq_of_beq h]⟩, fun H => .int _⟩
    · exact ⟨.str _, ⟨_, by rw [eq_of_beq h]⟩, fun H => .str _⟩
    · rename_i a ds
      split at h
      · rename_i o d its n sl e
        rw [Bool.and_eq_true] at h
        obtain ⟨xs, r, dp⟩ := all2_ok ih _ _ h.2
        have hs := of_decide_eq_true h.1
        exact ⟨.ref a, rfl, fun H => .tup (.inr ⟨_, _, _, e, rfl, rfl, Nat.le_trans hs (by decide), r⟩) (dp H)⟩
      · cases h
    · cases h
/-- a written dict with text keys: what it holds, and what it does not hold -/
structure WTab (K : PySem.W.Frag) (w : World) (D : Addr) (rows : List (Str × PyData)) (miss : List Str) : Prop where
  kd : ∃ es n, KDict K w D es n
  at_ : ∀ z d, (z, d) ∈ rows → ∃ u v, PySem.W.nsIn K D z = some (some u) ∧ RelV v u ∧ ∀ H, Dp K H v d
  no : ∀ z ∈ miss, PySem.W.nsIn K D z = some none
def kTabW (K : PySem.W.Frag) (D : Addr) (rows : List (Str × PyData)) (miss : List Str) : Bool :=
  (rows.all fun r => match PySem.W.nsIn K D r.1 with
    | some (some u) => wrB K 12 u r.2
    | _ => false) && miss.all fun z => match PySem.W.nsIn K D z with
    | some none => true
    | _ => false
theorem wtab_of {K : PySem.W.Frag} {w : World} {D : Addr} {es : Array DictEntry} {n : Nat} {rows : List (Str × PyData)} {miss : List Str} (hl : K.lookup D = some ⟨.type "dict", none, .dict es n, #[]⟩) (hk : PySem.W.KeysLit w.params es.toList) (lo : (D == sysModules) = false) (h : kTabW K D rows miss = true) : WTab K w D rows miss := by
  unfold kTabW at h
  rw [Bool.and_eq_true] at h
  refine ⟨⟨es, n, hl, hk, lo⟩, fun z d m => ?_, fun z m => ?_⟩
  · have q := List.all_eq_true.mp h.1 _ m
    split at q
    · rename_i u e
      obtain ⟨x, r, dp⟩ := wr_ok 12 _ _ q
      exact ⟨u, x, e, r, dp⟩
    · cases q
  · have q := List.all_eq_true.mp h.2 _ m
    split at q
    · assumption
    · cases q
/-- D.get(k, x), D a written dict -/
def gKGet (K : PySem.W.Frag) (Q : VK) (D : Addr) (y d : V) (H3 : Hp) : Prop := ∃ z, y = .str z ∧ ((∃ u v, PySem.W.nsIn K D z = some (some u) ∧ RelV v u ∧ Q v H3) ∨ (PySem.W.nsIn K D z = some none ∧ Q d H3))
def tKGet2 (K : PySem.W.Frag) (w : World) (td ty tx : TE) : TE := fun σ H Q => td σ H fun x H1 => ∃ D es n, x = .ref D ∧ KDict K w D es n ∧ ty σ H1 fun y H2 => tx σ H2 fun d H3 => gKGet K Q D y d H3
section
variable {X : Cx} {o e f : Expr} {apos cpos : Pos} {td ty tx : TE}
theorem pe_kget2 (K : PySem.W.Frag) (hK : X.K = K) (w : World) (hw : X.w = w) (ho : PE X o td) (he : PE X e ty) (hf : PE X f tx) (m : M2 X o "get" apos e f cpos) : PE X (.Call (.Attribute o "get" apos) [e, f] [] cpos) (tKGet2 K w td ty tx) := by
  subst hK hw
  refine ⟨fun pins s σ H Q I h => ?_⟩
  refine wpAny_Call_method m.base m.few m.line PySem.F.plainAttrs_dict PySem.F.slot_dict_get PySem.F.type_dict_get (thn (ho.run pins s σ H _ I h) fun u s1 ⟨x, H1, I1, rx, D, es, n, ex, kd, q1⟩ => ?_)
  subst ex
  obtain rfl : u = Value.ref D := rx
  have hm1 := PySem.W.mapOf_K (prog := X.prog) (w := X.w) I1.kIn kd.at_ kd.lit
  refine ⟨hm1.typeIs, fun b q => ?_, ?_⟩
  · cases q
    exact ⟨_, I1.kIn _ _ kd.at_, rfl⟩
  rw [m.trees]
  refine Calls.callWith_builtin rfl (Calls.evalArgs_plain (Calls.spliced_cons (thn (he.run pins s1 σ H1 _ I1 q1) fun iv s2 ⟨y, H2, I2, ry, q2⟩ =>
    Calls.spliced_cons (thn (hf.run pins s2 σ H2 _ I2 q2) fun fv s3 ⟨d, H3, I3, rz, z, ey, q3⟩ => Calls.spliced_nil ?_))))
  subst ey
  obtain ⟨t, rfl⟩ := ry
  have hm3 := PySem.W.mapOf_K (prog := X.prog) (w := X.w) I3.kIn kd.at_ kd.lit
  refine call_meetsIn PySem.F.slot_dict_get hm3.typeIs PySem.F.entry_dict_get (PySem.F.args_dict_get_3 _ _ _) (meets_dict_get_default (PySem.strKind X.prog X.w) D (PySem.strKind_is X.prog X.w z t) kd.low fv) ⟨_, hm3, ?_⟩
  rcases q3 with ⟨u, v, e, r, q⟩ | ⟨e, q⟩
  · rw [PySem.W.find_K kd.at_ e]
    exact ⟨v, H3, I3.tok _, r, q⟩
  · rw [PySem.W.find_K kd.at_ e]
    exact ⟨d, H3, I3.tok _, rz, q⟩
end
def rInKD (K : PySem.W.Frag) (w : World) (neg : Bool) : R2 := fun x y H Q => ∃ z D es n r, x = .str z ∧ y = .ref D ∧ KDict K w D es n ∧ PySem.W.nsIn K D z = some r ∧ Q (.bl (if neg then !r.isSome else r.isSome)) H
theorem op_inKD {X : Cx} (K : PySem.W.Frag) (hK : X.K = K) (w : World) (hw : X.w = w) : OpR X (compareOp .In) (rInKD K w false) := by
  subst hK hw
  intro pins s σ H x y v u Q I rx ry ⟨z, D, es, n, r, ex, ey, kd, e, q⟩
  exact op_in_kd kd pins s σ H x y v u Q I rx ry ⟨z, r, ex, ey, e, q⟩
theorem op_notInKD {X : Cx} (K : PySem.W.Frag) (hK : X.K = K) (w : World) (hw : X.w = w) : OpR X (compareOp .NotIn) (rInKD K w true) := by
  subst hK hw
  intro pins s σ H x y v u Q I rx ry ⟨z, D, es, n, r, ex, ey, kd, e, q⟩
  exact op_notIn_kd kd pins s σ H x y v u Q I rx ry ⟨z, r, ex, ey, e, q⟩
theorem ix_KD {X : Cx} (K : PySem.W.Frag) (hK : X.K = K) (w : World) (hw : X.w = w) : IxR X (rIxD K w) := by subst hK hw; exact ix_kdict
section
variable {K : PySem.W.Frag} {w : World} {D : Addr} {rows : List (Str × PyData)} {miss : List Str} {H : Hp} {Q : VK} {z : Str} {d : PyData} {v : V}
theorem w_kget1 (T : WTab K w D rows miss) (m : (z, d) ∈ rows) (q : ∀ u, Dp K H u d → Q u H) : gKGet K Q D (.str z) v H := by
  obtain ⟨u, x, e, r, dp⟩ := T.at_ z d m
  exact ⟨z, rfl, .inl ⟨u, x, e, r, q x (dp H)⟩⟩
theorem w_kget0 (T : WTab K w D rows miss) (m : z ∈ miss) (q : Q v H) : gKGet K Q D (.str z) v H := ⟨z, rfl, .inr ⟨T.no z m, q⟩⟩
theorem w_ixD (T : WTab K w D rows miss) (m : (z, d) ∈ rows) (q : ∀ u, Dp K H u d → Q u H) : rIxD K w (.ref D) (.str z) H Q := by
  obtain ⟨u, x, e, r, dp⟩ := T.at_ z d m
  obtain ⟨es, n, kd⟩ := T.kd
  exact ⟨D, z, x, rfl, rfl, ⟨es, n, u, kd.at_, kd.lit, e, r⟩, q x (dp H)⟩
theorem w_inKD1 (T : WTab K w D rows miss) (m : (z, d) ∈ rows) (q : Q (.bl true) H) : rInKD K w false (.str z) (.ref D) H Q := by
  obtain ⟨u, x, e, r, dp⟩ := T.at_ z d m
  obtain ⟨es, n, kd⟩ := T.kd
  exact ⟨z, D, es, n, _, rfl, rfl, kd, e, q⟩
theorem w_inKD0 (T : WTab K w D rows miss) (m : z ∈ miss) (q : Q (.bl false) H) : rInKD K w false (.str z) (.ref D) H Q := by
  obtain ⟨es, n, kd⟩ := T.kd
  exact ⟨z, D, es, n, _, rfl, rfl, kd, T.no z m, q⟩
theorem w_ninKD1 (T : WTab K w D rows miss) (m : (z, d) ∈ rows) (q : Q (.bl false) H) : rInKD K w true (.str z) (.ref D) H Q := by
  obtain ⟨u, x, e, r, dp⟩ := T.at_ z d m
  obtain ⟨es, n, kd⟩ := T.kd
  exact ⟨z, D, es, n, _, rfl, rfl, kd, e, q⟩
theorem w_ninKD0 (T : WTab K w D rows miss) (m : z ∈ miss) (q : Q (.bl true) H) : rInKD K w true (.str z) (.ref D) H Q := by
  obtain ⟨es, n, kd⟩ := T.kd
  exact ⟨z, D, es, n, _, rfl, rfl, kd, T.no z m, q⟩
theorem w_kget {σ : L2.St} {td ty tx : TE} (T : WTab K w D rows miss) (q : td σ H fun x H1 => x = .ref D ∧ ty σ H1 fun y H2 => tx σ H2 fun d H3 => gKGet K Q D y d H3) (mono : ∀ (P P' : VK), (∀ v H, P v H → P' v H) → td σ H P → td σ H P') : tKGet2 K w td ty tx σ H Q := by
  obtain ⟨es, n, kd⟩ := T.kd
  exact mono _ _ (fun x H1 ⟨e, h⟩ => ⟨D, es, n, e, kd, h⟩) q
theorem w_kgetC {σ : L2.St} {ty tx : TE} (T : WTab K w D rows miss) (q : ty σ H fun y H2 => tx σ H2 fun d H3 => gKGet K Q D y d H3) : tKGet2 K w (tC (.ref D)) ty tx σ H Q := by
  obtain ⟨es, n, kd⟩ := T.kd
  exact ⟨D, es, n, rfl, kd, q⟩
end
end UT
namespace UT
open PySem PySem.Spec PyProof.Rows L2 U V
section
variable {K : PySem.W.Frag} {Z H H' : Hp} {so : Option (Addr × Addr)} {L L' : Cells} {a D : Addr} {xs : List V} {y z : V} {g : TG} {tt : TT} {te tk tv : TE} {vs : List Nat} {σ σw : L2.St}
/-- a comprehension over enumerate(t, start=c) -/
theorem lcEW {Qd : Addr → Hp → Prop} {c : Int} (F : Nat → List V) (w : Hw Z so H L) (hw : Wi σ vs σw) (hl : ∀ H', Hw Z so H' L → SqT K H' a xs) (h0 : F 0 = [])
    (hs : ∀ (i : Nat) (x : V) (T D : Addr) (H' : Hp), xs[i]? = some x → Hw Z so H' ((true, T, .tup [.int (c + (i : Int)), x]) :: (true, D, .lst (F i)) :: L) → g (.ref T) σw H' fun σ2 H2 => wipe σ2 vs = σw ∧ tt σ2 H2 fun b H3 =>
      if b = true then te σ2 H3 fun y H4 => gAcc D (LcI Z so L D (F (i + 1))) y H4 else LcI Z so L D (F (i + 1)) H3)
    (hd : ∀ (D : Addr) (H' : Hp), Hw Z so H' ((true, D, .lst (F xs.length)) :: L) → Qd D H') :
    ∀ D, H D = none → ∃ W : Nat → Nat → Hp → Prop, (∃ m, W 0 m (upd H D (.lst []))) ∧ ∀ i m H, W i m H →
      ((Ites K a c).stop i H ∧ Qd D H) ∨ ((Ites K a c).go i H ∧ ∃ Nx : Hp → Prop, (∀ H', Nx H' → ∃ m', m' < m ∧ W (i + 1) m' H') ∧ ∀ x H', (Ites K a c).yld i H x H' → g x (wipe σ vs) H' fun σ2 H2 => wipe σ2 vs = wipe σ vs ∧ tt σ2 H2 fun b H3 =>
        if b = true then te σ2 H3 fun y H4 => ∃ acc, H4 D = some (.lst acc) ∧ acc.length < sizeLine ∧ Nx (upd H4 D (.lst (acc ++ [y]))) else Nx H3) := fun D n => by
  rw [hw.eq]
  refine loopE (xs := xs) (fun i H => LcI Z so L D (F i) H) (by rw [h0]; exact w.new n) (fun i H h => hl H (h.sub (.skip (.refl _)))) (fun i x T H hx h nT => ?_) (fun H h => hd D H h)
  exact hs i x T D _ hx (V.Hw.new h nT)
theorem w_enS {ta tk' : TA} {R : It → Hp → Prop} (q : ta σ H fun vs H1 => tk' σ H1 fun zs H2 => gEnS K R vs zs H2) : iEnumS K ta tk' σ H R := q
theorem w_enS2 {c : Int} {R : It → Hp → Prop} (h : SqT K H a xs) (c0 : -(2 ^ 62) ≤ c) (c1 : c < 2 ^ 62) (q : R (Ites K a c) H) : gEnS K R [.ref a] [.int c] H := ⟨a, xs, c, rfl, rfl, h, ⟨c0, c1⟩, q⟩
end
/-! ### a comprehension over a tuple -/
theorem pi_tupK {X : Cx} {tg : Expr} (K : PySem.W.Frag) (hK : X.K = K) {l : Expr} {tl : TE} (hl : PE X l tl) : PI X tg l (iTup K tl) := by subst hK; exact pi_tup hl
theorem loopT {K : PySem.W.Frag} {a : Addr} {xs : List V} {B : V → Hp → (Hp → Prop) → Prop} {H0 : Hp} {Qd : Hp → Prop} (Pv : Nat → Hp → Prop) (h0 : Pv 0 H0) (st : ∀ i H, Pv i H → SqT K H a xs) (step : ∀ i x H, xs[i]? = some x → Pv i H → B x H (Pv (i + 1))) (fin : ∀ H, Pv xs.length H → Qd H) :
    ∃ W : Nat → Nat → Hp → Prop, (∃ m, W 0 m H0) ∧ ∀ i m H, W i m H → ((Itt K a).stop i H ∧ Qd H) ∨ ((Itt K a).go i H ∧ ∃ Nx : Hp → Prop, (∀ H', Nx H' → ∃ m', m' < m ∧ W (i + 1) m' H') ∧ ∀ x H', (Itt K a).yld i H x H' → B x H' Nx) := by
  refine ⟨fun i m H => i + m = xs.length ∧ Pv i H, ⟨_, Nat.zero_add _, h0⟩, ?_⟩
  rintro i m H ⟨e, p⟩
  have q := st i H p
  cases m with
  | zero =>
    obtain rfl : i = xs.length := e
    exact .inl ⟨⟨xs, q, Nat.le_refl _⟩, fin H p⟩
  | succ m =>
    have lt : i < xs.length := by omega
    refine .inr ⟨⟨xs, xs[i], q, List.getElem?_eq_getElem lt⟩, Pv (i + 1), fun H' p' => ⟨m, Nat.lt_succ_self m, by omega, p'⟩, ?_⟩
    rintro x _ ⟨rfl, y⟩
    exact step i x _ (y xs q) p
section
variable {K : PySem.W.Frag} {Z H H' : Hp} {so : Option (Addr × Addr)} {L L' : Cells} {a D : Addr} {xs : List V} {g : TG} {tt : TT} {te : TE} {vs : List Nat} {σ σw : L2.St}
def gIt (K : PySem.W.Frag) (R : It → Hp → Prop) (x : V) (H1 : Hp) : Prop := ∃ a, x = .ref a ∧ (∃ xs, SqT K H1 a xs) ∧ R (Itt K a) H1
theorem w_it {tl : TE} {R : It → Hp → Prop} (q : tl σ H (gIt K R)) : iTup K tl σ H R := q
theorem w_it2 {R : It → Hp → Prop} (h : SqT K H a xs) (q : R (Itt K a) H) : gIt K R (.ref a) H := ⟨a, rfl, ⟨xs, h⟩, q⟩
theorem lcTW {Qd : Addr → Hp → Prop} (F : Nat → List V) (w : Hw Z so H L) (hw : Wi σ vs σw) (hl : ∀ H', Hw Z so H' L → SqT K H' a xs) (h0 : F 0 = [])
    (hs : ∀ (i : Nat) (x : V) (D : Addr) (H' : Hp), xs[i]? = some x → Hw Z so H' ((true, D, .lst (F i)) :: L) → g x σw H' fun σ2 H2 => wipe σ2 vs = σw ∧ tt σ2 H2 fun b H3 =>
      if b = true then te σ2 H3 fun y H4 => gAcc D (LcI Z so L D (F (i + 1))) y H4 else LcI Z so L D (F (i + 1)) H3)
    (hd : ∀ (D : Addr) (H' : Hp), Hw Z so H' ((true, D, .lst (F xs.length)) :: L) → Qd D H') :
    ∀ D, H D = none → ∃ W : Nat → Nat → Hp → Prop, (∃ m, W 0 m (upd H D (.lst []))) ∧ ∀ i m H, W i m H →
      ((Itt K a).stop i H ∧ Qd D H) ∨ ((Itt K a).go i H ∧ ∃ Nx : Hp → Prop, (∀ H', Nx H' → ∃ m', m' < m ∧ W (i + 1) m' H') ∧ ∀ x H', (Itt K a).yld i H x H' → g x (wipe σ vs) H' fun σ2 H2 => wipe σ2 vs = wipe σ vs ∧ tt σ2 H2 fun b H3 =>
        if b = true then te σ2 H3 fun y H4 => ∃ acc, H4 D = some (.lst acc) ∧ acc.length < sizeLine ∧ Nx (upd H4 D (.lst (acc ++ [y]))) else Nx H3) := fun D n => by
  rw [hw.eq]
  refine loopT (xs := xs) (fun i H => LcI Z so L D (F i) H) (by rw [h0]; exact w.new n) (fun i H h => hl H (h.sub (.skip (.refl _)))) (fun i x H hx h => ?_) (fun H h => hd D H h)
  exact hs i x D H hx h
end
/-- unpacking a tuple, inside a comprehension -/
theorem pg_tupK {X : Cx} (K : PySem.W.Frag) (hK : X.K = K) {es : List Expr} {t : TGs} {kk n : Nat} {p : Pos} (hc : X.calm = true) (h : PGs X es t) (hn : (assignEach es X.env).length = n := by rfl) (hst : (assignEach es X.env).findIdx? (·.1) = none := by rfl) : PG X (.Tuple es kk p) (gTup K n t) := by
  subst hK; exact pg_tup hc h hn hst
end UT
end
section
/-! Kinds and terms as data. -/
namespace L2
open PySem PySem.Spec PyProof.Rows U
/-! ### data that stand -/
section
variable {K : PySem.W.Frag} {H H' : Hp}
theorem seqLs {a : Addr} {xs : List V} (e : Same H H') (h : SqL K H a xs) : SqL K H' a xs := e.seq h
mutual
theorem Dp.same (e : Same H H') : ∀ (d : PyData) (v : V), Dp K H v d → Dp K H' v d
  | .none, _, h => by cases h; exact .non
  | .bool b, _, h => by cases h; exact .bl b
  | .int i, _, h => by cases h; exact .int i
  | .str x, _, h => by cases h; exact .str x
  | .list ds, _, h => by
    cases h with
    | lst h1 h2 => exact .lst (seqLs e h1) (DpAll.same e ds _ h2)
  | .tuple ds, _, h => by
    cases h with
    | tup h1 h2 => exact .tup (V.seqT e h1) (DpAll.same e ds _ h2)
  | .dict kvs, _, h => by cases h
theorem DpAll.same (e : Same H H') : ∀ (ds : List PyData) (vs : List V), DpAll K H vs ds → DpAll K H' vs ds
  | [], _, h => by cases h; exact .nil
  | d :: ds, _, h => by
    cases h with
    | cons h1 h2 => exact .cons (Dp.same e d _ h1) (DpAll.same e ds _ h2)
end
theorem Dp.mono {v : V} {d : PyData} (h : Dp K H v d) (e : Same H H') : Dp K H' v d := Dp.same e d v h
theorem DpAll.mono {vs : List V} {ds : List PyData} (h : DpAll K H vs ds) (e : Same H H') : DpAll K H' vs ds := DpAll.same e ds vs h
theorem Dp.tupI {v : V} {ds : List PyData} (h : Dp K H v (.tuple ds)) : ∃ a xs, v = .ref a ∧ SqT K H a xs ∧ DpAll K H xs ds := by
  cases h with
  | tup h1 h2 => exact ⟨_, _, rfl, h1, h2⟩
theorem Dp.lstI {v : V} {ds : List PyData} (h : Dp K H v (.list ds)) : ∃ a xs, v = .ref a ∧ SqL K H a xs ∧ DpAll K H xs ds := by
  cases h with
  | lst h1 h2 => exact ⟨_, _, rfl, h1, h2⟩
theorem Dp.strI {v : V} {z : Str} (h : Dp K H v (.str z)) : v = .str z := by cases h; rfl
theorem Dp.intI {v : V} {n : Int} (h : Dp K H v (.int n)) : v = .int n := by cases h; rfl
theorem DpAll.consI {vs : List V} {d : PyData} {ds : List PyData} (h : DpAll K H vs (d :: ds)) : ∃ v ws, vs = v :: ws ∧ Dp K H v d ∧ DpAll K H ws ds := by
  cases h with
  | cons h1 h2 => exact ⟨_, _, rfl, h1, h2⟩
theorem DpAll.nilI {vs : List V} (h : DpAll K H vs []) : vs = [] := by cases h; rfl
theorem DpAll.len : ∀ {vs : List V} {ds : List PyData}, DpAll K H vs ds → vs.length = ds.length
  | _, [], h => by rw [h.nilI]; rfl
  | _, d :: ds, h => by
    obtain ⟨v, ws, rfl, _, h2⟩ := DpAll.consI h
    simp [DpAll.len h2]
theorem DpAll.at_ : ∀ {ds : List PyData} {vs : List V} {i : Nat} {d : PyData}, DpAll K H vs ds → ds[i]? = some d → ∃ v, vs[i]? = some v ∧ Dp K H v d
  | [], vs, i, d, h, e => by simp at e
  | d0 :: ds, vs, 0, d, h, e => by
    obtain ⟨v, ws, rfl, h1, h2⟩ := DpAll.consI h
    obtain rfl : d0 = d := by simpa using e
    exact ⟨v, rfl, h1⟩
  | d0 :: ds, vs, i + 1, d, h, e => by
    obtain ⟨v, ws, rfl, h1, h2⟩ := DpAll.consI h
    obtain ⟨x, h3, h4⟩ := DpAll.at_ (i := i) h2 (by simpa using e)
    exact ⟨x, by simpa using h3, h4⟩
theorem DpAll.app : ∀ {ds es : List PyData} {vs ws : List V}, DpAll K H vs ds → DpAll K H ws es → DpAll K H (vs ++ ws) (ds ++ es)
  | [], es, vs, ws, h, h' => by rw [h.nilI]; exact h'
  | d :: ds, es, vs, ws, h, h' => by
    obtain ⟨v, us, rfl, h1, h2⟩ := DpAll.consI h
    exact .cons h1 (DpAll.app h2 h')
theorem DpAll.strs : ∀ {zs : List Str} {vs : List V}, DpAll K H vs (zs.map PyData.str) → vs = zs.map V.str
  | [], _, h => h.nilI
  | z :: zs, _, h => by
    obtain ⟨v, us, rfl, h1, h2⟩ := DpAll.consI h
    rw [h1.strI, DpAll.strs h2]; rfl
theorem DpAll.ints : ∀ {zs : List Nat} {vs : List V}, DpAll K H vs (zs.map fun (n : Nat) => PyData.int (n : Int)) → vs = zs.map fun (n : Nat) => V.int (n : Int)
  | [], _, h => h.nilI
  | z :: zs, _, h => by
    obtain ⟨v, us, rfl, h1, h2⟩ := DpAll.consI h
    rw [h1.intI, DpAll.ints h2]; rfl
theorem DpAll.ofStrs : ∀ zs : List Str, DpAll K H (zs.map V.str) (zs.map PyData.str)
  | [] => .nil
  | z :: zs => .cons (.str z) (DpAll.ofStrs zs)
theorem DpAll.ofInts : ∀ zs : List Int, DpAll K H (zs.map V.int) (zs.map PyData.int)
  | [] => .nil
  | z :: zs => .cons (.int z) (DpAll.ofInts zs)
end
end L2
namespace UK
open PySem PySem.Spec PyProof.Rows L2 U
/-! ### kinds -/
inductive Kd where
  | int
  | fn (g : Str) (a b : Kd)
  | pair (a b : Kd)
  | either (a b : Kd)
  | box (g : Str) (a : Kd)
def Kd.d : Kd → PyData
  | .int => .tuple [.str "int"]
  | .fn g a b => .tuple [.str "fun", .str g, a.d, b.d]
  | .pair a b => .tuple [.str "pair", a.d, b.d]
  | .either a b => .tuple [.str "either", a.d, b.d]
  | .box g a => .tuple [.str "box", .str g, a.d]
def gch (c : Nat) : Bool := (decide (97 ≤ c) && decide (c ≤ 122)) || (decide (48 ≤ c) && decide (c ≤ 57)) || c == 60 || c == 47 || c == 62
def nch (c : Nat) : Bool := (decide (97 ≤ c) && decide (c ≤ 122)) || (decide (48 ≤ c) && decide (c ≤ 57))
/-- a text of a grade's signs -/
def GrOk (g : Str) : Prop := 0 < g.length ∧ g.length ≤ 8 ∧ ∀ c ∈ g.cps.toList, gch c = true
/-- a name as the laws draw it -/
def NmOk (z : Str) : Prop := 0 < z.length ∧ z.length ≤ 12 ∧ (∀ c ∈ z.cps.toList, nch c = true) ∧ (∃ c, z.cps.toList[0]? = some c ∧ 97 ≤ c ∧ c ≤ 122) ∧ (z.length = 1 ∨ ∃ c, z.cps.toList.getLast? = some c ∧ 48 ≤ c ∧ c ≤ 57)
def Kd.Wf : Kd → Prop
  | .int => True
  | .fn g a b => GrOk g ∧ a.Wf ∧ b.Wf
  | .pair a b => a.Wf ∧ b.Wf
  | .either a b => a.Wf ∧ b.Wf
  | .box g a => GrOk g ∧ a.Wf
def Kd.depth : Kd → Nat
  | .int => 1
  | .fn _ a b => max a.depth b.depth + 1
  | .pair a b => max a.depth b.depth + 1
  | .either a b => max a.depth b.depth + 1
  | .box _ a => a.depth + 1
/-! ### terms -/
inductive Op where | add | sub | mul | call | pair
  deriving DecidableEq
inductive Pre where | left | right | as
  deriving DecidableEq
def Op.s : Op → Str | .add => "add" | .sub => "sub" | .mul => "mul" | .call => "call" | .pair => "pair"
def Pre.s : Pre → Str | .left => "left" | .right => "right" | .as => "as"
inductive Tm where
  | int (n : Int)
  | name (x : Str)
  | gone (A : Kd)
  | op (w : Op) (a b : Tm)
  | fn (x g : Str) (A : Kd) (b : Tm)
  | split (x y : Str) (e b : Tm)
  | pre (w : Pre) (A : Kd) (a : Tm)
  | case (e : Tm) (x : Str) (a : Tm) (y : Str) (b : Tm)
  | box (g : Str) (e : Tm)
  | unbox (x : Str) (e b : Tm)
  | test (e a b : Tm)
  | rep (e : Tm) (x g : Str) (z s : Tm)
namespace Tm
def w : Tm → Str
  | int _ => "int" | name _ => "name" | gone _ => "gone" | op o _ _ => o.s | fn _ _ _ _ => "fn" | split _ _ _ _ => "split" | pre o _ _ => o.s
  | case _ _ _ _ _ => "case" | box _ _ => "box" | unbox _ _ _ => "unbox" | test _ _ _ => "test" | rep _ _ _ _ _ => "repeat"
def d : Tm → PyData
  | int n => .tuple [.str "int", .int n]
  | name x => .tuple [.str "name", .str x]
  | gone A => .tuple [.str "gone", A.d]
  | op o a b => .tuple [.str o.s, a.d, b.d]
  | fn x g A b => .tuple [.str "fn", .str x, .str g, A.d, b.d]
  | split x y e b => .tuple [.str "split", .str x, .str y, e.d, b.d]
  | pre o A a => .tuple [.str o.s, A.d, a.d]
  | case e x a y b => .tuple [.str "case", e.d, .str x, a.d, .str y, b.d]
  | box g e => .tuple [.str "box", .str g, e.d]
  | unbox x e b => .tuple [.str "unbox", .str x, e.d, b.d]
  | test e a b => .tuple [.str "test", e.d, a.d, b.d]
  | rep e x g z s => .tuple [.str "repeat", e.d, .str x, .str g, z.d, s.d]
/-- what stands in it, its word first -/
def its : Tm → List PyData
  | int n => [.str "int", .int n]
  | name x => [.str "name", .str x]
  | gone A => [.str "gone", A.d]
  | op o a b => [.str o.s, a.d, b.d]
  | fn x g A b => [.str "fn", .str x, .str g, A.d, b.d]
  | split x y e b => [.str "split", .str x, .str y, e.d, b.d]
  | pre o A a => [.str o.s, A.d, a.d]
  | case e x a y b => [.str "case", e.d, .str x, a.d, .str y, b.d]
  | box g e => [.str "box", .str g, e.d]
  | unbox x e b => [.str "unbox", .str x, e.d, b.d]
  | test e a b => [.str "test", e.d, a.d, b.d]
  | rep e x g z s => [.str "repeat", e.d, .str x, .str g, z.d, s.d]
def fields : Tm → List Str
  | int _ => [] | name _ => [] | gone _ => ["kind"] | op _ _ _ => ["term", "term"] | fn _ _ _ _ => ["binder", "gap", "kind", "term"] | split _ _ _ _ => ["binder", "binder", "term", "term"]
  | pre _ _ _ => ["kind", "term"] | case _ _ _ _ _ => ["term", "binder", "term", "binder", "term"] | box _ _ => ["grade", "term"] | unbox _ _ _ => ["binder", "term", "term"]
  | test _ _ _ => ["term", "term", "term"] | rep _ _ _ _ _ => ["term", "binder", "gap", "term", "term"]
/-- where its parts stand -/
def pos : Tm → List Nat
  | int _ => [] | name _ => [] | gone _ => [] | op _ _ _ => [1, 2] | fn _ _ _ _ => [4] | split _ _ _ _ => [3, 4]
  | pre _ _ _ => [2] | case _ _ _ _ _ => [1, 3, 5] | box _ _ => [2] | unbox _ _ _ => [2, 3]
  | test _ _ _ => [1, 2, 3] | rep _ _ _ _ _ => [1, 4, 5]
def parts : Tm → List Tm
  | int _ => [] | name _ => [] | gone _ => [] | op _ a b => [a, b] | fn _ _ _ b => [b] | split _ _ e b => [e, b]
  | pre _ _ a => [a] | case e _ a _ b => [e, a, b] | box _ e => [e] | unbox _ e b => [e, b] | test e a b => [e, a, b] | rep e _ _ z s => [e, z, s]
/-- for each part, where the names stand that are bound in it, and these names -/
def bpos : Tm → List (List Nat)
  | int _ => [] | name _ => [] | gone _ => [] | op _ _ _ => [[], []] | fn _ _ _ _ => [[1]] | split _ _ _ _ => [[], [1, 2]]
  | pre _ _ _ => [[]] | case _ _ _ _ _ => [[], [2], [4]] | box _ _ => [[]] | unbox _ _ _ => [[], [1]] | test _ _ _ => [[], [], []] | rep _ _ _ _ _ => [[], [], [2]]
def bnds : Tm → List (List Str)
  | int _ => [] | name _ => [] | gone _ => [] | op _ _ _ => [[], []] | fn x _ _ _ => [[x]] | split x y _ _ => [[], [x, y]]
  | pre _ _ _ => [[]] | case _ x _ y _ => [[], [x], [y]] | box _ _ => [[]] | unbox x _ _ => [[], [x]] | test _ _ _ => [[], [], []] | rep _ x _ _ _ => [[], [], [x]]
def binds : Tm → Bool
  | fn _ _ _ _ => true | split _ _ _ _ => true | case _ _ _ _ _ => true | unbox _ _ _ => true | rep _ _ _ _ _ => true | _ => false
def size : Tm → Nat
  | int _ => 1 | name _ => 1 | gone _ => 1 | op _ a b => a.size + b.size + 1 | fn _ _ _ b => b.size + 1 | split _ _ e b => e.size + b.size + 1
  | pre _ _ a => a.size + 1 | case e _ a _ b => e.size + a.size + b.size + 1 | box _ e => e.size + 1 | unbox _ e b => e.size + b.size + 1
  | test e a b => e.size + a.size + b.size + 1 | rep e _ _ z s => e.size + z.size + s.size + 1
def depth : Tm → Nat
  | int _ => 1 | name _ => 1 | gone _ => 1 | op _ a b => max a.depth b.depth + 1 | fn _ _ _ b => b.depth + 1 | split _ _ e b => max e.depth b.depth + 1
  | pre _ _ a => a.depth + 1 | case e _ a _ b => max e.depth (max a.depth b.depth) + 1 | box _ e => e.depth + 1 | unbox _ e b => max e.depth b.depth + 1
  | test e a b => max e.depth (max a.depth b.depth) + 1 | rep e _ _ z s => max e.depth (max z.depth s.depth) + 1
def fv : Tm → List Str
  | int _ => [] | name x => [x] | gone _ => [] | op _ a b => a.fv ++ b.fv | fn x _ _ b => b.fv.filter fun z => !decide (z ∈ [x])
  | split x y e b => e.fv ++ b.fv.filter fun z => !decide (z ∈ [x, y]) | pre _ _ a => a.fv
  | case e x a y b => e.fv ++ (a.fv.filter (fun z => !decide (z ∈ [x])) ++ b.fv.filter fun z => !decide (z ∈ [y])) | box _ e => e.fv
  | unbox x e b => e.fv ++ b.fv.filter fun z => !decide (z ∈ [x])
  | test e a b => e.fv ++ (a.fv ++ b.fv) | rep e x _ z s => e.fv ++ (z.fv ++ s.fv.filter fun z => !decide (z ∈ [x]))
def Wf (N : List Str) : Tm → Prop
  | int _ => True
  | name x => x ∈ N
  | gone A => A.Wf ∧ A.depth ≤ 8
  | op _ a b => a.Wf N ∧ b.Wf N
  | fn x g A b => x ∈ N ∧ (g = "?" ∨ GrOk g) ∧ (A.Wf ∧ A.depth ≤ 8) ∧ b.Wf N
  | split x y e b => x ∈ N ∧ y ∈ N ∧ e.Wf N ∧ b.Wf N
  | pre _ A a => (A.Wf ∧ A.depth ≤ 8) ∧ a.Wf N
  | case e x a y b => x ∈ N ∧ y ∈ N ∧ e.Wf N ∧ a.Wf N ∧ b.Wf N
  | box g e => GrOk g ∧ e.Wf N
  | unbox x e b => x ∈ N ∧ e.Wf N ∧ b.Wf N
  | test e a b => e.Wf N ∧ a.Wf N ∧ b.Wf N
  | rep e x g z s => x ∈ N ∧ (g = "?" ∨ GrOk g) ∧ e.Wf N ∧ z.Wf N ∧ s.Wf N
theorem d_its : ∀ t : Tm, t.d = .tuple t.its
  | int _ => rfl | name _ => rfl | gone _ => rfl | op _ _ _ => rfl | fn _ _ _ _ => rfl | split _ _ _ _ => rfl | pre _ _ _ => rfl | case _ _ _ _ _ => rfl
  | box _ _ => rfl | unbox _ _ _ => rfl | test _ _ _ => rfl | rep _ _ _ _ _ => rfl
theorem its0 : ∀ t : Tm, t.its[0]? = some (.str t.w)
  | int _ => rfl | name _ => rfl | gone _ => rfl | op _ _ _ => rfl | fn _ _ _ _ => rfl | split _ _ _ _ => rfl | pre _ _ _ => rfl | case _ _ _ _ _ => rfl
  | box _ _ => rfl | unbox _ _ _ => rfl | test _ _ _ => rfl | rep _ _ _ _ _ => rfl
theorem its_pos : ∀ t : Tm, t.pos.map (fun k => t.its[k]?) = t.parts.map fun p => some p.d
  | int _ => rfl | name _ => rfl | gone _ => rfl | op _ _ _ => rfl | fn _ _ _ _ => rfl | split _ _ _ _ => rfl | pre _ _ _ => rfl | case _ _ _ _ _ => rfl
  | box _ _ => rfl | unbox _ _ _ => rfl | test _ _ _ => rfl | rep _ _ _ _ _ => rfl
theorem its_bpos : ∀ t : Tm, t.bpos.map (fun ks => ks.map fun k => t.its[k]?) = t.bnds.map fun zs => zs.map fun z => some (PyData.str z)
  | int _ => rfl | name _ => rfl | gone _ => rfl | op _ _ _ => rfl | fn _ _ _ _ => rfl | split _ _ _ _ => rfl | pre _ _ _ => rfl | case _ _ _ _ _ => rfl
  | box _ _ => rfl | unbox _ _ _ => rfl | test _ _ _ => rfl | rep _ _ _ _ _ => rfl
theorem pos_len : ∀ t : Tm, t.pos.length = t.parts.length
  | int _ => rfl | name _ => rfl | gone _ => rfl | op _ _ _ => rfl | fn _ _ _ _ => rfl | split _ _ _ _ => rfl | pre _ _ _ => rfl | case _ _ _ _ _ => rfl
  | box _ _ => rfl | unbox _ _ _ => rfl | test _ _ _ => rfl | rep _ _ _ _ _ => rfl
theorem bnds_len : ∀ t : Tm, t.bnds.length = t.parts.length ∧ t.bpos.length = t.parts.length
  | int _ => ⟨rfl, rfl⟩ | name _ => ⟨rfl, rfl⟩ | gone _ => ⟨rfl, rfl⟩ | op _ _ _ => ⟨rfl, rfl⟩ | fn _ _ _ _ => ⟨rfl, rfl⟩ | split _ _ _ _ => ⟨rfl, rfl⟩ | pre _ _ _ => ⟨rfl, rfl⟩ | case _ _ _ _ _ => ⟨rfl, rfl⟩
  | box _ _ => ⟨rfl, rfl⟩ | unbox _ _ _ => ⟨rfl, rfl⟩ | test _ _ _ => ⟨rfl, rfl⟩ | rep _ _ _ _ _ => ⟨rfl, rfl⟩
theorem parts3 : ∀ t : Tm, t.parts.length ≤ 3
  | int _ => by simp [parts] | name _ => by simp [parts] | gone _ => by simp [parts] | op _ _ _ => by simp [parts] | fn _ _ _ _ => by simp [parts] | split _ _ _ _ => by simp [parts] | pre _ _ _ => by simp [parts] | case _ _ _ _ _ => by simp [parts]
  | box _ _ => by simp [parts] | unbox _ _ _ => by simp [parts] | test _ _ _ => by simp [parts] | rep _ _ _ _ _ => by simp [parts]
theorem bnds2 : ∀ t : Tm, ∀ bs ∈ t.bnds, bs.length ≤ 2
  | int _ => by simp [bnds] | name _ => by simp [bnds] | gone _ => by simp [bnds] | op _ _ _ => by simp [bnds] | fn _ _ _ _ => by simp [bnds] | split _ _ _ _ => by simp [bnds] | pre _ _ _ => by simp [bnds] | case _ _ _ _ _ => by simp [bnds]
  | box _ _ => by simp [bnds] | unbox _ _ _ => by simp [bnds] | test _ _ _ => by simp [bnds] | rep _ _ _ _ _ => by simp [bnds]
theorem size_parts : ∀ t : Tm, t.size = (t.parts.map size).sum + 1
  | int _ => rfl | name _ => rfl | gone _ => rfl | op _ _ _ => by simp [size, parts] | fn _ _ _ _ => by simp [size, parts] | split _ _ _ _ => by simp [size, parts]
  | pre _ _ _ => by simp [size, parts] | case _ _ _ _ _ => by simp [size, parts]; omega
  | box _ _ => by simp [size, parts] | unbox _ _ _ => by simp [size, parts] | test _ _ _ => by simp [size, parts]; omega | rep _ _ _ _ _ => by simp [size, parts]; omega
theorem size_pos (t : Tm) : 0 < t.size := by rw [size_parts]; exact Nat.succ_pos _
theorem depth_parts : ∀ t : Tm, t.depth = (t.parts.map depth).foldr max 0 + 1
  | int _ => rfl | name _ => rfl | gone _ => rfl | op _ _ _ => by simp [depth, parts] | fn _ _ _ _ => by simp [depth, parts] | split _ _ _ _ => by simp [depth, parts]
  | pre _ _ _ => by simp [depth, parts] | case _ _ _ _ _ => by simp [depth, parts]
  | box _ _ => by simp [depth, parts] | unbox _ _ _ => by simp [depth, parts] | test _ _ _ => by simp [depth, parts] | rep _ _ _ _ _ => by simp [depth, parts]
theorem foldr_max {xs : List Nat} {x : Nat} (h : x ∈ xs) : x ≤ xs.foldr max 0 := by
  induction xs with
  | nil => cases h
  | cons y ys ih =>
    rw [List.foldr_cons]
    rcases List.mem_cons.mp h with rfl | h
    · exact Nat.le_max_left _ _
    · exact Nat.le_trans (ih h) (Nat.le_max_right _ _)
theorem depth_lt {t p : Tm} (h : p ∈ t.parts) : p.depth < t.depth := by
  rw [depth_parts t]
  exact Nat.lt_succ_of_le (foldr_max (List.mem_map_of_mem h))
theorem sum_le {xs : List Nat} {x : Nat} (h : x ∈ xs) : x ≤ xs.sum := by
  induction xs with
  | nil => cases h
  | cons y ys ih =>
    rw [List.sum_cons]
    rcases List.mem_cons.mp h with rfl | h
    · omega
    · have := ih h; omega
theorem size_lt {t p : Tm} (h : p ∈ t.parts) : p.size < t.size := by
  rw [size_parts t]
  exact Nat.lt_succ_of_le (sum_le (List.mem_map_of_mem h))
theorem Wf.part {N : List Str} {t p : Tm} (h : t.Wf N) (m : p ∈ t.parts) : p.Wf N := by
  cases t <;> simp only [parts, List.mem_cons, List.not_mem_nil, or_false] at m <;> simp only [Wf] at h
  · rcases m with rfl | rfl
    · exact h.1
    · exact h.2
  · subst m; exact h.2.2.2
  · rcases m with rfl | rfl
    · exact h.2.2.1
    · exact h.2.2.2
  · subst m; exact h.2
  · rcases m with rfl | rfl | rfl
    · exact h.2.2.1
    · exact h.2.2.2.1
    · exact h.2.2.2.2
  · subst m; exact h.2
  · rcases m with rfl | rfl
    · exact h.2.1
    · exact h.2.2
  · rcases m with rfl | rfl | rfl
    · exact h.1
    · exact h.2.1
    · exact h.2.2
  · rcases m with rfl | rfl | rfl
    · exact h.2.2.1
    · exact h.2.2.2.1
    · exact h.2.2.2.2
/-- free names by the parts -/
theorem fv_parts : ∀ (t : Tm) (z : Str), z ∈ t.fv ↔ (t = name z) ∨ ∃ (i : Nat) (p : Tm) (bs : List Str), t.parts[i]? = some p ∧ t.bnds[i]? = some bs ∧ z ∈ p.fv ∧ z ∉ bs := by
  have one : ∀ {p0 : Tm} {b0 : List Str} {z : Str}, (∃ (i : Nat) (p : Tm) (bs : List Str), ([p0] : List Tm)[i]? = some p ∧ ([b0] : List (List Str))[i]? = some bs ∧ z ∈ p.fv ∧ z ∉ bs) ↔ (z ∈ p0.fv ∧ z ∉ b0) := by
    intro p0 b0 z
    constructor
    · rintro ⟨i, p, bs, h1, h2, h3⟩
      match i, h1, h2 with
      | 0, h1, h2 => cases h1; cases h2; exact h3
      | i + 1, h1, _ => simp at h1
    · intro h; exact ⟨0, p0, b0, rfl, rfl, h⟩
  have two : ∀ {p0 p1 : Tm} {b0 b1 : List Str} {z : Str}, (∃ (i : Nat) (p : Tm) (bs : List Str), ([p0, p1] : List Tm)[i]? = some p ∧ ([b0, b1] : List (List Str))[i]? = some bs ∧ z ∈ p.fv ∧ z ∉ bs) ↔ ((z ∈ p0.fv ∧ z ∉ b0) ∨ (z ∈ p1.fv ∧ z ∉ b1)) := by
    intro p0 p1 b0 b1 z
    constructor
    · rintro ⟨i, p, bs, h1, h2, h3⟩
      match i, h1, h2 with
      | 0, h1, h2 => cases h1; cases h2; exact .inl h3
      | 1, h1, h2 => cases h1; cases h2; exact .inr h3
      | i + 2, h1, _ => simp at h1
    · rintro (h | h)
      · exact ⟨0, p0, b0, rfl, rfl, h⟩
      · exact ⟨1, p1, b1, rfl, rfl, h⟩
  have three : ∀ {p0 p1 p2 : Tm} {b0 b1 b2 : List Str} {z : Str}, (∃ (i : Nat) (p : Tm) (bs : List Str), ([p0, p1, p2] : List Tm)[i]? = some p ∧ ([b0, b1, b2] : List (List Str))[i]? = some bs ∧ z ∈ p.fv ∧ z ∉ bs) ↔ ((z ∈ p0.fv ∧ z ∉ b0) ∨ (z ∈ p1.fv ∧ z ∉ b1) ∨ (z ∈ p2.fv ∧ z ∉ b2)) := by
    intro p0 p1 p2 b0 b1 b2 z
    constructor
    · rintro ⟨i, p, bs, h1, h2, h3⟩
      match i, h1, h2 with
      | 0, h1, h2 => cases h1; cases h2; exact .inl h3
      | 1, h1, h2 => cases h1; cases h2; exact .inr (.inl h3)
      | 2, h1, h2 => cases h1; cases h2; exact .inr (.inr h3)
      | i + 3, h1, _ => simp at h1
    · rintro (h | h | h)
      · exact ⟨0, p0, b0, rfl, rfl, h⟩
      · exact ⟨1, p1, b1, rfl, rfl, h⟩
      · exact ⟨2, p2, b2, rfl, rfl, h⟩
  intro t z
  cases t with
  | int n => simp [fv, parts]
  | name x => simp [fv, parts, eq_comm]
  | gone A => simp [fv, parts]
  | op o a b => simp only [parts, bnds]; rw [two]; simp [fv]
  | fn x g A b => simp only [parts, bnds]; rw [one]; simp [fv]
  | split x y e b => simp only [parts, bnds]; rw [two]; simp [fv]
  | pre o A a => simp only [parts, bnds]; rw [one]; simp [fv]
  | case e x a y b => simp only [parts, bnds]; rw [three]; simp [fv]
  | box g e => simp only [parts, bnds]; rw [one]; simp [fv]
  | unbox x e b => simp only [parts, bnds]; rw [two]; simp [fv]
  | test e a b => simp only [parts, bnds]; rw [three]; simp [fv]
  | rep e x g z' s => simp only [parts, bnds]; rw [three]; simp [fv]
theorem fv_sub {N : List Str} : ∀ {t : Tm}, t.Wf N → ∀ z ∈ t.fv, z ∈ N := by
  intro t
  generalize hn : t.size = n
  induction n using Nat.strongRecOn generalizing t with
  | _ n ih =>
    intro h z hz
    rcases (fv_parts t z).mp hz with rfl | ⟨i, p, bs, h1, h2, h3, h4⟩
    · exact h
    · have m := List.mem_of_getElem? h1
      exact ih p.size (by rw [← hn]; exact size_lt m) rfl (h.part m) z h3
end Tm
/-- the term t stands at v -/
abbrev TmAt (K : PySem.W.Frag) (H : Hp) (v : V) (t : Tm) : Prop := Dp K H v t.d
abbrev TmAll (K : PySem.W.Frag) (H : Hp) (vs : List V) (ts : List Tm) : Prop := DpAll K H vs (ts.map Tm.d)
theorem TmAt.open {K : PySem.W.Frag} {H : Hp} {v : V} {t : Tm} (h : TmAt K H v t) : ∃ a xs, v = .ref a ∧ SqT K H a xs ∧ DpAll K H xs t.its := by
  unfold TmAt at h
  rw [t.d_its] at h
  exact Dp.tupI h
theorem TmAt.mk {K : PySem.W.Frag} {H : Hp} {a : Addr} {xs : List V} {t : Tm} (h : SqT K H a xs) (h2 : DpAll K H xs t.its) : TmAt K H (.ref a) t := by
  unfold TmAt; rw [t.d_its]; exact .tup h h2
/-- the things that stand at places of a row -/
def pick (xs : List V) (ks : List Nat) : List V := ks.map fun k => xs.getD k .non
theorem pick_all {K : PySem.W.Frag} {H : Hp} {xs : List V} {its : List PyData} (h : DpAll K H xs its) : ∀ {ks : List Nat} {ds : List PyData}, ks.map (fun k => its[k]?) = ds.map some → DpAll K H (pick xs ks) ds ∧ ∀ k ∈ ks, k < xs.length
  | [], [], _ => ⟨.nil, fun _ h => nomatch h⟩
  | [], _ :: _, e => by simp at e
  | _ :: _, [], e => by simp at e
  | k :: ks, d :: ds, e => by
    simp only [List.map_cons, List.cons.injEq] at e
    obtain ⟨v, h1, h2⟩ := h.at_ e.1
    obtain ⟨p1, p2⟩ := pick_all h e.2
    have hv : xs.getD k .non = v := by rw [List.getD_eq_getElem?_getD, h1]; rfl
    refine ⟨.cons (by show Dp K H (xs.getD k .non) d; rw [hv]; exact h2) p1, fun j hj => ?_⟩
    rcases List.mem_cons.mp hj with rfl | hj
    · exact (List.getElem?_eq_some_iff.mp h1).1
    · exact p2 j hj
theorem pick_parts {K : PySem.W.Frag} {H : Hp} {xs : List V} {t : Tm} (h : DpAll K H xs t.its) : TmAll K H (pick xs t.pos) t.parts ∧ ∀ k ∈ t.pos, k < xs.length := by
  refine pick_all h ?_
  rw [t.its_pos, List.map_map]; rfl
theorem pick_bnd {K : PySem.W.Frag} {H : Hp} {xs : List V} {t : Tm} {i : Nat} {ks : List Nat} {bs : List Str} (h : DpAll K H xs t.its) (h1 : t.bpos[i]? = some ks) (h2 : t.bnds[i]? = some bs) : pick xs ks = bs.map V.str ∧ ∀ k ∈ ks, k < xs.length := by
  have e := congrArg (fun l => l[i]?) t.its_bpos
  rw [List.getElem?_map, List.getElem?_map, h1, h2] at e
  have e2 : ks.map (fun k => t.its[k]?) = (bs.map PyData.str).map some := by
    rw [List.map_map]; exact Option.some.inj e
  obtain ⟨p1, p2⟩ := pick_all h e2
  exact ⟨DpAll.strs p1, p2⟩
theorem TmAll.at_ {K : PySem.W.Frag} {H : Hp} {vs : List V} {ts : List Tm} {i : Nat} {t : Tm} (h : TmAll K H vs ts) (e : ts[i]? = some t) : ∃ v, vs[i]? = some v ∧ TmAt K H v t := DpAll.at_ h (by rw [List.getElem?_map, e]; rfl)
theorem TmAll.len {K : PySem.W.Frag} {H : Hp} {vs : List V} {ts : List Tm} (h : TmAll K H vs ts) : vs.length = ts.length := by have := DpAll.len h; rwa [List.length_map] at this
/-! ### the program's tables -/
def rowsTF : List (Str × PyData) := [("add", .tuple [.str "term", .str "term"]), ("sub", .tuple [.str "term", .str "term"]), ("mul", .tuple [.str "term", .str "term"]), ("fn", .tuple [.str "binder", .str "gap", .str "kind", .str "term"]),
  ("call", .tuple [.str "term", .str "term"]), ("pair", .tuple [.str "term", .str "term"]), ("split", .tuple [.str "binder", .str "binder", .str "term", .str "term"]), ("left", .tuple [.str "kind", .str "term"]), ("right", .tuple [.str "kind", .str "term"]),
  ("case", .tuple [.str "term", .str "binder", .str "term", .str "binder", .str "term"]), ("box", .tuple [.str "grade", .str "term"]), ("unbox", .tuple [.str "binder", .str "term", .str "term"]), ("test", .tuple [.str "term", .str "term", .str "term"]),
  ("repeat", .tuple [.str "term", .str "binder", .str "gap", .str "term", .str "term"]), ("as", .tuple [.str "kind", .str "term"]), ("gone", .tuple [.str "kind"])]
def missTF : List Str := ["int", "name"]
def rowsBI : List (Str × PyData) := [("fn", .tuple [.tuple [.int 1]]), ("split", .tuple [.tuple [], .tuple [.int 1, .int 2]]), ("case", .tuple [.tuple [], .tuple [.int 2], .tuple [.int 4]]), ("unbox", .tuple [.tuple [], .tuple [.int 1]]), ("repeat", .tuple [.tuple [], .tuple [], .tuple [.int 2]])]
def missBI : List Str := ["int", "name", "gone", "add", "sub", "mul", "call", "pair", "left", "right", "as", "box", "test"]
theorem tf_row : ∀ t : Tm, ((t.w, PyData.tuple (t.fields.map .str)) ∈ rowsTF) ∨ (t.w ∈ missTF ∧ t.fields = [])
  | .int _ => .inr ⟨by simp [Tm.w, missTF], rfl⟩ | .name _ => .inr ⟨by simp [Tm.w, missTF], rfl⟩ | .gone _ => .inl (by simp [Tm.w, Tm.fields, rowsTF])
  | .op o _ _ => .inl (by cases o <;> simp [Tm.w, Tm.fields, rowsTF, Op.s]) | .fn _ _ _ _ => .inl (by simp [Tm.w, Tm.fields, rowsTF]) | .split _ _ _ _ => .inl (by simp [Tm.w, Tm.fields, rowsTF])
  | .pre o _ _ => .inl (by cases o <;> simp [Tm.w, Tm.fields, rowsTF, Pre.s]) | .case _ _ _ _ _ => .inl (by simp [Tm.w, Tm.fields, rowsTF])
  | .box _ _ => .inl (by simp [Tm.w, Tm.fields, rowsTF]) | .unbox _ _ _ => .inl (by simp [Tm.w, Tm.fields, rowsTF]) | .test _ _ _ => .inl (by simp [Tm.w, Tm.fields, rowsTF]) | .rep _ _ _ _ _ => .inl (by simp [Tm.w, Tm.fields, rowsTF])
theorem bi_row : ∀ t : Tm, (t.binds = true ∧ (t.w, PyData.tuple (t.bpos.map fun ks => .tuple (ks.map fun (k : Nat) => .int (k : Int)))) ∈ rowsBI) ∨ (t.w ∈ missBI ∧ t.binds = false ∧ ∀ ks ∈ t.bpos, ks = [])
  | .int _ => .inr ⟨by simp [Tm.w, missBI], rfl, by simp [Tm.bpos]⟩ | .name _ => .inr ⟨by simp [Tm.w, missBI], rfl, by simp [Tm.bpos]⟩ | .gone _ => .inr ⟨by simp [Tm.w, missBI], rfl, by simp [Tm.bpos]⟩
  | .op o _ _ => .inr ⟨by cases o <;> simp [Tm.w, missBI, Op.s], rfl, by simp [Tm.bpos]⟩ | .fn _ _ _ _ => .inl (by simp [Tm.w, Tm.bpos, rowsBI, Tm.binds]) | .split _ _ _ _ => .inl (by simp [Tm.w, Tm.bpos, rowsBI, Tm.binds])
  | .pre o _ _ => .inr ⟨by cases o <;> simp [Tm.w, missBI, Pre.s], rfl, by simp [Tm.bpos]⟩ | .case _ _ _ _ _ => .inl (by simp [Tm.w, Tm.bpos, rowsBI, Tm.binds])
  | .box _ _ => .inr ⟨by simp [Tm.w, missBI], rfl, by simp [Tm.bpos]⟩ | .unbox _ _ _ => .inl (by simp [Tm.w, Tm.bpos, rowsBI, Tm.binds]) | .test _ _ _ => .inr ⟨by simp [Tm.w, missBI], rfl, by simp [Tm.bpos]⟩ | .rep _ _ _ _ _ => .inl (by simp [Tm.w, Tm.bpos, rowsBI, Tm.binds])
/-- the places of the fields that are terms -/
def posOf : Nat → List Str → List Nat
  | _, [] => []
  | i, f :: fs => if f = "term" then i :: posOf (i + 1) fs else posOf (i + 1) fs
theorem pos_fields : ∀ t : Tm, posOf 1 t.fields = t.pos
  | .int _ => rfl | .name _ => rfl | .gone _ => rfl | .op _ _ _ => rfl | .fn _ _ _ _ => rfl | .split _ _ _ _ => rfl | .pre _ _ _ => rfl | .case _ _ _ _ _ => rfl
  | .box _ _ => rfl | .unbox _ _ _ => rfl | .test _ _ _ => rfl | .rep _ _ _ _ _ => rfl
theorem posOf_snoc (f : Str) : ∀ (i : Nat) (fs : List Str), posOf i (fs ++ [f]) = posOf i fs ++ (if f = "term" then [i + fs.length] else [])
  | i, [] => by simp [posOf]
  | i, g :: fs => by
    rw [List.cons_append, posOf, posOf, posOf_snoc f (i + 1) fs, List.length_cons]
    have e : i + 1 + fs.length = i + (fs.length + 1) := by omega
    rw [e]
    split
    · rfl
    · rfl
end UK
end
section
/-! Marks (dicts of names), sorted texts, walks over enumerate and over a dict's keys. -/
namespace UM
open PySem PySem.Spec PyProof.Rows L2 U UK V
/-! ### marks -/
def addM (kvs : List (Key × V)) (z : Str) : List (Key × V) := putK kvs (Sum.inr z) (.bl true)
def mkM (zs : List Str) : List (Key × V) := zs.foldl addM []
def kys (zs : List Str) : List Str := zs.foldl (fun acc z => if z ∈ acc then acc else acc ++ [z]) []
theorem mkM_snoc (zs : List Str) (z : Str) : mkM (zs ++ [z]) = putK (mkM zs) (Sum.inr z) (.bl true) := by
  unfold mkM; rw [List.foldl_append]; rfl
theorem kys_snoc (zs : List Str) (z : Str) : kys (zs ++ [z]) = if z ∈ kys zs then kys zs else kys zs ++ [z] := by
  unfold kys; rw [List.foldl_append]; rfl
theorem snoc_rec {α : Type} {P : List α → Prop} (h0 : P []) (hs : ∀ l x, P l → P (l ++ [x])) (l : List α) : P l := by
  have : ∀ n (l : List α), l.length = n → P l := fun n => by
    induction n with
    | zero => intro l h; rw [List.length_eq_zero_iff.mp h]; exact h0
    | succ n ih =>
      intro l h
      have ne : l ≠ [] := fun e => by rw [e] at h; cases h
      rw [← List.dropLast_concat_getLast ne]
      exact hs _ _ (ih _ (by rw [List.length_dropLast]; omega))
  exact this _ l rfl
theorem mkM_len (zs : List Str) : (mkM zs).length ≤ zs.length := by
  refine snoc_rec (P := fun zs => (mkM zs).length ≤ zs.length) (Nat.le_refl _) (fun l x h => ?_) zs
  rw [mkM_snoc]
  have := putK_le (mkM l) (Sum.inr x) (.bl true)
  rw [List.length_append]
  show _ ≤ l.length + 1
  omega
theorem mkM_val (z : Str) (zs : List Str) : valV (mkM zs) (Sum.inr z : Key) = if z ∈ zs then some (.bl true) else none := by
  refine snoc_rec (P := fun zs => valV (mkM zs) (Sum.inr z : Key) = if z ∈ zs then some (.bl true) else none) rfl (fun l x h => ?_) zs
  rw [mkM_snoc, valV_put]
  by_cases e : z = x
  · subst e
    rw [if_pos rfl, if_pos (by simp)]
  · rw [if_neg (fun q => e (Sum.inr.inj q)), h]
    have : (z ∈ l ++ [x]) ↔ z ∈ l := by simp [e]
    simp only [this]
theorem kys_mem (z : Str) (zs : List Str) : z ∈ kys zs ↔ z ∈ zs := by
  refine snoc_rec (P := fun zs => z ∈ kys zs ↔ z ∈ zs) Iff.rfl (fun l x h => ?_) zs
  rw [kys_snoc]
  by_cases e : x ∈ kys l
  · rw [if_pos e, h]
    constructor
    · intro q; simp [q]
    · intro q
      rcases List.mem_append.mp q with q | q
      · exact q
      · rw [List.mem_singleton] at q
        subst q
        exact h.mp e
  · rw [if_neg e]; simp [h]
theorem kys_nodup (zs : List Str) : (kys zs).Nodup := by
  refine snoc_rec (P := fun zs => (kys zs).Nodup) List.nodup_nil (fun l x h => ?_) zs
  rw [kys_snoc]
  split
  · exact h
  · rename_i e
    rw [List.nodup_append]
    exact ⟨h, by simp, fun a ha b hb => by rw [List.mem_singleton] at hb; subst hb; intro q; subst q; exact e ha⟩
theorem keys_put (kvs : List (Key × V)) (ks : List Str) (z : Str) (v : V) (h : kvs.map (·.1) = ks.map Sum.inr) : (putK kvs (Sum.inr z) v).map (·.1) = (if z ∈ ks then ks else ks ++ [z]).map Sum.inr := by
  unfold putK
  have e1 : (kvs.any fun kv => decide (kv.1 = (Sum.inr z : Key))) = decide (z ∈ ks) := by
    have : (kvs.any fun kv => decide (kv.1 = (Sum.inr z : Key))) = (kvs.map (·.1)).any fun k => decide (k = (Sum.inr z : Key)) := by rw [List.any_map]; rfl
    rw [this, h, List.any_map, Bool.eq_iff_iff, List.any_eq_true, decide_eq_true_iff]
    constructor
    · rintro ⟨x, hx, e⟩
      have e := of_decide_eq_true e
      rw [← Sum.inr.inj e]; exact hx
    · intro hx; exact ⟨z, hx, decide_eq_true rfl⟩
  rw [e1]
  by_cases m : z ∈ ks
  · rw [if_pos (decide_eq_true m), if_pos m, List.map_map]
    have : (fun kv : Key × V => if kv.1 = (Sum.inr z : Key) then (kv.1, v) else kv).comp id = (fun kv : Key × V => if kv.1 = (Sum.inr z : Key) then (kv.1, v) else kv) := rfl
    rw [← h]
    refine List.map_congr_left fun kv _ => ?_
    show (if kv.1 = (Sum.inr z : Key) then (kv.1, v) else kv).1 = kv.1
    split <;> rfl
  · rw [if_neg (by simp [m]), if_neg m, List.map_append, List.map_append, h]; rfl
theorem mkM_keys (zs : List Str) : (mkM zs).map (·.1) = (kys zs).map Sum.inr := by
  refine snoc_rec (P := fun zs => (mkM zs).map (·.1) = (kys zs).map Sum.inr) rfl (fun l x h => ?_) zs
  rw [mkM_snoc, kys_snoc]
  exact keys_put _ _ _ _ h
theorem mkM_key {zs : List Str} {i : Nat} {k : Key} {v : V} (h : (mkM zs)[i]? = some (k, v)) : ∃ z, k = Sum.inr z ∧ (kys zs)[i]? = some z := by
  have e := congrArg (fun l => l[i]?) (mkM_keys zs)
  rw [List.getElem?_map, h, List.getElem?_map] at e
  cases q : (kys zs)[i]? with
  | none => rw [q] at e; cases e
  | some z => rw [q] at e; exact ⟨z, Option.some.inj e, rfl⟩
theorem mkM_klen (zs : List Str) : (mkM zs).length = (kys zs).length := by
  have e := congrArg List.length (mkM_keys zs)
  rwa [List.length_map, List.length_map] at e
/-! ### a row without doubles within few names is short -/
theorem nodup_le {N : List Str} : ∀ {zs : List Str}, zs.Nodup → (∀ z ∈ zs, z ∈ N) → zs.length ≤ N.length := by
  induction N with
  | nil =>
    intro zs _ h
    cases zs with
    | nil => exact Nat.le_refl _
    | cons z zs => exact absurd (h z (List.mem_cons_self ..)) (by simp)
  | cons n N ih =>
    intro zs nd h
    have nd2 : (zs.filter fun z => decide (z ≠ n)).Nodup := nd.filter _
    have l2 := ih nd2 fun z hz => by
      rw [List.mem_filter] at hz
      rcases List.mem_cons.mp (h z hz.1) with e | e
      · exact absurd e (of_decide_eq_true hz.2)
      · exact e
    have l1 : zs.length ≤ (zs.filter fun z => decide (z ≠ n)).length + 1 := by
      clear ih l2 nd2 h
      induction zs with
      | nil => exact Nat.zero_le _
      | cons z zs ih =>
        rw [List.nodup_cons] at nd
        rw [List.filter_cons]
        by_cases e : z = n
        · subst e
          have : zs.filter (fun y => decide (y ≠ z)) = zs := List.filter_eq_self.mpr fun y hy => decide_eq_true fun q => nd.1 (q ▸ hy)
          rw [if_neg (by simp), this]
          exact Nat.le_refl _
        · rw [if_pos (decide_eq_true e), List.length_cons, List.length_cons]
          have := ih nd.2
          omega
    rw [List.length_cons]
    omega
/-! ### sorted texts -/
theorem rise_pw : ∀ (p : Str) (l : List Str), risingS p l = true → (p :: l).Pairwise fun a b => a.cps.toList ≤ b.cps.toList
  | p, [], _ => List.pairwise_singleton _ _
  | p, x :: r, h => by
    have h : (!ltCps x.cps.toList p.cps.toList && risingS x r) = true := h
    rw [Bool.and_eq_true, PyProof.Rows.ltCps_eq] at h
    have ih := rise_pw x r h.2
    have px : p.cps.toList ≤ x.cps.toList := by
      have := h.1
      simp only [Bool.not_eq_true', decide_eq_false_iff_not] at this
      exact List.not_lt.mp this
    refine List.pairwise_cons.mpr ⟨fun b hb => ?_, ih⟩
    rcases List.mem_cons.mp hb with rfl | hb
    · exact px
    · exact List.le_trans px (List.rel_of_pairwise_cons ih hb)
theorem sorted_pw : ∀ {l : List Str}, sortedS l = true → l.Pairwise fun a b => a.cps.toList ≤ b.cps.toList
  | [], _ => List.Pairwise.nil
  | x :: r, h => rise_pw x r h
theorem str_ext {a b : Str} (h : a.cps.toList = b.cps.toList) : a = b := by
  cases a; cases b
  congr
  exact Array.toList_inj.mp h
/-- two sorted rows of the same texts -/
theorem sorted_eq {xs ys us vs : List Str} (h1 : sortedS us = true) (p1 : us.Perm xs) (h2 : sortedS vs = true) (p2 : vs.Perm ys) (n1 : xs.Nodup) (n2 : ys.Nodup) (m : ∀ z, z ∈ xs ↔ z ∈ ys) : us = vs := by
  have p : us.Perm vs := p1.trans ((List.perm_ext_iff_of_nodup n1 n2).mpr m |>.trans p2.symm)
  exact List.Perm.eq_of_pairwise (fun a b _ _ h h' => str_ext (List.le_antisymm h h')) (sorted_pw h1) (sorted_pw h2) p
/-! ### walks -/
section
variable {K : PySem.W.Frag} {Z H H' : Hp} {so : Option (Addr × Addr)} {L L' : Cells} {a d D : Addr} {od : Obj} {kvs : List (Key × V)} {xs : List V} {g : TG} {tt : TT} {te : TE} {vs : List Nat} {σ σw : L2.St}
/-- a comprehension over the keys of a locked dict -/
theorem lcKW {Qd : Addr → Hp → Prop} (F : Nat → List V) (w : Hw Z so H L) (hw : Wi σ vs σw) (hl : ∀ H', Hw Z so H' L → H' d = some (.frz od (.dK kvs))) (h0 : F 0 = [])
    (hs : ∀ (i : Nat) (k : Key) (v : V) (D : Addr) (H' : Hp), kvs[i]? = some (k, v) → Hw Z so H' ((true, D, .lst (F i)) :: L) → g (kV k) σw H' fun σ2 H2 => wipe σ2 vs = σw ∧ tt σ2 H2 fun b H3 =>
      if b = true then te σ2 H3 fun y H4 => gAcc D (LcI Z so L D (F (i + 1))) y H4 else LcI Z so L D (F (i + 1)) H3)
    (hd : ∀ (D : Addr) (H' : Hp), Hw Z so H' ((true, D, .lst (F kvs.length)) :: L) → Qd D H') :
    ∀ D, H D = none → ∃ W : Nat → Nat → Hp → Prop, (∃ m, W 0 m (upd H D (.lst []))) ∧ ∀ i m H, W i m H →
      ((Itk d od kvs).stop i H ∧ Qd D H) ∨ ((Itk d od kvs).go i H ∧ ∃ Nx : Hp → Prop, (∀ H', Nx H' → ∃ m', m' < m ∧ W (i + 1) m' H') ∧ ∀ x H', (Itk d od kvs).yld i H x H' → g x (wipe σ vs) H' fun σ2 H2 => wipe σ2 vs = wipe σ vs ∧ tt σ2 H2 fun b H3 =>
        if b = true then te σ2 H3 fun y H4 => ∃ acc, H4 D = some (.lst acc) ∧ acc.length < sizeLine ∧ Nx (upd H4 D (.lst (acc ++ [y]))) else Nx H3) := fun D n => by
  refine lc_it walk_keys (fun i H => LcI Z so L D (F i) H) (by rw [h0]; exact w.new n) (fun i H _ h => hl H (h.sub (.skip (.refl _)))) (fun i x H H' hi h ⟨e, k, v, hk, ex⟩ => ?_) (fun H h => hd D H h)
  subst e ex
  rw [hw.eq]
  exact hs i k v D _ hk h
theorem w_keys {td : TE} {R : It → Hp → Prop} (q : td σ H fun x H1 => ∃ d o, x = .ref d ∧ ((∃ kvs, H1 d = some (.frz o (.dK kvs)) ∧ R (Itk d o kvs) H1) ∨ ∃ kvs, H1 d = some (.frz o (.dT kvs)) ∧ R (Itkt d o kvs) H1)) : iKeys td σ H R := q
/-- a lock around an expression -/
theorem w_lockE {t : TE} {Q : VK} {L' : Obj → Cells} (w : Hw Z so H L) (h : At d (.dK kvs) L) (hu : ∀ od, Up d (.frz od (.dK kvs)) L (L' od)) (k : ∀ od H', Hw Z so H' (L' od) → t σ H' fun v H2 => H2 d = some (.frz od (.dK kvs)) ∧ Q v (upd H2 d (.dK kvs))) : tLockE t σ H Q :=
  ⟨d, .dK kvs, w.get h, trivial, fun od => k od _ (w.up (hu od))⟩
/-- for .. in enumerate(l) -/
theorem w_enum {ta : TA} {R : It → Hp → Prop} (q : ta σ H fun vs H1 => ∃ a xs, vs = [.ref a] ∧ SqL K H1 a xs ∧ R (Ite K a) H1) : iEnum K ta σ H R := q
theorem w_enum2 {R : It → Hp → Prop} (h : SqL K H a xs) (q : R (Ite K a) H) : ∃ a' xs', [V.ref a] = [.ref a'] ∧ SqL K H a' xs' ∧ R (Ite K a') H := ⟨a, xs, rfl, h, q⟩
theorem for_en {tb : TS} {D : Ends} (INV : Nat → L2.St → Hp → Prop) (h0 : INV 0 σ H) (hl : ∀ i σ H, INV i σ H → SqL K H a xs)
    (hs : ∀ i x T σ H, xs[i]? = some x → INV i σ H → H T = none → g (.ref T) σ (upd H T (.tup [.int (i : Int), x])) fun σ2 H2 => tb { D with nx := INV (i + 1), ct := INV (i + 1), bk := D.nx } σ2 H2) (hd : ∀ σ H, INV xs.length σ H → D.nx σ H) :
    ∃ W : Nat → Nat → L2.St → Hp → Prop, (∃ m, W 0 m σ H) ∧ ∀ i m σ H, W i m σ H →
      ((Ite K a).stop i H ∧ D.nx σ H) ∨ ((Ite K a).go i H ∧ ∃ N : L2.St → Hp → Prop, (∀ σ' H', N σ' H' → ∃ m', m' < m ∧ W (i + 1) m' σ' H') ∧ ∀ x H', (Ite K a).yld i H x H' → g x σ H' fun σ2 H2 => tb { D with nx := N, ct := N, bk := D.nx } σ2 H2) := by
  refine for_it walk_enum INV h0 (fun i σ H _ h => hl i σ H h) (fun i x σ H H' hi h ⟨T, u, v, ex, nT, eH, eu, ev⟩ => ?_) hd
  subst ex eH
  obtain rfl : V.int (i : Int) = u := Option.some.inj eu
  exact hs i v T σ H ev h nT
end
theorem w_lc2 {H : Hp} {σ : L2.St} {g g1 : TG} {tt tt1 : TT} {te : TE} {vs vs1 : List Nat} {wi wi1 : TI} {Q : VK} (q : wi σ H fun J H1 => ∀ D, H1 D = none → ∃ W : Nat → Nat → Hp → Prop, (∃ m, W 0 m (upd H1 D (.lst []))) ∧ ∀ i m H, W i m H →
  (J.stop i H ∧ Q (.ref D) H) ∨ (J.go i H ∧ ∃ Nx : Hp → Prop, (∀ H', Nx H' → ∃ m', m' < m ∧ W (i + 1) m' H') ∧ ∀ x H', J.yld i H x H' → g x (wipe σ vs) H' fun σ2 H2 => wipe σ2 vs = wipe σ vs ∧ tt σ2 H2 fun b H3 =>
    if b = true then wi1 σ2 H3 fun J1 H4 => ∃ W1 : Nat → Nat → Hp → Prop, (∃ m, W1 0 m H4) ∧ ∀ j k H, W1 j k H →
      (J1.stop j H ∧ Nx H) ∨ (J1.go j H ∧ ∃ Nx1 : Hp → Prop, (∀ H', Nx1 H' → ∃ k', k' < k ∧ W1 (j + 1) k' H') ∧ ∀ x H', J1.yld j H x H' → g1 x (wipe σ2 vs1) H' fun σ3 H5 => wipe σ3 vs1 = wipe σ2 vs1 ∧ tt1 σ3 H5 fun b H6 =>
        if b = true then te σ3 H6 fun y H7 => ∃ acc, H7 D = some (.lst acc) ∧ acc.length < sizeLine ∧ Nx1 (upd H7 D (.lst (acc ++ [y]))) else Nx1 H6)
    else Nx H3)) : tLc2 wi g tt wi1 g1 tt1 te vs vs1 σ H Q := q
/-- dict(d) -/
def rDictD : List V → Hp → VK → Prop := fun xs H Q => ∃ (a : Addr) (kvs : List (Key × V)), xs = [.ref a] ∧ Rd H a (.dK kvs) ∧ ∀ p, H p = none → Q (.ref p) (upd H p (.dK kvs))
theorem call_dictD {X : Cx} : CallR X (.type "dict") rDictD := L2.call_dictD
theorem w_dictD {Z H : Hp} {so : Option (Addr × Addr)} {L : Cells} {a : Addr} {kvs : List (Key × V)} {Q : VK} (w : Hw Z so H L) (h : H a = some (.dK kvs)) (k : ∀ p H', H p = none → Hw Z so H' ((true, p, .dK kvs) :: L) → Q (.ref p) H') : rDictD [.ref a] H Q := ⟨a, kvs, rfl, .inl h, fun p n => k p _ n (w.new n)⟩
def rStrS : List V → Hp → VK → Prop := fun xs H Q => ∃ a, xs = [.str a] ∧ Q (.str a) H
theorem call_strS {X : Cx} : CallR X (.type "str") rStrS := SkE.call_str_str
theorem w_strS {z : Str} {H : Hp} {Q : VK} (q : Q (.str z) H) : rStrS [.str z] H Q := ⟨z, rfl, q⟩
theorem w_extend {Z H : Hp} {so : Option (Addr × Addr)} {L L' : Cells} {a b : Addr} {xs zs : List V} {Q : VK} (w : Hw Z so H L) (h : At a (.lst xs) L) (hb : H b = some (.lst zs)) (u : Up a (.lst (xs ++ zs)) L L') (l : xs.length + zs.length ≤ sizeLine) (k : ∀ H', Hw Z so H' L' → Q .non H') : rExtend (.ref a) [.ref b] H Q :=
  ⟨a, b, xs, zs, rfl, rfl, w.get h, hb, l, k _ (w.up u)⟩
/-- a list's truth -/
theorem w_tru {K : PySem.W.Frag} {H : Hp} {a : Addr} {xs : List V} {QB : Bool → Hp → Prop} (h : SqL K H a xs) (q : QB (!xs.isEmpty) H) : ∃ k, TruV K (.ref a) H k ∧ QB k H := ⟨_, .inl ⟨xs, h, rfl⟩, q⟩
end UM
namespace L2
theorem DpAll.snocI {K : PySem.W.Frag} {H : Hp} : ∀ {ds : List PySem.PyData} {d : PySem.PyData} {vs : List V}, DpAll K H vs (ds ++ [d]) → ∃ ws v, vs = ws ++ [v] ∧ DpAll K H ws ds ∧ Dp K H v d
  | [], d, vs, h => by
    obtain ⟨v, ws, rfl, h1, h2⟩ := DpAll.consI h
    obtain rfl := h2.nilI
    exact ⟨[], v, rfl, .nil, h1⟩
  | e :: ds, d, vs, h => by
    obtain ⟨v, ws, rfl, h1, h2⟩ := DpAll.consI h
    obtain ⟨us, u, rfl, h3, h4⟩ := DpAll.snocI h2
    exact ⟨v :: us, u, rfl, .cons h1 h3, h4⟩
end L2
namespace UM
open PySem PySem.Spec PyProof.Rows L2 U UK V
/-! ### two rows side by side -/
inductive All2 {α β : Type} (R : α → β → Prop) : List α → List β → Prop
  | nil : All2 R [] []
  | cons {a b as bs} : R a b → All2 R as bs → All2 R (a :: as) (b :: bs)
namespace All2
variable {α β : Type} {R S : α → β → Prop}
theorem mono (h : ∀ a b, R a b → S a b) : ∀ {as : List α} {bs : List β}, All2 R as bs → All2 S as bs
  | _, _, .nil => .nil
  | _, _, .cons r t => .cons (h _ _ r) (mono h t)
theorem len : ∀ {as : List α} {bs : List β}, All2 R as bs → as.length = bs.length
  | _, _, .nil => rfl
  | _, _, .cons _ t => by rw [List.length_cons, List.length_cons, len t]
theorem app {as as' : List α} {bs bs' : List β} (h : All2 R as bs) (h' : All2 R as' bs') : All2 R (as ++ as') (bs ++ bs') := by
  induction h with
  | nil => exact h'
  | cons r t ih => exact .cons r ih
theorem nilI {as : List α} (h : All2 R as []) : as = [] := by cases h; rfl
theorem snocI : ∀ {bs : List β} {b : β} {as : List α}, All2 R as (bs ++ [b]) → ∃ as' a, as = as' ++ [a] ∧ All2 R as' bs ∧ R a b
  | [], b, as, h => by
    cases h with
    | cons r t => obtain rfl := t.nilI; exact ⟨[], _, rfl, .nil, r⟩
  | c :: bs, b, as, h => by
    cases h with
    | cons r t =>
      obtain ⟨as', a, rfl, h1, h2⟩ := snocI t
      exact ⟨_ :: as', a, rfl, .cons r h1, h2⟩
theorem at_ : ∀ {as : List α} {bs : List β} {i : Nat} {b : β}, All2 R as bs → bs[i]? = some b → ∃ a, as[i]? = some a ∧ R a b
  | _, _, i, b, .nil, e => by simp at e
  | _, _, 0, b, .cons r t, e => by
    obtain rfl := Option.some.inj e
    exact ⟨_, rfl, r⟩
  | _, _, i + 1, b, .cons r t, e => by
    obtain ⟨a, h1, h2⟩ := at_ (i := i) t (by simpa using e)
    exact ⟨a, by simpa using h1, h2⟩
end All2
theorem w_dnew {Z H : Hp} {so : Option (Addr × Addr)} {L : Cells} {σ : L2.St} {Q : VK} (w : Hw Z so H L) (k : ∀ d H', H d = none → Hw Z so H' ((true, d, .dK []) :: L) → Q (.ref d) H') : tDNewK σ H Q := fun d n => k d _ n (w.new n)
theorem w_disp {Z H : Hp} {so : Option (Addr × Addr)} {L : Cells} {σ : L2.St} {Q : VK} {trs : List (TE × TE)} (w : Hw Z so H L) (k : ∀ p H', H p = none → Hw Z so H' ((true, p, .dK []) :: L) → tPairs trs σ H' fun ps H2 => H2 p = some (.dK []) ∧ ∃ kvs : List (Key × V), ps = kvs.map (fun kv => (kV kv.1, kv.2)) ∧ kvs.length ≤ 15 ∧ Q (.ref p) (upd H2 p (.dK (mergeK [] kvs)))) : tDisp trs σ H Q := fun p n => k p _ n (w.new n)
theorem w_pn {H : Hp} {σ : L2.St} {Q : List (V × V) → Hp → Prop} (q : Q [] H) : tPairs [] σ H Q := q
theorem w_pc {H : Hp} {σ : L2.St} {tk tv : TE} {r : List (TE × TE)} {Q : List (V × V) → Hp → Prop} (q : tk σ H fun x H1 => tv σ H1 fun y H2 => tPairs r σ H2 fun ps H3 => Q ((x, y) :: ps) H3) : tPairs ((tk, tv) :: r) σ H Q := q
theorem w_dget2 {H : Hp} {σ : L2.St} {Q : VK} {td ty tx : TE} (q : td σ H fun x H1 => ∃ a, x = .ref a ∧ IsD H1 a ∧ ty σ H1 fun y H2 => tx σ H2 fun z H3 => ∃ o, DGet H3 a y o ∧ Q (o.getD z) H3) : tDGet2 td ty tx σ H Q := q
/-! ### the ways of an if meet -/
section
variable {c : TT} {s s' r : TS} {D : Ends} {σ : L2.St} {H : Hp}
theorem meetMark (q : tSeq (tIfS c s s') r D σ H) : tSeq (tIfS c s s') r D σ H := q
theorem meetI (B : L2.St → Hp → Prop) (h : ∀ D' : Ends, (∀ σ H, B σ H → D'.nx σ H) → D'.rt = D.rt → D'.bk = D.bk → D'.ct = D.ct → tIfS c s s' D' σ H) (k : ∀ σ H, B σ H → r D σ H) : tSeq (tIfS c s s') r D σ H := h { D with nx := r D } k rfl rfl rfl
end
end UM
namespace UM
open PySem PyProof.Rows L2 U UK V
/-- a part with the names that are bound around it -/
def Wt (K : PySem.W.Frag) (Z : Hp) (u : V) (e : Tm × List Str) : Prop := ∃ (a : Addr) (b : V) (h : Addr), u = .ref a ∧ Z a = some (.tup [b, .ref h]) ∧ TmAt K Z b e.1 ∧ Z h = some (.dK (mkM e.2))
theorem Wt.mono {K : PySem.W.Frag} {Z Z' : Hp} {u : V} {e : Tm × List Str} (h : Wt K Z u e) (s : Same Z Z') : Wt K Z' u e := by
  obtain ⟨a, b, d, e1, e2, e3, e4⟩ := h
  exact ⟨a, b, d, e1, s _ _ e2, e3.mono s, s _ _ e4⟩
def kids (t : Tm) (hid : List Str) : List (Tm × List Str) := (t.parts.zip t.bnds).map fun e => (e.1, hid ++ e.2)
theorem kids_len (t : Tm) (hid : List Str) : (kids t hid).length = t.parts.length := by
  unfold kids; rw [List.length_map, List.length_zip, t.bnds_len.1, Nat.min_self]
theorem kids_at {t : Tm} {hid : List Str} {i : Nat} {p : Tm} {bs : List Str} (h1 : t.parts[i]? = some p) (h2 : t.bnds[i]? = some bs) : (kids t hid)[i]? = some (p, hid ++ bs) := by
  unfold kids
  rw [List.getElem?_map, (List.getElem?_zip_eq_some (z := (p, bs))).mpr ⟨h1, h2⟩]; rfl
theorem kids_mem {t : Tm} {hid : List Str} {e : Tm × List Str} (h : e ∈ kids t hid) : ∃ (i : Nat) (p : Tm) (bs : List Str), t.parts[i]? = some p ∧ t.bnds[i]? = some bs ∧ e = (p, hid ++ bs) := by
  obtain ⟨i, hi⟩ := List.mem_iff_getElem?.mp h
  have il : i < (kids t hid).length := (List.getElem?_eq_some_iff.mp hi).1
  rw [kids_len] at il
  have b1 := List.getElem?_eq_getElem il
  have b2 := List.getElem?_eq_getElem (show i < t.bnds.length by rw [t.bnds_len.1]; exact il)
  rw [kids_at b1 b2] at hi
  exact ⟨i, _, _, b1, b2, (Option.some.inj hi).symm⟩
theorem kids_fv (t : Tm) (hid : List Str) (z : Str) : (z ∈ t.fv ∧ z ∉ hid) ↔ (t = .name z ∧ z ∉ hid) ∨ ∃ e ∈ kids t hid, z ∈ e.1.fv ∧ z ∉ e.2 := by
  rw [t.fv_parts]
  constructor
  · rintro ⟨h | ⟨i, p, bs, h1, h2, h3, h4⟩, hz⟩
    · exact .inl ⟨h, hz⟩
    · exact .inr ⟨_, List.mem_of_getElem? (kids_at h1 h2), h3, by simp [hz, h4]⟩
  · rintro (⟨h, hz⟩ | ⟨e, he, h3, h4⟩)
    · exact ⟨.inl h, hz⟩
    · obtain ⟨i, p, bs, h1, h2, rfl⟩ := kids_mem he
      simp only [List.mem_append, not_or] at h4
      exact ⟨.inr ⟨i, p, bs, h1, h2, h3, h4.2⟩, h4.1⟩
theorem kids_sum (t : Tm) (hid : List Str) : ((kids t hid).map fun e => e.1.size).sum + 1 = t.size := by
  rw [t.size_parts]
  have : (kids t hid).map (fun e => e.1.size) = t.parts.map Tm.size := by
    unfold kids
    rw [List.map_map]
    have e1 : t.parts = (t.parts.zip t.bnds).map Prod.fst := (List.map_fst_zip (by rw [t.bnds_len.1]; exact Nat.le_refl _)).symm
    conv => rhs; rw [e1]
    rw [List.map_map]; rfl
  rw [this]
theorem kids_hid {t : Tm} {hid : List Str} {e : Tm × List Str} (h : e ∈ kids t hid) : e.2.length + 2 * e.1.size ≤ hid.length + 2 * t.size := by
  obtain ⟨i, p, bs, h1, h2, rfl⟩ := kids_mem h
  have := t.bnds2 bs (List.mem_of_getElem? h2)
  have := Tm.size_lt (List.mem_of_getElem? h1)
  show (hid ++ bs).length + 2 * p.size ≤ _
  rw [List.length_append]; omega
theorem op_nn (o : Op) : o.s ≠ "name" := by cases o <;> decide +kernel
theorem pre_nn (o : Pre) : o.s ≠ "name" := by cases o <;> decide +kernel
theorem w_name : ∀ t : Tm, t.w = "name" → ∃ x, t = .name x
  | .int _, h => absurd (show ("int" : Str) = "name" from h) (by decide +kernel) | .name x, _ => ⟨x, rfl⟩ | .gone _, h => absurd (show ("gone" : Str) = "name" from h) (by decide +kernel) | .op o _ _, h => absurd h (op_nn o)
  | .fn _ _ _ _, h => absurd (show ("fn" : Str) = "name" from h) (by decide +kernel) | .split _ _ _ _, h => absurd (show ("split" : Str) = "name" from h) (by decide +kernel) | .pre o _ _, h => absurd h (pre_nn o)
  | .case _ _ _ _ _, h => absurd (show ("case" : Str) = "name" from h) (by decide +kernel) | .box _ _, h => absurd (show ("box" : Str) = "name" from h) (by decide +kernel) | .unbox _ _ _, h => absurd (show ("unbox" : Str) = "name" from h) (by decide +kernel)
  | .test _ _ _, h => absurd (show ("test" : Str) = "name" from h) (by decide +kernel) | .rep _ _ _ _ _, h => absurd (show ("repeat" : Str) = "name" from h) (by decide +kernel)
def mxd (ts : List Tm) : Nat := (ts.map Tm.depth).foldr max 0
theorem mxd_cons (t : Tm) (ts : List Tm) : mxd (t :: ts) = max t.depth (mxd ts) := rfl
theorem mxd_app : ∀ xs ys : List Tm, mxd (xs ++ ys) = max (mxd xs) (mxd ys)
  | [], ys => by simp [mxd]
  | x :: xs, ys => by rw [List.cons_append, mxd_cons, mxd_cons, mxd_app xs ys, Nat.max_assoc]
theorem mxd_flat : ∀ (t : Tm) (ts : List Tm), mxd (t :: ts) = mxd ((t :: ts).flatMap Tm.parts) + 1
  | t, [] => by rw [mxd_cons, t.depth_parts]; simp [mxd]
  | t, u :: ts => by
    have e : (t :: u :: ts).flatMap Tm.parts = t.parts ++ (u :: ts).flatMap Tm.parts := rfl
    rw [e, mxd_app, mxd_cons, mxd_flat u ts, t.depth_parts]
    show max (mxd t.parts + 1) _ = _
    omega
theorem size_flat : ∀ ts : List Tm, ((ts.flatMap Tm.parts).map Tm.size).sum + ts.length = (ts.map Tm.size).sum
  | [] => rfl
  | t :: ts => by
    rw [List.flatMap_cons, List.map_append, List.sum_append, List.map_cons, List.sum_cons, List.length_cons, ← size_flat ts, t.size_parts]; omega
theorem len_size : ∀ l : List Tm, l.length ≤ (l.map Tm.size).sum
  | [] => Nat.le_refl _
  | y :: l => by have := y.size_pos; have := len_size l; simp; omega
theorem ws_len : ∀ ws : List (Tm × List Str), ws.length ≤ (ws.map fun e => e.1.size).sum
  | [] => Nat.le_refl _
  | y :: l => by have := y.1.size_pos; have := ws_len l; simp; omega
theorem flat_snoc {ts : List Tm} {i : Nat} {t : Tm} (h : ts[i]? = some t) : (ts.take (i + 1)).flatMap Tm.parts = (ts.take i).flatMap Tm.parts ++ t.parts := by
  rw [take_snoc h, List.flatMap_append]; simp
@[elab_as_elim] theorem snoc_cases {α : Type} {P : List α → Prop} (l : List α) (nil : P []) (snoc : ∀ l x, P (l ++ [x])) : P l := by
  rcases List.eq_nil_or_concat l with rfl | ⟨ys, y, e⟩
  · exact nil
  · rw [e, List.concat_eq_append]; exact snoc ys y
end UM
end
section
/-! Terms without names: bound names by their distances. -/
namespace UN
open PySem PyProof.Rows L2 U UK UM
/-- the distance of a name from the end of a row -/
def loc (bs : List Str) (x : Str) : Option Nat := bs.reverse.findIdx? fun y => y == x
theorem loc_snoc (bs : List Str) (y x : Str) : loc (bs ++ [y]) x = if y = x then some 0 else (loc bs x).map (· + 1) := by
  unfold loc
  rw [List.reverse_append, List.reverse_singleton, List.singleton_append, List.findIdx?_cons]
  by_cases e : y = x
  · rw [if_pos e, if_pos (by simp [e])]
  · rw [if_neg e, if_neg (by simp [e])]
theorem loc_lt {bs : List Str} {x : Str} {k : Nat} (h : loc bs x = some k) : k < bs.length := by
  unfold loc at h
  have := (List.findIdx?_eq_some_iff_getElem.mp h)
  obtain ⟨hk, _⟩ := this
  rwa [List.length_reverse] at hk
def nmD (im : Str → Option PyData) (bs : List Str) (x : Str) : PyData := match loc bs x with
  | some k => .list [.str "bound", .int (k : Int)]
  | none => (im x).getD (.list [.str "free", .str x])
end UN
namespace UK
open PySem PyProof.Rows L2 U UM UN
namespace Tm
/-- what stands outside the parts and is no binder, the word first -/
def outs : Tm → List PyData
  | int n => [.str "int", .int n]
  | name x => [.str "name", .str x]
  | gone A => [.str "gone", A.d]
  | op o _ _ => [.str o.s]
  | fn _ g A _ => [.str "fn", .str g, A.d]
  | split _ _ _ _ => [.str "split"]
  | pre o A _ => [.str o.s, A.d]
  | case _ _ _ _ _ => [.str "case"]
  | box g _ => [.str "box", .str g]
  | unbox _ _ _ => [.str "unbox"]
  | test _ _ _ => [.str "test"]
  | rep _ _ g _ _ => [.str "repeat", .str g]
/-- where these stand -/
def opos : Tm → List Nat
  | int _ => [0, 1] | name _ => [0, 1] | gone _ => [0, 1] | op _ _ _ => [0] | fn _ _ _ _ => [0, 2, 3] | split _ _ _ _ => [0] | pre _ _ _ => [0, 1] | case _ _ _ _ _ => [0]
  | box _ _ => [0, 1] | unbox _ _ _ => [0] | test _ _ _ => [0] | rep _ _ _ _ _ => [0, 3]
/-- grades, gaps and kinds -/
def gks : Tm → List PyData
  | int _ => [] | name _ => [] | gone A => [A.d] | op _ _ _ => [] | fn _ g A _ => [.str g, A.d] | split _ _ _ _ => [] | pre _ A _ => [A.d] | case _ _ _ _ _ => []
  | box g _ => [.str g] | unbox _ _ _ => [] | test _ _ _ => [] | rep _ _ g _ _ => [.str g]
def gpos : Tm → List Nat
  | int _ => [] | name _ => [] | gone _ => [1] | op _ _ _ => [] | fn _ _ _ _ => [2, 3] | split _ _ _ _ => [] | pre _ _ _ => [1] | case _ _ _ _ _ => []
  | box _ _ => [1] | unbox _ _ _ => [] | test _ _ _ => [] | rep _ _ _ _ _ => [3]
def nl (im : Str → Option PyData) : List Str → Tm → PyData
  | _, int n => .list [.str "int", .int n]
  | bs, name x => nmD im bs x
  | _, gone A => .list [.str "gone", A.d]
  | bs, op o a b => .list [.str o.s, nl im bs a, nl im bs b]
  | bs, fn x g A b => .list [.str "fn", .str g, A.d, nl im (bs ++ [x]) b]
  | bs, split x y e b => .list [.str "split", nl im bs e, nl im (bs ++ [x, y]) b]
  | bs, pre o A a => .list [.str o.s, A.d, nl im bs a]
  | bs, case e x a y b => .list [.str "case", nl im bs e, nl im (bs ++ [x]) a, nl im (bs ++ [y]) b]
  | bs, box g e => .list [.str "box", .str g, nl im bs e]
  | bs, unbox x e b => .list [.str "unbox", nl im bs e, nl im (bs ++ [x]) b]
  | bs, test e a b => .list [.str "test", nl im bs e, nl im bs a, nl im bs b]
  | bs, rep e x g z s => .list [.str "repeat", .str g, nl im bs e, nl im bs z, nl im (bs ++ [x]) s]
theorem its_opos : ∀ t : Tm, t.opos.map (fun k => t.its[k]?) = t.outs.map some
  | int _ => rfl | name _ => rfl | gone _ => rfl | op _ _ _ => rfl | fn _ _ _ _ => rfl | split _ _ _ _ => rfl | pre _ _ _ => rfl | case _ _ _ _ _ => rfl
  | box _ _ => rfl | unbox _ _ _ => rfl | test _ _ _ => rfl | rep _ _ _ _ _ => rfl
theorem its_gpos : ∀ t : Tm, t.gpos.map (fun k => t.its[k]?) = t.gks.map some
  | int _ => rfl | name _ => rfl | gone _ => rfl | op _ _ _ => rfl | fn _ _ _ _ => rfl | split _ _ _ _ => rfl | pre _ _ _ => rfl | case _ _ _ _ _ => rfl
  | box _ _ => rfl | unbox _ _ _ => rfl | test _ _ _ => rfl | rep _ _ _ _ _ => rfl
/-- no name -/
def nn : Tm → Prop
  | name _ => False
  | _ => True
theorem nl_kids (im : Str → Option PyData) (bs : List Str) : ∀ t : Tm, t.nn → t.nl im bs = .list (t.outs ++ (t.parts.zip t.bnds).map fun e => e.1.nl im (bs ++ e.2))
  | int _, _ => rfl | name _, h => h.elim | gone _, _ => rfl
  | op _ _ _, _ => by simp [nl, outs, parts, bnds]
  | fn _ _ _ _, _ => by simp [nl, outs, parts, bnds]
  | split _ _ _ _, _ => by simp [nl, outs, parts, bnds]
  | pre _ _ _, _ => by simp [nl, outs, parts, bnds]
  | case _ _ _ _ _, _ => by simp [nl, outs, parts, bnds]
  | box _ _, _ => by simp [nl, outs, parts, bnds]
  | unbox _ _ _, _ => by simp [nl, outs, parts, bnds]
  | test _ _ _, _ => by simp [nl, outs, parts, bnds]
  | rep _ _ _ _ _, _ => by simp [nl, outs, parts, bnds]
end Tm
end UK
namespace UN
open PySem PyProof.Rows L2 U UK UM
/-! ### meanings: names with numbers -/
def Mn (s : List Str) (ns : List Int) : List (Key × V) := (s.zip ns).foldl (fun acc p => putK acc (Sum.inr p.1) (.int p.2)) []
theorem Mn_snoc {s : List Str} {ns : List Int} (h : s.length = ns.length) (x : Str) (n : Int) : Mn (s ++ [x]) (ns ++ [n]) = putK (Mn s ns) (Sum.inr x) (.int n) := by
  unfold Mn
  rw [List.zip_append h, List.foldl_append]; rfl
theorem Mn_len : ∀ {s : List Str} {ns : List Int}, s.length = ns.length → (Mn s ns).length ≤ s.length := by
  intro s
  refine snoc_rec (P := fun s => ∀ {ns : List Int}, s.length = ns.length → (Mn s ns).length ≤ s.length) (fun _ => Nat.zero_le _) (fun l x ih ns h => ?_) s
  rcases List.eq_nil_or_concat ns with e | ⟨ms, n, e⟩
  · rw [e, List.length_append] at h; simp at h
  · rw [List.concat_eq_append] at e
    subst e
    rw [List.length_append, List.length_append] at h
    have h : l.length = ms.length := by simpa using h
    rw [Mn_snoc h, List.length_append]
    have := putK_le (Mn l ms) (Sum.inr x) (.int n)
    have := ih h
    show _ ≤ l.length + 1
    omega
theorem Mn_val {x : Str} : ∀ {s : List Str} {ns : List Int}, s.length = ns.length → valV (Mn s ns) (Sum.inr x : Key) = (loc s x).bind fun k => (ns.reverse[k]?).map V.int := by
  intro s
  refine snoc_rec (P := fun s => ∀ {ns : List Int}, s.length = ns.length → valV (Mn s ns) (Sum.inr x : Key) = (loc s x).bind fun k => (ns.reverse[k]?).map V.int) (fun _ => rfl) (fun l y ih ns h => ?_) s
  rcases List.eq_nil_or_concat ns with e | ⟨ms, n, e⟩
  · rw [e, List.length_append] at h; simp at h
  · rw [List.concat_eq_append] at e
    subst e
    rw [List.length_append, List.length_append] at h
    have h : l.length = ms.length := by simpa using h
    rw [Mn_snoc h, valV_put, loc_snoc, List.reverse_append, List.reverse_singleton, List.singleton_append]
    by_cases e : y = x
    · subst e
      rw [if_pos rfl, if_pos rfl]; rfl
    · rw [if_neg (fun q => e (Sum.inr.inj q).symm), if_neg e, ih h]
      cases loc l x with
      | none => rfl
      | some k => rfl
/-- what a name means -/
theorem Mn_get {s : List Str} {ns : List Int} {x : Str} (h : s.length = ns.length) : (∃ k n, loc s x = some k ∧ ns.reverse[k]? = some n ∧ (valV (Mn s ns) (Sum.inr x : Key)).getD (.str x) = .int n) ∨ (loc s x = none ∧ (valV (Mn s ns) (Sum.inr x : Key)).getD (.str x) = .str x) := by
  rw [Mn_val h]
  cases q : loc s x with
  | none => exact .inr ⟨rfl, rfl⟩
  | some k =>
    have := loc_lt q
    have e : ns.reverse[k]? = some (ns.reverse[k]'(by rw [List.length_reverse]; omega)) := List.getElem?_eq_getElem _
    exact .inl ⟨k, _, rfl, e, by rw [Option.bind_some, e]; rfl⟩
/-! ### equal data -/
theorem eqvAll_app : ∀ {as bs cs ds : List PyData}, as.length = cs.length → PyData.eqvAll (as ++ bs) (cs ++ ds) = (PyData.eqvAll as cs && PyData.eqvAll bs ds)
  | [], bs, [], ds, _ => by simp [PyData.eqvAll]
  | a :: as, bs, c :: cs, ds, h => by
    rw [List.cons_append, List.cons_append, PyData.eqvAll, PyData.eqvAll, eqvAll_app (by simpa using h), Bool.and_assoc]
  | [], _, c :: cs, _, h => by simp at h
  | a :: as, _, [], _, h => by simp at h
/-- whether two terms are equal outside their parts -/
def sos (s s' : List Str) : Tm → Tm → Bool
  | .int n, .int m => decide (n = m)
  | .name x, .name y => (match loc s x, loc s' y with
    | some k, some k' => decide (k = k')
    | none, none => decide (x = y)
    | _, _ => false)
  | t, u => decide (t.w = u.w) && PyData.eqvAll t.gks u.gks
def noim : Str → Option PyData := fun _ => none
abbrev nls (s : List Str) (t : Tm) : PyData := t.nl noim s
abbrev kidN (s : List Str) (t : Tm) : List PyData := (t.parts.zip t.bnds).map fun e => nls (s ++ e.2) e.1
theorem str_beq (a b : Str) : (a == b) = decide (a = b) := by
  by_cases h : a = b
  · subst h; simp
  · rw [decide_eq_false h]; exact beq_eq_false_iff_ne.mpr h
theorem eqv_str (a b : Str) : PyData.eqv (.str a) (.str b) = decide (a = b) := by rw [PyData.eqv, str_beq]
theorem eqv_int (a b : Int) : PyData.eqv (.int a) (.int b) = decide (a = b) := by
  rw [PyData.eqv]
  by_cases h : a = b
  · subst h; simp
  · rw [decide_eq_false h]; exact beq_eq_false_iff_ne.mpr h
end UN
namespace UK
open PySem PyProof.Rows L2 U UM UN
namespace Op
def tag : Op → Nat | add => 3 | sub => 4 | mul => 5 | call => 6 | pair => 7
end Op
namespace Pre
def tag : Pre → Nat | left => 10 | right => 11 | as => 12
end Pre
namespace Tm
/-- a number for each word -/
def tag : Tm → Nat
  | int _ => 0 | name _ => 1 | gone _ => 2 | op o _ _ => o.tag | fn _ _ _ _ => 8 | split _ _ _ _ => 9 | pre o _ _ => o.tag | case _ _ _ _ _ => 13 | box _ _ => 14 | unbox _ _ _ => 15 | test _ _ _ => 16 | rep _ _ _ _ _ => 17
def words : List Str := ["int", "name", "gone", "add", "sub", "mul", "call", "pair", "fn", "split", "left", "right", "as", "case", "box", "unbox", "test", "repeat"]
theorem words_at : ∀ i, i < 18 → ∀ j, j < 18 → words[i]? = words[j]? → i = j := by decide +kernel
theorem w_tag : ∀ t : Tm, words[t.tag]? = some t.w
  | int _ => rfl | name _ => rfl | gone _ => rfl | op o _ _ => by cases o <;> rfl | fn _ _ _ _ => rfl | split _ _ _ _ => rfl | pre o _ _ => by cases o <;> rfl | case _ _ _ _ _ => rfl
  | box _ _ => rfl | unbox _ _ _ => rfl | test _ _ _ => rfl | rep _ _ _ _ _ => rfl
theorem tag_lt (t : Tm) : t.tag < 18 := (List.getElem?_eq_some_iff.mp t.w_tag).1
theorem tag_eq {t u : Tm} (h : t.w = u.w) : t.tag = u.tag := words_at _ t.tag_lt _ u.tag_lt (by rw [t.w_tag, u.w_tag, h])
theorem w_eq {t u : Tm} (h : t.tag = u.tag) : t.w = u.w := by
  have := t.w_tag
  rw [h, u.w_tag] at this
  exact (Option.some.inj this).symm
def glT (n : Nat) : Nat := [0, 0, 1, 0, 0, 0, 0, 0, 2, 0, 1, 1, 1, 0, 1, 0, 0, 1].getD n 0
def bpT (n : Nat) : List (List Nat) := [[], [], [], [[], []], [[], []], [[], []], [[], []], [[], []], [[1]], [[], [1, 2]], [[]], [[]], [[]], [[], [2], [4]], [[]], [[], [1]], [[], [], []], [[], [], [2]]].getD n []
theorem gl_tag : ∀ t : Tm, t.gks.length = glT t.tag
  | int _ => rfl | name _ => rfl | gone _ => rfl | op o _ _ => by cases o <;> rfl | fn _ _ _ _ => rfl | split _ _ _ _ => rfl | pre o _ _ => by cases o <;> rfl | case _ _ _ _ _ => rfl
  | box _ _ => rfl | unbox _ _ _ => rfl | test _ _ _ => rfl | rep _ _ _ _ _ => rfl
theorem bp_tag : ∀ t : Tm, t.bpos = bpT t.tag
  | int _ => rfl | name _ => rfl | gone _ => rfl | op o _ _ => by cases o <;> rfl | fn _ _ _ _ => rfl | split _ _ _ _ => rfl | pre o _ _ => by cases o <;> rfl | case _ _ _ _ _ => rfl
  | box _ _ => rfl | unbox _ _ _ => rfl | test _ _ _ => rfl | rep _ _ _ _ _ => rfl
theorem tag0 : ∀ {t : Tm}, t.tag = 0 → ∃ n, t = int n
  | int n, _ => ⟨n, rfl⟩ | name _, h => by cases h | gone _, h => by cases h | op o _ _, h => by cases o <;> cases h | fn _ _ _ _, h => by cases h | split _ _ _ _, h => by cases h | pre o _ _, h => by cases o <;> cases h
  | case _ _ _ _ _, h => by cases h | box _ _, h => by cases h | unbox _ _ _, h => by cases h | test _ _ _, h => by cases h | rep _ _ _ _ _, h => by cases h
theorem tag1 : ∀ {t : Tm}, t.tag = 1 → ∃ x, t = name x
  | name x, _ => ⟨x, rfl⟩ | int _, h => by cases h | gone _, h => by cases h | op o _ _, h => by cases o <;> cases h | fn _ _ _ _, h => by cases h | split _ _ _ _, h => by cases h | pre o _ _, h => by cases o <;> cases h
  | case _ _ _ _ _, h => by cases h | box _ _, h => by cases h | unbox _ _ _, h => by cases h | test _ _ _, h => by cases h | rep _ _ _ _ _, h => by cases h
theorem outs_w : ∀ {t : Tm}, t.tag ≠ 0 → t.tag ≠ 1 → t.outs = .str t.w :: t.gks ∧ t.nn
  | int _, h, _ => absurd rfl h | name _, _, h => absurd rfl h | gone _, _, _ => ⟨rfl, trivial⟩ | op _ _ _, _, _ => ⟨rfl, trivial⟩ | fn _ _ _ _, _, _ => ⟨rfl, trivial⟩ | split _ _ _ _, _, _ => ⟨rfl, trivial⟩ | pre _ _ _, _, _ => ⟨rfl, trivial⟩ | case _ _ _ _ _, _, _ => ⟨rfl, trivial⟩
  | box _ _, _, _ => ⟨rfl, trivial⟩ | unbox _ _ _, _, _ => ⟨rfl, trivial⟩ | test _ _ _, _, _ => ⟨rfl, trivial⟩ | rep _ _ _ _ _, _, _ => ⟨rfl, trivial⟩
end Tm
end UK
namespace UN
open PySem PyProof.Rows L2 U UK UM
theorem words_not : ∀ z ∈ Tm.words, z ≠ "bound" ∧ z ≠ "free" := by decide +kernel
theorem w_not (t : Tm) : t.w ≠ "bound" ∧ t.w ≠ "free" := words_not _ (List.mem_of_getElem? t.w_tag)
theorem nls_int (s : List Str) (n : Int) : nls s (.int n) = .list [.str "int", .int n] := rfl
theorem nls_name (s : List Str) (x : Str) : (∃ k, loc s x = some k ∧ nls s (.name x) = .list [.str "bound", .int (k : Int)]) ∨ (loc s x = none ∧ nls s (.name x) = .list [.str "free", .str x]) := by
  show (∃ k, loc s x = some k ∧ nmD noim s x = _) ∨ (loc s x = none ∧ nmD noim s x = _)
  unfold nmD
  cases q : loc s x with
  | none => exact .inr ⟨rfl, rfl⟩
  | some k => exact .inl ⟨k, rfl, rfl⟩
theorem nls_other (s : List Str) {t : Tm} (h0 : t.tag ≠ 0) (h1 : t.tag ≠ 1) : nls s t = .list (.str t.w :: (t.gks ++ kidN s t)) := by
  obtain ⟨e, n⟩ := Tm.outs_w h0 h1
  show t.nl noim s = _
  rw [Tm.nl_kids _ _ _ n, e]; rfl
/-- the head of a nameless term -/
theorem nls_head (s : List Str) (t : Tm) : ∃ z r, nls s t = .list (.str z :: r) ∧ (t.tag ≠ 1 → z = t.w) ∧ (t.tag = 1 → z = "bound" ∨ z = "free") := by
  by_cases h1 : t.tag = 1
  · obtain ⟨x, rfl⟩ := Tm.tag1 h1
    rcases nls_name s x with ⟨k, _, e⟩ | ⟨_, e⟩
    · exact ⟨_, _, e, fun h => absurd rfl h, fun _ => .inl rfl⟩
    · exact ⟨_, _, e, fun h => absurd rfl h, fun _ => .inr rfl⟩
  · by_cases h0 : t.tag = 0
    · obtain ⟨n, rfl⟩ := Tm.tag0 h0
      exact ⟨_, _, nls_int s n, fun _ => rfl, fun h => absurd h h1⟩
    · exact ⟨_, _, nls_other s h0 h1, fun _ => rfl, fun h => absurd h h1⟩
theorem eqv_lists (xs ys : List PyData) : PyData.eqv (.list xs) (.list ys) = PyData.eqvAll xs ys := by rw [PyData.eqv]
theorem eqvAll_cons (x y : PyData) (xs ys : List PyData) : PyData.eqvAll (x :: xs) (y :: ys) = (PyData.eqv x y && PyData.eqvAll xs ys) := by rw [PyData.eqvAll]
theorem sos_ne (s s' : List Str) {t u : Tm} (h : t.w ≠ u.w) : sos s s' t u = false := by
  unfold sos
  split
  · exact absurd rfl h
  · exact absurd rfl h
  · rw [decide_eq_false h]; rfl
theorem kid_nil (s : List Str) {t : Tm} (h : t.parts = []) : kidN s t = [] := by unfold kidN; rw [h]; rfl
theorem sos_other (s s' : List Str) {t u : Tm} (h0 : t.tag ≠ 0) (h1 : t.tag ≠ 1) : sos s s' t u = (decide (t.w = u.w) && PyData.eqvAll t.gks u.gks) := by
  unfold sos
  split
  · exact absurd rfl h0
  · exact absurd rfl h1
  · rfl
/-- two terms are equal up to binders where they are outside and in their parts -/
theorem eqv_nls (s s' : List Str) (t u : Tm) : PyData.eqv (nls s t) (nls s' u) = (sos s s' t u && PyData.eqvAll (kidN s t) (kidN s' u)) := by
  by_cases hw : t.w = u.w
  · have ht := Tm.tag_eq hw
    by_cases h0 : t.tag = 0
    · obtain ⟨n, rfl⟩ := Tm.tag0 h0
      obtain ⟨m, rfl⟩ := Tm.tag0 (ht ▸ h0)
      rw [nls_int, nls_int, eqv_lists, eqvAll_cons, eqvAll_cons, eqv_int, eqv_str]
      simp [PyData.eqvAll, sos, kidN, Tm.parts]
    · by_cases h1 : t.tag = 1
      · obtain ⟨x, rfl⟩ := Tm.tag1 h1
        obtain ⟨y, rfl⟩ := Tm.tag1 (ht ▸ h1)
        rw [kid_nil s (t := .name x) rfl, kid_nil s' (t := .name y) rfl]
        have bf : decide (("bound" : Str) = "free") = false := by decide +kernel
        have fb : decide (("free" : Str) = "bound") = false := by decide +kernel
        rcases nls_name s x with ⟨k, l1, e1⟩ | ⟨l1, e1⟩ <;> rcases nls_name s' y with ⟨k', l2, e2⟩ | ⟨l2, e2⟩ <;> rw [e1, e2, eqv_lists, eqvAll_cons, eqv_str, eqvAll_cons] <;> unfold sos <;> simp only [l1, l2]
        · rw [eqv_int]
          have : decide ((k : Int) = (k' : Int)) = decide (k = k') := by
            by_cases e : k = k'
            · subst e; simp
            · rw [decide_eq_false e, decide_eq_false (by omega)]
          rw [this]; simp [PyData.eqvAll]
        · rw [bf]; rfl
        · rw [fb]; rfl
        · rw [eqv_str]; simp [PyData.eqvAll]
      · have g0 : u.tag ≠ 0 := ht ▸ h0
        have g1 : u.tag ≠ 1 := ht ▸ h1
        rw [nls_other s h0 h1, nls_other s' g0 g1, eqv_lists, eqvAll_cons, eqv_str, sos_other s s' h0 h1, eqvAll_app (by rw [t.gl_tag, u.gl_tag, ht]), Bool.and_assoc]
  · rw [sos_ne s s' hw, Bool.false_and]
    obtain ⟨z, r, e1, a1, b1⟩ := nls_head s t
    obtain ⟨z', r', e2, a2, b2⟩ := nls_head s' u
    rw [e1, e2, eqv_lists, eqvAll_cons, eqv_str]
    have : z ≠ z' := by
      by_cases h1 : t.tag = 1
      · by_cases g1 : u.tag = 1
        · exact fun _ => hw (Tm.w_eq (h1.trans g1.symm))
        · intro e
          rw [a2 g1] at e
          rcases b1 h1 with q | q
          · exact (w_not u).1 (e.symm.trans q)
          · exact (w_not u).2 (e.symm.trans q)
      · by_cases g1 : u.tag = 1
        · intro e
          rw [a1 h1] at e
          rcases b2 g1 with q | q
          · exact (w_not t).1 (e.trans q)
          · exact (w_not t).2 (e.trans q)
        · rw [a1 h1, a2 g1]; exact hw
    rw [decide_eq_false this]; rfl
end UN
namespace UN
open PySem PyProof.Rows L2 U UK UM
theorem eqvAll_idx {α : Type} {f : α → Bool} : ∀ {xs ys : List PyData} {ks : List α}, xs.length = ks.length → ys.length = ks.length → (∀ (j : Nat) (k : α), ks[j]? = some k → ∃ x y, xs[j]? = some x ∧ ys[j]? = some y ∧ f k = PyData.eqv x y) → PyData.eqvAll xs ys = ks.all f
  | [], [], [], _, _, _ => by simp [PyData.eqvAll]
  | x :: xs, y :: ys, k :: ks, h1, h2, h => by
    rw [eqvAll_cons, List.all_cons]
    obtain ⟨x', y', e1, e2, e3⟩ := h 0 k rfl
    obtain rfl : x = x' := Option.some.inj e1
    obtain rfl : y = y' := Option.some.inj e2
    rw [e3, eqvAll_idx (by simpa using h1) (by simpa using h2) fun j k' hk => ?_]
    obtain ⟨x', y', e1, e2, e3⟩ := h (j + 1) k' (by simpa using hk)
    exact ⟨x', y', by simpa using e1, by simpa using e2, e3⟩
  | [], _ :: _, ks, h1, h2, _ => by rw [List.length_nil] at h1; rw [← h1] at h2; simp at h2
  | _ :: _, [], ks, h1, h2, _ => by rw [List.length_nil] at h2; rw [← h2] at h1; simp at h1
  | [], [], _ :: _, h1, _, _ => by simp at h1
  | _ :: _, _ :: _, [], h1, _, _ => by simp at h1
theorem kidN_len (s : List Str) (t : Tm) : (kidN s t).length = t.parts.length := by
  unfold kidN; rw [List.length_map, List.length_zip, t.bnds_len.1, Nat.min_self]
theorem kidN_at {s : List Str} {t : Tm} {i : Nat} {p : Tm} {b : List Str} (h1 : t.parts[i]? = some p) (h2 : t.bnds[i]? = some b) : (kidN s t)[i]? = some (nls (s ++ b) p) := by
  unfold kidN
  rw [List.getElem?_map, (List.getElem?_zip_eq_some (z := (p, b))).mpr ⟨h1, h2⟩]; rfl
theorem wlen {t u : Tm} (h : t.w = u.w) : t.parts.length = u.parts.length ∧ t.bpos = u.bpos := by
  have e : t.bpos = u.bpos := by rw [t.bp_tag, u.bp_tag, Tm.tag_eq h]
  exact ⟨by rw [← t.bnds_len.2, ← u.bnds_len.2, e], e⟩
theorem nd_inj {α : Type} : ∀ {l : List α}, l.Nodup → ∀ {i j : Nat} {x : α}, l[i]? = some x → l[j]? = some x → i = j
  | [], _, i, j, x, h, _ => by simp at h
  | y :: l, nd, 0, 0, x, _, _ => rfl
  | y :: l, nd, 0, j + 1, x, h, h' => by
    obtain rfl : y = x := Option.some.inj h
    exact absurd (List.mem_of_getElem? (l := l) (by simpa using h')) (List.nodup_cons.mp nd).1
  | y :: l, nd, i + 1, 0, x, h, h' => by
    obtain rfl : y = x := Option.some.inj h'
    exact absurd (List.mem_of_getElem? (l := l) (by simpa using h)) (List.nodup_cons.mp nd).1
  | y :: l, nd, i + 1, j + 1, x, h, h' => by rw [nd_inj (List.nodup_cons.mp nd).2 (i := i) (j := j) (x := x) (by simpa using h) (by simpa using h')]
/-- numbers that mean the same mean the same distance -/
theorem mn_same {s s' : List Str} {ns : List Int} (h : s.length = ns.length) (h' : s'.length = ns.length) (nd : ns.Nodup) (x y : Str) :
    decide ((valV (Mn s ns) (Sum.inr x : Key)).getD (.str x) = (valV (Mn s' ns) (Sum.inr y : Key)).getD (.str y)) = sos s s' (.name x) (.name y) ∧ scal ((valV (Mn s ns) (Sum.inr x : Key)).getD (.str x)) ((valV (Mn s' ns) (Sum.inr y : Key)).getD (.str y)) = true := by
  rcases Mn_get (x := x) h with ⟨k, n, e1, e2, e3⟩ | ⟨e1, e3⟩ <;> rcases Mn_get (x := y) h' with ⟨k', n', f1, f2, f3⟩ | ⟨f1, f3⟩ <;> rw [e3, f3] <;> refine ⟨?_, rfl⟩ <;> unfold sos <;> simp only [e1, f1]
  · by_cases e : k = k'
    · subst e
      rw [e2] at f2
      obtain rfl := Option.some.inj f2
      simp
    · have ne : n ≠ n' := fun q => by
        subst q
        have nd' : ns.reverse.Nodup := (List.reverse_perm ns).nodup_iff.mpr nd
        exact e (nd_inj nd' e2 f2)
      rw [decide_eq_false e, decide_eq_false (by simpa using ne)]
  · simp
  · simp
  · simp
/-! ### data of kinds -/
theorem gr_str {g : Str} (h : g = "?" ∨ GrOk g) : PyData.strOk g = true := by
  rcases h with rfl | h
  · decide +kernel
  · unfold PyData.strOk
    rw [Array.all_eq_true_iff_forall_mem]
    intro c hc
    have := h.2.2 c (Array.mem_toList_iff.mpr hc)
    unfold gch at this
    simp only [Bool.or_eq_true, Bool.and_eq_true, decide_eq_true_eq, beq_iff_eq] at this
    refine decide_eq_true ?_
    omega
theorem s_gd {n : Nat} {z : Str} (h : PyData.strOk z = true) : UE.gd n (.str z) := UE.gd_str h
theorem kd_gd : ∀ (A : Kd), A.Wf → UE.gd A.depth A.d
  | .int, _ => UE.gd_tup (UE.gda_cons (s_gd (by decide +kernel)) UE.gda_nil)
  | .fn g a b, h => UE.gd_tup (UE.gda_cons (s_gd (by decide +kernel)) (UE.gda_cons (s_gd (gr_str (.inr h.1))) (UE.gda_cons ((kd_gd a h.2.1).mono (Nat.le_max_left _ _)) (UE.gda_cons ((kd_gd b h.2.2).mono (Nat.le_max_right _ _)) UE.gda_nil))))
  | .pair a b, h => UE.gd_tup (UE.gda_cons (s_gd (by decide +kernel)) (UE.gda_cons ((kd_gd a h.1).mono (Nat.le_max_left _ _)) (UE.gda_cons ((kd_gd b h.2).mono (Nat.le_max_right _ _)) UE.gda_nil)))
  | .either a b, h => UE.gd_tup (UE.gda_cons (s_gd (by decide +kernel)) (UE.gda_cons ((kd_gd a h.1).mono (Nat.le_max_left _ _)) (UE.gda_cons ((kd_gd b h.2).mono (Nat.le_max_right _ _)) UE.gda_nil)))
  | .box g a, h => UE.gd_tup (UE.gda_cons (s_gd (by decide +kernel)) (UE.gda_cons (s_gd (gr_str (.inr h.1))) (UE.gda_cons (kd_gd a h.2) UE.gda_nil)))
theorem gks_gda {N : List Str} : ∀ {t : Tm}, t.Wf N → UE.gda 8 t.gks
  | .int _, _ => UE.gda_nil | .name _, _ => UE.gda_nil | .gone A, h => UE.gda_cons ((kd_gd A h.1).mono h.2) UE.gda_nil | .op _ _ _, _ => UE.gda_nil
  | .fn _ g A _, h => UE.gda_cons (s_gd (gr_str h.2.1)) (UE.gda_cons ((kd_gd A h.2.2.1.1).mono h.2.2.1.2) UE.gda_nil) | .split _ _ _ _, _ => UE.gda_nil | .pre _ A _, h => UE.gda_cons ((kd_gd A h.1.1).mono h.1.2) UE.gda_nil
  | .case _ _ _ _ _, _ => UE.gda_nil | .box g _, h => UE.gda_cons (s_gd (gr_str (.inr h.1))) UE.gda_nil | .unbox _ _ _, _ => UE.gda_nil | .test _ _ _, _ => UE.gda_nil | .rep _ _ g _ _, h => UE.gda_cons (s_gd (gr_str h.2.1)) UE.gda_nil
/-! ### fields -/
def posP (p : Str → Bool) : Nat → List Str → List Nat
  | _, [] => []
  | i, f :: fs => if p f = true then i :: posP p (i + 1) fs else posP p (i + 1) fs
theorem posP_snoc (p : Str → Bool) (f : Str) : ∀ (i : Nat) (fs : List Str), posP p i (fs ++ [f]) = posP p i fs ++ (if p f = true then [i + fs.length] else [])
  | i, [] => by simp [posP]
  | i, g :: fs => by
    rw [List.cons_append, posP, posP, posP_snoc p f (i + 1) fs, List.length_cons]
    have e : i + 1 + fs.length = i + (fs.length + 1) := by omega
    rw [e]
    split <;> rfl
theorem posP_le (p : Str → Bool) : ∀ (l : List Str) (j : Nat), (posP p j l).length ≤ l.length
  | [], _ => Nat.le_refl _
  | a :: l, j => by
    rw [posP]; have := posP_le p l (j + 1)
    split
    · simp; omega
    · simp; omega
def isG (f : Str) : Bool := decide (f ∈ (["grade", "gap", "kind"] : List Str))
theorem pos_gk : ∀ t : Tm, posP isG 1 t.fields = t.gpos
  | .int _ => rfl | .name _ => rfl | .gone _ => rfl | .op _ _ _ => rfl | .fn _ _ _ _ => rfl | .split _ _ _ _ => rfl | .pre _ _ _ => rfl | .case _ _ _ _ _ => rfl
  | .box _ _ => rfl | .unbox _ _ _ => rfl | .test _ _ _ => rfl | .rep _ _ _ _ _ => rfl
theorem pick_gk {K : PySem.W.Frag} {H : Hp} {xs : List V} {t : Tm} (h : DpAll K H xs t.its) : DpAll K H (pick xs t.gpos) t.gks ∧ ∀ k ∈ t.gpos, k < xs.length := pick_all h t.its_gpos
theorem pick_out {K : PySem.W.Frag} {H : Hp} {xs : List V} {t : Tm} (h : DpAll K H xs t.its) : DpAll K H (pick xs t.opos) t.outs ∧ ∀ k ∈ t.opos, k < xs.length := pick_all h t.its_opos
theorem w_inT {K : PySem.W.Frag} {H : Hp} {a : Addr} {x : V} {xs : List V} {Q : VK} (h : SqT K H a xs) (fx : flatV x = true) (fs : xs.all flatV = true) (q : Q (.bl (inV x xs)) H) : rIn K false x (.ref a) H Q := ⟨a, xs, rfl, .inr h, fx, fs, q⟩
theorem inV_str (x : Str) (zs : List Str) : inV (.str x) (zs.map V.str) = decide (x ∈ zs) := by
  unfold inV
  rw [List.any_map, Bool.eq_iff_iff, List.any_eq_true, decide_eq_true_iff]
  constructor
  · rintro ⟨y, hy, e⟩
    have e : (y == x) = true := e
    rw [← eq_of_beq e]; exact hy
  · intro h
    exact ⟨x, h, show (x == x) = true by simp⟩
theorem flat_strs (zs : List Str) : (zs.map V.str).all flatV = true := by rw [List.all_map]; exact List.all_eq_true.mpr fun _ _ => rfl
end UN
end
namespace Q
open PySem L2 U UX
/-! the walk by the head of the question -/
local macro_rules | `(tactic| walk_at "at") => `(tactic| first | with_reducible exact V.At.here | ((with_reducible apply V.At.there); walk_at "at"))
local macro_rules | `(tactic| walk_at "up") => `(tactic| first | with_reducible exact V.Up.here | ((with_reducible apply V.Up.there); walk_at "up"))
local macro_rules | `(tactic| walk_at "get") => `(tactic| first
  | ((with_reducible refine' V.Hw.get ?w ?h); (case w => assumption); (case h => walk_at "at"))
  | assumption
  | ((with_reducible refine' V.Hw.fro ?w ?h); (case w => assumption); (case h => assumption)))
local macro_rules | `(tactic| walk_at "sql") => `(tactic| first
  | ((with_reducible refine' SqL.of ?g); case g => walk_at "get")
  | assumption
  | ((with_reducible refine' Same.seq (V.Hw.fr ?w) ?h); (case w => assumption); (case h => assumption)))
local macro_rules | `(tactic| walk_at "sqt") => `(tactic| first
  | ((with_reducible refine' SqT.of ?g); case g => walk_at "get")
  | assumption
  | ((with_reducible refine' V.seqT (V.Hw.fr ?w) ?h); (case w => assumption); (case h => assumption)))
local macro_rules | `(tactic| walk_at "sa") => `(tactic| first | exact V.SetAt.z | (apply V.SetAt.s; walk_at "sa"))
local macro_rules | `(tactic| walk_at "sub") => `(tactic| first | with_reducible exact V.Sub.nil | ((with_reducible refine' V.Sub.cons ?_); walk_at "sub") | ((with_reducible refine' V.Sub.skip ?_); walk_at "sub"))
local macro_rules | `(tactic| walk_at "wi") => `(tactic| repeat (first | exact V.Wi.nil | apply V.Wi.cons))
local macro_rules | `(tactic| walk_at "sz") => `(tactic| first | exact Nat.le_of_ble_eq_true rfl | assumption | (refine' U.sz ?_ (m := 1000) (Nat.le_refl _); (first | omega | (simp only [List.length_map, List.length_take, List.length_append, List.length_range, List.length_cons, List.length_nil]; omega))))
local macro_rules | `(tactic| walk_at "szl") => `(tactic| first | assumption | (refine' small1000 ?_; (first | omega | (simp only [List.length_map, List.length_take, List.length_append, List.length_range, List.length_cons, List.length_nil]; omega))))
local macro_rules | `(tactic| walk_at "num") => `(tactic| first | assumption | omega | (show (0 : Int) < _; omega) | exact ⟨by omega, by omega⟩ | exact .inl ⟨by omega, by omega⟩ | exact .inr ⟨by omega, by omega⟩ | exact ⟨by decide, by decide⟩ | exact .inr ⟨by decide, by decide⟩ | decide)
local macro_rules | `(tactic| walk_at "atI") => `(tactic| first | assumption | exact at_of (Int.zero_add _) (by assumption) | exact at_of rfl (by assumption) | rfl)
local macro_rules | `(tactic| walk_at "w") => `(tactic| first
  | ((with_reducible refine' V.w_var ?h ?_); case h => rfl)
  | with_reducible refine' V.w_op ?_
  | with_reducible refine' V.w_c ?_
  | with_reducible refine' V.w_seq ?_
  | with_reducible refine' V.w_asg ?_
  | ((with_reducible refine' V.w_name ?h ?_); case h => walk_at "sa")
  | ((with_reducible show Ends.nx _ _ _); dsimp only)
  | ((with_reducible show Ends.rt _ _ _); dsimp only)
  | with_reducible refine' V.w_ri0 ?_
  | ((with_reducible refine' V.w_ri ?h ?_); case h => walk_at "num")
  | with_reducible refine' V.w_ru ?_
  | with_reducible refine' V.w_bl ?_
  | with_reducible refine' V.w_test ?_
  | with_reducible refine' V.w_b ?_
  | with_reducible refine' V.w_eqI ?_
  | with_reducible refine' V.w_eqS ?_
  | with_reducible refine' V.w_neI ?_
  | with_reducible refine' V.w_neS ?_
  | with_reducible refine' V.w_ifS ?_
  | with_reducible refine' V.w_and ?_
  | with_reducible refine' V.w_or ?_
  | with_reducible refine' V.w_not ?_
  | with_reducible refine' V.w_andV ?_
  | with_reducible refine' V.w_orV ?_
  | with_reducible refine' V.w_notV ?_
  | with_reducible refine' V.w_if ?_
  | with_reducible refine' V.w_isN ?_
  | with_reducible refine' V.w_yes ?_
  | with_reducible refine' V.w_isn ?_
  | with_reducible refine' V.w_next ?_
  | with_reducible refine' V.w_drop ?_
  | with_reducible refine' V.w_ret ?_
  | with_reducible refine' V.w_retN ?_
  | with_reducible refine' V.w_un ?_
  | with_reducible refine' V.w_nil ?_
  | with_reducible refine' V.w_cons ?_
  | with_reducible refine' V.w_call ?_
  | with_reducible refine' V.w_cf ?_
  | with_reducible refine' V.w_cb ?_
  | with_reducible refine' V.w_meth ?_
  | with_reducible refine' V.w_mk ?_
  | with_reducible refine' V.w_mkK ?_
  | ((with_reducible refine' V.w_meth2 ?h ?n ?_); (case h => walk_at "get"); (case n => first | assumption | rfl))
  | with_reducible refine' V.w_fld ?_
  | ((with_reducible refine' V.w_fld2 ?h ?c ?n ?l ?_); (case h => walk_at "get"); (case c => assumption); (case n => assumption); (case l => first | assumption | rfl))
  | with_reducible refine' V.w_bm ?_
  | with_reducible refine' V.w_bm0 ?_
  | with_reducible refine' V.w_bmS ?_
  | with_reducible refine' V.w_bm0S ?_
  | ((with_reducible refine' V.w_bmL ?h ?_); case h => walk_at "sql")
  | ((with_reducible refine' V.w_bm0L ?h ?_); case h => walk_at "sql")
  | ((with_reducible refine' V.w_bmD ?h ?_); case h => walk_at "get")
  | with_reducible refine' V.w_tup ?_
  | with_reducible refine' V.w_lst ?_
  | ((with_reducible refine' V.w_tup2 ?w ?l ?_); (case w => assumption); (case l => walk_at "sz"))
  | ((with_reducible refine' V.w_lst2 ?w ?l ?_); (case w => assumption); (case l => walk_at "sz"))
  | ((with_reducible refine' V.w_ixL ?h ?l ?_); (case h => walk_at "sql"); (case l => walk_at "atI"))
  | ((with_reducible refine' V.w_ixT ?h ?l ?_); (case h => walk_at "sqt"); (case l => walk_at "atI"))
  | ((with_reducible refine' V.w_ixLs ?h ?l ?_); (case h => walk_at "sql"); (case l => walk_at "atI"))
  | ((with_reducible refine' V.w_ixTs ?h ?l ?_); (case h => walk_at "sqt"); (case l => walk_at "atI"))
  | ((with_reducible refine' V.w_append ?w ?h ?u ?l ?_); (case w => assumption); (case h => walk_at "at"); (case u => walk_at "up"); (case l => walk_at "szl"))
  | with_reducible refine' V.w_gsub ?_
  | ((with_reducible refine' V.w_gtup ?h ?l ?_); (case h => walk_at "sqt"); (case l => rfl))
  | with_reducible refine' V.w_gcons ?_
  | with_reducible refine' V.w_gnil ?_
  | ((with_reducible refine' V.w_setL ?w ?h ?u ?l ?_); (case w => assumption); (case h => walk_at "at"); (case u => walk_at "up"); (case l => assumption))
  | with_reducible refine' V.w_sfld ?_
  | ((with_reducible refine' V.w_sfld2 ?w ?h ?c ?n ?l ?e ?u ?_); (case w => assumption); (case h => walk_at "at"); (case c => assumption); (case n => assumption); (case l => first | omega | decide | ((repeat with_reducible apply V.putLt); first | decide | omega)); (case e => rfl); (case u => walk_at "up"))
  | with_reducible refine' V.w_dget ?_
  | with_reducible refine' V.w_din ?_
  | with_reducible refine' V.w_dnin ?_
  | ((with_reducible refine' V.w_dgetS ?h ?l ?_); (case h => walk_at "get"); (case l => assumption))
  | ((with_reducible refine' V.w_dnin1 ?h ?l ?_); (case h => walk_at "get"); (case l => assumption))
  | ((with_reducible refine' V.w_dnin0 ?h ?l ?_); (case h => walk_at "get"); (case l => assumption))
  | ((with_reducible refine' V.w_din1 ?h ?l ?_); (case h => walk_at "get"); (case l => assumption))
  | ((with_reducible refine' V.w_din0 ?h ?l ?_); (case h => walk_at "get"); (case l => assumption))
  | with_reducible refine' V.w_dput ?_
  | with_reducible refine' V.w_fmt ?_
  | ((with_reducible refine' V.w_fmtS ?l ?_); case l => first | assumption | (refine Nat.le_trans ?_ (show 1000000 ≤ sizeLine by decide); (try simp only [U.len_app]); omega))
  | ((with_reducible refine' V.w_slL ?w ?h ?_); (case w => assumption); (case h => walk_at "sql"))
  | ((with_reducible refine' V.w_listL ?w ?h ?_); (case w => assumption); (case h => walk_at "sql"))
  | with_reducible refine' V.w_sl ?_
  | with_reducible refine' V.w_nopart ?_
  | with_reducible refine' V.w_part ?_
  | with_reducible refine' V.w_part2 ?_
  | with_reducible refine' V.w_for ?_
  | with_reducible refine' V.w_lc ?_
  | with_reducible refine' V.w_dc ?_
  | with_reducible refine' V.w_il ?_
  | ((with_reducible refine' V.w_il2 ?h ?_); case h => walk_at "sql")
  | with_reducible refine' V.w_ir ?_
  | ((with_reducible refine' V.w_ir1 ?e ?b ?_); (case e => rfl); (case b => omega))
  | with_reducible refine' V.w_int1 ?_
  | with_reducible refine' V.w_bool1 ?_
  | with_reducible refine' V.w_int1b ?_
  | ((with_reducible refine' V.w_lenL ?h ?_); case h => walk_at "sql")
  | ((with_reducible refine' V.w_lenT ?h ?_); case h => walk_at "sqt")
  | with_reducible refine' V.iTT ?_
  | with_reducible refine' V.iTF ?_
  | with_reducible refine' V.iNT ?_
  | with_reducible refine' V.iNF ?_
  | ((with_reducible refine' U.ifY ?h ?_); case h => first | assumption | rfl | omega)
  | ((with_reducible refine' U.ifN ?h ?_); case h => first | assumption | omega | (intro z; cases z; done) | decide)
  | ((with_reducible refine' U.nifY ?h ?_); case h => first | assumption | rfl | omega)
  | ((with_reducible refine' U.nifN ?h ?_); case h => first | assumption | omega | (intro z; cases z; done) | decide)
  | ((with_reducible refine' V.w_addS ?l ?_); (case l => first | assumption | (refine Nat.le_trans ?_ (show 100000 ≤ sizeLine by decide); (try simp only [U.len_app]); omega)))
  | ((with_reducible refine' V.w_cat ?w ?h ?h2 ?l ?_); (case w => assumption); (case h => walk_at "get"); (case h2 => walk_at "get"); (case l => walk_at "sz"))
  | with_reducible refine' V.w_js0 ?_
  | with_reducible refine' V.w_js1 ?_
  | ((with_reducible refine' V.w_js2 ?l ?_); (case l => first | assumption | (refine Nat.le_trans ?_ (show 1000000 ≤ sizeLine by decide); (try simp only [U.len_app]); omega)))
  | with_reducible refine' V.w_m1 ?_
  | with_reducible refine' V.w_m1s ?_
  | ((with_reducible refine' V.w_ixS ?l ?h ?_); (case l => first | decide +kernel | assumption); (case h => walk_at "atI"))
  | with_reducible refine' V.w_break ?_
  | with_reducible refine' V.w_cont ?_
  | ((with_reducible show Ends.bk _ _ _); dsimp only)
  | ((with_reducible show Ends.ct _ _ _); dsimp only))
local macro_rules | `(tactic| walk_at "m") => `(tactic| ((fail_if_success (with_reducible refine' UM.meetMark ?_)); walk_at "w"))
/-! ### the law's draws -/
def top (i : Nat) : Stmt := PySem.Challenge.pw_usescale_k26_alike_terms.main.body.getD i (.Pass ⟨0, 0, 0, 0⟩)

/-- the state of the draws: a list at S, the cells at L -/
def StA (H : Hp) (S L : Addr) : Prop := S ≠ L ∧ ∃ (ns : List Int) (a b c : Int), ns.length ≤ 63 ∧ H S = some (.lst [.ref L, .int a, .int b, .int c]) ∧ H L = some (.lst (ns.map V.int))
/-- what is not of the state stands -/
def Keeps (S L : Addr) (H H' : Hp) : Prop := ∀ b o, H b = some o → b ≠ S → b ≠ L → H' b = some o
theorem Keeps.trans {S L : Addr} {H H1 H2 : Hp} (a : Keeps S L H H1) (b : Keeps S L H1 H2) : Keeps S L H H2 := fun c o h n1 n2 => b c o (a c o h n1 n2) n1 n2
def spDraws (K : PySem.W.Frag) : Sp := fun vs H Q _ => ∃ (a : Addr) (ns : List Int), vs = [.ref a] ∧ SqL K H a (ns.map V.int) ∧ ns.length ≤ 63 ∧
  ∀ S L H', H S = none → H L = none → StA H' S L → Same H H' → Q (.ref S) H'
def spDraw : Sp := fun vs H Q _ => ∃ (S L : Addr) (m : Int), vs = [.ref S, .int m] ∧ StA H S L ∧ m.natAbs < 1606938044258990275541962092341162602522202993782792835301376 ∧
  ∀ r H', 0 ≤ r → (0 < m → r < m) → StA H' S L → Keeps S L H H' → Q (.int r) H'
structure TxL (K : PySem.W.Frag) (mg : Str → Option Value) : Prop where
  int : mg "int" = none
  len : mg "len" = none
  range : mg "range" = none
  isinstance : mg "isinstance" = none
  bool : mg "bool" = none
  str : mg "str" = none
  tuple : mg "tuple" = none
  list : mg "list" = none

section
variable {P : Program} {w : World} {K : PySem.W.Frag} {mg : Str → Option Value} {base : Heap}
theorem sc__law_draws : FnScope ["_law_script", "_law_seed", "_law_cell"] ["_law_script"] (defScope (top 11)) := ⟨rfl, rfl, rfl, by decide +kernel, rfl, by decide +kernel, by decide +kernel⟩
theorem ok_draws {f : Addr} {fd : FuncData} (F : Fun K "_law_draws" "_law_draws" (top 11) f fd) (T : TxL K mg) : FnOk P w K mg base CX0 1 f fd ["_law_script"] (spDraws K) := by
  refine F.ok sc__law_draws (fun vs H Q E h => ?_) (fun cdv A outer s H vs Q E hr h => ?_)
  · obtain ⟨a, ns, rfl, _⟩ := h
    rfl
  · obtain ⟨a, ns, rfl, hS, hlen, k⟩ := h
    refine ⟨_, (pss_cons (ps_set (i := 1) sc__law_draws.nd rfl (Or.inl rfl) pe_int)
      (pss_cons (ps_for PassesOwn.never rfl (pi_list (pv 0)) (pg_name (i := 2) sc__law_draws.nd rfl (Or.inl rfl)) (pss_one (ps_set (i := 1) sc__law_draws.nd rfl (Or.inl rfl) (pe_op op_mod (pe_callTy call_int1 (by rfl) T.int (by decide +kernel) (pa_cons (pe_op op_add (pe_op op_add (pe_op op_mul (pv 1) pe_int) (pe_op op_mul (pv 2) pe_int)) pe_int) pa_nil)) pe_int))))
      (pss_one (ps_ret (pe_lst (pa_cons (pe_lc (own := [("_law_cell", 2)]) (g := (gName 2)) (by rfl) sc__law_draws.nd (pi_list (pv 0)) (blkOk_by (own := [("_law_cell", 2)]) (N := ["_law_script", "_law_seed", "_law_cell"]) (sc := defScope (top 11)) (by decide +kernel)) (fun _ _ _ _ _ => (pg_name (i := 2) sc__law_draws.nd rfl (Or.inl rfl))) (fun _ _ _ _ _ => pts_nil) (fun _ _ _ _ _ => (pe_callTy call_int1 (by rfl) T.int (by decide +kernel) (pa_cons (pv 2) pa_nil)))) (pa_cons pe_int (pa_cons (pv 1) (pa_cons pe_int pa_nil))))))))), ?_⟩
    refine ⟨_, rfl, a, rfl, ⟨_, hS⟩, for_list (K := K) (a := a) (xs := ns.map V.int) (fun i σ H2 => ∃ (z : Int) (v : Option V), σ = [some (.ref a), some (.int z), v] ∧ H2 = H)
      ⟨7, none, rfl, rfl⟩ (fun i σ H2 _ ⟨_, _, _, e⟩ => by rw [e]; exact hS) ?_ ?_⟩
    · rintro i y σ H2 hi ⟨z, v, rfl, rfl⟩
      obtain ⟨n, rfl, hn⟩ := at_map hi
      refine ⟨_, rfl, _, _, rfl, rfl, .inr ⟨by decide, by decide⟩, _, rfl, _, _, rfl, rfl, .inr ⟨by decide, by decide⟩, _, _, rfl, rfl, _, _, rfl, rfl, .inl ⟨_, rfl, ?_⟩⟩
      refine ⟨_, _, rfl, rfl, (by show (0 : Int) < 998244353; decide), ?_⟩
      exact ⟨_, _, rfl, rfl⟩
    · rintro σ H2 ⟨z, v, rfl, rfl⟩
      refine ⟨_, rfl, a, rfl, ⟨_, hS⟩, fun D hD => lc_list (K := K) (a := a) (xs := ns.map V.int) (fun i H3 => H3 = upd H2 D (.lst ((ns.take i).map V.int))) ?_ ?_ ?_ ?_⟩
      · simp
      · rintro i H3 _ rfl
        exact (sameNew hD).seq hS
      · rintro i y H3 hi rfl
        obtain ⟨n, rfl, hn⟩ := at_map hi
        refine ⟨rfl, ?_⟩
        refine tYesI (iteT ?_)
        refine ⟨_, rfl, .inl ⟨_, rfl, _, upd_same, ?_, ?_⟩⟩
        · rw [List.length_map, List.length_take]
          exact small1000 (by omega)
        · rw [upd_upd, take_snoc hn, List.map_append]
          rfl
      · rintro H3 rfl
        refine ⟨_, rfl, (by show 4 ≤ sizeLine; decide), fun S hS' => ?_⟩
        have hDS : D ≠ S := ne_of_none upd_same hS'
        refine k S D _ ((sameNew hD).free hS') hD ⟨hDS.symm, ns, 0, z, 0, hlen, upd_same, ?_⟩ ((sameNew hD).trans (sameNew hS'))
        rw [upd_ne hDS, upd_same]
        simp [List.take_of_length_le]
theorem sc__law_draw : FnScope ["_law_state", "_law_many", "_law_cell", "_law_digit", "_law_value"] ["_law_state", "_law_many"] (defScope (top 12)) := ⟨rfl, rfl, rfl, by decide +kernel, rfl, by decide +kernel, by decide +kernel⟩
theorem ok_draw {f : Addr} {fd : FuncData} (F : Fun K "_law_draw" "_law_draw" (top 12) f fd) (T : TxL K mg) : FnOk P w K mg base CX0 1 f fd ["_law_state", "_law_many"] spDraw := by
  refine F.ok sc__law_draw (fun vs H Q E h => ?_) (fun cdv A outer s H vs Q E hr h => ?_)
  · obtain ⟨S, L, m, rfl, _⟩ := h
    rfl
  · obtain ⟨S, L, m, rfl, hst, hm, k⟩ := h
    refine ⟨_, (pss_cons (ps_if (pt_cmpR op_lt (pv 1) pe_int (nomark _)) (pss_one (ps_ret pe_int)) pss_nil)
      (pss_cons (ps_while PassesOwn.never (PW.pt (pw_and (pt_cmpR op_lt (pe_ix ix_list (pv 0) pe_int (fun _ _ => rfl)) pe_int (nomark _)) (pw_and1 (pt_cmpR op_gt (pe_callB call_len_seq (by rfl) T.len (by decide +kernel) (pa_cons (pe_ix ix_list (pv 0) pe_int (fun _ _ => rfl)) pa_nil)) pe_int (nomark _))))) (pss_cons (ps_set (i := 2) sc__law_draw.nd rfl (Or.inl rfl) (pe_bm PySem.F.plainAttrs_list PySem.F.slot_list_pop PySem.F.type_list_pop mt_popAt (pe_ix ix_list (pv 0) pe_int (fun _ _ => rfl)) (pa_cons pe_int pa_nil)))
      (pss_one (ps_asg (pe_ifExp (pt_cmpR op_gt (pv 2) pe_int (nomark _)) (pv 2) (pe_un un_neg (pv 2))) (pg_sub (pv 0) pe_int set_list)))))
      (pss_cons (ps_if (pt_cmpR op_gt (pe_ix ix_list (pv 0) pe_int (fun _ _ => rfl)) pe_int (nomark _)) (pss_cons (ps_set (i := 3) sc__law_draw.nd rfl (Or.inl rfl) (pe_op op_mod (pe_callTy call_int1 (by rfl) T.int (by decide +kernel) (pa_cons (pe_ix ix_list (pv 0) pe_int (fun _ _ => rfl)) pa_nil)) (pv 1)))
      (pss_cons (ps_asg (pe_op op_fdivW (pe_ix ix_list (pv 0) pe_int (fun _ _ => rfl)) (pv 1)) (pg_sub (pv 0) pe_int set_list))
      (pss_one (ps_ret (pv 3))))) pss_nil)
      (pss_cons (ps_augS (pv 0) pe_int get_list pe_int ip_add set_list)
      (pss_cons (ps_set (i := 4) sc__law_draw.nd rfl (Or.inl rfl) (pe_op op_mod (pe_callTy call_int1 (by rfl) T.int (by decide +kernel) (pa_cons (pe_op op_add (pe_ix ix_list (pv 0) pe_int (fun _ _ => rfl)) (pe_op op_mul (pe_ix ix_list (pv 0) pe_int (fun _ _ => rfl)) pe_int)) pa_nil)) pe_int))
      (pss_cons (ps_set (i := 4) sc__law_draw.nd rfl (Or.inl rfl) (pe_op op_mod (pe_callTy call_int1 (by rfl) T.int (by decide +kernel) (pa_cons (pe_op op_mul (pv 4) (pv 4)) pa_nil)) pe_int))
      (pss_cons (ps_set (i := 4) sc__law_draw.nd rfl (Or.inl rfl) (pe_op op_mod (pe_callTy call_int1 (by rfl) T.int (by decide +kernel) (pa_cons (pe_op op_add (pe_op op_mul (pv 4) pe_int) (pe_op op_mul (pe_ix ix_list (pv 0) pe_int (fun _ _ => rfl)) pe_int)) pa_nil)) pe_int))
      (pss_cons (ps_if (pt_cmpR op_gt (pv 1) (pe_op op_pow pe_int pe_int) (nomark _)) (pss_one (ps_set (i := 4) sc__law_draw.nd rfl (Or.inl rfl) (pe_op op_pow (pv 4) pe_int))) pss_nil)
      (pss_one (ps_ret (pe_op op_mod (pe_callTy call_int1 (by rfl) T.int (by decide +kernel) (pa_cons (pe_op op_fdiv (pv 4) pe_int) pa_nil)) (pv 1)))))))))))), ?_⟩
    obtain ⟨nSL, ns, a, b, c, hl, h1, h2⟩ := hst
    refine ⟨_, rfl, _, _, rfl, rfl, _, rfl, ?_⟩
    refine ifD (fun hm2 => ?_) (fun hm2 => ?_)
    · exact k 0 H (Int.le_refl 0) id ⟨nSL, ns, a, b, c, hl, h1, h2⟩ (fun _ _ e _ _ => e)
    refine whileX (fun M σ H2 => ∃ (v : Option V) (ns : List Int) (a : Int), M = ns.length ∧ σ = [some (.ref S), some (.int m), v, none, none] ∧ ns.length ≤ 63 ∧ H2 S = some (.lst [.ref L, .int a, .int b, .int c]) ∧ H2 L = some (.lst (ns.map V.int)) ∧ Keeps S L H H2)
      (fun σ H2 => ∃ (v : Option V) (ns : List Int) (a : Int), σ = [some (.ref S), some (.int m), v, none, none] ∧ ns.length ≤ 63 ∧ H2 S = some (.lst [.ref L, .int a, .int b, .int c]) ∧ H2 L = some (.lst (ns.map V.int)) ∧ Keeps S L H H2)
      _ ⟨none, ns, a, rfl, rfl, hl, h1, h2, fun _ _ e _ _ => e⟩ ?_ ?_
    · rintro σ H2 ⟨v, ns, a, rfl, hl, h1, h2, kp⟩
      refine ⟨_, rfl, S, _, _, _, rfl, rfl, SqL.of h1, rfl, _, _, rfl, rfl, _, rfl, ?_⟩
      refine ifD (fun ha => ?_) (fun ha => ?_)
      · refine ⟨_, rfl, S, _, _, _, rfl, rfl, SqL.of h1, rfl, .inl ⟨_, rfl, ?_⟩⟩
        refine ⟨_, rfl, _, _, rfl, rfl, (by show (0 : Int) < m; omega), ?_⟩
        refine ⟨_, rfl, S, _, _, _, rfl, rfl, SqL.of h1, rfl, ?_⟩
        refine ⟨_, rfl, _, _, rfl, rfl, wide_div (b := 200) (by omega) hm (by decide) (by decide), ?_⟩
        refine ⟨_, rfl, S, _, _, _, rfl, rfl, h1, rfl, ?_⟩
        refine ⟨_, rfl, ?_⟩
        refine k _ _ (Int.emod_nonneg _ (by omega)) (fun h0 => Int.emod_lt_of_pos _ h0) ⟨nSL, ns, _, b, c, hl, upd_same, (by rw [upd_ne nSL.symm]; exact h2)⟩ ?_
        intro d o e n1 n2
        rw [upd_ne n1]
        exact kp d o e n1 n2
      · refine ⟨_, rfl, S, _, _, _, rfl, rfl, SqL.of h1, by decide, rfl, ?_⟩
        refine ⟨_, _, rfl, rfl, ?_⟩
        refine ⟨S, _, _, _, rfl, rfl, h1, rfl, ?_⟩
        have g1 : ∀ o, (upd H2 S o) L = some (.lst (ns.map V.int)) := fun o => by rw [upd_ne nSL.symm]; exact h2
        refine ⟨_, rfl, S, _, _, _, rfl, rfl, SqL.of upd_same, rfl, ?_⟩
        refine ⟨_, rfl, S, _, _, _, rfl, rfl, SqL.of upd_same, rfl, ?_⟩
        refine ⟨_, _, rfl, rfl, .inr ⟨by decide, by decide⟩, _, _, rfl, rfl, .inl ⟨_, rfl, ?_⟩⟩
        refine ⟨_, _, rfl, rfl, (by show (0 : Int) < 998244353; decide), ?_⟩
        have e1 : 0 ≤ (b + (c + 1) * 7919) % 998244353 := Int.emod_nonneg _ (by decide)
        have e2 : (b + (c + 1) * 7919) % 998244353 < 998244353 := Int.emod_lt_of_pos _ (by decide)
        refine ⟨_, rfl, _, rfl, _, _, rfl, rfl, .inl ⟨by show -(2 ^ 64) < (b + (c + 1) * 7919) % 998244353; omega, by show (b + (c + 1) * 7919) % 998244353 < 2 ^ 64; omega⟩, .inl ⟨_, rfl, ?_⟩⟩
        refine ⟨_, _, rfl, rfl, (by show (0 : Int) < 1000000007; decide), ?_⟩
        refine ⟨_, rfl, _, _, rfl, rfl, .inr ⟨by decide, by decide⟩, ?_⟩
        refine ⟨_, rfl, S, _, _, _, rfl, rfl, SqL.of upd_same, rfl, _, _, rfl, rfl, .inr ⟨by decide, by decide⟩, _, _, rfl, rfl, .inl ⟨_, rfl, ?_⟩⟩
        refine ⟨_, _, rfl, rfl, (by show (0 : Int) < 2147483647; decide), ?_⟩
        generalize hv : ((((b + (c + 1) * 7919) % 998244353) * ((b + (c + 1) * 7919) % 998244353)) % 1000000007 * 48271 + (c + 1) * 69621) % 2147483647 = v0
        have v1 : 0 ≤ v0 := by rw [← hv]; exact Int.emod_nonneg _ (by decide)
        have v2 : v0 < 2147483647 := by rw [← hv]; exact Int.emod_lt_of_pos _ (by decide)
        refine ⟨_, rfl, _, _, rfl, rfl, ⟨by decide, by decide, by decide⟩, _, _, rfl, rfl, _, rfl, ?_⟩
        refine ifD (fun hb => ?_) (fun hb => ?_)
        · refine ⟨_, rfl, _, _, rfl, rfl, ⟨by decide, by decide, by omega⟩, ?_⟩
          refine ⟨_, rfl, _, _, rfl, rfl, ⟨by decide, by decide⟩, .inl ⟨_, rfl, ?_⟩⟩
          refine ⟨_, rfl, _, _, rfl, rfl, (by show (0 : Int) < m; omega), ?_⟩
          refine k _ _ (Int.emod_nonneg _ (by omega)) (fun h0 => Int.emod_lt_of_pos _ h0) ⟨nSL, ns, a, b, _, hl, upd_same, g1 _⟩ ?_
          intro d o e n1 n2
          rw [upd_ne n1]
          exact kp d o e n1 n2
        · refine ⟨_, rfl, _, _, rfl, rfl, ⟨by decide, by decide⟩, .inl ⟨_, rfl, ?_⟩⟩
          refine ⟨_, rfl, _, _, rfl, rfl, (by show (0 : Int) < m; omega), ?_⟩
          refine k _ _ (Int.emod_nonneg _ (by omega)) (fun h0 => Int.emod_lt_of_pos _ h0) ⟨nSL, ns, a, b, _, hl, upd_same, g1 _⟩ ?_
          intro d o e n1 n2
          rw [upd_ne n1]
          exact kp d o e n1 n2
    · intro nx hnx M σ H2
      rintro ⟨v, ns, a, rfl, rfl, hl, h1, h2, kp⟩
      refine ⟨_, rfl, S, _, _, _, rfl, rfl, SqL.of h1, rfl, _, _, rfl, rfl, _, rfl, ?_⟩
      refine ifD (fun ha => ?_) (fun ha => ?_)
      · refine ⟨_, rfl, S, _, _, _, rfl, rfl, SqL.of h1, rfl, ?_⟩
        refine ⟨_, _, rfl, .inl (SqL.of h2), _, _, rfl, rfl, _, rfl, ?_⟩
        refine ifD (fun hn => ?_) (fun hn => ?_)
        · refine ⟨_, fun _ _ h => h, ?_⟩
          refine ⟨_, rfl, S, _, _, _, rfl, rfl, SqL.of h1, rfl, .inl ⟨rfl, _, SqL.of h2⟩, ?_⟩
          obtain ⟨n, ns, rfl⟩ : ∃ n ns', ns = n :: ns' := by
            cases ns with
            | nil => exact absurd hn (by decide)
            | cons n ns' => exact ⟨n, ns', rfl⟩
          have hl' : ns.length + 1 ≤ 63 := hl
          refine ⟨L, _, _, 0, _, rfl, rfl, h2, by decide, by decide, ?_, rfl, ?_⟩
          · exact seqIndex_of (k := 0) (n := ((n :: ns).map V.int).length) (by decide) (by rw [List.length_map, List.length_cons]; omega)
          have g1 : ∀ o, (upd H2 L o) S = some (.lst [.ref L, .int a, .int b, .int c]) := fun o => by rw [upd_ne nSL]; exact h1
          have fin : ∀ z : Int, ∃ m', m' < (n :: ns).length ∧ ∃ (v : Option V) (ns_1 : List Int) (a : Int), m' = ns_1.length ∧ [some (V.ref S), some (V.int m), some (V.int n), none, none] = [some (.ref S), some (.int m), v, none, none] ∧ ns_1.length ≤ 63 ∧
              (upd (upd H2 L (.lst (ns.map V.int))) S (.lst [.ref L, .int z, .int b, .int c])) S = some (.lst [.ref L, .int a, .int b, .int c]) ∧ (upd (upd H2 L (.lst (ns.map V.int))) S (.lst [.ref L, .int z, .int b, .int c])) L = some (.lst (ns_1.map V.int)) ∧
              Keeps S L H (upd (upd H2 L (.lst (ns.map V.int))) S (.lst [.ref L, .int z, .int b, .int c])) := fun z =>
            ⟨ns.length, Nat.lt_succ_self _, _, ns, z, rfl, rfl, by omega, upd_same, by rw [upd_ne nSL.symm, upd_same], fun d o e n1 n2 => by rw [upd_ne n1, upd_ne n2]; exact kp d o e n1 n2⟩
          refine ⟨_, rfl, _, _, rfl, rfl, _, rfl, ?_⟩
          refine ifD (fun hc => ?_) (fun hc => ?_)
          · refine ⟨_, rfl, _, rfl, S, _, _, _, rfl, rfl, g1 _, rfl, ?_⟩
            exact fin n
          · refine ⟨_, rfl, _, rfl, _, rfl, S, _, _, _, rfl, rfl, g1 _, rfl, ?_⟩
            exact fin (-n)
        · exact hnx _ _ ⟨v, ns, a, rfl, hl, h1, h2, kp⟩
      · exact hnx _ _ ⟨v, ns, a, rfl, hl, h1, h2, kp⟩
end
/-! ### the parts of a term -/
open UK
structure TxT (K : PySem.W.Frag) (w : World) (mg : Str → Option Value) (DT DB : Addr) : Prop extends TxL K mg where
  dict : mg "dict" = none
  sorted : mg "sorted" = none
  enumerate : mg "enumerate" = none
  g_TERM_FIELDS : ∃ u, mg "TERM_FIELDS" = some u ∧ RelV (.ref DT) u
  g_BINDERS : ∃ u, mg "BINDERS" = some u ∧ RelV (.ref DB) u
  TF : UT.WTab K w DT rowsTF missTF
  BI : UT.WTab K w DB rowsBI missBI
def spPP (K : PySem.W.Frag) : Sp := fun vs H Q _ => ∃ (v : V) (t : Tm), vs = [v] ∧ TmAt K H v t ∧ ∀ H' p, Same H H' → H p = none → H' p = some (.lst (t.pos.map fun (k : Nat) => V.int (k : Int))) → Q (.ref p) H'
def spTP (K : PySem.W.Frag) : Sp := fun vs H Q _ => ∃ (v : V) (t : Tm) (Z : Hp), vs = [v] ∧ Same Z H ∧ TmAt K Z v t ∧ ∀ H' p us, Same H H' → H p = none → H' p = some (.lst us) → TmAll K Z us t.parts → Q (.ref p) H'
def spBP (K : PySem.W.Frag) : Sp := fun vs H Q _ => ∃ (v : V) (t : Tm) (i : Nat) (ks : List Nat), vs = [v, .int (i : Int)] ∧ TmAt K H v t ∧ t.bpos[i]? = some ks ∧ ∀ H' p, Same H H' → SqT K H' p (ks.map fun (k : Nat) => V.int (k : Int)) → Q (.ref p) H'
def spBN (K : PySem.W.Frag) : Sp := fun vs H Q _ => ∃ (v : V) (t : Tm) (i : Nat) (bs : List Str), vs = [v, .int (i : Int)] ∧ TmAt K H v t ∧ t.bnds[i]? = some bs ∧ ∀ H' p, Same H H' → H p = none → H' p = some (.lst (bs.map V.str)) → Q (.ref p) H'
theorem at0 {K : PySem.W.Frag} {H : Hp} {xs : List V} {t : Tm} (h : DpAll K H xs t.its) : atI xs 0 = some (.str t.w) := by
  obtain ⟨v, e, d⟩ := h.at_ t.its0
  rw [d.strI] at e
  exact at_of (j := 0) rfl e
theorem at_pick {xs : List V} {ks : List Nat} {i k : Nat} (hk : ks[i]? = some k) (hl : ∀ k ∈ ks, k < xs.length) : atI xs (k : Int) = some (xs.getD k .non) := by
  have := hl k (List.mem_of_getElem? hk)
  exact at_of (j := k) rfl (by rw [List.getD_eq_getElem?_getD, List.getElem?_eq_getElem this]; rfl)
theorem pick_take {xs : List V} {ks : List Nat} {i k : Nat} (hk : ks[i]? = some k) : pick xs (ks.take (i + 1)) = pick xs (ks.take i) ++ [xs.getD k .non] := by
  unfold pick
  rw [take_snoc hk, List.map_append]; rfl
theorem pos_small (t : Tm) : t.pos.length ≤ 3 := by rw [t.pos_len]; exact t.parts3
theorem w_kgetTF {K : PySem.W.Frag} {w : World} {mg : Str → Option Value} {DT DB : Addr} {Z H : Hp} {so : Option (Addr × Addr)} {L : V.Cells} {Q : VK} {p0 : Addr} {t : Tm} (T : TxT K w mg DT DB) (w1 : V.Hw Z so H L) (h0 : Z p0 = some (.tup [])) (q : ∀ fa, SqT K Z fa (t.fields.map V.str) → Q (.ref fa) H) : UT.gKGet K Q DT (.str t.w) (.ref p0) H := by
  rcases tf_row t with m | ⟨m, e⟩
  · obtain ⟨u, x, e1, e2, dp⟩ := T.TF.at_ _ _ m
    obtain ⟨fa, fs, rfl, hf, hfs⟩ := (dp Z).tupI
    rw [DpAll.strs hfs] at hf
    exact ⟨_, rfl, .inl ⟨u, _, e1, e2, q fa hf⟩⟩
  · refine UT.w_kget0 T.TF m (q p0 ?_)
    rw [e]; exact .inl (.inl h0)
section
variable {P : Program} {w : World} {K : PySem.W.Frag} {mg : Str → Option Value} {base : Heap} {DT DB : Addr}
theorem sc_part_positions : FnScope ["term", "fields", "at", "field"] ["term"] (defScope (top 3)) := ⟨rfl, rfl, rfl, by decide +kernel, rfl, by decide +kernel, by decide +kernel⟩
theorem st_part_positions (v0 : V) : L2.start ["term", "fields", "at", "field"] [v0] = [some v0, none, none, none] := rfl
theorem ok_part_positions {f : Addr} {fd : FuncData} (F : Fun K "part_positions" "part_positions" (top 3) f fd) (T : TxT K w mg DT DB) : FnOk P w K mg base CX0 1 f fd ["term"] (spPP K) := by
  refine F.ok sc_part_positions (fun vs H Q E h => ?_) (fun cdv A outer s H vs Q E hr h => ?_)
  · obtain ⟨v, t, rfl, _⟩ := h
    rfl
  · obtain ⟨v, t, rfl, ht, k⟩ := h
    refine ⟨_, (pss_cons (ps_set (i := 1) sc_part_positions.nd rfl (Or.inl rfl) (UT.pe_kget2 K rfl w rfl (pe_gx (by rfl) T.g_TERM_FIELDS) (pe_ix ix_tup (pv 0) pe_int (fun _ _ => rfl)) (pe_tup pa_nil) ⟨rfl, rfl, rfl, rfl⟩))
      (pss_one (ps_ret (pe_lc (own := [("at", 2), ("field", 3)]) (g := _) (by rfl) sc_part_positions.nd (UT.pi_enumS K rfl (by rfl) T.enumerate (pa_cons (pv 1) pa_nil) (pk_cons pe_int pk_nil)) (blkOk_by (own := [("at", 2), ("field", 3)]) (N := ["term", "fields", "at", "field"]) (sc := defScope (top 3)) (by decide +kernel)) (fun _ _ _ _ _ => (UT.pg_tupK (n := 2) K rfl rfl (pgs_cons (pg_name (i := 2) sc_part_positions.nd rfl (Or.inl rfl)) (pgs_cons (pg_name (i := 3) sc_part_positions.nd rfl (Or.inl rfl)) pgs_nil)))) (fun _ _ _ _ _ => (pts_one (pt_cmpR op_eq (pv 3) pe_str (nomark _)))) (fun _ _ _ _ _ => (pv 2)))))), ?_⟩
    rw [st_part_positions]
    obtain ⟨a, xs, rfl, hs, hx⟩ := ht.open
    have a0 := at0 hx
    have w0 := V.Hw.start (H := H)
    repeat walk_at "w"
    refine UT.w_kgetC T.TF ?_
    repeat walk_at "w"
    intro p0 H1 n0 w1
    obtain ⟨w1, s1, h1⟩ := w1.frz
    refine w_kgetTF T w1 h1 fun fa hf => ?_
    repeat walk_at "w"
    refine UT.w_enS ?_
    repeat walk_at "w"
    refine UT.w_enS2 (V.seqT w1.fr hf) (by decide) (by decide) ?_
    refine UT.lcEW (fun i => (posOf 1 (t.fields.take i)).map fun (k : Nat) => V.int (k : Int)) w1 (by walk_at "wi") (fun H' w' => V.seqT w'.fr hf) rfl ?_ ?_
    · intro i x TT D H2 hx2 w2
      obtain ⟨z, rfl, hz⟩ := UW.at_strs hx2
      have ln : (t.fields.take i).length = i := by
        rw [List.length_take]
        have := (List.getElem?_eq_some_iff.mp hz).1
        omega
      have le : ((posOf 1 (t.fields.take i)).map fun (k : Nat) => V.int (k : Int)).length < 1000 := by
        have : ∀ (l : List Str) (j : Nat), (posOf j l).length ≤ l.length := fun l => by
          induction l with
          | nil => intro j; exact Nat.le_refl _
          | cons a l ih =>
            intro j; rw [posOf]; have := ih (j + 1)
            split
            · simp; omega
            · simp; omega
        have h5 : t.fields.length ≤ 5 := by cases t <;> simp [Tm.fields]
        have := this (t.fields.take i) 1
        rw [ln] at this
        have := (List.getElem?_eq_some_iff.mp hz).1
        rw [List.length_map]; omega
      repeat walk_at "w"
      refine ⟨rfl, ?_⟩
      repeat walk_at "w"
      refine ifD (fun e => ?_) (fun e => ?_)
      · repeat walk_at "w"
        refine V.w_acc w2 (.skip (.refl _)) (small1000 (by omega)) ?_
        rw [take_snoc hz, posOf_snoc, if_pos e, ln, List.map_append]
        show _ = _ ++ [V.int _]
        congr 2
      · refine V.w_noacc w2 (.skip (.refl _)) ?_
        rw [take_snoc hz, posOf_snoc, if_neg e, List.append_nil]
    · intro D H2 w2
      rw [show (t.fields.map V.str).length = t.fields.length from List.length_map .., List.take_length, pos_fields] at w2
      refine k H2 D (fun b o e => w2.fr _ _ (s1 _ _ e)) ?_ (w2.get .here)
      exact (fun z => z) (w2.fresh0 s1)
theorem sc_term_parts : FnScope ["term", "at"] ["term"] (defScope (top 4)) := ⟨rfl, rfl, rfl, by decide +kernel, rfl, by decide +kernel, by decide +kernel⟩
theorem st_term_parts (v0 : V) : L2.start ["term", "at"] [v0] = [some v0, none] := rfl
theorem ok_term_parts {f : Addr} {fd : FuncData} (F : Fun K "term_parts" "term_parts" (top 4) f fd) (c_part_positions : Cal P w K mg base CX0 1 "part_positions" (spPP K)) : FnOk P w K mg base CX0 2 f fd ["term"] (spTP K) := by
  refine F.ok sc_term_parts (fun vs H Q E h => ?_) (fun cdv A outer s H vs Q E hr h => ?_)
  · obtain ⟨v, t, Z, rfl, _⟩ := h
    rfl
  · obtain ⟨v, t, Z, rfl, sz, ht, k⟩ := h
    refine ⟨_, (pss_one (ps_ret (pe_lc (own := [("at", 1)]) (g := (gName 1)) (by rfl) sc_term_parts.nd (pi_list (pe_c c_part_positions hr (by decide) (by rfl) (pa_cons (pv 0) pa_nil))) (blkOk_by (own := [("at", 1)]) (N := ["term", "at"]) (sc := defScope (top 4)) (by decide +kernel)) (fun _ _ _ _ _ => (pg_name (i := 1) sc_term_parts.nd rfl (Or.inl rfl))) (fun _ _ _ _ _ => pts_nil) (fun _ _ _ _ _ => (pe_ix (ix_tupK K rfl) (pv 0) (pv 1) (fun _ _ => rfl)))))), ?_⟩
    rw [st_term_parts]
    obtain ⟨a, xs, rfl, hs, hx⟩ := ht.open
    have hs := V.seqT sz hs
    obtain ⟨pk, hl⟩ := pick_parts hx
    have w0 := V.Hw.start (H := H)
    repeat walk_at "w"
    refine ⟨_, t, rfl, ht.mono sz, fun H1 p s1 n1 h1 => ?_⟩
    have w1 := w0.call s1
    have w2 := w0.cellNew w1 n1 h1
    obtain ⟨w2, s2, h2⟩ := w2.frz
    have hq := SqL.of (K := K) h2
    repeat walk_at "w"
    refine V.lcW (fun i => pick xs (t.pos.take i)) w2 (by walk_at "wi") (fun H' w' => hq.elim (fun z => .inl (z.elim (fun z => .inl (w'.fr _ _ z)) fun ⟨o, z⟩ => .inr ⟨o, w'.fr _ _ z⟩)) .inr) rfl ?_ ?_
    · intro i x D H2 hx2 w3
      rw [List.getElem?_map] at hx2
      obtain ⟨j, hj, rfl⟩ := Option.map_eq_some_iff.mp hx2
      have ij := at_pick hj hl
      have hs3 : SqT K H2 a xs := V.seqT (fun b o e => w3.fr _ _ (s2 _ _ e)) hs
      have le : (pick xs (t.pos.take i)).length ≤ 3 := by
        unfold pick; rw [List.length_map, List.length_take]; have := pos_small t; omega
      repeat walk_at "w"
      refine ⟨rfl, ?_⟩
      repeat walk_at "w"
      exact V.w_acc w3 (.refl _) (small1000 (by omega)) (pick_take hj)
    · intro D H2 w3
      rw [List.length_map, List.take_length] at w3
      refine k H2 D _ (fun b o e => w3.fr _ _ (s2 _ _ e)) (w3.fresh0 s2) (w3.get .here) pk
theorem sc_binder_positions : FnScope ["term", "number"] ["term", "number"] (defScope (top 5)) := ⟨rfl, rfl, rfl, by decide +kernel, rfl, by decide +kernel, by decide +kernel⟩
theorem st_binder_positions (v0 v1 : V) : L2.start ["term", "number"] [v0, v1] = [some v0, some v1] := rfl
theorem ok_binder_positions {f : Addr} {fd : FuncData} (F : Fun K "binder_positions" "binder_positions" (top 5) f fd) (T : TxT K w mg DT DB) : FnOk P w K mg base CX0 1 f fd ["term", "number"] (spBP K) := by
  refine F.ok sc_binder_positions (fun vs H Q E h => ?_) (fun cdv A outer s H vs Q E hr h => ?_)
  · obtain ⟨v, t, i, ks, rfl, _⟩ := h
    rfl
  · obtain ⟨v, t, i, ks, rfl, ht, hk, k⟩ := h
    refine ⟨_, (pss_cons (ps_if (pt_cmpR (UT.op_notInKD K rfl w rfl) (pe_ix ix_tup (pv 0) pe_int (fun _ _ => rfl)) (pe_gx (by rfl) T.g_BINDERS) (by rfl)) (pss_one (ps_ret (pe_tup pa_nil))) pss_nil)
      (pss_one (ps_ret (pe_ix ix_tup (pe_ix (UT.ix_KD K rfl w rfl) (pe_gx (by rfl) T.g_BINDERS) (pe_ix ix_tup (pv 0) pe_int (fun _ _ => rfl)) (fun _ _ => rfl)) (pv 1) (fun _ _ => rfl))))), ?_⟩
    rw [st_binder_positions]
    obtain ⟨a, xs, rfl, hs, hx⟩ := ht.open
    have a0 := at0 hx
    have w0 := V.Hw.start (H := H)
    repeat walk_at "w"
    rcases bi_row t with ⟨bt, m⟩ | ⟨m, bf, no⟩
    · refine UT.w_ninKD1 T.BI m ?_
      repeat walk_at "w"
      refine UT.w_ixD T.BI m fun u du => ?_
      obtain ⟨fa, fs, rfl, hf, hfs⟩ := du.tupI
      obtain ⟨x, e1, e2⟩ := hfs.at_ (i := i) (by rw [List.getElem?_map, hk]; rfl)
      obtain ⟨ga, gs, rfl, hg, hgs⟩ := e2.tupI
      rw [DpAll.ints hgs] at hg
      have ij : atI fs (i : Int) = some (.ref ga) := at_of (j := i) rfl e1
      repeat walk_at "w"
      exact k H ga w0.fr hg
    · refine UT.w_ninKD0 T.BI m ?_
      repeat walk_at "w"
      intro p0 H1 n0 w1
      repeat walk_at "w"
      refine k H1 p0 w1.fr ?_
      rw [no ks (List.mem_of_getElem? hk)]
      exact .inl (.inl (w1.get .here))
end
/-! ### alike -/
open UK UM UN
def spGK (K : PySem.W.Frag) : Sp := fun vs H Q _ => ∃ (v : V) (t : Tm) (Z : Hp), vs = [v] ∧ Same Z H ∧ TmAt K Z v t ∧ ∀ H' p us, Same H H' → H p = none → H' p = some (.lst us) → DpAll K Z us t.gks → Q (.ref p) H'
def spSO (K : PySem.W.Frag) : Sp := fun vs H Q _ => ∃ (Z : Hp) (v v' : V) (m m' : Addr) (t u : Tm) (N : List Str) (s s' : List Str) (ns : List Int), vs = [v, v', .ref m, .ref m'] ∧ Same Z H ∧ TmAt K Z v t ∧ TmAt K Z v' u ∧ t.Wf N ∧ u.Wf N ∧ Z m = some (.dK (Mn s ns)) ∧ Z m' = some (.dK (Mn s' ns)) ∧
  s.length = ns.length ∧ s'.length = ns.length ∧ ns.Nodup ∧ ∀ H', Same H H' → Q (.bl (sos s s' t u)) H'
def spAlike (K : PySem.W.Frag) : Sp := fun vs H Q _ => ∃ (Z : Hp) (v v' : V) (t u : Tm) (N : List Str), vs = [v, v'] ∧ Same Z H ∧ TmAt K Z v t ∧ TmAt K Z v' u ∧ t.Wf N ∧ u.Wf N ∧ t.size ≤ 100000 ∧ ∀ H', Same H H' → Q (.bl (PyData.eqv (nls [] t) (nls [] u))) H'
structure Ent where
  p : Tm
  o : Tm
  s : List Str
  s' : List Str
  ns : List Int
def Ent.eq (e : Ent) : Bool := PyData.eqv (nls e.s e.p) (nls e.s' e.o)
structure Ent.Ok (N : List Str) (B M : Nat) (e : Ent) : Prop where
  wp : e.p.Wf N
  wo : e.o.Wf N
  l1 : e.s.length = e.ns.length
  l2 : e.s'.length = e.ns.length
  nd : e.ns.Nodup
  le : ∀ n ∈ e.ns, n ≤ (B : Int)
  sz : e.s.length + 2 * e.p.size ≤ M
def EntAt (K : PySem.W.Frag) (Z : Hp) (x : V) (e : Ent) : Prop := ∃ (a : Addr) (b c : V) (m m' : Addr), x = .ref a ∧ Z a = some (.tup [b, c, .ref m, .ref m']) ∧ TmAt K Z b e.p ∧ TmAt K Z c e.o ∧ Z m = some (.dK (Mn e.s e.ns)) ∧ Z m' = some (.dK (Mn e.s' e.ns))
theorem EntAt.mono {K : PySem.W.Frag} {Z Z' : Hp} {x : V} {e : Ent} (h : EntAt K Z x e) (s : Same Z Z') : EntAt K Z' x e := by
  obtain ⟨a, b, c, m, m', h1, h2, h3, h4, h5, h6⟩ := h
  exact ⟨a, b, c, m, m', h1, s _ _ h2, h3.mono s, h4.mono s, s _ _ h5, s _ _ h6⟩
theorem Ent.Ok.mono {N : List Str} {B B' M : Nat} {e : Ent} (h : e.Ok N B M) (l : B ≤ B') : e.Ok N B' M := ⟨h.wp, h.wo, h.l1, h.l2, h.nd, fun n hn => by have := h.le n hn; omega, h.sz⟩
/-- the j-th pair of parts -/
def KidE (e : Ent) (j : Nat) (k : Ent) : Prop := ∃ b b', e.p.parts[j]? = some k.p ∧ e.o.parts[j]? = some k.o ∧ e.p.bnds[j]? = some b ∧ e.o.bnds[j]? = some b' ∧ k.s = e.s ++ b ∧ k.s' = e.s' ++ b'
theorem kids_eq {e : Ent} {ks : List Ent} (hw : e.p.w = e.o.w) (hl : ks.length = e.p.parts.length) (h : ∀ (j : Nat) (k : Ent), ks[j]? = some k → KidE e j k) : PyData.eqvAll (kidN e.s e.p) (kidN e.s' e.o) = ks.all Ent.eq := by
  refine eqvAll_idx (by rw [kidN_len, hl]) (by rw [kidN_len, ← (wlen hw).1, hl]) fun j k hk => ?_
  obtain ⟨b, b', h1, h2, h3, h4, h5, h6⟩ := h j k hk
  exact ⟨_, _, kidN_at h1 h3, kidN_at h2 h4, by unfold Ent.eq; rw [h5, h6]⟩
/-- new numbers -/
def nums (B : Nat) (m : Nat) : List Int := (List.range m).map fun (i : Nat) => ((B + i + 1 : Nat) : Int)
theorem nums_len (B m : Nat) : (nums B m).length = m := by unfold nums; rw [List.length_map, List.length_range]
theorem nums_snoc (B m : Nat) : nums B (m + 1) = nums B m ++ [((B + m + 1 : Nat) : Int)] := by unfold nums; rw [List.range_succ, List.map_append]; rfl
theorem nums_mem {B m : Nat} {n : Int} (h : n ∈ nums B m) : (B : Int) < n ∧ n ≤ ((B + m : Nat) : Int) := by
  unfold nums at h
  obtain ⟨i, hi, rfl⟩ := List.mem_map.mp h
  have := List.mem_range.mp hi
  omega
theorem nums_nd (B : Nat) : ∀ m, (nums B m).Nodup
  | 0 => List.nodup_nil
  | m + 1 => by
    rw [nums_snoc, List.nodup_append]
    refine ⟨nums_nd B m, by simp, fun a ha b hb => ?_⟩
    rw [List.mem_singleton] at hb
    have := nums_mem ha
    omega
theorem w_par {i j : Nat} {ta : TA} {D : Ends} {σ : L2.St} {H : Hp} (q : ta σ H fun vs H1 => ∃ v w, vs = [v, w] ∧ D.nx ((σ.set i (some v)).set j (some w)) H1) : tPar i j ta D σ H := q
/-- a tuple stays when a dict is written -/
theorem sqt_upd {K : PySem.W.Frag} {H : Hp} {p a : Addr} {xs : List V} {kvs : List (Key × V)} {o : HO} (h : SqT K H p xs) (e : H a = some (.dK kvs)) : SqT K (upd H a o) p xs := by
  rcases h with (h | ⟨od, h⟩) | h
  · exact .inl (.inl (by rw [upd_ne (fun q => by rw [q, e] at h; cases h)]; exact h))
  · exact .inl (.inr ⟨od, by rw [upd_ne (fun q => by rw [q, e] at h; cases h)]; exact h⟩)
  · exact .inr h
theorem w_dputT {K : PySem.W.Frag} {Z H : Hp} {so : Option (Addr × Addr)} {L L' : V.Cells} {a pp : Addr} {xs : List V} {v : V} {D : Ends} {σ : L2.St} {kvs kvs' : List (Key × V)} {k : Str} (w : V.Hw Z so H L) (h : V.At a (.dK kvs) L) (l : kvs.length < sizeLine) (e : putK kvs (Sum.inr k) v = kvs') (u : V.Up a (.dK kvs') L L') (ht : SqT K H pp xs) (q : ∀ H', V.Hw Z so H' L' → SqT K H' pp xs → D.nx σ H') : V.gDP D σ v (.ref a) (.str k) H :=
  ⟨a, _, rfl, DPut.k (k := Sum.inr k) (w.get h) l, q _ (e ▸ w.up u) (sqt_upd ht (w.get h))⟩
section
variable {P : Program} {w : World} {K : PySem.W.Frag} {mg : Str → Option Value} {base : Heap} {DT DB : Addr}
theorem sc_grades_and_kinds : FnScope ["term", "fields", "at", "field"] ["term"] (defScope (top 6)) := ⟨rfl, rfl, rfl, by decide +kernel, rfl, by decide +kernel, by decide +kernel⟩
theorem st_grades_and_kinds (v0 : V) : L2.start ["term", "fields", "at", "field"] [v0] = [some v0, none, none, none] := rfl
theorem ok_gk {f : Addr} {fd : FuncData} (F : Fun K "grades_and_kinds" "grades_and_kinds" (top 6) f fd) (T : TxT K w mg DT DB) : FnOk P w K mg base CX0 1 f fd ["term"] (spGK K) := by
  refine F.ok sc_grades_and_kinds (fun vs H Q E h => ?_) (fun cdv A outer s H vs Q E hr h => ?_)
  · obtain ⟨v, t, Z, rfl, _⟩ := h
    rfl
  · obtain ⟨v, t, Z, rfl, sz, ht, k⟩ := h
    refine ⟨_, (pss_cons (ps_set (i := 1) sc_grades_and_kinds.nd rfl (Or.inl rfl) (UT.pe_kget2 K rfl w rfl (pe_gx (by rfl) T.g_TERM_FIELDS) (pe_ix ix_tup (pv 0) pe_int (fun _ _ => rfl)) (pe_tup pa_nil) ⟨rfl, rfl, rfl, rfl⟩))
      (pss_one (ps_ret (pe_lc (own := [("at", 2), ("field", 3)]) (g := _) (by rfl) sc_grades_and_kinds.nd (UT.pi_enumS K rfl (by rfl) T.enumerate (pa_cons (pv 1) pa_nil) (pk_cons pe_int pk_nil)) (blkOk_by (own := [("at", 2), ("field", 3)]) (N := ["term", "fields", "at", "field"]) (sc := defScope (top 6)) (by decide +kernel)) (fun _ _ _ _ _ => (UT.pg_tupK (n := 2) K rfl rfl (pgs_cons (pg_name (i := 2) sc_grades_and_kinds.nd rfl (Or.inl rfl)) (pgs_cons (pg_name (i := 3) sc_grades_and_kinds.nd rfl (Or.inl rfl)) pgs_nil)))) (fun _ _ _ _ _ => (pts_one (pt_cmpR (op_inK K rfl) (pv 3) (pe_tup (pa_cons pe_str (pa_cons pe_str (pa_cons pe_str pa_nil)))) (by rfl)))) (fun _ _ _ _ _ => (pe_ix (ix_tupK K rfl) (pv 0) (pv 2) (fun _ _ => rfl))))))), ?_⟩
    rw [st_grades_and_kinds]
    obtain ⟨a, xs, rfl, hs0, hx⟩ := ht.open
    have hs := V.seqT sz hs0
    obtain ⟨pk, hl⟩ := pick_gk hx
    have a0 := at0 hx
    have w0 := V.Hw.start (H := H)
    repeat walk_at "w"
    refine UT.w_kgetC T.TF ?_
    repeat walk_at "w"
    intro p0 H1 n0 w1
    obtain ⟨w1, s1, h1⟩ := w1.frz
    refine w_kgetTF T w1 h1 fun fa hf => ?_
    repeat walk_at "w"
    refine UT.w_enS ?_
    repeat walk_at "w"
    refine UT.w_enS2 (V.seqT w1.fr hf) (by decide) (by decide) ?_
    refine UT.lcEW (fun i => pick xs (posP isG 1 (t.fields.take i))) w1 (by walk_at "wi") (fun H' w' => V.seqT w'.fr hf) rfl ?_ ?_
    · intro i x TT D H2 hx2 w2
      obtain ⟨z, rfl, hz⟩ := UW.at_strs hx2
      have il := (List.getElem?_eq_some_iff.mp hz).1
      have ln : (t.fields.take i).length = i := by rw [List.length_take]; omega
      have h5 : t.fields.length ≤ 5 := by cases t <;> simp [Tm.fields]
      have ple := posP_le isG (t.fields.take i) 1
      have hs2 : SqT K H2 a xs := V.seqT (fun b o e => w2.fr _ _ (s1 _ _ e)) hs
      repeat walk_at "w"
      refine ⟨rfl, ?_⟩
      repeat walk_at "w"
      intro q H3 n3 w3
      refine w_inT (xs := (["grade", "gap", "kind"] : List Str).map V.str) (SqT.of (w3.get .here)) rfl (UN.flat_strs _) ?_
      rw [inV_str]
      repeat walk_at "w"
      have sn := posP_snoc isG z 1 (t.fields.take i)
      rw [ln] at sn
      refine ifD (fun e => ?_) (fun e => ?_)
      · have ig : isG z = true := decide_eq_true e
        rw [if_pos ig] at sn
        have kk : 1 + i ∈ t.gpos := by
          rw [← pos_gk, ← List.take_append_drop (i + 1) t.fields, take_snoc hz]
          have : ∀ (l m : List Str) (j : Nat), posP isG j (l ++ m) = posP isG j l ++ posP isG (j + l.length) m := fun l => by
            induction l with
            | nil => intro m j; simp [posP]
            | cons y l ih =>
              intro m j
              rw [List.cons_append, posP, posP, ih, List.length_cons, show j + 1 + l.length = j + (l.length + 1) by omega]
              split <;> rfl
          rw [this, sn]
          simp
        have kl := hl _ kk
        have ij : atI xs (1 + (i : Int)) = some (xs.getD (1 + i) .non) := at_of (j := 1 + i) (by omega) (by rw [List.getD_eq_getElem?_getD, List.getElem?_eq_getElem kl]; rfl)
        have hs3 : SqT K H3 a xs := V.seqT (fun b o e => w3.fr _ _ (s1 _ _ e)) hs
        repeat walk_at "w"
        refine V.w_acc w3 (.skip (.skip (.refl _))) (small1000 (by unfold pick; rw [List.length_map]; omega)) ?_
        rw [take_snoc hz, sn]
        unfold pick
        rw [List.map_append]; rfl
      · have ig : ¬ isG z = true := by simpa [isG] using e
        rw [if_neg ig, List.append_nil] at sn
        refine V.w_noacc w3 (.skip (.skip (.refl _))) ?_
        rw [take_snoc hz, sn]
    · intro D H2 w2
      rw [show (t.fields.map V.str).length = t.fields.length from List.length_map .., List.take_length, pos_gk] at w2
      exact k H2 D _ (fun b o e => w2.fr _ _ (s1 _ _ e)) (w2.fresh0 s1) (w2.get .here) pk
theorem sc_same_outside : FnScope ["first", "second", "meaning", "other_meaning"] ["first", "second", "meaning", "other_meaning"] (defScope (top 9)) := ⟨rfl, rfl, rfl, by decide +kernel, rfl, by decide +kernel, by decide +kernel⟩
theorem st_same_outside (v0 v1 v2 v3 : V) : L2.start ["first", "second", "meaning", "other_meaning"] [v0, v1, v2, v3] = [some v0, some v1, some v2, some v3] := rfl
theorem ok_so {f : Addr} {fd : FuncData} (F : Fun K "same_outside" "same_outside" (top 9) f fd) (T : TxT K w mg DT DB) (c_grades_and_kinds : Cal P w K mg base CX0 1 "grades_and_kinds" (spGK K)) : FnOk P w K mg base CX0 2 f fd ["first", "second", "meaning", "other_meaning"] (spSO K) := by
  refine F.ok sc_same_outside (fun vs H Q E h => ?_) (fun cdv A outer s H vs Q E hr h => ?_)
  · obtain ⟨Z, v, v', m, m', t, u, N, s, s', ns, rfl, _⟩ := h
    rfl
  · obtain ⟨Z, v, v', m, m', t, u, N, s, s', ns, rfl, sz, ht, hu', wt, wu, hm, hm', l1, l2, nd, k⟩ := h
    have hu := hu_of hr
    refine ⟨_, (pss_cons (ps_if (pt_cmpR op_ne (pe_ix ix_tup (pv 0) pe_int (fun _ _ => rfl)) (pe_ix ix_tup (pv 1) pe_int (fun _ _ => rfl)) (nomark _)) (pss_one (ps_ret pe_bl)) pss_nil)
      (pss_cons (ps_if (pt_cmpR op_eq (pe_ix ix_tup (pv 0) pe_int (fun _ _ => rfl)) pe_str (nomark _)) (pss_one (ps_ret (pe_cmpR op_eq (pe_ix ix_tup (pv 0) pe_int (fun _ _ => rfl)) (pe_ix ix_tup (pv 1) pe_int (fun _ _ => rfl)) (nomark _)))) pss_nil)
      (pss_cons (ps_if (pt_cmpR op_eq (pe_ix ix_tup (pv 0) pe_int (fun _ _ => rfl)) pe_str (nomark _)) (pss_one (ps_ret (pe_cmpR op_eq (pe_dget2 hu (pv 2) (pe_ix ix_tup (pv 0) pe_int (fun _ _ => rfl)) (pe_ix ix_tup (pv 0) pe_int (fun _ _ => rfl)) ⟨rfl, rfl, rfl, rfl⟩) (pe_dget2 hu (pv 3) (pe_ix ix_tup (pv 1) pe_int (fun _ _ => rfl)) (pe_ix ix_tup (pv 1) pe_int (fun _ _ => rfl)) ⟨rfl, rfl, rfl, rfl⟩) (nomark _)))) pss_nil)
      (pss_one (ps_ret (pe_cmpR (op_eqD hr.units) (pe_c c_grades_and_kinds hr (by decide) (by rfl) (pa_cons (pv 0) pa_nil)) (pe_c c_grades_and_kinds hr (by decide) (by rfl) (pa_cons (pv 1) pa_nil)) (nomark _))))))), ?_⟩
    rw [st_same_outside]
    obtain ⟨a, xs, rfl, hsa, hxa⟩ := ht.open
    obtain ⟨b, ys, rfl, hsb, hxb⟩ := hu'.open
    have a0 := at0 hxa
    have b0 := at0 hxb
    have hsa := V.seqT sz hsa
    have hsb := V.seqT sz hsb
    have hm2 := sz _ _ hm
    have hm2' := sz _ _ hm'
    have w0 := V.Hw.start (H := H)
    have fin := k H (fun _ _ e => e)
    repeat walk_at "w"
    refine ifB (fun e => ?_) (fun e => ?_)
    · have e : t.w ≠ u.w := by simpa using e
      repeat walk_at "w"
      rw [sos_ne s s' e] at fin
      exact fin
    · have e : t.w = u.w := by simpa using e
      have et := Tm.tag_eq e
      repeat walk_at "w"
      refine ifD (fun ei => ?_) (fun ei => ?_)
      · have t0 : t.tag = 0 := Tm.tag_eq (t := t) (u := .int 0) ei
        obtain ⟨n, rfl⟩ := Tm.tag0 t0
        obtain ⟨n', rfl⟩ := Tm.tag0 (et ▸ t0)
        have a1 : atI xs 1 = some (.int n) := by
          obtain ⟨y, e1, e2⟩ := hxa.at_ (i := 1) (d := .int n) rfl
          rw [e2.intI] at e1
          exact at_of (j := 1) rfl e1
        have b1 : atI ys 1 = some (.int n') := by
          obtain ⟨y, e1, e2⟩ := hxb.at_ (i := 1) (d := .int n') rfl
          rw [e2.intI] at e1
          exact at_of (j := 1) rfl e1
        repeat walk_at "w"
        exact fin
      · repeat walk_at "w"
        refine ifD (fun en => ?_) (fun en => ?_)
        · have t0 : t.tag = 1 := Tm.tag_eq (t := t) (u := .name "x") en
          obtain ⟨x, rfl⟩ := Tm.tag1 t0
          obtain ⟨y, rfl⟩ := Tm.tag1 (et ▸ t0)
          have a1 : atI xs 1 = some (.str x) := by
            obtain ⟨y, e1, e2⟩ := hxa.at_ (i := 1) (d := .str x) rfl
            rw [e2.strI] at e1
            exact at_of (j := 1) rfl e1
          have b1 : atI ys 1 = some (.str y) := by
            obtain ⟨z, e1, e2⟩ := hxb.at_ (i := 1) (d := .str y) rfl
            rw [e2.strI] at e1
            exact at_of (j := 1) rfl e1
          obtain ⟨ms, msc⟩ := mn_same l1 l2 nd x y
          repeat walk_at "w"
          refine UM.w_dget2 ?_
          repeat walk_at "w"
          refine ⟨m, rfl, .inl ⟨_, .inl hm2⟩, ?_⟩
          repeat walk_at "w"
          refine ⟨_, DGet.k (k := Sum.inr x) hm2, ?_⟩
          refine UM.w_dget2 ?_
          repeat walk_at "w"
          refine ⟨m', rfl, .inl ⟨_, .inl hm2'⟩, ?_⟩
          repeat walk_at "w"
          refine ⟨_, DGet.k (k := Sum.inr y) hm2', ?_⟩
          refine V.w_eq msc ?_
          rw [ms]
          exact fin
        · have t0 : t.tag ≠ 0 := fun q => ei (Tm.w_eq (t := t) (u := .int 0) q)
          have t1 : t.tag ≠ 1 := fun q => en (Tm.w_eq (t := t) (u := .name "x") q)
          repeat walk_at "w"
          refine ⟨_, t, Z, rfl, sz, ht, fun H1 p us s1 n1 h1 d1 => ?_⟩
          obtain ⟨Z1, w1, z1, new1⟩ := w0.callNew s1
          have hp := new1 p _ n1 h1
          repeat walk_at "w"
          refine ⟨_, u, Z, rfl, fun b o e => w1.fr _ _ (z1 _ _ (sz _ _ e)), hu', fun H2 p2 us2 s2 n2 h2 d2 => ?_⟩
          have w2 := w1.call s2
          have za : Same Z H2 := fun b o e => w2.fr _ _ (z1 _ _ (sz _ _ e))
          have g1 := gks_gda wt
          have g2 := gks_gda wu
          refine ⟨.list t.gks, .list u.gks, .lst (SqL.of (w2.fro hp)) (d1.mono za), .lst (SqL.of h2) (d2.mono za), (UE.gd_list g1).sh (by decide), (UE.gd_list g2).sh (by decide), ?_⟩
          rw [eqv_lists]
          have fin := k H2 (fun b o e => w2.fr _ _ (z1 _ _ e))
          rw [sos_other s s' t0 t1, decide_eq_true e, Bool.true_and] at fin
          exact fin
theorem sc_alike : FnScope ["first", "second", "waiting", "binders", "part", "other", "meaning", "other_meaning", "other_parts", "number", "inner", "inner_meaning", "other_inner_meaning", "at"] ["first", "second"] (defScope (top 8)) := ⟨rfl, rfl, rfl, by decide +kernel, rfl, by decide +kernel, by decide +kernel⟩
theorem st_alike (v0 v1 : V) : L2.start ["first", "second", "waiting", "binders", "part", "other", "meaning", "other_meaning", "other_parts", "number", "inner", "inner_meaning", "other_inner_meaning", "at"] [v0, v1] = [some v0, some v1, none, none, none, none, none, none, none, none, none, none, none, none] := rfl
theorem ok_alike {f : Addr} {fd : FuncData} (F : Fun K "alike" "alike" (top 8) f fd) (T : TxT K w mg DT DB) (c_term_parts : Cal P w K mg base CX0 2 "term_parts" (spTP K)) (c_binder_positions : Cal P w K mg base CX0 1 "binder_positions" (spBP K)) (c_same_outside : Cal P w K mg base CX0 2 "same_outside" (spSO K)) : FnOk P w K mg base CX0 3 f fd ["first", "second"] (spAlike K) := by
  refine F.ok sc_alike (fun vs H Q E h => ?_) (fun cdv A outer s H vs Q E hr h => ?_)
  · obtain ⟨Z, v, v', t, u, N, rfl, _⟩ := h
    rfl
  · obtain ⟨Z, v, v', t, u, N, rfl, sz, ht, hu', wt, wu, hl, k⟩ := h
    have hu := hu_of hr
    refine ⟨_, (pss_cons (ps_set (i := 2) sc_alike.nd rfl (Or.inl rfl) (pe_lst (pa_cons (pe_tup (pa_cons (pv 0) (pa_cons (pv 1) (pa_cons pe_dnewK (pa_cons pe_dnewK pa_nil))))) pa_nil)))
      (pss_cons (ps_set (i := 3) sc_alike.nd rfl (Or.inl rfl) pe_int)
      (pss_cons (ps_while PassesOwn.never (pt_truth (pv 2) (by intro _; rfl)) (pss_cons (ps_asg (pe_bm0 PySem.F.plainAttrs_list PySem.F.slot_list_pop PySem.F.type_list_pop mt_pop (pv 2)) (pg_tup rfl (pgs_cons (pg_name (i := 4) sc_alike.nd rfl (Or.inl rfl)) (pgs_cons (pg_name (i := 5) sc_alike.nd rfl (Or.inl rfl)) (pgs_cons (pg_name (i := 6) sc_alike.nd rfl (Or.inl rfl)) (pgs_cons (pg_name (i := 7) sc_alike.nd rfl (Or.inl rfl)) pgs_nil))))))
      (pss_cons (ps_if (pt_not (pt_val (pe_c c_same_outside hr (by decide) (by rfl) (pa_cons (pv 4) (pa_cons (pv 5) (pa_cons (pv 6) (pa_cons (pv 7) pa_nil))))))) (pss_one (ps_ret pe_bl)) pss_nil)
      (pss_cons (ps_set (i := 8) sc_alike.nd rfl (Or.inl rfl) (pe_c c_term_parts hr (by decide) (by rfl) (pa_cons (pv 5) pa_nil)))
      (pss_one (ps_for PassesOwn.never rfl (pi_enum (by rfl) T.enumerate (pa_cons (pe_c c_term_parts hr (by decide) (by rfl) (pa_cons (pv 4) pa_nil)) pa_nil)) (pg_tup rfl (pgs_cons (pg_name (i := 9) sc_alike.nd rfl (Or.inl rfl)) (pgs_cons (pg_name (i := 10) sc_alike.nd rfl (Or.inl rfl)) pgs_nil))) (pss_cons (ps_par (i := 11) (j := 12) rfl sc_alike.nd rfl rfl (by decide) rfl rfl (pa_cons (pe_callTy UM.call_dictD (by rfl) T.dict (by decide +kernel) (pa_cons (pv 6) pa_nil)) (pa_cons (pe_callTy UM.call_dictD (by rfl) T.dict (by decide +kernel) (pa_cons (pv 7) pa_nil)) pa_nil)) (by rfl))
      (pss_cons (ps_for PassesOwn.never rfl (pi_tup (pe_c c_binder_positions hr (by decide) (by rfl) (pa_cons (pv 4) (pa_cons (pv 9) pa_nil)))) (pg_name (i := 13) sc_alike.nd rfl (Or.inl rfl)) (pss_cons (ps_set (i := 3) sc_alike.nd rfl (Or.inl rfl) (pe_op op_add (pv 3) pe_int))
      (pss_cons (ps_dput hu (pv 11) (pe_ix ix_tup (pv 4) (pv 13) (fun _ _ => rfl)) (pv 3) rfl)
      (pss_one (ps_dput hu (pv 12) (pe_ix ix_tup (pv 5) (pv 13) (fun _ _ => rfl)) (pv 3) rfl)))))
      (pss_one (ps_expr (pe_bm PySem.F.plainAttrs_list PySem.F.slot_list_append PySem.F.type_list_append mt_append (pv 2) (pa_cons (pe_tup (pa_cons (pv 10) (pa_cons (pe_ix ix_list (pv 8) (pv 9) (fun _ _ => rfl)) (pa_cons (pv 11) (pa_cons (pv 12) pa_nil))))) pa_nil))))))))))))
      (pss_one (ps_ret pe_bl))))), ?_⟩
    rw [st_alike]
    have ht := ht.mono sz
    have hu' := hu'.mono sz
    have w0 := V.Hw.start (H := H)
    repeat walk_at "w"
    refine UM.w_dnew w0 fun m0 H1 n1 w1 => ?_
    repeat walk_at "w"
    refine UM.w_dnew w1 fun m0' H2 n2 w2 => ?_
    repeat walk_at "w"
    intro p0 H3 n3 w3
    obtain ⟨w3, s3, ep⟩ := w3.frz
    obtain ⟨w3, s4, em'⟩ := w3.frz
    obtain ⟨w3, s5, em⟩ := w3.frz
    repeat walk_at "w"
    intro p H4 n4 w4
    repeat walk_at "w"
    have z3 : Same H _ := fun b o e => s5 _ _ (s4 _ _ (s3 _ _ e))
    refine whileX (fun M σ H' => ∃ (Z' : Hp) (ws : List Ent) (us : List V) (B : Nat) (x4 x5 x6 x7 x8 x9 x10 x11 x12 x13 : Option V), σ = [some v, some v', some (.ref p), some (.int (B : Int)), x4, x5, x6, x7, x8, x9, x10, x11, x12, x13] ∧ Same H Z' ∧ V.Hw Z' none H' [(true, p, .lst us)] ∧ All2 (EntAt K Z') us ws ∧
        (∀ e ∈ ws, e.Ok N B (2 * t.size)) ∧ PyData.eqv (nls [] t) (nls [] u) = ws.all Ent.eq ∧ (ws.map fun e => e.p.size).sum ≤ t.size ∧ M = (ws.map fun e => e.p.size).sum)
      (fun σ H' => ∃ (Z' : Hp) (us : List V) (B : Nat) (x4 x5 x6 x7 x8 x9 x10 x11 x12 x13 : Option V), σ = [some v, some v', some (.ref p), some (.int (B : Int)), x4, x5, x6, x7, x8, x9, x10, x11, x12, x13] ∧ Same H Z' ∧ V.Hw Z' none H' [(true, p, .lst us)] ∧ PyData.eqv (nls [] t) (nls [] u) = true) _
      ⟨_, [⟨t, u, [], [], []⟩], [.ref p0], 0, none, none, none, none, none, none, none, none, none, none, rfl, z3, w4, .cons ⟨p0, v, v', m0, m0', rfl, s5 _ _ (s4 _ _ ep), ht.mono z3, hu'.mono z3, em, s5 _ _ em'⟩ .nil, ?_, ?_, ?_, rfl⟩ ?_ ?_
    · intro e he
      rw [List.mem_singleton] at he
      subst he
      exact ⟨wt, wu, rfl, rfl, List.nodup_nil, fun _ h => (nomatch h), Nat.le_of_eq (Nat.zero_add _)⟩
    · simp [Ent.eq]
    · simp
    · rintro σ H5 ⟨Z', us, B, x4, x5, x6, x7, x8, x9, x10, x11, x12, x13, rfl, sz5, w5, heq⟩
      have fin := k H5 fun b o e => w5.fr _ _ (sz5 _ _ e)
      rw [heq] at fin
      repeat walk_at "w"
      exact fin
    · rintro nx hnx M σ H5 ⟨Z', ws, us, B, x4, x5, x6, x7, x8, x9, x10, x11, x12, x13, rfl, sz5, w5, ha, hok, heq, hsz, rfl⟩
      repeat walk_at "w"
      refine ⟨_, .inl ⟨us, SqL.of (w5.get .here), rfl⟩, ?_⟩
      dsimp only
      cases ws using snoc_cases with
      | nil =>
        obtain rfl := ha.nilI
        repeat walk_at "w"
        exact hnx _ _ ⟨Z', [], B, x4, x5, x6, x7, x8, x9, x10, x11, x12, x13, rfl, sz5, w5, by rw [heq]; rfl⟩
      | snoc ws e0 =>
        obtain ⟨us, x, rfl, ha0, hx⟩ := ha.snocI
        obtain ⟨xa, xb, xc, m, m', rfl, ea, hb, hc, em, em'⟩ := hx
        have ne : (us ++ [V.ref xa]).isEmpty = false := by simp
        have oke := hok e0 (by simp)
        rw [ne]
        repeat walk_at "w"
        refine ⟨fun σ' H' => ∃ M', M' < ((ws ++ [e0]).map fun e => e.p.size).sum ∧ _, fun _ _ h => h, ?_⟩
        repeat walk_at "w"
        refine V.w_pop w5 .here .here fun H6 w6 => ?_
        repeat walk_at "w"
        refine ⟨Z', _, _, m, m', e0.p, e0.o, N, e0.s, e0.s', e0.ns, rfl, w6.fr, hb, hc, oke.wp, oke.wo, em, em', oke.l1, oke.l2, oke.nd, fun H7 s7 => ?_⟩
        have w7 := w6.call s7
        have e0q : e0.eq = (sos e0.s e0.s' e0.p e0.o && PyData.eqvAll (kidN e0.s e0.p) (kidN e0.s' e0.o)) := eqv_nls _ _ _ _
        have alq : (ws ++ [e0]).all Ent.eq = (ws.all Ent.eq && e0.eq) := by rw [List.all_append, List.all_cons, List.all_nil, Bool.and_true]
        repeat walk_at "w"
        refine ifB (fun e => ?_) (fun e => ?_)
        · have e : sos e0.s e0.s' e0.p e0.o = false := by simpa using e
          have fin := k H7 fun b o q => w7.fr _ _ (sz5 _ _ q)
          rw [heq, alq, e0q, e, Bool.false_and, Bool.and_false] at fin
          repeat walk_at "w"
          exact fin
        · have e : sos e0.s e0.s' e0.p e0.o = true := by simpa using e
          have hw : e0.p.w = e0.o.w := by
            by_cases q : e0.p.w = e0.o.w
            · exact q
            · rw [sos_ne _ _ q] at e; cases e
          rw [e, Bool.true_and] at e0q
          repeat walk_at "w"
          refine ⟨_, e0.o, Z', rfl, w7.fr, hc, fun H8 r0 us0 s8 n8 h8 ha8 => ?_⟩
          obtain ⟨Z8, w8, sz8, new8⟩ := w7.callNew s8
          have hr0 := new8 r0 _ n8 h8
          repeat walk_at "w"
          refine UM.w_enum ?_
          repeat walk_at "w"
          refine ⟨_, e0.p, Z', rfl, fun b o q => w8.fr _ _ (sz8 _ _ q), hb, fun H9 r ps s9 n9 h9 ha9 => ?_⟩
          obtain ⟨Z9, w9, sz9, new9⟩ := w8.callNew s9
          have hr9 := new9 r _ n9 h9
          repeat walk_at "w"
          refine ⟨r, ps, rfl, SqL.of (w9.fro hr9), ?_⟩
          have lps := TmAll.len ha9
          obtain ⟨lpo, bpe⟩ := wlen hw
          obtain ⟨ap, xp, rfl, hsp, hxp⟩ := hb.open
          obtain ⟨ao, xo, rfl, hso, hxo⟩ := hc.open
          have sz9' : Same Z' Z9 := fun b o q => sz9 _ _ (sz8 _ _ q)
          have p3 := e0.p.parts3
          have lus : us.length = ws.length := ha0.len
          have wl : ws.length ≤ (ws.map fun e => e.p.size).sum := by
            have : ∀ l : List Ent, l.length ≤ (l.map fun e => e.p.size).sum := fun l => by
              induction l with
              | nil => exact Nat.le_refl _
              | cons a l ih => rw [List.map_cons, List.sum_cons, List.length_cons]; have := a.p.size_pos; omega
            exact this ws
          rw [List.map_append, List.sum_append] at hsz
          have one : (([e0] : List Ent).map fun e => e.p.size).sum = e0.p.size := by simp
          rw [one] at hsz
          refine UM.for_en (xs := ps) (fun i σ2 H' => ∃ (Z2 : Hp) (us2 : List V) (ks : List Ent) (B2 : Nat) (y9 y10 y11 y12 y13 : Option V), σ2 = [some v, some v', some (.ref p), some (.int (B2 : Int)), some (.ref ap), some (.ref ao), some (.ref m), some (.ref m'), some (.ref r0), y9, y10, y11, y12, y13] ∧ Same Z9 Z2 ∧ V.Hw Z2 none H' [(true, p, .lst us2)] ∧ All2 (EntAt K Z2) us2 (ws ++ ks) ∧ ks.length = i ∧ (∀ (j : Nat) (k : Ent), ks[j]? = some k → KidE e0 j k) ∧ (∀ k ∈ ks, k.Ok N B2 (2 * t.size)) ∧ B ≤ B2)
            ⟨Z9, us, [], B, _, _, _, _, _, rfl, fun _ _ e => e, w9, by rw [List.append_nil]; exact ha0.mono fun _ _ q => q.mono sz9', rfl, fun j k q => by simp at q, fun _ q => (nomatch q), Nat.le_refl _⟩ (fun i σ2 H' ⟨Z2, us2, ks, _, _, _, _, _, _, _, e2, w10, _⟩ => SqL.of (w10.fro (e2 _ _ hr9))) ?_ ?_
          · rintro i x T σ2 H10 hx ⟨Z2, us2, ks, B2, y9, y10, y11, y12, y13, rfl, e2, w10, ha10, kl, hk, hok2, lB⟩ nT
            have w11 := w10.new (o := .tup [.int (i : Int), x]) nT
            have il : i < e0.p.parts.length := by rw [← lps]; exact (List.getElem?_eq_some_iff.mp hx).1
            obtain ⟨pp, hp⟩ : ∃ pp, e0.p.parts[i]? = some pp := ⟨_, List.getElem?_eq_getElem il⟩
            obtain ⟨po, hpo⟩ : ∃ po, e0.o.parts[i]? = some po := ⟨_, List.getElem?_eq_getElem (lpo ▸ il)⟩
            obtain ⟨bs, hbs⟩ : ∃ bs, e0.p.bnds[i]? = some bs := ⟨_, List.getElem?_eq_getElem (show i < e0.p.bnds.length by rw [e0.p.bnds_len.1]; exact il)⟩
            obtain ⟨bs', hbs'⟩ : ∃ bs, e0.o.bnds[i]? = some bs := ⟨_, List.getElem?_eq_getElem (show i < e0.o.bnds.length by rw [e0.o.bnds_len.1, ← lpo]; exact il)⟩
            obtain ⟨kk, hkk⟩ : ∃ kk, e0.p.bpos[i]? = some kk := ⟨_, List.getElem?_eq_getElem (show i < e0.p.bpos.length by rw [e0.p.bnds_len.2]; exact il)⟩
            obtain ⟨pk, kl1⟩ := pick_bnd hxp hkk hbs
            obtain ⟨pk', kl2⟩ := pick_bnd hxo (bpe ▸ hkk) hbs'
            have lk : kk.length = bs.length := by have := congrArg List.length pk; unfold pick at this; rwa [List.length_map, List.length_map] at this
            have lk' : kk.length = bs'.length := by have := congrArg List.length pk'; unfold pick at this; rwa [List.length_map, List.length_map] at this
            have lbs := e0.p.bnds2 bs (List.mem_of_getElem? hbs)
            obtain ⟨x', hx', hxt⟩ := TmAll.at_ ha9 hp
            obtain rfl : x' = x := by rw [hx] at hx'; exact (Option.some.inj hx').symm
            obtain ⟨xo', hxo', hxot⟩ := TmAll.at_ ha8 hpo
            have aio : atI us0 (i : Int) = some xo' := at_of (j := i) rfl hxo'
            have sz2 : Same Z' Z2 := fun b o e => e2 _ _ (sz9' _ _ e)
            have hr0' : Z2 r0 = some (.lst us0) := e2 _ _ (sz9 _ _ hr0)
            have em2 := sz2 _ _ em
            have em2' := sz2 _ _ em'
            have oks := oke.sz
            have mn1 := Mn_len oke.l1
            have mn2 := Mn_len oke.l2
            have le12 : e0.s'.length = e0.s.length := by rw [oke.l1, oke.l2]
            have hsp2 : SqT K Z2 ap xp := V.seqT sz2 hsp
            have hso2 : SqT K Z2 ao xo := V.seqT sz2 hso
            repeat walk_at "w"
            refine w_par ?_
            repeat walk_at "w"
            refine UM.w_dictD w11 (w11.fro em2) fun d1 H12 n12 w12 => ?_
            repeat walk_at "w"
            refine UM.w_dictD w12 (w12.fro em2') fun d2 H13 n13 w13 => ?_
            repeat walk_at "w"
            refine ⟨_, _, rfl, ?_⟩
            dsimp only [List.set]
            repeat walk_at "w"
            refine UT.w_it ?_
            repeat walk_at "w"
            refine ⟨_, e0.p, i, kk, rfl, (TmAt.mk hsp hxp).mono fun b o q => w13.fr _ _ (sz2 _ _ q), hkk, fun H14 pp2 s14 h14 => ?_⟩
            have w14 := (w13.call s14).sub (.cons (.cons (.skip (.refl _))))
            refine UT.w_it2 h14 ?_
            refine for_tup (K := K) (a := pp2) (xs := kk.map fun (k : Nat) => V.int (k : Int)) (fun j σ3 H' => ∃ z13 : Option V, σ3 = [some v, some v', some (.ref p), some (.int ((B2 + j : Nat) : Int)), some (.ref ap), some (.ref ao), some (.ref m), some (.ref m'), some (.ref r0), some (.int (i : Int)), some x', some (.ref d1), some (.ref d2), z13] ∧
                V.Hw Z2 none H' [(true, d2, .dK (Mn (e0.s' ++ bs'.take j) (e0.ns ++ nums B2 j))), (true, d1, .dK (Mn (e0.s ++ bs.take j) (e0.ns ++ nums B2 j))), (true, p, .lst us2)] ∧ SqT K H' pp2 (kk.map fun (k : Nat) => V.int (k : Int)))
              ⟨_, rfl, by rw [List.take_zero, List.take_zero, List.append_nil, List.append_nil, show nums B2 0 = [] from rfl, List.append_nil]; exact w14, h14⟩ (fun j σ3 H' _ ⟨_, _, _, q⟩ => q) ?_ ?_
            · rintro j y σ3 H15 hy ⟨z13, rfl, w15, hpp⟩
              rw [List.getElem?_map] at hy
              obtain ⟨q, hj, rfl⟩ := Option.map_eq_some_iff.mp hy
              have jk : j < kk.length := (List.getElem?_eq_some_iff.mp hj).1
              have jl : j < bs.length := by omega
              have jl' : j < bs'.length := by omega
              have aq := at_pick hj kl1
              have aq' := at_pick hj kl2
              have eq1 : xp.getD q .non = .str bs[j] := by
                have := congrArg (fun l => l[j]?) pk
                unfold pick at this
                rw [List.getElem?_map, List.getElem?_map, hj, List.getElem?_eq_getElem jl] at this
                exact Option.some.inj this
              have eq2 : xo.getD q .non = .str bs'[j] := by
                have := congrArg (fun l => l[j]?) pk'
                unfold pick at this
                rw [List.getElem?_map, List.getElem?_map, hj, List.getElem?_eq_getElem jl'] at this
                exact Option.some.inj this
              rw [eq1] at aq
              rw [eq2] at aq'
              have tk := take_snoc (List.getElem?_eq_getElem jl)
              have tk' := take_snoc (List.getElem?_eq_getElem jl')
              have lt1 : (e0.s ++ bs.take j).length = (e0.ns ++ nums B2 j).length := by rw [List.length_append, List.length_append, List.length_take, nums_len, oke.l1]; omega
              have lt2 : (e0.s' ++ bs'.take j).length = (e0.ns ++ nums B2 j).length := by rw [List.length_append, List.length_append, List.length_take, nums_len, oke.l2]; omega
              have ml1 := Mn_len lt1
              have ml2 := Mn_len lt2
              have lq1 : (e0.s ++ bs.take j).length ≤ e0.s.length + 2 := by rw [List.length_append, List.length_take]; omega
              have lq2 : (e0.s' ++ bs'.take j).length ≤ e0.s.length + 2 := by rw [List.length_append, List.length_take]; omega
              repeat walk_at "w"
              refine w_dputT w15 (.there .here) (Nat.lt_of_le_of_lt (show _ ≤ 1000000 by omega) (by decide)) rfl (.there .here) hpp fun H16 w16 hpp2 => ?_
              repeat walk_at "w"
              refine w_dputT w16 .here (Nat.lt_of_le_of_lt (show _ ≤ 1000000 by omega) (by decide)) rfl .here hpp2 fun H17 w17 hpp3 => ?_
              have eB : ((B2 + (j + 1) : Nat) : Int) = ((B2 + j : Nat) : Int) + 1 := by omega
              refine ⟨_, by rw [eB], ?_, hpp3⟩
              rw [tk, tk', nums_snoc, ← List.append_assoc, ← List.append_assoc, ← List.append_assoc, Mn_snoc lt1, Mn_snoc lt2, show ((B2 + j + 1 : Nat) : Int) = ((B2 + j : Nat) : Int) + 1 by omega]
              exact w17
            · rintro σ3 H15 ⟨z13, rfl, w15, hpp⟩
              rw [List.length_map, lk, List.take_length] at w15
              rw [← lk, lk', List.take_length, ← lk', lk] at w15
              have l7 := ha10.len
              rw [List.length_append] at l7
              have l8 : us2.length < sizeLine := Nat.lt_of_le_of_lt (show _ ≤ 1000000 by omega) (by decide)
              repeat walk_at "w"
              intro tt H16 n16 w16
              obtain ⟨w16, q3, ht3⟩ := w16.frz
              obtain ⟨w16, q4, ht4⟩ := w16.frz
              obtain ⟨w16, q5, ht5⟩ := w16.frz
              have q345 : Same Z2 _ := fun b o e => q5 _ _ (q4 _ _ (q3 _ _ e))
              repeat walk_at "w"
              intro H17 w17
              repeat walk_at "w"
              have zz : Same Z' _ := fun b o e => q345 _ _ (sz2 _ _ e)
              refine ⟨_, _, ks ++ [⟨pp, po, e0.s ++ bs, e0.s' ++ bs', e0.ns ++ nums B2 bs.length⟩], B2 + bs.length, _, _, _, _, _, by rw [List.length_map, lk], fun b o e => q345 _ _ (e2 _ _ e), w17, ?_, by rw [List.length_append, kl]; rfl, fun j k hj => ?_, fun k hk3 => ?_, by omega⟩
              · rw [← List.append_assoc]
                exact (ha10.mono fun _ _ q => q.mono q345).app (.cons ⟨tt, x', xo', d1, d2, rfl, q5 _ _ (q4 _ _ ht3), hxt.mono zz, hxot.mono zz, ht5, q5 _ _ ht4⟩ .nil)
              · by_cases jk : j < ks.length
                · rw [List.getElem?_append_left jk] at hj
                  exact hk j k hj
                · rw [List.getElem?_append_right (by omega)] at hj
                  have ji : j = i := by
                    have := (List.getElem?_eq_some_iff.mp hj).1
                    simp at this; omega
                  subst ji
                  rw [kl, Nat.sub_self] at hj
                  obtain rfl := Option.some.inj hj
                  exact ⟨bs, bs', hp, hpo, hbs, hbs', rfl, rfl⟩
              · rcases List.mem_append.mp hk3 with q | q
                · exact (hok2 k q).mono (by omega)
                · rw [List.mem_singleton] at q
                  subst q
                  have s1 := Tm.size_lt (List.mem_of_getElem? hp)
                  have s2 := oke.sz
                  refine ⟨oke.wp.part (List.mem_of_getElem? hp), oke.wo.part (List.mem_of_getElem? hpo), ?_, ?_, ?_, ?_, ?_⟩
                  · show (e0.s ++ bs).length = _
                    rw [List.length_append, List.length_append, nums_len, oke.l1]
                  · show (e0.s' ++ bs').length = _
                    rw [List.length_append, List.length_append, nums_len, oke.l2]; omega
                  · show (e0.ns ++ nums B2 bs.length).Nodup
                    rw [List.nodup_append]
                    refine ⟨oke.nd, nums_nd _ _, fun a ha b hb e => ?_⟩
                    have := oke.le a ha
                    have := (nums_mem hb).1
                    omega
                  · intro n hn
                    rcases List.mem_append.mp hn with q | q
                    · have := oke.le n q; omega
                    · exact (nums_mem q).2
                  · show (e0.s ++ bs).length + 2 * pp.size ≤ _
                    rw [List.length_append]; omega
          · rintro σ2 H10 ⟨Z2, us2, ks, B2, y9, y10, y11, y12, y13, rfl, e2, w10, ha10, kl, hk, hok2, lB⟩
            rw [lps] at kl
            have kq := kids_eq hw kl hk
            have ps2 := e0.p.size_parts
            have ksum : (ks.map fun e => e.p.size).sum = (e0.p.parts.map Tm.size).sum := by
              congr 1
              refine List.ext_getElem? fun j => ?_
              rw [List.getElem?_map, List.getElem?_map]
              cases q : ks[j]? with
              | none =>
                have : e0.p.parts[j]? = none := by
                  rw [List.getElem?_eq_none_iff] at q ⊢; omega
                rw [this]; rfl
              | some k =>
                obtain ⟨b, b', h1, _⟩ := hk j k q
                rw [h1]; rfl
            refine ⟨((ws ++ ks).map fun e => e.p.size).sum, ?_, Z2, ws ++ ks, us2, B2, _, _, _, _, _, _, _, _, _, _, rfl, fun b o e => e2 _ _ (sz9' _ _ (sz5 _ _ e)), w10, ha10, fun e he => ?_, ?_, ?_, rfl⟩
            · rw [List.map_append, List.sum_append, List.map_append, List.sum_append, one, ksum]; omega
            · rcases List.mem_append.mp he with q | q
              · exact (hok e (List.mem_append_left _ q)).mono lB
              · exact hok2 e q
            · rw [heq, alq, e0q, kq, List.all_append]
            · rw [List.map_append, List.sum_append, ksum]; omega
end
/-! ### draws, in the walk -/
section
variable {Z H : Hp} {S T : Addr} {L : V.Cells} {Q : VK} {E : XK} {m : Int}
theorem w_draw (w : V.Hw Z (some (S, T)) H L) (p : 0 < m) (b : m < 1606938044258990275541962092341162602522202993782792835301376) (k : ∀ i H', 0 ≤ i → i < m → V.Hw Z (some (S, T)) H' L → Q (.int i) H') : spDraw [.ref S, .int m] H Q E :=
  ⟨S, T, m, rfl, w.std, by omega, fun r H' h0 h1 st kp => k r H' h0 (h1 p) (w.callD st kp)⟩
theorem w_draw0 (w : V.Hw Z (some (S, T)) H L) (p : 0 ≤ m) (b : m < 1606938044258990275541962092341162602522202993782792835301376) (k : ∀ i H', 0 ≤ i → (0 < m → i < m) → V.Hw Z (some (S, T)) H' L → Q (.int i) H') : spDraw [.ref S, .int m] H Q E :=
  ⟨S, T, m, rfl, w.std, by omega, fun r H' h0 h1 st kp => k r H' h0 h1 (w.callD st kp)⟩
end
local macro_rules | `(tactic| walk_at "w") => `(tactic| ((with_reducible refine' w_draw ?w ?p ?b ?_); (case w => assumption); (case p => first | omega | decide); (case b => first | omega | decide)))
/-! ### the law's words and grades -/
open UK UM
def spWord : Sp := fun vs H Q _ => ∃ (Z : Hp) (S0 T : Addr) (L : V.Cells), vs = [.ref S0] ∧ V.Hw Z (some (S0, T)) H L ∧ ∀ (z : Str) H', NmOk z → V.Hw Z (some (S0, T)) H' L → Q (.str z) H'
def spGrade : Sp := fun vs H Q _ => ∃ (Z : Hp) (S0 T : Addr) (L : V.Cells), vs = [.ref S0] ∧ V.Hw Z (some (S0, T)) H L ∧ ∀ (z : Str) H', GrOk z → V.Hw Z (some (S0, T)) H' L → Q (.str z) H'
def let26 : Str := "abcdefghijklmnopqrstuvwxyz"
def let36 : Str := let26 ++ ("0123456789" : Str)
def let39 : Str := "abcdefghijklmnopqrstuvwxyz0123456789</>"
theorem len_cps (z : Str) : z.cps.toList.length = z.length := Array.length_toList
theorem cps_app (a b : Str) : (a ++ b).cps.toList = a.cps.toList ++ b.cps.toList := by
  show (a.cps ++ b.cps).toList = _
  rw [Array.toList_append]
theorem let26_at {i : Int} (h0 : 0 ≤ i) (h1 : i < 26) : ∃ c, atI let26.cps.toList i = some c ∧ 97 ≤ c ∧ c ≤ 122 := by
  obtain ⟨n, rfl⟩ := Int.eq_ofNat_of_zero_le h0
  have : ∀ n : Nat, n < 26 → let26.cps.toList[n]? = some (97 + n) := by decide +kernel
  exact ⟨97 + n, atI_nat (this n (by omega)), by omega, by omega⟩
theorem let36_at {i : Int} (h0 : 0 ≤ i) (h1 : i < 36) : ∃ c, atI let36.cps.toList i = some c ∧ nch c = true := by
  obtain ⟨n, rfl⟩ := Int.eq_ofNat_of_zero_le h0
  have : ∀ n : Nat, n < 36 → ((let36.cps.toList[n]?).any nch) = true := by decide +kernel
  have := this n (by omega)
  cases q : let36.cps.toList[n]? with
  | none => rw [q] at this; cases this
  | some c => rw [q] at this; exact ⟨c, atI_nat q, this⟩
theorem let39_at {i : Int} (h0 : 0 ≤ i) (h1 : i < 39) : ∃ c, atI let39.cps.toList i = some c ∧ gch c = true := by
  obtain ⟨n, rfl⟩ := Int.eq_ofNat_of_zero_le h0
  have : ∀ n : Nat, n < 39 → ((let39.cps.toList[n]?).any gch) = true := by decide +kernel
  have := this n (by omega)
  cases q : let39.cps.toList[n]? with
  | none => rw [q] at this; cases this
  | some c => rw [q] at this; exact ⟨c, atI_nat q, this⟩
theorem nch_low {c : Nat} (h0 : 97 ≤ c) (h1 : c ≤ 122) : nch c = true := by unfold nch; simp [h0, h1]
theorem nch_dig {c : Nat} (h0 : 48 ≤ c) (h1 : c ≤ 57) : nch c = true := by unfold nch; simp [h0, h1]
theorem num_dig {i : Int} (h0 : 0 ≤ i) (h1 : i < 10) : ∃ c, (num i).cps.toList = [c] ∧ 48 ≤ c ∧ c ≤ 57 := by
  obtain ⟨n, rfl⟩ := Int.eq_ofNat_of_zero_le h0
  have : ∀ n : Nat, n < 10 → (num (n : Int)).cps.toList = [48 + n] := by decide +kernel
  exact ⟨48 + n, this n (by omega), by omega, by omega⟩
/-- a word on the way -/
def NmPre (z : Str) (j : Nat) : Prop := z.length = j + 1 ∧ (∀ c ∈ z.cps.toList, nch c = true) ∧ ∃ c, z.cps.toList[0]? = some c ∧ 97 ≤ c ∧ c ≤ 122
theorem nm_one {c : Nat} (h0 : 97 ≤ c) (h1 : c ≤ 122) : NmOk ⟨#[c]⟩ := ⟨by show 0 < 1; decide, by show 1 ≤ 12; decide, fun d hd => by
  have : d = c := by simpa using hd
  subst this; exact nch_low h0 h1, ⟨c, rfl, h0, h1⟩, .inl rfl⟩
theorem pre_one {c : Nat} (h0 : 97 ≤ c) (h1 : c ≤ 122) : NmPre ⟨#[c]⟩ 0 := ⟨rfl, (nm_one h0 h1).2.2.1, ⟨c, rfl, h0, h1⟩⟩
theorem pre_snoc {z : Str} {j c : Nat} (h : NmPre z j) (hc : nch c = true) : NmPre (z ++ ⟨#[c]⟩) (j + 1) := by
  obtain ⟨h1, h2, d, h3, h4⟩ := h
  refine ⟨by rw [len_app, h1]; rfl, fun e he => ?_, d, ?_, h4⟩
  · rw [cps_app] at he
    rcases List.mem_append.mp he with he | he
    · exact h2 e he
    · have : e = c := by simpa using he
      subst this; exact hc
  · rw [cps_app, List.getElem?_append_left (by rw [len_cps, h1]; omega)]; exact h3
theorem cut_take (z : Str) (k : Nat) : (cutS z none (some (k : Int))).cps.toList = z.cps.toList.take k := by
  unfold cutS
  have e1 : HT.sIx z.length 0 none = 0 := rfl
  have e2 : HT.sIx z.length z.length (some (k : Int)) = min k z.length := by
    unfold HT.sIx
    dsimp only
    rw [if_neg (by omega)]
    omega
  rw [e1, e2, List.drop_zero, Nat.sub_zero]
  show (z.cps.toList.take (min k z.length)).toArray.toList = _
  rw [List.toList_toArray, ← len_cps, ← List.take_take, List.take_length]
theorem pre_end {z : Str} {j : Nat} {c : Nat} {d : Str} (h : NmPre z j) (e : d.cps.toList = [c]) (h0 : 48 ≤ c) (h1 : c ≤ 57) : NmOk (cutS z none (some 11) ++ d) := by
  obtain ⟨p1, p2, x, p3, p4⟩ := h
  have ct := cut_take z 11
  have l : (cutS z none (some 11)).length = min 11 (j + 1) := by
    rw [← len_cps]
    show (cutS z none (some ((11 : Nat) : Int))).cps.toList.length = _
    rw [ct, List.length_take, len_cps, p1]
  have ld : d.length = 1 := by rw [← len_cps, e]; rfl
  have ct : (cutS z none (some 11)).cps.toList = z.cps.toList.take 11 := ct
  refine ⟨by rw [len_app]; omega, by rw [len_app, l, ld]; omega, fun y hy => ?_, ⟨x, ?_, p4⟩, .inr ⟨c, ?_, h0, h1⟩⟩
  · rw [cps_app, ct, e] at hy
    rcases List.mem_append.mp hy with hy | hy
    · exact p2 y (List.mem_of_mem_take hy)
    · rw [List.mem_singleton] at hy; subst hy; exact nch_dig h0 h1
  · rw [cps_app, ct, List.getElem?_append_left (by rw [List.length_take, len_cps, p1]; omega), List.getElem?_take]
    rw [if_pos (by decide)]; exact p3
  · rw [cps_app, e, List.getLast?_append]; rfl
theorem gr_lit : ∀ i : Nat, i < 6 → ∀ z, (["0", "1", "many", "2to3", "<1/many>", "007"] : List Str)[i]? = some z → GrOk z := by
  have : ∀ i : Nat, i < 6 → (((["0", "1", "many", "2to3", "<1/many>", "007"] : List Str)[i]?).all fun z => decide (0 < z.length) && decide (z.length ≤ 8) && z.cps.toList.all gch) = true := by decide +kernel
  intro i hi z hz
  have := this i hi
  rw [hz] at this
  simp only [Option.all_some, Bool.and_eq_true, decide_eq_true_eq, List.all_eq_true] at this
  exact ⟨this.1.1, this.1.2, this.2⟩
theorem lit_at {zs : List Str} {i : Int} (h0 : 0 ≤ i) (h1 : i < (zs.length : Int)) : ∃ z, zs[i.toNat]? = some z ∧ atI (zs.map V.str) i = some (.str z) := by
  obtain ⟨n, rfl⟩ := Int.eq_ofNat_of_zero_le h0
  have l : n < zs.length := by omega
  refine ⟨zs[n], List.getElem?_eq_getElem l, at_of (j := n) rfl ?_⟩
  rw [List.getElem?_map, List.getElem?_eq_getElem l]; rfl
section
variable {P : Program} {w : World} {K : PySem.W.Frag} {mg : Str → Option Value} {base : Heap}
theorem sc__law_word : FnScope ["_law_state", "_law_letters", "_law_word_here", "_law_k"] ["_law_state"] (defScope (top 13)) := ⟨rfl, rfl, rfl, by decide +kernel, rfl, by decide +kernel, by decide +kernel⟩
theorem st__law_word (v0 : V) : L2.start ["_law_state", "_law_letters", "_law_word_here", "_law_k"] [v0] = [some v0, none, none, none] := rfl
theorem ok_lword {f : Addr} {fd : FuncData} (F : Fun K "_law_word" "_law_word" (top 13) f fd) (T : TxL K mg) (c__law_draw : Cal P w K mg base CX0 1 "_law_draw" spDraw) : FnOk P w K mg base CX0 2 f fd ["_law_state"] spWord := by
  refine F.ok sc__law_word (fun vs H Q E h => ?_) (fun cdv A outer s H vs Q E hr h => ?_)
  · obtain ⟨Z, S0, T0, L, rfl, _⟩ := h
    rfl
  · obtain ⟨Z, S0, T0, L, rfl, w, k⟩ := h
    refine ⟨_, (pss_cons (ps_set (i := 1) sc__law_word.nd rfl (Or.inl rfl) pe_str)
      (pss_cons (ps_set (i := 2) sc__law_word.nd rfl (Or.inl rfl) (pe_ix ix_str (pv 1) (pe_c c__law_draw hr (by decide) (by rfl) (pa_cons (pv 0) (pa_cons pe_int pa_nil))) (fun _ _ => rfl)))
      (pss_cons (ps_if (pt_cmpR op_gt (pe_c c__law_draw hr (by decide) (by rfl) (pa_cons (pv 0) (pa_cons pe_int pa_nil))) pe_int (nomark _)) (pss_one (ps_ret (pv 2))) pss_nil)
      (pss_cons (ps_for PassesOwn.never rfl (pi_range1 (by rfl) T.range (pa_cons (pe_c c__law_draw hr (by decide) (by rfl) (pa_cons (pv 0) (pa_cons pe_int pa_nil))) pa_nil)) (pg_name (i := 3) sc__law_word.nd rfl (Or.inl rfl)) (pss_one (ps_set (i := 2) sc__law_word.nd rfl (Or.inl rfl) (pe_op V.op_addS (pv 2) (pe_ix ix_str (pe_op V.op_addS (pv 1) pe_str) (pe_c c__law_draw hr (by decide) (by rfl) (pa_cons (pv 0) (pa_cons pe_int pa_nil))) (fun _ _ => rfl))))))
      (pss_one (ps_ret (pe_op V.op_addS (pe_slice sl_str (pv 2) po_none (po_some pe_int)) (pe_callTy V.call_str (by rfl) T.str (by decide +kernel) (pa_cons (pe_c c__law_draw hr (by decide) (by rfl) (pa_cons (pv 0) (pa_cons pe_int pa_nil))) pa_nil))))))))), ?_⟩
    rw [st__law_word]
    repeat walk_at "w"
    intro i H1 i0 i1 w1
    obtain ⟨c, c1, c2, c3⟩ := let26_at i0 i1
    unfold let26 at c1
    repeat walk_at "w"
    intro j H2 j0 j1 w2
    repeat walk_at "w"
    refine ifD (fun e => ?_) (fun e => ?_)
    · repeat walk_at "w"
      exact k _ _ (nm_one c2 c3) w2
    · repeat walk_at "w"
      intro n H3 n0 n1 w3
      obtain ⟨n, rfl⟩ := Int.eq_ofNat_of_zero_le n0
      repeat walk_at "w"
      refine for_range (n := n) (fun i σ H' => ∃ (z : Str) (x : Option V), NmPre z i ∧ σ = [some (.ref S0), some (.str "abcdefghijklmnopqrstuvwxyz"), some (.str z), x] ∧ V.Hw Z (some (S0, T0)) H' L) ⟨_, none, pre_one c2 c3, rfl, w3⟩ ?_ ?_
      · rintro m σ H4 hm ⟨z, x, pz, rfl, w4⟩
        have lz := pz.1
        repeat walk_at "w"
        refine V.w_addS (by decide +kernel) ?_
        repeat walk_at "w"
        intro q H5 q0 q1 w5
        obtain ⟨d, d1, d2⟩ := let36_at q0 q1
        unfold let36 let26 at d1
        repeat walk_at "w"
        refine V.w_addS ?_ ?_
        · rw [lz]
          exact Nat.le_trans (show _ ≤ 1000 by show m + 1 + 1 ≤ 1000; omega) (by decide)
        · repeat walk_at "w"
          exact ⟨_, _, pre_snoc pz d2, rfl, w5⟩
      · rintro σ H4 ⟨z, x, pz, rfl, w4⟩
        have lz := pz.1
        repeat walk_at "w"
        refine ⟨z, rfl, by rw [lz]; exact Nat.le_trans (show _ ≤ 1000 by omega) (by decide), ?_⟩
        repeat walk_at "w"
        intro q H5 q0 q1 w5
        obtain ⟨d, d1, d2, d3⟩ := num_dig q0 q1
        repeat walk_at "w"
        refine V.w_str (num_log q q0 (by omega)) ?_
        have nm := pre_end pz d1 d2 d3
        refine V.w_addS ?_ ?_
        · have := nm.2.1
          rw [len_app] at this
          exact Nat.le_trans this (by decide)
        · repeat walk_at "w"
          exact k _ _ nm w5
theorem sc__law_rough_grade : FnScope ["_law_state", "_law_text", "_law_k"] ["_law_state"] (defScope (top 14)) := ⟨rfl, rfl, rfl, by decide +kernel, rfl, by decide +kernel, by decide +kernel⟩
theorem st__law_rough_grade (v0 : V) : L2.start ["_law_state", "_law_text", "_law_k"] [v0] = [some v0, none, none] := rfl
theorem ok_lgrade {f : Addr} {fd : FuncData} (F : Fun K "_law_rough_grade" "_law_rough_grade" (top 14) f fd) (T : TxL K mg) (c__law_draw : Cal P w K mg base CX0 1 "_law_draw" spDraw) : FnOk P w K mg base CX0 2 f fd ["_law_state"] spGrade := by
  refine F.ok sc__law_rough_grade (fun vs H Q E h => ?_) (fun cdv A outer s H vs Q E hr h => ?_)
  · obtain ⟨Z, S0, T0, L, rfl, _⟩ := h
    rfl
  · obtain ⟨Z, S0, T0, L, rfl, w, k⟩ := h
    refine ⟨_, (pss_cons (ps_if (pt_cmpR op_gt (pe_c c__law_draw hr (by decide) (by rfl) (pa_cons (pv 0) (pa_cons pe_int pa_nil))) pe_int (nomark _)) (pss_one (ps_ret (pe_ix ix_list (pe_lst (pa_cons pe_str (pa_cons pe_str (pa_cons pe_str (pa_cons pe_str (pa_cons pe_str (pa_cons pe_str pa_nil))))))) (pe_c c__law_draw hr (by decide) (by rfl) (pa_cons (pv 0) (pa_cons pe_int pa_nil))) (fun _ _ => rfl)))) pss_nil)
      (pss_cons (ps_set (i := 1) sc__law_rough_grade.nd rfl (Or.inl rfl) pe_str)
      (pss_cons (ps_for PassesOwn.never rfl (pi_range1 (by rfl) T.range (pa_cons (pe_op op_add pe_int (pe_c c__law_draw hr (by decide) (by rfl) (pa_cons (pv 0) (pa_cons pe_int pa_nil)))) pa_nil)) (pg_name (i := 2) sc__law_rough_grade.nd rfl (Or.inl rfl)) (pss_one (ps_set (i := 1) sc__law_rough_grade.nd rfl (Or.inl rfl) (pe_op V.op_addS (pv 1) (pe_ix ix_str pe_str (pe_c c__law_draw hr (by decide) (by rfl) (pa_cons (pv 0) (pa_cons pe_int pa_nil))) (fun _ _ => rfl))))))
      (pss_one (ps_ret (pv 1)))))), ?_⟩
    rw [st__law_rough_grade]
    repeat walk_at "w"
    intro i H1 i0 i1 w1
    repeat walk_at "w"
    refine ifD (fun e => ?_) (fun e => ?_)
    · repeat walk_at "w"
      intro p H2 n2 w2
      repeat walk_at "w"
      intro j H3 j0 j1 w3
      obtain ⟨z, z1, z2⟩ := lit_at (zs := ["0", "1", "many", "2to3", "<1/many>", "007"]) j0 j1
      have z2 : atI [V.str "0", .str "1", .str "many", .str "2to3", .str "<1/many>", .str "007"] j = some (.str z) := z2
      have g := gr_lit j.toNat (by omega) z z1
      repeat walk_at "w"
      exact k _ _ g (w3.sub (.skip (.refl _)))
    · repeat walk_at "w"
      intro n H2 n0 n1 w2
      obtain ⟨n, rfl⟩ := Int.eq_ofNat_of_zero_le n0
      repeat walk_at "w"
      refine V.w_ir1 (n := n + 1) (by omega) (by omega) ?_
      refine for_range (n := n + 1) (fun i σ H' => ∃ (z : Str) (x : Option V), (z.length = i ∧ ∀ c ∈ z.cps.toList, gch c = true) ∧ σ = [some (.ref S0), some (.str z), x] ∧ V.Hw Z (some (S0, T0)) H' L) ⟨_, none, ⟨rfl, fun c hc => by cases hc⟩, rfl, w2⟩ ?_ ?_
      · rintro m σ H4 hm ⟨z, x, ⟨lz, pz⟩, rfl, w4⟩
        repeat walk_at "w"
        intro q H5 q0 q1 w5
        obtain ⟨d, d1, d2⟩ := let39_at q0 q1
        unfold let39 at d1
        repeat walk_at "w"
        refine V.w_addS ?_ ?_
        · rw [lz]
          exact Nat.le_trans (show _ ≤ 1000 by show m + 1 ≤ 1000; omega) (by decide)
        · repeat walk_at "w"
          refine ⟨_, _, ⟨by rw [len_app, lz]; rfl, fun c hc => ?_⟩, rfl, w5⟩
          rw [cps_app] at hc
          rcases List.mem_append.mp hc with hc | hc
          · exact pz c hc
          · have : c = d := by simpa using hc
            subst this; exact d2
      · rintro σ H4 ⟨z, x, ⟨lz, pz⟩, rfl, w4⟩
        repeat walk_at "w"
        exact k _ _ ⟨by omega, by omega, pz⟩ w4
end
/-! ### the law's kinds and terms -/
open UK UM
def spKind (K : PySem.W.Frag) (d : Nat) : Sp := fun vs H Q _ => ∃ (Z : Hp) (S0 T : Addr) (L : V.Cells), vs = [.ref S0, .int (d : Int)] ∧ V.Hw Z (some (S0, T)) H L ∧
  ∀ (v : V) (kd : Kd) Z' H', Same Z Z' → V.Hw Z' (some (S0, T)) H' L → Dp K Z' v kd.d → kd.Wf → kd.depth ≤ d + 1 → Q v H'
def rsz : Nat → Nat
  | 0 => 1
  | d + 1 => 3 * rsz d + 1
def spRough (K : PySem.W.Frag) (d : Nat) : Sp := fun vs H Q _ => ∃ (Z : Hp) (S0 T nm : Addr) (L : V.Cells) (N : List Str), vs = [.ref S0, .ref nm, .int (d : Int)] ∧ V.Hw Z (some (S0, T)) H L ∧ Z nm = some (.lst (N.map V.str)) ∧ 0 < N.length ∧ N.length ≤ 100 ∧
  ∀ (v : V) (t : Tm) Z' H', Same Z Z' → V.Hw Z' (some (S0, T)) H' L → TmAt K Z' v t → t.Wf N → t.depth ≤ d + 1 → t.size ≤ rsz d → Q v H'
theorem meetV {c : Prop} [Decidable c] {ta tb : TE} {σ : L2.St} {H : Hp} {Q : VK} {a b : V} (ha : ∀ Q' : VK, Q' a H → ta σ H Q') (hb : ∀ Q' : VK, Q' b H → tb σ H Q') (q : Q (if c then a else b) H) : if decide c = true then ta σ H Q else tb σ H Q := by
  by_cases e : c
  · rw [if_pos e] at q; exact ifY e (ha Q q)
  · rw [if_neg e] at q; exact ifN e (hb Q q)
theorem rsz_pos : ∀ d, 1 ≤ rsz d
  | 0 => Nat.le_refl _
  | d + 1 => Nat.le_add_left _ _
theorem w_drawL {Z H : Hp} {S T : Addr} {L : V.Cells} {Q : VK} {E : XK} {m : Int} (w : V.Hw Z (some (S, T)) H L) (p : 0 < m) (b : m.natAbs < 1606938044258990275541962092341162602522202993782792835301376) (k : ∀ i H', 0 ≤ i → i < m → V.Hw Z (some (S, T)) H' L → Q (.int i) H') : spDraw [.ref S, .int m] H Q E :=
  ⟨S, T, m, rfl, w.std, b, fun r H' h0 h1 st kp => k r H' h0 (h1 p) (w.callD st kp)⟩
theorem inV_str (x : Str) (zs : List Str) : inV (.str x) (zs.map V.str) = decide (x ∈ zs) := by
  unfold inV
  rw [List.any_map, Bool.eq_iff_iff, List.any_eq_true, decide_eq_true_iff]
  constructor
  · rintro ⟨y, hy, e⟩
    have e : (y == x) = true := e
    rw [← eq_of_beq e]; exact hy
  · intro h
    exact ⟨x, h, show (x == x) = true by simp⟩
theorem flat_strs (zs : List Str) : (zs.map V.str).all flatV = true := by rw [List.all_map]; exact List.all_eq_true.mpr fun _ _ => rfl
def hd20 : List Str := ["name", "int", "gone", "left", "right", "as", "box", "fn", "add", "sub", "mul", "call", "pair", "split", "unbox", "case", "test", "repeat", "repeat", "name"]
section
variable {P : Program} {w : World} {K : PySem.W.Frag} {mg : Str → Option Value} {base : Heap}
theorem sc__law_rough_kind : FnScope ["_law_state", "_law_depth", "_law_pick", "_law_first", "_law_second"] ["_law_state", "_law_depth"] (defScope (top 15)) := ⟨rfl, rfl, rfl, by decide +kernel, rfl, by decide +kernel, by decide +kernel⟩
theorem st__law_rough_kind (v0 v1 : V) : L2.start ["_law_state", "_law_depth", "_law_pick", "_law_first", "_law_second"] [v0, v1] = [some v0, some v1, none, none, none] := rfl
theorem ok_lkind {f : Addr} {fd : FuncData} (d : Nat) (spr : Sp) (hspr : ∀ e, d = e + 1 → spr = spKind K e) (F : Fun K "_law_rough_kind" "_law_rough_kind" (top 15) f fd) (T : TxL K mg) (c__law_draw : Cal P w K mg base CX0 1 "_law_draw" spDraw) (c__law_rough_grade : Cal P w K mg base CX0 2 "_law_rough_grade" spGrade)
    (c__law_rough_kind : Cal P w K mg base CX0 (2 + d) "_law_rough_kind" spr) : FnOk P w K mg base CX0 (2 + d + 1) f fd ["_law_state", "_law_depth"] (spKind K d) := by
  refine F.ok sc__law_rough_kind (fun vs H Q E h => ?_) (fun cdv A outer s H vs Q E hr h => ?_)
  · obtain ⟨Z, S0, T0, L, rfl, _⟩ := h
    rfl
  · obtain ⟨Z, S0, T0, L, rfl, w, k⟩ := h
    refine ⟨_, (pss_cons (ps_set (i := 2) sc__law_rough_kind.nd rfl (Or.inl rfl) (pe_ifExp (pt_cmpR op_gt (pv 1) pe_int (nomark _)) (pe_c c__law_draw hr (by omega) (by rfl) (pa_cons (pv 0) (pa_cons pe_int pa_nil))) pe_int))
      (pss_cons (ps_if (pt_cmpR op_lt (pv 2) pe_int (nomark _)) (pss_one (ps_ret (pe_tup (pa_cons pe_str pa_nil)))) pss_nil)
      (pss_cons (ps_set (i := 3) sc__law_rough_kind.nd rfl (Or.inl rfl) (pe_c c__law_rough_kind hr (by omega) (by rfl) (pa_cons (pv 0) (pa_cons (pe_op op_sub (pv 1) pe_int) pa_nil))))
      (pss_cons (ps_if (pt_cmpR op_eq (pv 2) pe_int (nomark _)) (pss_one (ps_ret (pe_tup (pa_cons pe_str (pa_cons (pe_c c__law_rough_grade hr (by omega) (by rfl) (pa_cons (pv 0) pa_nil)) (pa_cons (pv 3) pa_nil)))))) pss_nil)
      (pss_cons (ps_set (i := 4) sc__law_rough_kind.nd rfl (Or.inl rfl) (pe_c c__law_rough_kind hr (by omega) (by rfl) (pa_cons (pv 0) (pa_cons (pe_op op_sub (pv 1) pe_int) pa_nil))))
      (pss_cons (ps_if (pt_cmpR op_eq (pv 2) pe_int (nomark _)) (pss_one (ps_ret (pe_tup (pa_cons pe_str (pa_cons (pe_c c__law_rough_grade hr (by omega) (by rfl) (pa_cons (pv 0) pa_nil)) (pa_cons (pv 3) (pa_cons (pv 4) pa_nil))))))) pss_nil)
      (pss_one (ps_ret (pe_tup (pa_cons (pe_ix ix_list (pe_lst (pa_cons pe_str (pa_cons pe_str pa_nil))) (pe_op op_sub (pv 2) pe_int) (fun _ _ => rfl)) (pa_cons (pv 3) (pa_cons (pv 4) pa_nil)))))))))))), ?_⟩
    rw [st__law_rough_kind]
    cases d with
    | zero =>
      repeat walk_at "w"
      intro p H1 n1 w1
      obtain ⟨w1, s1, h1⟩ := w1.frz
      repeat walk_at "w"
      exact k _ .int _ _ s1 w1 (.tup (SqT.of h1) (.cons (.str _) .nil)) trivial (Nat.le_refl _)
    | succ d =>
      rw [hspr d rfl] at c__law_rough_kind ⊢
      have ed : ((d + 1 : Nat) : Int) - 1 = (d : Int) := by omega
      repeat walk_at "w"
      intro i H1 i0 i1 w1
      repeat walk_at "w"
      refine ifD (fun e => ?_) (fun e => ?_)
      · repeat walk_at "w"
        intro p H2 n2 w2
        obtain ⟨w2, s2, h2⟩ := w2.frz
        repeat walk_at "w"
        exact k _ .int _ _ s2 w2 (.tup (SqT.of h2) (.cons (.str _) .nil)) trivial (Nat.le_add_left _ _)
      · repeat walk_at "w"
        rw [ed]
        refine ⟨Z, S0, T0, L, rfl, w1, fun va ka Z2 H2 s2 w2 da wa la => ?_⟩
        repeat walk_at "w"
        refine ifD (fun e5 => ?_) (fun e5 => ?_)
        · repeat walk_at "w"
          refine ⟨Z2, S0, T0, L, rfl, w2, fun g H3 hg w3 => ?_⟩
          repeat walk_at "w"
          intro p H4 n4 w4
          obtain ⟨w4, s4, h4⟩ := w4.frz
          repeat walk_at "w"
          exact k _ (.box g ka) _ _ (fun b o e => s4 _ _ (s2 _ _ e)) w4 (.tup (SqT.of h4) (.cons (.str _) (.cons (.str _) (.cons (da.mono s4) .nil)))) ⟨hg, wa⟩ (Nat.succ_le_succ la)
        · repeat walk_at "w"
          rw [ed]
          refine ⟨Z2, S0, T0, L, rfl, w2, fun vb kb Z3 H3 s3 w3 db wb lb => ?_⟩
          repeat walk_at "w"
          refine ifD (fun e4 => ?_) (fun e4 => ?_)
          · repeat walk_at "w"
            refine ⟨Z3, S0, T0, L, rfl, w3, fun g H4 hg w4 => ?_⟩
            repeat walk_at "w"
            intro p H5 n5 w5
            obtain ⟨w5, s5, h5⟩ := w5.frz
            repeat walk_at "w"
            exact k _ (.fn g ka kb) _ _ (fun b o e => s5 _ _ (s3 _ _ (s2 _ _ e))) w5 (.tup (SqT.of h5) (.cons (.str _) (.cons (.str _) (.cons ((da.mono s3).mono s5) (.cons (db.mono s5) .nil))))) ⟨hg, wa, wb⟩ (Nat.succ_le_succ (Nat.max_le.mpr ⟨la, lb⟩))
          · repeat walk_at "w"
            intro q H4 n4 w4
            have h23 : i = 2 ∨ i = 3 := by omega
            rcases h23 with rfl | rfl
            · have az : atI [V.str "pair", V.str "either"] (2 - 2) = some (.str "pair") := rfl
              repeat walk_at "w"
              intro p H5 n5 w5
              obtain ⟨w5, s5, h5⟩ := w5.frz
              repeat walk_at "w"
              exact k _ (.pair ka kb) _ _ (fun b o e => s5 _ _ (s3 _ _ (s2 _ _ e))) (w5.sub (.skip (.refl _))) (.tup (SqT.of h5) (.cons (.str _) (.cons ((da.mono s3).mono s5) (.cons (db.mono s5) .nil)))) ⟨wa, wb⟩ (Nat.succ_le_succ (Nat.max_le.mpr ⟨la, lb⟩))
            · have az : atI [V.str "pair", V.str "either"] (3 - 2) = some (.str "either") := rfl
              repeat walk_at "w"
              intro p H5 n5 w5
              obtain ⟨w5, s5, h5⟩ := w5.frz
              repeat walk_at "w"
              exact k _ (.either ka kb) _ _ (fun b o e => s5 _ _ (s3 _ _ (s2 _ _ e))) (w5.sub (.skip (.refl _))) (.tup (SqT.of h5) (.cons (.str _) (.cons ((da.mono s3).mono s5) (.cons (db.mono s5) .nil)))) ⟨wa, wb⟩ (Nat.succ_le_succ (Nat.max_le.mpr ⟨la, lb⟩))
theorem sc__law_rough : FnScope ["_law_state", "_law_names", "_law_depth", "_law_heads", "_law_head", "_law_x", "_law_y", "_law_number", "_law_kind", "_law_own", "_law_gap", "_law_a", "_law_b", "_law_c"] ["_law_state", "_law_names", "_law_depth"] (defScope (top 16)) := ⟨rfl, rfl, rfl, by decide +kernel, rfl, by decide +kernel, by decide +kernel⟩
theorem st__law_rough (v0 v1 v2 : V) : L2.start ["_law_state", "_law_names", "_law_depth", "_law_heads", "_law_head", "_law_x", "_law_y", "_law_number", "_law_kind", "_law_own", "_law_gap", "_law_a", "_law_b", "_law_c"] [v0, v1, v2] = [some v0, some v1, some v2, none, none, none, none, none, none, none, none, none, none, none] := rfl
theorem ok_lrough {f : Addr} {fd : FuncData} (d : Nat) (spr : Sp) (hspr : ∀ e, d = e + 1 → spr = spRough K e) (F : Fun K "_law_rough" "_law_rough" (top 16) f fd) (T : TxL K mg) (c__law_draw : Cal P w K mg base CX0 1 "_law_draw" spDraw) (c__law_rough_grade : Cal P w K mg base CX0 2 "_law_rough_grade" spGrade)
    (c__law_rough_kind : Cal P w K mg base CX0 5 "_law_rough_kind" (spKind K 2)) (c__law_rough : Cal P w K mg base CX0 (5 + d) "_law_rough" spr) : FnOk P w K mg base CX0 (5 + d + 1) f fd ["_law_state", "_law_names", "_law_depth"] (spRough K d) := by
  refine F.ok sc__law_rough (fun vs H Q E h => ?_) (fun cdv A outer s H vs Q E hr h => ?_)
  · obtain ⟨Z, S0, T0, nm, L, N, rfl, _⟩ := h
    rfl
  · obtain ⟨Z, S0, T0, nm, L, N, rfl, w, hN, N0, N1, k⟩ := h
    refine ⟨_, (pss_cons (ps_set (i := 3) sc__law_rough.nd rfl (Or.inl rfl) (pe_lst (pa_cons pe_str (pa_cons pe_str (pa_cons pe_str (pa_cons pe_str (pa_cons pe_str (pa_cons pe_str (pa_cons pe_str (pa_cons pe_str (pa_cons pe_str (pa_cons pe_str (pa_cons pe_str (pa_cons pe_str (pa_cons pe_str pa_nil)))))))))))))))
      (pss_cons (ps_set (i := 3) sc__law_rough.nd rfl (Or.inl rfl) (pe_op op_cat (pv 3) (pe_lst (pa_cons pe_str (pa_cons pe_str (pa_cons pe_str (pa_cons pe_str (pa_cons pe_str (pa_cons pe_str (pa_cons pe_str pa_nil))))))))))
      (pss_cons (ps_set (i := 4) sc__law_rough.nd rfl (Or.inl rfl) (pe_ix ix_list (pv 3) (pe_c c__law_draw hr (by omega) (by rfl) (pa_cons (pv 0) (pa_cons (pe_ifExp (pt_cmpR op_gt (pv 2) pe_int (nomark _)) pe_int pe_int) pa_nil))) (fun _ _ => rfl)))
      (pss_cons (ps_set (i := 5) sc__law_rough.nd rfl (Or.inl rfl) (pe_ix ix_list (pv 1) (pe_c c__law_draw hr (by omega) (by rfl) (pa_cons (pv 0) (pa_cons (pe_callB (V.call_len K rfl) (by rfl) T.len (by decide +kernel) (pa_cons (pv 1) pa_nil)) pa_nil))) (fun _ _ => rfl)))
      (pss_cons (ps_set (i := 6) sc__law_rough.nd rfl (Or.inl rfl) (pe_ix ix_list (pv 1) (pe_c c__law_draw hr (by omega) (by rfl) (pa_cons (pv 0) (pa_cons (pe_callB (V.call_len K rfl) (by rfl) T.len (by decide +kernel) (pa_cons (pv 1) pa_nil)) pa_nil))) (fun _ _ => rfl)))
      (pss_cons (ps_if (pt_cmpR op_eq (pv 4) pe_str (nomark _)) (pss_one (ps_ret (pe_tup (pa_cons pe_str (pa_cons (pv 5) pa_nil))))) pss_nil)
      (pss_cons (ps_if (pt_cmpR op_eq (pv 4) pe_str (nomark _)) (pss_cons (ps_set (i := 7) sc__law_rough.nd rfl (Or.inl rfl) (pe_c c__law_draw hr (by omega) (by rfl) (pa_cons (pv 0) (pa_cons (pe_ix ix_list (pe_lst (pa_cons pe_int (pa_cons (pe_op op_pow pe_int pe_int) pa_nil))) (pe_c c__law_draw hr (by omega) (by rfl) (pa_cons (pv 0) (pa_cons pe_int pa_nil))) (fun _ _ => rfl)) pa_nil))))
      (pss_one (ps_ret (pe_tup (pa_cons pe_str (pa_cons (pe_ifExp (pt_cmpR op_eq (pe_c c__law_draw hr (by omega) (by rfl) (pa_cons (pv 0) (pa_cons pe_int pa_nil))) pe_int (nomark _)) (pv 7) (pe_un un_neg (pv 7))) pa_nil)))))) pss_nil)
      (pss_cons (ps_set (i := 8) sc__law_rough.nd rfl (Or.inl rfl) (pe_c c__law_rough_kind hr (by omega) (by rfl) (pa_cons (pv 0) (pa_cons pe_int pa_nil))))
      (pss_cons (ps_if (pt_cmpR op_eq (pv 4) pe_str (nomark _)) (pss_one (ps_ret (pe_tup (pa_cons pe_str (pa_cons (pv 8) pa_nil))))) pss_nil)
      (pss_cons (ps_set (i := 9) sc__law_rough.nd rfl (Or.inl rfl) (pe_c c__law_rough_grade hr (by omega) (by rfl) (pa_cons (pv 0) pa_nil)))
      (pss_cons (ps_set (i := 10) sc__law_rough.nd rfl (Or.inl rfl) (pe_ifExp (pt_cmpR op_eq (pe_c c__law_draw hr (by omega) (by rfl) (pa_cons (pv 0) (pa_cons pe_int pa_nil))) pe_int (nomark _)) pe_str (pv 9)))
      (pss_cons (ps_set (i := 11) sc__law_rough.nd rfl (Or.inl rfl) (pe_c c__law_rough hr (by omega) (by rfl) (pa_cons (pv 0) (pa_cons (pv 1) (pa_cons (pe_op op_sub (pv 2) pe_int) pa_nil)))))
      (pss_cons (ps_if (pt_cmpR op_in_seq (pv 4) (pe_lst (pa_cons pe_str (pa_cons pe_str (pa_cons pe_str pa_nil)))) (by rfl)) (pss_one (ps_ret (pe_tup (pa_cons (pv 4) (pa_cons (pv 8) (pa_cons (pv 11) pa_nil)))))) pss_nil)
      (pss_cons (ps_if (pt_cmpR op_eq (pv 4) pe_str (nomark _)) (pss_one (ps_ret (pe_tup (pa_cons pe_str (pa_cons (pv 9) (pa_cons (pv 11) pa_nil)))))) pss_nil)
      (pss_cons (ps_if (pt_cmpR op_eq (pv 4) pe_str (nomark _)) (pss_one (ps_ret (pe_tup (pa_cons pe_str (pa_cons (pv 5) (pa_cons (pv 10) (pa_cons (pv 8) (pa_cons (pv 11) pa_nil)))))))) pss_nil)
      (pss_cons (ps_set (i := 12) sc__law_rough.nd rfl (Or.inl rfl) (pe_c c__law_rough hr (by omega) (by rfl) (pa_cons (pv 0) (pa_cons (pv 1) (pa_cons (pe_op op_sub (pv 2) pe_int) pa_nil)))))
      (pss_cons (ps_if (pt_cmpR op_eq (pv 4) pe_str (nomark _)) (pss_one (ps_ret (pe_tup (pa_cons pe_str (pa_cons (pv 5) (pa_cons (pv 6) (pa_cons (pv 11) (pa_cons (pv 12) pa_nil)))))))) pss_nil)
      (pss_cons (ps_if (pt_cmpR op_eq (pv 4) pe_str (nomark _)) (pss_one (ps_ret (pe_tup (pa_cons pe_str (pa_cons (pv 5) (pa_cons (pv 11) (pa_cons (pv 12) pa_nil))))))) pss_nil)
      (pss_cons (ps_if (pt_cmpR op_in_seq (pv 4) (pe_lst (pa_cons pe_str (pa_cons pe_str (pa_cons pe_str (pa_cons pe_str (pa_cons pe_str pa_nil)))))) (by rfl)) (pss_one (ps_ret (pe_tup (pa_cons (pv 4) (pa_cons (pv 11) (pa_cons (pv 12) pa_nil)))))) pss_nil)
      (pss_cons (ps_set (i := 13) sc__law_rough.nd rfl (Or.inl rfl) (pe_c c__law_rough hr (by omega) (by rfl) (pa_cons (pv 0) (pa_cons (pv 1) (pa_cons (pe_op op_sub (pv 2) pe_int) pa_nil)))))
      (pss_cons (ps_if (pt_cmpR op_eq (pv 4) pe_str (nomark _)) (pss_one (ps_ret (pe_tup (pa_cons pe_str (pa_cons (pv 11) (pa_cons (pv 5) (pa_cons (pv 12) (pa_cons (pv 6) (pa_cons (pv 13) pa_nil))))))))) pss_nil)
      (pss_one (ps_ret (pe_ifExp (pt_cmpR op_eq (pv 4) pe_str (nomark _)) (pe_tup (pa_cons pe_str (pa_cons (pv 11) (pa_cons (pv 12) (pa_cons (pv 13) pa_nil))))) (pe_tup (pa_cons pe_str (pa_cons (pv 11) (pa_cons (pv 5) (pa_cons (pv 10) (pa_cons (pv 12) (pa_cons (pv 13) pa_nil))))))))))))))))))))))))))))))), ?_⟩
    rw [st__law_rough]
    have hNl : (N.map V.str).length = N.length := List.length_map ..
    cases d with
    | zero =>
      repeat walk_at "w"
      intro p H1 n1 w1
      repeat walk_at "w"
      intro p2 H2 n2 w2
      repeat walk_at "w"
      intro p3 H3 n3 w3
      have w3 : V.Hw Z (some (S0, T0)) H3 ((true, p3, .lst (hd20.map V.str)) :: L) := w3.sub (.cons (.skip (.skip (.refl _))))
      repeat walk_at "w"
      intro ih H4 ih0 ih1 w4
      obtain ⟨hd, hd1, hd2⟩ := lit_at (zs := hd20) ih0 (by show ih < 20; omega)
      repeat walk_at "w"
      intro ix H5 ix0 ix1 w5
      obtain ⟨x, x1, x2⟩ := lit_at (zs := N) ix0 (by omega)
      repeat walk_at "w"
      intro iy H6 iy0 iy1 w6
      obtain ⟨y, y1, y2⟩ := lit_at (zs := N) iy0 (by omega)
      have xN := List.mem_of_getElem? x1
      have yN := List.mem_of_getElem? y1
      repeat walk_at "w"
      refine ifD (fun en => ?_) (fun en => ?_)
      · repeat walk_at "w"
        intro q H7 n7 w7
        obtain ⟨w7, s7, h7⟩ := w7.frz
        repeat walk_at "w"
        exact k _ (.name x) _ _ s7 (w7.sub (.skip (.refl _))) (.tup (SqT.of h7) (.cons (.str _) (.cons (.str _) .nil))) xN (Nat.le_add_left 1 _) (rsz_pos _)
      repeat walk_at "w"
      refine ifD (fun ei => ?_) (fun ei => ?_)
      · repeat walk_at "w"
        intro q H7 n7 w7
        repeat walk_at "w"
        intro im H8 im0 im1 w8
        have hm : ∃ m : Int, 0 < m ∧ m.natAbs ≤ 10 ^ 60 ∧ atI [V.int 10, V.int (10 ^ Int.toNat 60)] im = some (.int m) := by
          have : im = 0 ∨ im = 1 := by omega
          rcases this with rfl | rfl
          · exact ⟨10, by decide, by decide +kernel, rfl⟩
          · exact ⟨10 ^ Int.toNat 60, by decide +kernel, by decide +kernel, rfl⟩
        obtain ⟨m, m0, m1, m2⟩ := hm
        repeat walk_at "w"
        intro b H9 b0 b1 w9
        have bl : b.natAbs < 10 ^ 60 := by omega
        repeat walk_at "w"
        intro ic H10 c0 c1 w10
        repeat walk_at "w"
        refine ifD (fun ec => ?_) (fun ec => ?_)
        · repeat walk_at "w"
          intro r H11 n11 w11
          obtain ⟨w11, s11, h11⟩ := w11.frz
          repeat walk_at "w"
          exact k _ (.int b) _ _ s11 (w11.sub (.skip (.skip (.refl _)))) (.tup (SqT.of h11) (.cons (.str _) (.cons (.int _) .nil))) trivial (Nat.le_add_left 1 _) (rsz_pos _)
        · repeat walk_at "w"
          intro r H11 n11 w11
          obtain ⟨w11, s11, h11⟩ := w11.frz
          repeat walk_at "w"
          exact k _ (.int (-b)) _ _ s11 (w11.sub (.skip (.skip (.refl _)))) (.tup (SqT.of h11) (.cons (.str _) (.cons (.int _) .nil))) trivial (Nat.le_add_left 1 _) (rsz_pos _)
      exfalso
      have : ih = 0 ∨ ih = 1 := by omega
      rcases this with rfl | rfl
      · exact en (Option.some.inj hd1).symm
      · exact ei (Option.some.inj hd1).symm
    | succ d =>
      have ed : ((d + 1 : Nat) : Int) - 1 = (d : Int) := by omega
      rw [hspr d rfl] at c__law_rough ⊢
      repeat walk_at "w"
      intro p H1 n1 w1
      repeat walk_at "w"
      intro p2 H2 n2 w2
      repeat walk_at "w"
      intro p3 H3 n3 w3
      have w3 : V.Hw Z (some (S0, T0)) H3 ((true, p3, .lst (hd20.map V.str)) :: L) := w3.sub (.cons (.skip (.skip (.refl _))))
      repeat walk_at "w"
      intro ih H4 ih0 ih1 w4
      obtain ⟨hd, hd1, hd2⟩ := lit_at (zs := hd20) ih0 (by show ih < 20; omega)
      repeat walk_at "w"
      intro ix H5 ix0 ix1 w5
      obtain ⟨x, x1, x2⟩ := lit_at (zs := N) ix0 (by omega)
      repeat walk_at "w"
      intro iy H6 iy0 iy1 w6
      obtain ⟨y, y1, y2⟩ := lit_at (zs := N) iy0 (by omega)
      have xN := List.mem_of_getElem? x1
      have yN := List.mem_of_getElem? y1
      repeat walk_at "w"
      refine ifD (fun en => ?_) (fun en => ?_)
      · repeat walk_at "w"
        intro q H7 n7 w7
        obtain ⟨w7, s7, h7⟩ := w7.frz
        repeat walk_at "w"
        exact k _ (.name x) _ _ s7 (w7.sub (.skip (.refl _))) (.tup (SqT.of h7) (.cons (.str _) (.cons (.str _) .nil))) xN (Nat.le_add_left 1 _) (rsz_pos _)
      repeat walk_at "w"
      refine ifD (fun ei => ?_) (fun ei => ?_)
      · repeat walk_at "w"
        intro q H7 n7 w7
        repeat walk_at "w"
        intro im H8 im0 im1 w8
        have hm : ∃ m : Int, 0 < m ∧ m.natAbs ≤ 10 ^ 60 ∧ atI [V.int 10, V.int (10 ^ Int.toNat 60)] im = some (.int m) := by
          have : im = 0 ∨ im = 1 := by omega
          rcases this with rfl | rfl
          · exact ⟨10, by decide, by decide +kernel, rfl⟩
          · exact ⟨10 ^ Int.toNat 60, by decide +kernel, by decide +kernel, rfl⟩
        obtain ⟨m, m0, m1, m2⟩ := hm
        repeat walk_at "w"
        intro b H9 b0 b1 w9
        have bl : b.natAbs < 10 ^ 60 := by omega
        repeat walk_at "w"
        intro ic H10 c0 c1 w10
        repeat walk_at "w"
        refine ifD (fun ec => ?_) (fun ec => ?_)
        · repeat walk_at "w"
          intro r H11 n11 w11
          obtain ⟨w11, s11, h11⟩ := w11.frz
          repeat walk_at "w"
          exact k _ (.int b) _ _ s11 (w11.sub (.skip (.skip (.refl _)))) (.tup (SqT.of h11) (.cons (.str _) (.cons (.int _) .nil))) trivial (Nat.le_add_left 1 _) (rsz_pos _)
        · repeat walk_at "w"
          intro r H11 n11 w11
          obtain ⟨w11, s11, h11⟩ := w11.frz
          repeat walk_at "w"
          exact k _ (.int (-b)) _ _ s11 (w11.sub (.skip (.skip (.refl _)))) (.tup (SqT.of h11) (.cons (.str _) (.cons (.int _) .nil))) trivial (Nat.le_add_left 1 _) (rsz_pos _)
      repeat walk_at "w"
      refine ⟨Z, S0, T0, _, rfl, w6, fun vk kk Z7 H7 s7 w7 dk wk lk => ?_⟩
      have wk8 : kk.Wf ∧ kk.depth ≤ 8 := ⟨wk, by omega⟩
      repeat walk_at "w"
      refine ifD (fun eg => ?_) (fun eg => ?_)
      · repeat walk_at "w"
        intro q H8 n8 w8
        obtain ⟨w8, s8, h8⟩ := w8.frz
        repeat walk_at "w"
        exact k _ (.gone kk) _ _ (fun b o e => s8 _ _ (s7 _ _ e)) (w8.sub (.skip (.refl _))) (.tup (SqT.of h8) (.cons (.str _) (.cons (dk.mono s8) .nil))) wk8 (Nat.le_add_left 1 _) (by have e3 : rsz (d + 1) = 3 * rsz d + 1 := rfl; have e1 := rsz_pos d; rw [e3]; simp only [Tm.size]; omega)
      repeat walk_at "w"
      refine ⟨Z7, S0, T0, _, rfl, w7, fun own H8 hown w8 => ?_⟩
      repeat walk_at "w"
      intro ig H9 ig0 ig1 w9
      repeat walk_at "w"
      refine meetV (a := .str "?") (b := .str own) (fun Q' q => q) (fun Q' q => V.w_var rfl q) ?_
      obtain ⟨gap, egap, hgap⟩ : ∃ gap : Str, (if ig = 0 then V.str "?" else V.str own) = .str gap ∧ (gap = "?" ∨ GrOk gap) := by
        by_cases e : ig = 0
        · exact ⟨"?", if_pos e, .inl rfl⟩
        · exact ⟨own, if_neg e, .inr hown⟩
      rw [egap]
      repeat walk_at "w"
      rw [ed]
      refine ⟨Z7, S0, T0, nm, _, N, rfl, w9, s7 _ _ hN, N0, N1, fun va ta Z10 H10 s10 w10 da wa la za => ?_⟩
      repeat walk_at "w"
      intro p11 H11 n11 w11
      refine V.w_inL (xs := (["left", "right", "as"] : List Str).map V.str) (SqL.of (w11.get .here)) rfl (flat_strs _) ?_
      rw [inV_str]
      have w11 := w11.sub (.skip (.refl _))
      repeat walk_at "w"
      refine ifD (fun e3 => ?_) (fun e3 => ?_)
      · obtain ⟨o, rfl⟩ : ∃ o : Pre, hd = o.s := by
          simp only [List.mem_cons, List.not_mem_nil, or_false] at e3
          rcases e3 with e | e | e
          · exact ⟨.left, e⟩
          · exact ⟨.right, e⟩
          · exact ⟨.as, e⟩
        repeat walk_at "w"
        intro q H12 n12 w12
        obtain ⟨w12, s12, h12⟩ := w12.frz
        repeat walk_at "w"
        exact k _ (.pre o kk ta) _ _ (fun b o e => s12 _ _ (s10 _ _ (s7 _ _ e))) (w12.sub (.skip (.refl _))) (.tup (SqT.of h12) (.cons (.str _) (.cons ((dk.mono s10).mono s12) (.cons (da.mono s12) .nil)))) ⟨wk8, wa⟩ (Nat.succ_le_succ la) (by have e3 : rsz (d + 1) = 3 * rsz d + 1 := rfl; have e1 := rsz_pos d; rw [e3]; simp only [Tm.size]; omega)
      repeat walk_at "w"
      refine ifD (fun eb => ?_) (fun eb => ?_)
      · repeat walk_at "w"
        intro q H12 n12 w12
        obtain ⟨w12, s12, h12⟩ := w12.frz
        repeat walk_at "w"
        exact k _ (.box own ta) _ _ (fun b o e => s12 _ _ (s10 _ _ (s7 _ _ e))) (w12.sub (.skip (.refl _))) (.tup (SqT.of h12) (.cons (.str _) (.cons (.str _) (.cons (da.mono s12) .nil)))) ⟨hown, wa⟩ (Nat.succ_le_succ la) (by have e3 : rsz (d + 1) = 3 * rsz d + 1 := rfl; have e1 := rsz_pos d; rw [e3]; simp only [Tm.size]; omega)
      repeat walk_at "w"
      refine ifD (fun ef => ?_) (fun ef => ?_)
      · repeat walk_at "w"
        intro q H12 n12 w12
        obtain ⟨w12, s12, h12⟩ := w12.frz
        repeat walk_at "w"
        exact k _ (.fn x gap kk ta) _ _ (fun b o e => s12 _ _ (s10 _ _ (s7 _ _ e))) (w12.sub (.skip (.refl _))) (.tup (SqT.of h12) (.cons (.str _) (.cons (.str _) (.cons (.str _) (.cons ((dk.mono s10).mono s12) (.cons (da.mono s12) .nil)))))) ⟨xN, hgap, wk8, wa⟩ (Nat.succ_le_succ la) (by have e3 : rsz (d + 1) = 3 * rsz d + 1 := rfl; have e1 := rsz_pos d; rw [e3]; simp only [Tm.size]; omega)
      repeat walk_at "w"
      rw [ed]
      refine ⟨Z10, S0, T0, nm, _, N, rfl, w11, s10 _ _ (s7 _ _ hN), N0, N1, fun vb tb Z12 H12 s12 w12 db wb lb zb => ?_⟩
      repeat walk_at "w"
      refine ifD (fun es => ?_) (fun es => ?_)
      · repeat walk_at "w"
        intro q H13 n13 w13
        obtain ⟨w13, s13, h13⟩ := w13.frz
        repeat walk_at "w"
        exact k _ (.split x y ta tb) _ _ (fun b o e => s13 _ _ (s12 _ _ (s10 _ _ (s7 _ _ e)))) (w13.sub (.skip (.refl _))) (.tup (SqT.of h13) (.cons (.str _) (.cons (.str _) (.cons (.str _) (.cons ((da.mono s12).mono s13) (.cons (db.mono s13) .nil)))))) ⟨xN, yN, wa, wb⟩ (Nat.succ_le_succ (Nat.max_le.mpr ⟨la, lb⟩)) (by have e3 : rsz (d + 1) = 3 * rsz d + 1 := rfl; have e1 := rsz_pos d; rw [e3]; simp only [Tm.size]; omega)
      repeat walk_at "w"
      refine ifD (fun eu => ?_) (fun eu => ?_)
      · repeat walk_at "w"
        intro q H13 n13 w13
        obtain ⟨w13, s13, h13⟩ := w13.frz
        repeat walk_at "w"
        exact k _ (.unbox x ta tb) _ _ (fun b o e => s13 _ _ (s12 _ _ (s10 _ _ (s7 _ _ e)))) (w13.sub (.skip (.refl _))) (.tup (SqT.of h13) (.cons (.str _) (.cons (.str _) (.cons ((da.mono s12).mono s13) (.cons (db.mono s13) .nil))))) ⟨xN, wa, wb⟩ (Nat.succ_le_succ (Nat.max_le.mpr ⟨la, lb⟩)) (by have e3 : rsz (d + 1) = 3 * rsz d + 1 := rfl; have e1 := rsz_pos d; rw [e3]; simp only [Tm.size]; omega)
      repeat walk_at "w"
      intro p13 H13 n13 w13
      refine V.w_inL (xs := (["add", "sub", "mul", "call", "pair"] : List Str).map V.str) (SqL.of (w13.get .here)) rfl (flat_strs _) ?_
      rw [inV_str]
      have w13 := w13.sub (.skip (.refl _))
      repeat walk_at "w"
      refine ifD (fun e5 => ?_) (fun e5 => ?_)
      · obtain ⟨o, rfl⟩ : ∃ o : Op, hd = o.s := by
          simp only [List.mem_cons, List.not_mem_nil, or_false] at e5
          rcases e5 with e | e | e | e | e
          · exact ⟨.add, e⟩
          · exact ⟨.sub, e⟩
          · exact ⟨.mul, e⟩
          · exact ⟨.call, e⟩
          · exact ⟨.pair, e⟩
        repeat walk_at "w"
        intro q H14 n14 w14
        obtain ⟨w14, s14, h14⟩ := w14.frz
        repeat walk_at "w"
        exact k _ (.op o ta tb) _ _ (fun b o e => s14 _ _ (s12 _ _ (s10 _ _ (s7 _ _ e)))) (w14.sub (.skip (.refl _))) (.tup (SqT.of h14) (.cons (.str _) (.cons ((da.mono s12).mono s14) (.cons (db.mono s14) .nil)))) ⟨wa, wb⟩ (Nat.succ_le_succ (Nat.max_le.mpr ⟨la, lb⟩)) (by have e3 : rsz (d + 1) = 3 * rsz d + 1 := rfl; have e1 := rsz_pos d; rw [e3]; simp only [Tm.size]; omega)
      repeat walk_at "w"
      rw [ed]
      refine ⟨Z12, S0, T0, nm, _, N, rfl, w13, s12 _ _ (s10 _ _ (s7 _ _ hN)), N0, N1, fun vc tc Z14 H14 s14 w14 dc wc lc zc => ?_⟩
      repeat walk_at "w"
      refine ifD (fun ec => ?_) (fun ec => ?_)
      · repeat walk_at "w"
        intro q H15 n15 w15
        obtain ⟨w15, s15, h15⟩ := w15.frz
        repeat walk_at "w"
        exact k _ (.case ta x tb y tc) _ _ (fun b o e => s15 _ _ (s14 _ _ (s12 _ _ (s10 _ _ (s7 _ _ e))))) (w15.sub (.skip (.refl _))) (.tup (SqT.of h15) (.cons (.str _) (.cons (((da.mono s12).mono s14).mono s15) (.cons (.str _) (.cons ((db.mono s14).mono s15) (.cons (.str _) (.cons (dc.mono s15) .nil))))))) ⟨xN, yN, wa, wb, wc⟩ (Nat.succ_le_succ (Nat.max_le.mpr ⟨la, Nat.max_le.mpr ⟨lb, lc⟩⟩)) (by have e3 : rsz (d + 1) = 3 * rsz d + 1 := rfl; have e1 := rsz_pos d; rw [e3]; simp only [Tm.size]; omega)
      repeat walk_at "w"
      refine ifD (fun et => ?_) (fun et => ?_)
      · repeat walk_at "w"
        intro q H15 n15 w15
        obtain ⟨w15, s15, h15⟩ := w15.frz
        repeat walk_at "w"
        exact k _ (.test ta tb tc) _ _ (fun b o e => s15 _ _ (s14 _ _ (s12 _ _ (s10 _ _ (s7 _ _ e))))) (w15.sub (.skip (.refl _))) (.tup (SqT.of h15) (.cons (.str _) (.cons (((da.mono s12).mono s14).mono s15) (.cons ((db.mono s14).mono s15) (.cons (dc.mono s15) .nil))))) ⟨wa, wb, wc⟩ (Nat.succ_le_succ (Nat.max_le.mpr ⟨la, Nat.max_le.mpr ⟨lb, lc⟩⟩)) (by have e3 : rsz (d + 1) = 3 * rsz d + 1 := rfl; have e1 := rsz_pos d; rw [e3]; simp only [Tm.size]; omega)
      · repeat walk_at "w"
        intro q H15 n15 w15
        obtain ⟨w15, s15, h15⟩ := w15.frz
        repeat walk_at "w"
        exact k _ (.rep ta x gap tb tc) _ _ (fun b o e => s15 _ _ (s14 _ _ (s12 _ _ (s10 _ _ (s7 _ _ e))))) (w15.sub (.skip (.refl _))) (.tup (SqT.of h15) (.cons (.str _) (.cons (((da.mono s12).mono s14).mono s15) (.cons (.str _) (.cons (.str _) (.cons ((db.mono s14).mono s15) (.cons (dc.mono s15) .nil))))))) ⟨xN, hgap, wa, wb, wc⟩ (Nat.succ_le_succ (Nat.max_le.mpr ⟨la, Nat.max_le.mpr ⟨lb, lc⟩⟩)) (by have e3 : rsz (d + 1) = 3 * rsz d + 1 := rfl; have e1 := rsz_pos d; rw [e3]; simp only [Tm.size]; omega)
end
/-! ### the law's places -/
open UK UM
local macro_rules | `(tactic| walk_at "w") => `(tactic| with_reducible refine' UM.w_pn ?_)
local macro_rules | `(tactic| walk_at "w") => `(tactic| with_reducible refine' UM.w_pc ?_)
local macro_rules | `(tactic| walk_at "mem") => `(tactic| repeat (first | exact List.Mem.head _ | apply List.Mem.tail))
theorem ok_mem {Z H : Hp} {f : Bool} {a : Addr} {o : HO} : ∀ {L : V.Cells}, V.Ok Z H L → (f, a, o) ∈ L → H a = some o
  | _ :: _, k, h => by
    rcases List.mem_cons.mp h with e | e
    · subst e; exact k.1.1
    · exact ok_mem k.2.2 e
theorem bp_nil : ∀ {t : Tm} {i : Nat} {ks : List Nat}, t.binds = false → t.bpos[i]? = some ks → ks = [] := by
  intro t i ks hb h
  rcases bi_row t with ⟨b, _⟩ | ⟨_, _, no⟩
  · rw [hb] at b; cases b
  · exact no ks (List.mem_of_getElem? h)
def spPlaces (K : PySem.W.Frag) : Sp := fun vs H Q _ => ∃ t : Tm, vs = [.str t.w] ∧ ∀ H' p, Same H H' → H p = none → H' p = some (.lst (t.pos.map fun (k : Nat) => V.int (k : Int))) → Q (.ref p) H'
def spBPl (K : PySem.W.Frag) : Sp := fun vs H Q _ => ∃ (t : Tm) (i : Nat) (ks : List Nat), vs = [.str t.w, .int (i : Int)] ∧ t.bpos[i]? = some ks ∧ ∀ H' p, Same H H' → H p = none → H' p = some (.lst (ks.map fun (k : Nat) => V.int (k : Int))) → Q (.ref p) H'
def rowsPl (p1 p2 p3 p4 p5 p6 p7 p8 p9 p10 p11 p12 p13 : Addr) : List (Key × V) := [(Sum.inr "int", .ref p1), (Sum.inr "name", .ref p2), (Sum.inr "gone", .ref p3), (Sum.inr "fn", .ref p4), (Sum.inr "split", .ref p5), (Sum.inr "left", .ref p6), (Sum.inr "right", .ref p7), (Sum.inr "case", .ref p8), (Sum.inr "box", .ref p9), (Sum.inr "unbox", .ref p10), (Sum.inr "test", .ref p11), (Sum.inr "repeat", .ref p12), (Sum.inr "as", .ref p13)]
def rowsBp (b1 b2 b3 b4 b5 : Addr) : List (Key × V) := [(Sum.inr "fn", .ref b1), (Sum.inr "split", .ref b2), (Sum.inr "case", .ref b3), (Sum.inr "unbox", .ref b4), (Sum.inr "repeat", .ref b5)]
section
variable {P : Program} {w : World} {K : PySem.W.Frag} {mg : Str → Option Value} {base : Heap}
theorem sc__law_places : FnScope ["_law_head", "_law_rows"] ["_law_head"] (defScope (top 17)) := ⟨rfl, rfl, rfl, by decide +kernel, rfl, by decide +kernel, by decide +kernel⟩
theorem st__law_places (v0 : V) : L2.start ["_law_head", "_law_rows"] [v0] = [some v0, none] := rfl
theorem ok_lplaces {f : Addr} {fd : FuncData} (F : Fun K "_law_places" "_law_places" (top 17) f fd) (T : TxL K mg) : FnOk P w K mg base CX0 1 f fd ["_law_head"] (spPlaces K) := by
  refine F.ok sc__law_places (fun vs H Q E h => ?_) (fun cdv A outer s H vs Q E hr h => ?_)
  · obtain ⟨t, rfl, _⟩ := h
    rfl
  · obtain ⟨t, rfl, k⟩ := h
    have hu := hu_of hr
    refine ⟨_, (pss_cons (ps_set (i := 1) sc__law_places.nd rfl (Or.inl rfl) (pe_disp (pps_cons pe_str (pe_lst pa_nil) (pps_cons pe_str (pe_lst pa_nil) (pps_cons pe_str (pe_lst pa_nil) (pps_cons pe_str (pe_lst (pa_cons pe_int pa_nil)) (pps_cons pe_str (pe_lst (pa_cons pe_int (pa_cons pe_int pa_nil))) (pps_cons pe_str (pe_lst (pa_cons pe_int pa_nil)) (pps_cons pe_str (pe_lst (pa_cons pe_int pa_nil)) (pps_cons pe_str (pe_lst (pa_cons pe_int (pa_cons pe_int (pa_cons pe_int pa_nil)))) (pps_cons pe_str (pe_lst (pa_cons pe_int pa_nil)) (pps_cons pe_str (pe_lst (pa_cons pe_int (pa_cons pe_int pa_nil))) (pps_cons pe_str (pe_lst (pa_cons pe_int (pa_cons pe_int (pa_cons pe_int pa_nil)))) (pps_cons pe_str (pe_lst (pa_cons pe_int (pa_cons pe_int (pa_cons pe_int pa_nil)))) (pps_cons pe_str (pe_lst (pa_cons pe_int pa_nil)) pps_nil))))))))))))) (by rfl) (by rfl) (fun z => by cases z) (by decide)))
      (pss_one (ps_ret (pe_dget2 hu (pv 1) (pv 0) (pe_lst (pa_cons pe_int (pa_cons pe_int pa_nil))) ⟨rfl, rfl, rfl, rfl⟩)))), ?_⟩
    rw [st__law_places]
    have w0 := V.Hw.start (H := H)
    repeat walk_at "w"
    refine UM.w_disp w0 fun pd H0 n0 w0 => ?_
    repeat walk_at "w"
    intro p1 H1 n1 w1
    repeat walk_at "w"
    intro p2 H2 n2 w2
    repeat walk_at "w"
    intro p3 H3 n3 w3
    repeat walk_at "w"
    intro p4 H4 n4 w4
    repeat walk_at "w"
    intro p5 H5 n5 w5
    repeat walk_at "w"
    intro p6 H6 n6 w6
    repeat walk_at "w"
    intro p7 H7 n7 w7
    repeat walk_at "w"
    intro p8 H8 n8 w8
    repeat walk_at "w"
    intro p9 H9 n9 w9
    repeat walk_at "w"
    intro p10 H10 n10 w10
    repeat walk_at "w"
    intro p11 H11 n11 w11
    repeat walk_at "w"
    intro p12 H12 n12 w12
    repeat walk_at "w"
    intro p13 H13 n13 w13
    repeat walk_at "w"
    refine ⟨w13.get (by walk_at "at"), rowsPl p1 p2 p3 p4 p5 p6 p7 p8 p9 p10 p11 p12 p13, rfl, Nat.le_of_ble_eq_true rfl, ?_⟩
    have w14 := w13.up (a := pd) (o := .dK (mergeK [] (rowsPl p1 p2 p3 p4 p5 p6 p7 p8 p9 p10 p11 p12 p13))) (by walk_at "up")
    repeat walk_at "w"
    refine UM.w_dget2 ?_
    repeat walk_at "w"
    refine ⟨pd, rfl, .inl ⟨_, .inl (w14.get (by walk_at "at"))⟩, ?_⟩
    repeat walk_at "w"
    intro q H15 n15 w15
    refine ⟨_, DGet.k (k := Sum.inr t.w) (w15.get (by walk_at "at")), ?_⟩
    have key : ∀ L, V.Hw H none H15 L → (∃ p, (valV (mergeK [] (rowsPl p1 p2 p3 p4 p5 p6 p7 p8 p9 p10 p11 p12 p13)) (Sum.inr t.w)).getD (.ref q) = .ref p ∧ (true, p, HO.lst (t.pos.map fun (k : Nat) => V.int (k : Int))) ∈ L) → Q ((valV (mergeK [] (rowsPl p1 p2 p3 p4 p5 p6 p7 p8 p9 p10 p11 p12 p13)) (Sum.inr t.w)).getD (.ref q)) H15 := fun L w ⟨p, e, m⟩ => by
      rw [e]
      exact k H15 p w.fr (w.ok.out m) (ok_mem w.ok m)
    refine key _ w15 ?_
    have ex : ∀ {t : Tm} {p : Addr} {L : V.Cells}, (valV (mergeK [] (rowsPl p1 p2 p3 p4 p5 p6 p7 p8 p9 p10 p11 p12 p13)) (Sum.inr t.w)).getD (.ref q) = .ref p → (true, p, HO.lst (t.pos.map fun (k : Nat) => V.int (k : Int))) ∈ L → ∃ p, (valV (mergeK [] (rowsPl p1 p2 p3 p4 p5 p6 p7 p8 p9 p10 p11 p12 p13)) (Sum.inr t.w)).getD (.ref q) = .ref p ∧ (true, p, HO.lst (t.pos.map fun (k : Nat) => V.int (k : Int))) ∈ L := fun h m => ⟨_, h, m⟩
    cases t with
    | int n => exact ex (p := p1) (by kernel_rfl) (by walk_at "mem")
    | name x => exact ex (p := p2) (by kernel_rfl) (by walk_at "mem")
    | gone A => exact ex (p := p3) (by kernel_rfl) (by walk_at "mem")
    | op o a b => cases o <;> exact ex (p := q) (by kernel_rfl) (by walk_at "mem")
    | fn x g A b => exact ex (p := p4) (by kernel_rfl) (by walk_at "mem")
    | split x y e b => exact ex (p := p5) (by kernel_rfl) (by walk_at "mem")
    | pre o A a =>
      cases o
      · exact ex (p := p6) (by kernel_rfl) (by walk_at "mem")
      · exact ex (p := p7) (by kernel_rfl) (by walk_at "mem")
      · exact ex (p := p13) (by kernel_rfl) (by walk_at "mem")
    | case e x a y b => exact ex (p := p8) (by kernel_rfl) (by walk_at "mem")
    | box g e => exact ex (p := p9) (by kernel_rfl) (by walk_at "mem")
    | unbox x e b => exact ex (p := p10) (by kernel_rfl) (by walk_at "mem")
    | test e a b => exact ex (p := p11) (by kernel_rfl) (by walk_at "mem")
    | rep e x g z s => exact ex (p := p12) (by kernel_rfl) (by walk_at "mem")
theorem sc__law_binder_places : FnScope ["_law_head", "_law_k", "_law_rows"] ["_law_head", "_law_k"] (defScope (top 18)) := ⟨rfl, rfl, rfl, by decide +kernel, rfl, by decide +kernel, by decide +kernel⟩
theorem st__law_binder_places (v0 v1 : V) : L2.start ["_law_head", "_law_k", "_law_rows"] [v0, v1] = [some v0, some v1, none] := rfl
theorem ok_lbplaces {f : Addr} {fd : FuncData} (F : Fun K "_law_binder_places" "_law_binder_places" (top 18) f fd) (T : TxL K mg) : FnOk P w K mg base CX0 1 f fd ["_law_head", "_law_k"] (spBPl K) := by
  refine F.ok sc__law_binder_places (fun vs H Q E h => ?_) (fun cdv A outer s H vs Q E hr h => ?_)
  · obtain ⟨t, i, ks, rfl, _⟩ := h
    rfl
  · obtain ⟨t, i, ks, rfl, hks, k⟩ := h
    have hu := hu_of hr
    refine ⟨_, (pss_cons (ps_set (i := 2) sc__law_binder_places.nd rfl (Or.inl rfl) (pe_disp (pps_cons pe_str (pe_lst (pa_cons (pe_lst (pa_cons pe_int pa_nil)) pa_nil)) (pps_cons pe_str (pe_lst (pa_cons (pe_lst pa_nil) (pa_cons (pe_lst (pa_cons pe_int (pa_cons pe_int pa_nil))) pa_nil))) (pps_cons pe_str (pe_lst (pa_cons (pe_lst pa_nil) (pa_cons (pe_lst (pa_cons pe_int pa_nil)) (pa_cons (pe_lst (pa_cons pe_int pa_nil)) pa_nil)))) (pps_cons pe_str (pe_lst (pa_cons (pe_lst pa_nil) (pa_cons (pe_lst (pa_cons pe_int pa_nil)) pa_nil))) (pps_cons pe_str (pe_lst (pa_cons (pe_lst pa_nil) (pa_cons (pe_lst pa_nil) (pa_cons (pe_lst (pa_cons pe_int pa_nil)) pa_nil)))) pps_nil))))) (by rfl) (by rfl) (fun z => by cases z) (by decide)))
      (pss_one (ps_ret (pe_ifExp (pt_cmp (pc_din hu (pv 0) (pv 2))) (pe_ix ix_list (pe_dget hu (pv 2) (pv 0) (fun _ _ => rfl)) (pv 1) (fun _ _ => rfl)) (pe_lst pa_nil))))), ?_⟩
    rw [st__law_binder_places]
    have w0 := V.Hw.start (H := H)
    repeat walk_at "w"
    refine UM.w_disp w0 fun pd H0 n0 w0 => ?_
    repeat walk_at "w"
    intro a1 H1 n1 w1
    repeat walk_at "w"
    intro b1 H2 n2 w2
    repeat walk_at "w"
    intro a2 H3 n3 w3
    repeat walk_at "w"
    intro a3 H4 n4 w4
    repeat walk_at "w"
    intro b2 H5 n5 w5
    repeat walk_at "w"
    intro a4 H6 n6 w6
    repeat walk_at "w"
    intro a5 H7 n7 w7
    repeat walk_at "w"
    intro a6 H8 n8 w8
    repeat walk_at "w"
    intro b3 H9 n9 w9
    repeat walk_at "w"
    intro a7 H10 n10 w10
    repeat walk_at "w"
    intro a8 H11 n11 w11
    repeat walk_at "w"
    intro b4 H12 n12 w12
    repeat walk_at "w"
    intro a9 H13 n13 w13
    repeat walk_at "w"
    intro a10 H14 n14 w14
    repeat walk_at "w"
    intro a11 H15 n15 w15
    repeat walk_at "w"
    intro b5 H16 n16 w16
    repeat walk_at "w"
    refine ⟨w16.get (by walk_at "at"), rowsBp b1 b2 b3 b4 b5, rfl, Nat.le_of_ble_eq_true rfl, ?_⟩
    have w20 := w16.up (a := pd) (o := .dK (mergeK [] (rowsBp b1 b2 b3 b4 b5))) (by walk_at "up")
    generalize upd H16 pd (.dK (mergeK [] (rowsBp b1 b2 b3 b4 b5))) = H20 at w20 ⊢
    have key : (∃ (pb : Addr) (as : List Addr), valV (mergeK [] (rowsBp b1 b2 b3 b4 b5)) (Sum.inr t.w : Key) = some (.ref pb) ∧ H20 pb = some (.lst (as.map V.ref)) ∧ ∃ a, as[i]? = some a ∧ H20 a = some (.lst (ks.map fun (k : Nat) => V.int (k : Int))) ∧ H a = none) ∨
        (valV (mergeK [] (rowsBp b1 b2 b3 b4 b5)) (Sum.inr t.w : Key) = none ∧ ks = []) := by
      have ne : ∀ {pb : Addr} {as : List Addr}, valV (mergeK [] (rowsBp b1 b2 b3 b4 b5)) (Sum.inr t.w : Key) = some (.ref pb) → H20 pb = some (.lst (as.map V.ref)) → (∃ a, as[i]? = some a ∧ H20 a = some (.lst (ks.map fun (k : Nat) => V.int (k : Int))) ∧ H a = none) → (∃ (pb : Addr) (as : List Addr), valV (mergeK [] (rowsBp b1 b2 b3 b4 b5)) (Sum.inr t.w : Key) = some (.ref pb) ∧ H20 pb = some (.lst (as.map V.ref)) ∧ ∃ a, as[i]? = some a ∧ H20 a = some (.lst (ks.map fun (k : Nat) => V.int (k : Int))) ∧ H a = none) ∨
        (valV (mergeK [] (rowsBp b1 b2 b3 b4 b5)) (Sum.inr t.w : Key) = none ∧ ks = []) := fun h1 h2 h3 => Or.inl ⟨_, _, h1, h2, h3⟩
      have inn : ∀ {L : V.Cells} {a : Addr} {o : HO}, V.Hw H none H20 L → (true, a, o) ∈ L → H20 a = some o ∧ H a = none := fun w m => ⟨ok_mem w.ok m, w.ok.out m⟩
      cases t with
      | int n => exact .inr ⟨by kernel_rfl, bp_nil rfl hks⟩
      | name x => exact .inr ⟨by kernel_rfl, bp_nil rfl hks⟩
      | gone A => exact .inr ⟨by kernel_rfl, bp_nil rfl hks⟩
      | op o a b => exact .inr ⟨by cases o <;> kernel_rfl, bp_nil rfl hks⟩
      | fn x g A b =>
        refine ne (pb := b1) (as := [a1]) (by kernel_rfl) (inn w20 (by walk_at "mem")).1 ?_
        match i, hks with
        | 0, hks => cases hks; exact ⟨a1, rfl, inn w20 (by walk_at "mem")⟩
        | i + 1, hks => exact absurd hks (by simp [Tm.bpos])
      | split x y e b =>
        refine ne (pb := b2) (as := [a2, a3]) (by kernel_rfl) (inn w20 (by walk_at "mem")).1 ?_
        match i, hks with
        | 0, hks => cases hks; exact ⟨a2, rfl, inn w20 (by walk_at "mem")⟩
        | 1, hks => cases hks; exact ⟨a3, rfl, inn w20 (by walk_at "mem")⟩
        | i + 2, hks => exact absurd hks (by simp [Tm.bpos])
      | pre o A a => exact .inr ⟨by cases o <;> kernel_rfl, bp_nil rfl hks⟩
      | case e x a y b =>
        refine ne (pb := b3) (as := [a4, a5, a6]) (by kernel_rfl) (inn w20 (by walk_at "mem")).1 ?_
        match i, hks with
        | 0, hks => cases hks; exact ⟨a4, rfl, inn w20 (by walk_at "mem")⟩
        | 1, hks => cases hks; exact ⟨a5, rfl, inn w20 (by walk_at "mem")⟩
        | 2, hks => cases hks; exact ⟨a6, rfl, inn w20 (by walk_at "mem")⟩
        | i + 3, hks => exact absurd hks (by simp [Tm.bpos])
      | box g e => exact .inr ⟨by kernel_rfl, bp_nil rfl hks⟩
      | unbox x e b =>
        refine ne (pb := b4) (as := [a7, a8]) (by kernel_rfl) (inn w20 (by walk_at "mem")).1 ?_
        match i, hks with
        | 0, hks => cases hks; exact ⟨a7, rfl, inn w20 (by walk_at "mem")⟩
        | 1, hks => cases hks; exact ⟨a8, rfl, inn w20 (by walk_at "mem")⟩
        | i + 2, hks => exact absurd hks (by simp [Tm.bpos])
      | test e a b => exact .inr ⟨by kernel_rfl, bp_nil rfl hks⟩
      | rep e x g z s =>
        refine ne (pb := b5) (as := [a9, a10, a11]) (by kernel_rfl) (inn w20 (by walk_at "mem")).1 ?_
        match i, hks with
        | 0, hks => cases hks; exact ⟨a9, rfl, inn w20 (by walk_at "mem")⟩
        | 1, hks => cases hks; exact ⟨a10, rfl, inn w20 (by walk_at "mem")⟩
        | 2, hks => cases hks; exact ⟨a11, rfl, inn w20 (by walk_at "mem")⟩
        | i + 3, hks => exact absurd hks (by simp [Tm.bpos])
    repeat walk_at "w"
    refine V.w_dinS (w20.get (by walk_at "at")) ?_
    rcases key with ⟨pb, as, e1, h1, a, e2, h2, na⟩ | ⟨e1, e2⟩
    · rw [e1]
      repeat walk_at "w"
      refine U.ifT rfl ?_
      repeat walk_at "w"
      have ia : atI (as.map V.ref) (i : Int) = some (.ref a) := at_of (j := i) rfl (by rw [List.getElem?_map, e2]; rfl)
      refine V.w_ixL (SqL.of h1) ia ?_
      exact k H20 a w20.fr na h2
    · rw [e1]
      repeat walk_at "w"
      refine U.ifF rfl ?_
      repeat walk_at "w"
      intro q H21 n21 w21
      repeat walk_at "w"
      rw [e2] at k
      exact k H21 q w21.fr (w21.ok.1.2 rfl) (w21.get .here)
end
/-! ### the law's nameless terms -/
open UK UM UN
theorem opos_range : ∀ t : Tm, (List.range t.its.length).filter (fun k => !(t.pos.contains k) && !(t.bpos.flatten.contains k)) = t.opos
  | .int _ => rfl | .name _ => rfl | .gone _ => rfl | .op _ _ _ => rfl | .fn _ _ _ _ => rfl | .split _ _ _ _ => rfl | .pre _ _ _ => rfl | .case _ _ _ _ _ => rfl
  | .box _ _ => rfl | .unbox _ _ _ => rfl | .test _ _ _ => rfl | .rep _ _ _ _ _ => rfl
theorem op_ninK {X : Cx} (K : PySem.W.Frag) (hK : X.K = K) : OpR X (compareOp .NotIn) (rIn K true) := by
  subst hK
  exact op_notIn_seq
theorem inV_int (x : Int) (zs : List Int) : inV (.int x) (zs.map V.int) = decide (x ∈ zs) := by
  unfold inV
  rw [List.any_map, Bool.eq_iff_iff, List.any_eq_true, decide_eq_true_iff]
  constructor
  · rintro ⟨y, hy, e⟩
    have e : (y == x) = true := e
    rw [← eq_of_beq e]; exact hy
  · intro h
    exact ⟨x, h, show (x == x) = true by simp⟩
theorem inV_nat (k : Nat) (ks : List Nat) : inV (.int (k : Int)) (ks.map fun (k : Nat) => V.int (k : Int)) = ks.contains k := by
  rw [show (ks.map fun (k : Nat) => V.int (k : Int)) = (ks.map fun (k : Nat) => (k : Int)).map V.int by rw [List.map_map]; rfl, inV_int, List.contains_eq_mem]
  have : ((k : Int) ∈ ks.map fun (k : Nat) => (k : Int)) ↔ k ∈ ks := by
    rw [List.mem_map]
    exact ⟨fun ⟨a, h, e⟩ => Int.ofNat_inj.mp e ▸ h, fun h => ⟨k, h, rfl⟩⟩
  simp only [this]
theorem flat_nats (ks : List Nat) : (ks.map fun (k : Nat) => V.int (k : Int)).all flatV = true := by rw [List.all_map]; exact List.all_eq_true.mpr fun _ _ => rfl
theorem bpos_flat : ∀ t : Tm, t.bpos.flatten.length ≤ 2
  | .int _ => Nat.zero_le _ | .name _ => Nat.zero_le _ | .gone _ => Nat.zero_le _ | .op _ _ _ => Nat.zero_le _ | .fn _ _ _ _ => Nat.le_of_ble_eq_true rfl | .split _ _ _ _ => Nat.le_refl _ | .pre _ _ _ => Nat.zero_le _ | .case _ _ _ _ _ => Nat.le_refl _
  | .box _ _ => Nat.zero_le _ | .unbox _ _ _ => Nat.le_of_ble_eq_true rfl | .test _ _ _ => Nat.zero_le _ | .rep _ _ _ _ _ => Nat.le_of_ble_eq_true rfl
theorem flat_take {α : Type} (l : List (List α)) (i : Nat) : (l.take i).flatten.length ≤ l.flatten.length := by
  have e := congrArg (fun l => (List.flatten l).length) (List.take_append_drop i l)
  simp only [List.flatten_append, List.length_append] at e
  omega
theorem its_len : ∀ t : Tm, t.its.length ≤ 6
  | .int _ => Nat.le_of_ble_eq_true rfl | .name _ => Nat.le_of_ble_eq_true rfl | .gone _ => Nat.le_of_ble_eq_true rfl | .op _ _ _ => Nat.le_of_ble_eq_true rfl | .fn _ _ _ _ => Nat.le_of_ble_eq_true rfl | .split _ _ _ _ => Nat.le_of_ble_eq_true rfl | .pre _ _ _ => Nat.le_of_ble_eq_true rfl
  | .case _ _ _ _ _ => Nat.le_of_ble_eq_true rfl | .box _ _ => Nat.le_of_ble_eq_true rfl | .unbox _ _ _ => Nat.le_of_ble_eq_true rfl | .test _ _ _ => Nat.le_of_ble_eq_true rfl | .rep _ _ _ _ _ => Nat.le_of_ble_eq_true rfl
theorem outs_len : ∀ t : Tm, t.outs.length ≤ 3
  | .int _ => Nat.le_of_ble_eq_true rfl | .name _ => Nat.le_of_ble_eq_true rfl | .gone _ => Nat.le_of_ble_eq_true rfl | .op _ _ _ => Nat.le_of_ble_eq_true rfl | .fn _ _ _ _ => Nat.le_of_ble_eq_true rfl | .split _ _ _ _ => Nat.le_of_ble_eq_true rfl | .pre _ _ _ => Nat.le_of_ble_eq_true rfl
  | .case _ _ _ _ _ => Nat.le_of_ble_eq_true rfl | .box _ _ => Nat.le_of_ble_eq_true rfl | .unbox _ _ _ => Nat.le_of_ble_eq_true rfl | .test _ _ _ => Nat.le_of_ble_eq_true rfl | .rep _ _ _ _ _ => Nat.le_of_ble_eq_true rfl
theorem nn_of : ∀ {t : Tm}, ¬t.w = "name" → t.nn
  | .int _, _ => trivial | .name _, h => absurd rfl h | .gone _, _ => trivial | .op _ _ _, _ => trivial | .fn _ _ _ _, _ => trivial | .split _ _ _ _, _ => trivial | .pre _ _ _, _ => trivial | .case _ _ _ _ _, _ => trivial
  | .box _ _, _ => trivial | .unbox _ _ _, _ => trivial | .test _ _ _, _ => trivial | .rep _ _ _ _ _, _ => trivial
/-- the parts, nameless -/
def nlk (im : Str → Option PyData) (bs : List Str) (t : Tm) : List PyData := (t.parts.zip t.bnds).map fun e => e.1.nl im (bs ++ e.2)
theorem nlk_len (im : Str → Option PyData) (bs : List Str) (t : Tm) : (nlk im bs t).length = t.parts.length := by
  unfold nlk; rw [List.length_map, List.length_zip, t.bnds_len.1, Nat.min_self]
theorem nlk_at {im : Str → Option PyData} {bs : List Str} {t : Tm} {i : Nat} {p : Tm} {b : List Str} (h1 : t.parts[i]? = some p) (h2 : t.bnds[i]? = some b) : (nlk im bs t)[i]? = some (p.nl im (bs ++ b)) := by
  unfold nlk
  rw [List.getElem?_map, (List.getElem?_zip_eq_some (z := (p, b))).mpr ⟨h1, h2⟩]; rfl
theorem range_snoc (F : Nat → Bool) (i : Nat) : (List.range (i + 1)).filter F = (List.range i).filter F ++ (if F i = true then [i] else []) := by
  rw [List.range_succ, List.filter_append]
  congr 1
  cases h : F i <;> simp [h]
def ImgAt (K : PySem.W.Frag) (Z : Hp) (pi : Addr) (im : Str → Option PyData) : Prop := ∃ kvs, Z pi = some (.dK kvs) ∧ ∀ x, (valV kvs (Sum.inr x : Key) = none ∧ im x = none) ∨ ∃ v d, valV kvs (Sum.inr x : Key) = some v ∧ im x = some d ∧ Dp K Z v d
theorem ImgAt.mono {K : PySem.W.Frag} {Z Z' : Hp} {pi : Addr} {im : Str → Option PyData} (h : ImgAt K Z pi im) (s : Same Z Z') : ImgAt K Z' pi im := by
  obtain ⟨kvs, h1, h2⟩ := h
  exact ⟨kvs, s _ _ h1, fun x => (h2 x).elim .inl fun ⟨v, d, e1, e2, e3⟩ => .inr ⟨v, d, e1, e2, e3.mono s⟩⟩
def spNl (K : PySem.W.Frag) (im : Str → Option PyData) (d : Nat) : Sp := fun vs H Q _ => ∃ (Z : Hp) (so : Option (Addr × Addr)) (L : V.Cells) (v : V) (t : Tm) (pb pi : Addr) (bs : List Str), vs = [v, .ref pb, .ref pi] ∧ V.Hw Z so H L ∧ TmAt K Z v t ∧ t.depth ≤ d ∧ Z pb = some (.lst (bs.map V.str)) ∧ ImgAt K Z pi im ∧ bs.length + 2 * t.size ≤ 1000 ∧
  ∀ (v' : V) (Z' H' : Hp), Same Z Z' → V.Hw Z' so H' L → Dp K Z' v' (t.nl im bs) → Q v' H'
section
variable {P : Program} {w : World} {K : PySem.W.Frag} {mg : Str → Option Value} {base : Heap}
theorem sc__law_nameless : FnScope ["_law_term", "_law_bound", "_law_images", "_law_k", "_law_places_here", "_law_hidden", "_law_row", "_law_inner", "_law_at"] ["_law_term", "_law_bound", "_law_images"] (defScope (top 19)) := ⟨rfl, rfl, rfl, by decide +kernel, rfl, by decide +kernel, by decide +kernel⟩
theorem st__law_nameless (v0 v1 v2 : V) : L2.start ["_law_term", "_law_bound", "_law_images", "_law_k", "_law_places_here", "_law_hidden", "_law_row", "_law_inner", "_law_at"] [v0, v1, v2] = [some v0, some v1, some v2, none, none, none, none, none, none] := rfl
theorem ok_lnl {f : Addr} {fd : FuncData} (im : Str → Option PyData) (d : Nat) (spr : Sp) (hspr : spr = spNl K im d) (F : Fun K "_law_nameless" "_law_nameless" (top 19) f fd) (T : TxL K mg) (c__law_places : Cal P w K mg base CX0 1 "_law_places" (spPlaces K)) (c__law_binder_places : Cal P w K mg base CX0 1 "_law_binder_places" (spBPl K))
    (c__law_nameless : Cal P w K mg base CX0 (1 + d) "_law_nameless" spr) : FnOk P w K mg base CX0 (1 + d + 1) f fd ["_law_term", "_law_bound", "_law_images"] (spNl K im (d + 1)) := by
  subst hspr
  refine F.ok sc__law_nameless (fun vs H Q E h => ?_) (fun cdv A outer s H vs Q E hr h => ?_)
  · obtain ⟨Z, so, L, v, t, pb, pi, bs, rfl, _⟩ := h
    rfl
  · obtain ⟨Z, so, L, v, t, pb, pi, bs, rfl, w0, ht, hd, hb, hi, hl, k⟩ := h
    have hu := hu_of hr
    refine ⟨_, (pss_cons (ps_if (pt_cmpR op_eq (pe_ix ix_tup (pv 0) pe_int (fun _ _ => rfl)) pe_str (nomark _)) (pss_cons (ps_for PassesOwn.never rfl (pi_range1 (by rfl) T.range (pa_cons (pe_callB (V.call_len K rfl) (by rfl) T.len (by decide +kernel) (pa_cons (pv 1) pa_nil)) pa_nil)) (pg_name (i := 3) sc__law_nameless.nd rfl (Or.inl rfl)) (pss_one (ps_if (pt_cmpR op_eq (pe_ix ix_list (pv 1) (pe_op op_sub (pe_op op_sub (pe_callB (V.call_len K rfl) (by rfl) T.len (by decide +kernel) (pa_cons (pv 1) pa_nil)) pe_int) (pv 3)) (fun _ _ => rfl)) (pe_ix ix_tup (pv 0) pe_int (fun _ _ => rfl)) (nomark _)) (pss_one (ps_ret (pe_lst (pa_cons pe_str (pa_cons (pv 3) pa_nil))))) pss_nil)))
      (pss_one (ps_ret (pe_dget2 hu (pv 2) (pe_ix ix_tup (pv 0) pe_int (fun _ _ => rfl)) (pe_lst (pa_cons pe_str (pa_cons (pe_ix ix_tup (pv 0) pe_int (fun _ _ => rfl)) pa_nil))) ⟨rfl, rfl, rfl, rfl⟩)))) pss_nil)
      (pss_cons (ps_set (i := 4) sc__law_nameless.nd rfl (Or.inr rfl) (pe_c c__law_places hr (by omega) (by rfl) (pa_cons (pe_ix ix_tup (pv 0) pe_int (fun _ _ => rfl)) pa_nil)))
      (pss_cons (ps_set (i := 5) sc__law_nameless.nd rfl (Or.inr rfl) (pe_lst pa_nil))
      (pss_cons (ps_for PassesOwn.never rfl (pi_range1 (by rfl) T.range (pa_cons (pe_callB (V.call_len K rfl) (by rfl) T.len (by decide +kernel) (pa_cons (pv 4) pa_nil)) pa_nil)) (pg_name (i := 3) sc__law_nameless.nd rfl (Or.inl rfl)) (pss_one (ps_set (i := 5) sc__law_nameless.nd rfl (Or.inr rfl) (pe_op op_cat (pv 5) (pe_c c__law_binder_places hr (by omega) (by rfl) (pa_cons (pe_ix ix_tup (pv 0) pe_int (fun _ _ => rfl)) (pa_cons (pv 3) pa_nil)))))))
      (pss_cons (ps_setLc (i := 6) (own := [("_law_at", 8)]) (g := (gName 8)) (by rfl) sc__law_nameless.nd rfl rfl (sw_true rfl rfl rfl (by decide +kernel)) (pi_range1 (by rfl) T.range (pa_cons (pe_callB (V.call_len K rfl) (by rfl) T.len (by decide +kernel) (pa_cons (pv 0) pa_nil)) pa_nil)) (blkOk_by (own := [("_law_at", 8)]) (N := ["_law_term", "_law_bound", "_law_images", "_law_k", "_law_places_here", "_law_hidden", "_law_row", "_law_inner", "_law_at"]) (sc := defScope (top 19)) (by decide +kernel)) (fun _ _ _ _ _ => (pg_name (i := 8) sc__law_nameless.nd rfl (Or.inl rfl))) (fun _ _ _ _ _ => (pts_one (PW.pt (pw_and (pt_cmpR (op_ninK K rfl) (pv 8) (pv 4) (by rfl)) (pw_and1 (pt_cmpR (op_ninK K rfl) (pv 8) (pv 5) (by rfl))))))) (fun _ _ _ _ _ => (pe_ix (ix_tupK K rfl) (pv 0) (pv 8) (fun _ _ => rfl))))
      (pss_cons (ps_for PassesOwn.never rfl (pi_range1 (by rfl) T.range (pa_cons (pe_callB (V.call_len K rfl) (by rfl) T.len (by decide +kernel) (pa_cons (pv 4) pa_nil)) pa_nil)) (pg_name (i := 3) sc__law_nameless.nd rfl (Or.inl rfl)) (pss_cons (ps_set (i := 7) sc__law_nameless.nd rfl (Or.inl rfl) (pe_op op_cat (pv 1) (pe_lc (own := [("_law_at", 8)]) (g := (gName 8)) (by rfl) sc__law_nameless.nd (pi_list (pe_c c__law_binder_places hr (by omega) (by rfl) (pa_cons (pe_ix ix_tup (pv 0) pe_int (fun _ _ => rfl)) (pa_cons (pv 3) pa_nil)))) (blkOk_by (own := [("_law_at", 8)]) (N := ["_law_term", "_law_bound", "_law_images", "_law_k", "_law_places_here", "_law_hidden", "_law_row", "_law_inner", "_law_at"]) (sc := defScope (top 19)) (by decide +kernel)) (fun _ _ _ _ _ => (pg_name (i := 8) sc__law_nameless.nd rfl (Or.inl rfl))) (fun _ _ _ _ _ => pts_nil) (fun _ _ _ _ _ => (pe_ix (ix_tupK K rfl) (pv 0) (pv 8) (fun _ _ => rfl))))))
      (pss_one (ps_expr (pe_bm PySem.F.plainAttrs_list PySem.F.slot_list_append PySem.F.type_list_append mt_append (pv 6) (pa_cons (pe_c c__law_nameless hr (by omega) (by rfl) (pa_cons (pe_ix ix_tup (pv 0) (pe_ix ix_list (pv 4) (pv 3) (fun _ _ => rfl)) (fun _ _ => rfl)) (pa_cons (pv 7) (pa_cons (pv 2) pa_nil)))) pa_nil))))))
      (pss_one (ps_ret (pv 6))))))))), ?_⟩
    rw [st__law_nameless]
    obtain ⟨a, xs, rfl, hs, hits⟩ := ht.open
    have a0 := at0 hits
    repeat walk_at "w"
    refine ifD (fun e => ?_) (fun e => ?_)
    · obtain ⟨x, rfl⟩ := w_name t e
      have a1 : atI xs 1 = some (.str x) := by
        obtain ⟨y, e1, e2⟩ := hits.at_ (i := 1) (d := .str x) rfl
        rw [e2.strI] at e1
        exact at_of (j := 1) rfl e1
      repeat walk_at "w"
      have hbl : (bs.map V.str).length = bs.length := List.length_map ..
      have hbH : H pb = some (.lst (bs.map V.str)) := w0.fro hb
      refine V.w_ir1 (n := bs.length) (by rw [hbl]) (by omega) ?_
      refine for_range (n := bs.length) (fun i σ H' => ∃ y3 : Option V, σ = [some (.ref a), some (.ref pb), some (.ref pi), y3, none, none, none, none, none] ∧ H' = H ∧ ∀ j, j < i → bs.reverse[j]? ≠ some x) ⟨none, rfl, rfl, fun j h => absurd h (Nat.not_lt_zero _)⟩ ?_ ?_
      · rintro i σ _ hi2 ⟨y3, rfl, rfl, hn⟩
        have jl : bs.length - 1 - i < bs.length := by omega
        have ab : atI (bs.map V.str) (((bs.map V.str).length : Int) - 1 - (0 + (i : Int))) = some (.str (bs[bs.length - 1 - i])) := at_of (j := bs.length - 1 - i) (by rw [hbl]; omega) (by rw [List.getElem?_map, List.getElem?_eq_getElem jl]; rfl)
        have rj : bs.reverse[i]? = some (bs[bs.length - 1 - i]) := by rw [List.getElem?_reverse (by omega), List.getElem?_eq_getElem jl]
        repeat walk_at "w"
        refine ifD (fun ex => ?_) (fun ex => ?_)
        · repeat walk_at "w"
          intro p H1 n1 w1
          obtain ⟨w1, s1, h1⟩ := w1.frz
          have lx : loc bs x = some i := by
            unfold loc
            rw [List.findIdx?_eq_some_iff_getElem]
            have il : i < bs.reverse.length := by rw [List.length_reverse]; omega
            refine ⟨il, ?_, fun j hj => ?_⟩
            · have : bs.reverse[i] = x := by
                rw [List.getElem?_eq_getElem il] at rj
                rw [Option.some.inj rj]; exact ex
              rw [this]; simp
            · have := hn j hj
              rw [List.getElem?_eq_getElem (by omega)] at this
              simpa using fun q => this (congrArg some q)
          refine k _ _ _ s1 w1 ?_
          show Dp K _ _ (nmD im bs x)
          unfold nmD
          rw [lx, Int.zero_add]
          exact .lst (SqL.of (by rw [Int.zero_add] at h1; exact h1)) (.cons (.str _) (.cons (.int _) .nil))
        · repeat walk_at "w"
          refine ⟨_, rfl, rfl, fun j hj => ?_⟩
          by_cases q : j = i
          · subst q
            rw [rj]
            exact fun q => ex (Option.some.inj q)
          · exact hn j (by omega)
      · rintro σ _ ⟨y3, rfl, rfl, hn⟩
        have lx : loc bs x = none := by
          unfold loc
          rw [List.findIdx?_eq_none_iff]
          intro y hy
          obtain ⟨j, hj⟩ := List.mem_iff_getElem?.mp hy
          have jl : j < bs.length := by have := (List.getElem?_eq_some_iff.mp hj).1; rwa [List.length_reverse] at this
          have := hn j jl
          rw [hj] at this
          simpa using fun q => this (congrArg some q)
        obtain ⟨kvs, hkv, him⟩ := hi
        repeat walk_at "w"
        refine UM.w_dget2 ?_
        repeat walk_at "w"
        refine ⟨pi, rfl, .inl ⟨kvs, .inl (w0.fro hkv)⟩, ?_⟩
        repeat walk_at "w"
        intro q H1 n1 w1
        obtain ⟨w1, s1, h1⟩ := w1.frz
        refine ⟨_, DGet.k (k := Sum.inr x) (w1.fro (s1 _ _ hkv)), ?_⟩
        have key : Dp K (upd Z q (.lst [.str "free", .str x])) ((valV kvs (Sum.inr x : Key)).getD (.ref q)) (Tm.nl im bs (.name x)) := by
          show Dp K _ _ (nmD im bs x)
          unfold nmD
          rw [lx]
          rcases him x with ⟨e1, e2⟩ | ⟨v, dd, e1, e2, e3⟩
          · rw [e1, e2]
            exact .lst (SqL.of h1) (.cons (.str _) (.cons (.str _) .nil))
          · rw [e1, e2]
            exact e3.mono s1
        exact k _ _ _ s1 w1 key
    · repeat walk_at "w"
      refine ⟨t, rfl, fun H1 pp s1 n1 h1 => ?_⟩
      obtain ⟨Z1, w1, sz1, new1⟩ := w0.callNew s1
      have hpp := new1 pp _ n1 h1
      have plen : (t.pos.map fun (k : Nat) => V.int (k : Int)).length = t.parts.length := by rw [List.length_map, t.pos_len]
      have p3 := t.parts3
      repeat walk_at "w"
      intro ph H2 n2 w2
      obtain ⟨w2, s2, hph⟩ := w2.frz
      have hpp2 := s2 _ _ hpp
      repeat walk_at "w"
      rw [plen]
      refine for_range (n := t.parts.length) (fun i σ H' => ∃ (Z' : Hp) (ph : Addr) (y3 : Option V), σ = [some (.ref a), some (.ref pb), some (.ref pi), y3, some (.ref pp), some (.ref ph), none, none, none] ∧ Same Z1 Z' ∧ V.Hw Z' so H' L ∧ Z' ph = some (.lst ((t.bpos.take i).flatten.map fun (k : Nat) => V.int (k : Int)))) ⟨_, ph, _, rfl, s2, w2, hph⟩ ?_ ?_
      · rintro i σ H3 hi2 ⟨Z3, ph, y3, rfl, s3, w3, hph⟩
        have z3 : Same Z Z3 := fun b o e => s3 _ _ (sz1 _ _ e)
        have hs3 : SqT K Z3 a xs := V.seqT z3 hs
        obtain ⟨ks, hks⟩ : ∃ ks, t.bpos[i]? = some ks := ⟨_, List.getElem?_eq_getElem (by rw [t.bnds_len.2]; exact hi2)⟩
        have e0 : (0 : Int) + (i : Int) = (i : Int) := Int.zero_add _
        repeat walk_at "w"
        rw [e0]
        refine ⟨t, i, ks, rfl, hks, fun H4 q s4 n4 h4 => ?_⟩
        obtain ⟨Z4, w4, sz4, new4⟩ := w3.callNew s4
        have hq := new4 q _ n4 h4
        have fl : (t.bpos.take (i + 1)).flatten = (t.bpos.take i).flatten ++ ks := by rw [take_snoc hks, List.flatten_append]; simp
        have l9 : ((t.bpos.take i).flatten.map fun (k : Nat) => V.int (k : Int)).length + (ks.map fun (k : Nat) => V.int (k : Int)).length ≤ sizeLine := by
          have l1 := flat_take t.bpos (i + 1)
          have l2 := bpos_flat t
          rw [fl, List.length_append] at l1
          rw [List.length_map, List.length_map]
          exact Nat.le_trans (show _ ≤ 2 by omega) (by decide)
        refine V.w_cat w4 (w4.fro (sz4 _ _ hph)) (w4.fro hq) l9 fun r H5 n5 w5 => ?_
        rw [← List.map_append, ← fl] at w5
        obtain ⟨w5, s5, h5⟩ := w5.frz
        repeat walk_at "w"
        exact ⟨_, r, _, rfl, fun b o e => s5 _ _ (sz4 _ _ (s3 _ _ e)), w5, h5⟩
      · rintro σ H3 ⟨Z3, ph, y3, rfl, s3, w3, hph⟩
        rw [show t.bpos.take t.parts.length = t.bpos by rw [← t.bnds_len.2, List.take_length]] at hph
        have z3 : Same Z Z3 := fun b o e => s3 _ _ (sz1 _ _ e)
        have hs3 : SqT K Z3 a xs := V.seqT z3 hs
        have hpp3 := s3 _ _ hpp
        have xl : xs.length = t.its.length := hits.len
        have il6 := its_len t
        repeat walk_at "w"
        refine V.lcRW (n := xs.length) (fun i => pick xs ((List.range i).filter fun k => !(t.pos.contains k) && !(t.bpos.flatten.contains k))) w3 (by walk_at "wi") rfl ?_ ?_
        · intro i D H4 hi2 w4
          have e0 : (0 : Int) + (i : Int) = (i : Int) := Int.zero_add _
          have ai : atI xs (i : Int) = some (xs.getD i .non) := at_of (j := i) rfl (by rw [List.getD_eq_getElem?_getD, List.getElem?_eq_getElem hi2]; rfl)
          have hs4 : SqT K H4 a xs := V.seqT (fun b o e => w4.fr _ _ (z3 _ _ e)) hs
          rw [e0]
          have hppL : SqL K H4 pp (t.pos.map fun (k : Nat) => V.int (k : Int)) := SqL.of (w4.fro hpp3)
          have hphL : SqL K H4 ph (t.bpos.flatten.map fun (k : Nat) => V.int (k : Int)) := SqL.of (w4.fro hph)
          have rs := range_snoc (fun k => !(t.pos.contains k) && !(t.bpos.flatten.contains k)) i
          have ll : ((List.range i).filter fun k => !(t.pos.contains k) && !(t.bpos.flatten.contains k)).length ≤ i := Nat.le_trans (List.length_filter_le ..) (by rw [List.length_range]; exact Nat.le_refl _)
          repeat walk_at "w"
          refine ⟨rfl, ?_⟩
          repeat walk_at "w"
          refine V.w_notInL hppL rfl (flat_nats _) ?_
          rw [inV_nat]
          repeat walk_at "w"
          refine ifB (fun c1 => ?_) (fun c1 => ?_)
          · repeat walk_at "w"
            refine V.w_notInL hphL rfl (flat_nats _) ?_
            rw [inV_nat]
            repeat walk_at "w"
            refine ifB (fun c2 => ?_) (fun c2 => ?_)
            · rw [c1, c2] at rs
              repeat walk_at "w"
              refine V.w_acc w4 (.refl _) (small1000 (by unfold pick; rw [List.length_map]; omega)) ?_
              rw [rs, if_pos (by rfl)]
              unfold pick
              rw [List.map_append]; rfl
            · rw [c1, c2] at rs
              refine V.w_noacc w4 (.refl _) ?_
              rw [rs, if_neg (by decide), List.append_nil]
          · rw [c1, Bool.false_and] at rs
            refine iteF ?_
            refine V.w_noacc w4 (.refl _) ?_
            rw [rs, if_neg (by decide), List.append_nil]
        · intro D H4 w4
          rw [xl, opos_range] at w4
          obtain ⟨po, _⟩ := pick_out hits
          have ol := outs_len t
          have pol : (pick xs t.opos).length = t.outs.length := po.len
          repeat walk_at "w"
          rw [plen]
          refine for_range (n := t.parts.length) (fun i σ H' => ∃ (Z' : Hp) (row : List V) (y3 y7 y8 : Option V), σ = [some (.ref a), some (.ref pb), some (.ref pi), y3, some (.ref pp), some (.ref ph), some (.ref D), y7, y8] ∧ Same Z3 Z' ∧ V.Hw Z' so H' ((true, D, .lst row) :: L) ∧ DpAll K Z' row (t.outs ++ (nlk im bs t).take i)) ⟨Z3, pick xs t.opos, _, _, _, rfl, fun _ _ e => e, w4, by rw [List.take_zero, List.append_nil]; exact po.mono z3⟩ ?_ ?_
          · rintro i σ H5 hi2 ⟨Z5, row, y3, y7, y8, rfl, s5, w5, hrow⟩
            have z5 : Same Z Z5 := fun b o e => s5 _ _ (z3 _ _ e)
            have hs5 : SqT K Z5 a xs := V.seqT z5 hs
            have hpp5 := s5 _ _ hpp3
            obtain ⟨tp, hp⟩ : ∃ tp, t.parts[i]? = some tp := ⟨_, List.getElem?_eq_getElem hi2⟩
            obtain ⟨bn, hbn⟩ : ∃ bn, t.bnds[i]? = some bn := ⟨_, List.getElem?_eq_getElem (by rw [t.bnds_len.1]; exact hi2)⟩
            obtain ⟨ks, hks⟩ : ∃ ks, t.bpos[i]? = some ks := ⟨_, List.getElem?_eq_getElem (by rw [t.bnds_len.2]; exact hi2)⟩
            obtain ⟨pk, pk2⟩ := pick_parts hits
            obtain ⟨pb1, pb2⟩ := pick_bnd hits hks hbn
            obtain ⟨v, hv, hvt⟩ := TmAll.at_ pk hp
            have e0 : (0 : Int) + (i : Int) = (i : Int) := Int.zero_add _
            have lb := t.bnds2 bn (List.mem_of_getElem? hbn)
            have lk : ks.length = bn.length := by have := congrArg List.length pb1; unfold pick at this; rwa [List.length_map, List.length_map] at this
            repeat walk_at "w"
            rw [e0]
            refine ⟨t, i, ks, rfl, hks, fun H6 q s6 n6 h6 => ?_⟩
            obtain ⟨Z6, w6, sz6, new6⟩ := w5.callNew s6
            have hq := new6 q _ n6 h6
            have z6 : Same Z Z6 := fun b o e => sz6 _ _ (z5 _ _ e)
            repeat walk_at "w"
            refine V.lcW (fun j => (bn.take j).map V.str) w6 (by walk_at "wi") (fun H' w' => SqL.of (w'.fro hq)) rfl ?_ ?_
            · intro j x D2 H7 hx w7
              rw [List.getElem?_map] at hx
              obtain ⟨kk, hkk, rfl⟩ := Option.map_eq_some_iff.mp hx
              have jl : j < bn.length := by rw [← lk]; exact (List.getElem?_eq_some_iff.mp hkk).1
              have ij := at_pick hkk pb2
              have eq : xs.getD kk .non = .str bn[j] := by
                have := congrArg (fun l => l[j]?) pb1
                unfold pick at this
                rw [List.getElem?_map, List.getElem?_map, hkk, List.getElem?_eq_getElem jl] at this
                exact Option.some.inj this
              rw [eq] at ij
              have hs7 : SqT K H7 a xs := V.seqT (fun b o e => w7.fr _ _ (z6 _ _ e)) hs
              repeat walk_at "w"
              refine ⟨rfl, ?_⟩
              repeat walk_at "w"
              refine V.w_acc w7 (.refl _) (small1000 (by rw [List.length_map, List.length_take]; omega)) ?_
              rw [take_snoc (List.getElem?_eq_getElem jl), List.map_append]; rfl
            · intro D2 H7 w7
              rw [List.length_map, lk, List.take_length] at w7
              have l9 : (bs.map V.str).length + (bn.map V.str).length ≤ sizeLine := by
                rw [List.length_map, List.length_map]
                exact Nat.le_trans (show _ ≤ 1000000 by omega) (by decide)
              have hb7 : H7 pb = some (.lst (bs.map V.str)) := w7.fro (z6 _ _ hb)
              refine V.w_cat w7 hb7 (w7.get .here) l9 fun r H8 n8 w8 => ?_
              rw [← List.map_append] at w8
              obtain ⟨w8, s8, h8⟩ := w8.frz
              have w8 := w8.sub (.skip (.refl _))
              have ipk : atI (t.pos.map fun (k : Nat) => V.int (k : Int)) (i : Int) = some (.int ((t.pos[i]'(by rw [t.pos_len]; exact hi2) : Nat) : Int)) := at_of (j := i) rfl (by rw [List.getElem?_map, List.getElem?_eq_getElem (by rw [t.pos_len]; exact hi2)]; rfl)
              have hki : t.pos[i]? = some (t.pos[i]'(by rw [t.pos_len]; exact hi2)) := List.getElem?_eq_getElem _
              have iv := at_pick hki pk2
              have ev2 : xs.getD (t.pos[i]'(by rw [t.pos_len]; exact hi2)) .non = v := by
                unfold pick at hv
                rw [List.getElem?_map, hki] at hv
                exact Option.some.inj hv
              rw [ev2] at iv
              have z8 : Same Z (upd Z6 r (.lst ((bs ++ bn).map V.str))) := fun b o e => s8 _ _ (z6 _ _ e)
              have hs8 : SqT K H8 a xs := V.seqT (fun b o e => w8.fr _ _ (z8 _ _ e)) hs
              have hpp8 : H8 pp = some (.lst (t.pos.map fun (k : Nat) => V.int (k : Int))) := w8.fro (s8 _ _ (sz6 _ _ hpp5))
              have hppL := SqL.of (K := K) hpp8
              have rl : row.length ≤ 6 := by
                have := hrow.len
                rw [List.length_append, List.length_take] at this
                omega
              repeat walk_at "w"
              have mp := List.mem_of_getElem? hp
              have szp := Tm.size_lt mp
              have dp := Tm.depth_lt mp
              refine ⟨_, so, _, v, tp, r, pi, bs ++ bn, rfl, w8, hvt.mono z8, by omega, h8, hi.mono z8, by rw [List.length_append]; omega, fun v9 Z9 H9 s9 w9 d9 => ?_⟩
              have l8 : row.length < sizeLine := small1000 (by omega)
              repeat walk_at "w"
              intro H10 w10
              repeat walk_at "w"
              refine ⟨Z9, row ++ [v9], _, _, _, rfl, fun b o e => s9 _ _ (s8 _ _ (sz6 _ _ (s5 _ _ e))), w10, ?_⟩
              rw [take_snoc (nlk_at hp hbn), ← List.append_assoc]
              exact (hrow.mono fun b o e => s9 _ _ (s8 _ _ (sz6 _ _ e))).app (.cons d9 .nil)
          · rintro σ H5 ⟨Z5, row, y3, y7, y8, rfl, s5, w5, hrow⟩
            rw [← nlk_len im bs t, List.take_length] at hrow
            obtain ⟨w6, s6, h6⟩ := w5.frz
            repeat walk_at "w"
            refine k _ _ _ (fun b o e => s6 _ _ (s5 _ _ (z3 _ _ e))) w6 ?_
            rw [Tm.nl_kids im bs t (nn_of e)]
            exact .lst (SqL.of h6) (hrow.mono s6)
end
/-! ### terms with one thing changed -/
open UK UM UN
theorem all2_set {α β : Type} {R : α → β → Prop} : ∀ {as : List α} {bs : List β} {i : Nat} {a : α} {b : β}, All2 R as bs → bs[i]? = some b → R a b → All2 R (as.set i a) bs
  | _, _, i, a, b, .nil, e, _ => by simp at e
  | _, _, 0, a, b, .cons r t, e, q => by
    obtain rfl := Option.some.inj e
    exact .cons q t
  | _, _, i + 1, a, b, .cons r t, e, q => .cons r (all2_set t (by simpa using e) q)
theorem all2_refl {α : Type} {R : α → α → Prop} (h : ∀ a, R a a) : ∀ as : List α, All2 R as as
  | [] => .nil
  | a :: as => .cons (h a) (all2_refl h as)
def Sm (p q : Tm) : Prop := p.depth ≤ q.depth ∧ p.size ≤ q.size
/-- a term of the same form, its parts no greater -/
structure Le (t u : Tm) : Prop where
  w : u.w = t.w
  pos : u.pos = t.pos
  bpos : u.bpos = t.bpos
  parts : All2 Sm u.parts t.parts
theorem Le.refl (t : Tm) : Le t t := ⟨rfl, rfl, rfl, all2_refl (fun _ => ⟨Nat.le_refl _, Nat.le_refl _⟩) _⟩
theorem Le.sm {t u : Tm} (h : Le t u) : Sm u t := by
  have : ∀ {as bs : List Tm}, All2 Sm as bs → (as.map Tm.depth).foldr max 0 ≤ (bs.map Tm.depth).foldr max 0 ∧ (as.map Tm.size).sum ≤ (bs.map Tm.size).sum := by
    intro as bs h
    induction h with
    | nil => exact ⟨Nat.le_refl _, Nat.le_refl _⟩
    | cons r t ih =>
      obtain ⟨r1, r2⟩ := r
      simp only [List.map_cons, List.foldr_cons, List.sum_cons]
      omega
  have q := this h.parts
  unfold Sm
  rw [u.depth_parts, t.depth_parts, u.size_parts, t.size_parts]
  omega
theorem set_part : ∀ (u : Tm) (i k : Nat) (p : Tm), u.pos[i]? = some k → ∃ u' : Tm, u'.its = u.its.set k p.d ∧ u'.w = u.w ∧ u'.parts = u.parts.set i p ∧ u'.bpos = u.bpos ∧ u'.pos = u.pos ∧ ∀ N, u.Wf N → p.Wf N → u'.Wf N
  | .int _, i, k, p, h => by simp [Tm.pos] at h
  | .name _, i, k, p, h => by simp [Tm.pos] at h
  | .gone _, i, k, p, h => by simp [Tm.pos] at h
  | .op o a b, 0, k, p, h => by cases h; exact ⟨.op o p b, rfl, rfl, rfl, rfl, rfl, fun N h q => ⟨q, h.2⟩⟩
  | .op o a b, 1, k, p, h => by cases h; exact ⟨.op o a p, rfl, rfl, rfl, rfl, rfl, fun N h q => ⟨h.1, q⟩⟩
  | .op o a b, i + 2, k, p, h => by simp [Tm.pos] at h
  | .fn x g A b, 0, k, p, h => by cases h; exact ⟨.fn x g A p, rfl, rfl, rfl, rfl, rfl, fun N h q => ⟨h.1, h.2.1, h.2.2.1, q⟩⟩
  | .fn x g A b, i + 1, k, p, h => by simp [Tm.pos] at h
  | .split x y e b, 0, k, p, h => by cases h; exact ⟨.split x y p b, rfl, rfl, rfl, rfl, rfl, fun N h q => ⟨h.1, h.2.1, q, h.2.2.2⟩⟩
  | .split x y e b, 1, k, p, h => by cases h; exact ⟨.split x y e p, rfl, rfl, rfl, rfl, rfl, fun N h q => ⟨h.1, h.2.1, h.2.2.1, q⟩⟩
  | .split x y e b, i + 2, k, p, h => by simp [Tm.pos] at h
  | .pre o A a, 0, k, p, h => by cases h; exact ⟨.pre o A p, rfl, rfl, rfl, rfl, rfl, fun N h q => ⟨h.1, q⟩⟩
  | .pre o A a, i + 1, k, p, h => by simp [Tm.pos] at h
  | .case e x a y b, 0, k, p, h => by cases h; exact ⟨.case p x a y b, rfl, rfl, rfl, rfl, rfl, fun N h q => ⟨h.1, h.2.1, q, h.2.2.2⟩⟩
  | .case e x a y b, 1, k, p, h => by cases h; exact ⟨.case e x p y b, rfl, rfl, rfl, rfl, rfl, fun N h q => ⟨h.1, h.2.1, h.2.2.1, q, h.2.2.2.2⟩⟩
  | .case e x a y b, 2, k, p, h => by cases h; exact ⟨.case e x a y p, rfl, rfl, rfl, rfl, rfl, fun N h q => ⟨h.1, h.2.1, h.2.2.1, h.2.2.2.1, q⟩⟩
  | .case e x a y b, i + 3, k, p, h => by simp [Tm.pos] at h
  | .box g e, 0, k, p, h => by cases h; exact ⟨.box g p, rfl, rfl, rfl, rfl, rfl, fun N h q => ⟨h.1, q⟩⟩
  | .box g e, i + 1, k, p, h => by simp [Tm.pos] at h
  | .unbox x e b, 0, k, p, h => by cases h; exact ⟨.unbox x p b, rfl, rfl, rfl, rfl, rfl, fun N h q => ⟨h.1, q, h.2.2⟩⟩
  | .unbox x e b, 1, k, p, h => by cases h; exact ⟨.unbox x e p, rfl, rfl, rfl, rfl, rfl, fun N h q => ⟨h.1, h.2.1, q⟩⟩
  | .unbox x e b, i + 2, k, p, h => by simp [Tm.pos] at h
  | .test e a b, 0, k, p, h => by cases h; exact ⟨.test p a b, rfl, rfl, rfl, rfl, rfl, fun N h q => ⟨q, h.2⟩⟩
  | .test e a b, 1, k, p, h => by cases h; exact ⟨.test e p b, rfl, rfl, rfl, rfl, rfl, fun N h q => ⟨h.1, q, h.2.2⟩⟩
  | .test e a b, 2, k, p, h => by cases h; exact ⟨.test e a p, rfl, rfl, rfl, rfl, rfl, fun N h q => ⟨h.1, h.2.1, q⟩⟩
  | .test e a b, i + 3, k, p, h => by simp [Tm.pos] at h
  | .rep e x g z s, 0, k, p, h => by cases h; exact ⟨.rep p x g z s, rfl, rfl, rfl, rfl, rfl, fun N h q => ⟨h.1, h.2.1, q, h.2.2.2⟩⟩
  | .rep e x g z s, 1, k, p, h => by cases h; exact ⟨.rep e x g p s, rfl, rfl, rfl, rfl, rfl, fun N h q => ⟨h.1, h.2.1, h.2.2.1, q, h.2.2.2.2⟩⟩
  | .rep e x g z s, 2, k, p, h => by cases h; exact ⟨.rep e x g z p, rfl, rfl, rfl, rfl, rfl, fun N h q => ⟨h.1, h.2.1, h.2.2.1, h.2.2.2.1, q⟩⟩
  | .rep e x g z s, i + 3, k, p, h => by simp [Tm.pos] at h
def SetB (u : Tm) (k : Nat) : Prop := ∃ z, u.its[k]? = some (.str z) ∧ (∀ N, u.Wf N → z ∈ N) ∧ ∀ y, ∃ u' : Tm, u'.its = u.its.set k (.str y) ∧ u'.w = u.w ∧ u'.parts = u.parts ∧ u'.bpos = u.bpos ∧ u'.pos = u.pos ∧ ∀ N, u.Wf N → y ∈ N → u'.Wf N
theorem set_bnd : ∀ (u : Tm) (i : Nat) (ks : List Nat) (k : Nat), u.bpos[i]? = some ks → k ∈ ks → SetB u k := by
  intro u i ks k h hk
  have bn : ∀ {u : Tm}, (∀ l ∈ u.bpos, l = []) → u.bpos[i]? = some ks → SetB u k := fun q h => by
    have := q ks (List.mem_of_getElem? h)
    rw [this] at hk; cases hk
  cases u with
  | int n => exact bn (by simp [Tm.bpos]) h
  | name n => exact bn (by simp [Tm.bpos]) h
  | gone n => exact bn (by simp [Tm.bpos]) h
  | op o a b => exact bn (by simp [Tm.bpos]) h
  | pre o A a => exact bn (by simp [Tm.bpos]) h
  | box g e => exact bn (by simp [Tm.bpos]) h
  | test e a b => exact bn (by simp [Tm.bpos]) h
  | fn x g A b =>
    match i, h with
    | 0, h =>
      cases h
      obtain rfl := List.mem_singleton.mp hk
      exact ⟨x, rfl, fun N h => h.1, fun y => ⟨.fn y g A b, rfl, rfl, rfl, rfl, rfl, fun N h q => ⟨q, h.2⟩⟩⟩
    | i + 1, h => simp [Tm.bpos] at h
  | split x y e b =>
    match i, h with
    | 0, h => cases h; cases hk
    | 1, h =>
      cases h
      rcases List.mem_cons.mp hk with rfl | hk
      · exact ⟨x, rfl, fun N h => h.1, fun z => ⟨.split z y e b, rfl, rfl, rfl, rfl, rfl, fun N h q => ⟨q, h.2⟩⟩⟩
      · obtain rfl := List.mem_singleton.mp hk
        exact ⟨y, rfl, fun N h => h.2.1, fun z => ⟨.split x z e b, rfl, rfl, rfl, rfl, rfl, fun N h q => ⟨h.1, q, h.2.2⟩⟩⟩
    | i + 2, h => simp [Tm.bpos] at h
  | case e x a y b =>
    match i, h with
    | 0, h => cases h; cases hk
    | 1, h =>
      cases h
      obtain rfl := List.mem_singleton.mp hk
      exact ⟨x, rfl, fun N h => h.1, fun z => ⟨.case e z a y b, rfl, rfl, rfl, rfl, rfl, fun N h q => ⟨q, h.2⟩⟩⟩
    | 2, h =>
      cases h
      obtain rfl := List.mem_singleton.mp hk
      exact ⟨y, rfl, fun N h => h.2.1, fun z => ⟨.case e x a z b, rfl, rfl, rfl, rfl, rfl, fun N h q => ⟨h.1, q, h.2.2⟩⟩⟩
    | i + 3, h => simp [Tm.bpos] at h
  | unbox x e b =>
    match i, h with
    | 0, h => cases h; cases hk
    | 1, h =>
      cases h
      obtain rfl := List.mem_singleton.mp hk
      exact ⟨x, rfl, fun N h => h.1, fun z => ⟨.unbox z e b, rfl, rfl, rfl, rfl, rfl, fun N h q => ⟨q, h.2⟩⟩⟩
    | i + 2, h => simp [Tm.bpos] at h
  | rep e x g z s =>
    match i, h with
    | 0, h => cases h; cases hk
    | 1, h => cases h; cases hk
    | 2, h =>
      cases h
      obtain rfl := List.mem_singleton.mp hk
      exact ⟨x, rfl, fun N h => h.1, fun y => ⟨.rep e y g z s, rfl, rfl, rfl, rfl, rfl, fun N h q => ⟨q, h.2⟩⟩⟩
    | i + 3, h => simp [Tm.bpos] at h
theorem dpset {K : PySem.W.Frag} {Z : Hp} : ∀ {xs : List V} {ds : List PyData} {k : Nat} {v : V} {d : PyData}, DpAll K Z xs ds → Dp K Z v d → DpAll K Z (xs.set k v) (ds.set k d)
  | xs, [], k, v, d, h, _ => by obtain rfl := h.nilI; exact .nil
  | xs, e :: ds, 0, v, d, h, q => by
    obtain ⟨x, ys, rfl, h1, h2⟩ := h.consI
    exact .cons q h2
  | xs, e :: ds, k + 1, v, d, h, q => by
    obtain ⟨x, ys, rfl, h1, h2⟩ := h.consI
    exact .cons h1 (dpset h2 q)
/-- a row that holds a term no greater than t -/
def RowOf (K : PySem.W.Frag) (Z : Hp) (N : List Str) (t : Tm) (row : List V) : Prop := ∃ u : Tm, DpAll K Z row u.its ∧ Le t u ∧ u.Wf N
theorem RowOf.mono {K : PySem.W.Frag} {Z Z' : Hp} {N : List Str} {t : Tm} {row : List V} (h : RowOf K Z N t row) (s : Same Z Z') : RowOf K Z' N t row := by
  obtain ⟨u, h1, h2, h3⟩ := h
  exact ⟨u, h1.mono s, h2, h3⟩
theorem RowOf.start {K : PySem.W.Frag} {Z : Hp} {N : List Str} {t : Tm} {row : List V} (h : DpAll K Z row t.its) (w : t.Wf N) : RowOf K Z N t row := ⟨t, h, .refl t, w⟩
theorem RowOf.part {K : PySem.W.Frag} {Z : Hp} {N : List Str} {t p q : Tm} {row : List V} {i k : Nat} {v : V} (h : RowOf K Z N t row) (hk : t.pos[i]? = some k) (hq : t.parts[i]? = some q) (hp : TmAt K Z v p) (wp : p.Wf N) (sm : Sm p q) : RowOf K Z N t (row.set k v) ∧ k < row.length := by
  obtain ⟨u, h1, h2, h3⟩ := h
  have hk' : u.pos[i]? = some k := by rw [h2.pos]; exact hk
  obtain ⟨u', e1, e2, e3, e4, e5, e6⟩ := set_part u i k p hk'
  refine ⟨⟨u', by rw [e1]; exact dpset h1 hp, ⟨e2.trans h2.w, e5.trans h2.pos, e4.trans h2.bpos, by rw [e3]; exact all2_set h2.parts hq sm⟩, e6 N h3 wp⟩, (pick_parts h1).2 k (List.mem_of_getElem? hk')⟩
theorem RowOf.bnd {K : PySem.W.Frag} {Z : Hp} {N : List Str} {t : Tm} {row : List V} {i k : Nat} {ks : List Nat} (h : RowOf K Z N t row) (hk : t.bpos[i]? = some ks) (m : k ∈ ks) : ∃ z ∈ N, row[k]? = some (.str z) ∧ ∀ y ∈ N, RowOf K Z N t (row.set k (.str y)) := by
  obtain ⟨u, h1, h2, h3⟩ := h
  obtain ⟨z, e1, e2, e3⟩ := set_bnd u i ks k (by rw [h2.bpos]; exact hk) m
  obtain ⟨v, f1, f2⟩ := h1.at_ e1
  rw [f2.strI] at f1
  refine ⟨z, e2 N h3, f1, fun y hy => ?_⟩
  obtain ⟨u', g1, g2, g3, g4, g5, g6⟩ := e3 y
  exact ⟨u', by rw [g1]; exact dpset h1 (.str y), ⟨g2.trans h2.w, g5.trans h2.pos, g4.trans h2.bpos, by rw [g3]; exact h2.parts⟩, g6 N h3 hy⟩
theorem w_listT {K : PySem.W.Frag} {Z H : Hp} {so : Option (Addr × Addr)} {L : V.Cells} {a : Addr} {xs : List V} {Q : VK} (w : V.Hw Z so H L) (h : SqT K H a xs) (k : ∀ p H', H p = none → V.Hw Z so H' ((true, p, .lst xs) :: L) → Q (.ref p) H') : V.rListOf K [.ref a] H Q := ⟨a, xs, rfl, .inr (h), fun p n => k p _ n (w.new n)⟩
def spRen (K : PySem.W.Frag) (d : Nat) : Sp := fun vs H Q _ => ∃ (Z : Hp) (so : Option (Addr × Addr)) (L : V.Cells) (v : V) (t : Tm) (x y : Str) (N : List Str), vs = [v, .str x, .str y] ∧ V.Hw Z so H L ∧ TmAt K Z v t ∧ t.Wf N ∧ y ∈ N ∧ t.depth ≤ d ∧
  ∀ (v' : V) (u : Tm) (Z' H' : Hp), Same Z Z' → V.Hw Z' so H' L → TmAt K Z' v' u → u.Wf N → Sm u t → Q v' H'
section
variable {P : Program} {w : World} {K : PySem.W.Frag} {mg : Str → Option Value} {base : Heap}
theorem sc__law_renamed : FnScope ["_law_term", "_law_name", "_law_new", "_law_row", "_law_places_here", "_law_k", "_law_at"] ["_law_term", "_law_name", "_law_new"] (defScope (top 20)) := ⟨rfl, rfl, rfl, by decide +kernel, rfl, by decide +kernel, by decide +kernel⟩
theorem st__law_renamed (v0 v1 v2 : V) : L2.start ["_law_term", "_law_name", "_law_new", "_law_row", "_law_places_here", "_law_k", "_law_at"] [v0, v1, v2] = [some v0, some v1, some v2, none, none, none, none] := rfl
theorem ok_lren {f : Addr} {fd : FuncData} (d : Nat) (spr : Sp) (hspr : spr = spRen K d) (F : Fun K "_law_renamed" "_law_renamed" (top 20) f fd) (T : TxL K mg) (c__law_places : Cal P w K mg base CX0 1 "_law_places" (spPlaces K)) (c__law_binder_places : Cal P w K mg base CX0 1 "_law_binder_places" (spBPl K))
    (c__law_renamed : Cal P w K mg base CX0 (1 + d) "_law_renamed" spr) : FnOk P w K mg base CX0 (1 + d + 1) f fd ["_law_term", "_law_name", "_law_new"] (spRen K (d + 1)) := by
  subst hspr
  refine F.ok sc__law_renamed (fun vs H Q E h => ?_) (fun cdv A outer s H vs Q E hr h => ?_)
  · obtain ⟨Z, so, L, v, t, x, y, N, rfl, _⟩ := h
    rfl
  · obtain ⟨Z, so, L, v, t, x, y, N, rfl, w0, ht, wt, hy, hd, k⟩ := h
    refine ⟨_, (pss_cons (ps_if (pt_cmpR op_eq (pe_ix ix_tup (pv 0) pe_int (fun _ _ => rfl)) pe_str (nomark _)) (pss_one (ps_ret (pe_ifExp (pt_cmpR op_eq (pe_ix ix_tup (pv 0) pe_int (fun _ _ => rfl)) (pv 1) (nomark _)) (pe_tup (pa_cons pe_str (pa_cons (pv 2) pa_nil))) (pv 0)))) pss_nil)
      (pss_cons (ps_set (i := 3) sc__law_renamed.nd rfl (Or.inl rfl) (pe_callTy (V.call_list K rfl) (by rfl) T.list (by decide +kernel) (pa_cons (pv 0) pa_nil)))
      (pss_cons (ps_set (i := 4) sc__law_renamed.nd rfl (Or.inl rfl) (pe_c c__law_places hr (by omega) (by rfl) (pa_cons (pe_ix ix_tup (pv 0) pe_int (fun _ _ => rfl)) pa_nil)))
      (pss_cons (ps_for PassesOwn.never rfl (pi_range1 (by rfl) T.range (pa_cons (pe_callB (V.call_len K rfl) (by rfl) T.len (by decide +kernel) (pa_cons (pv 4) pa_nil)) pa_nil)) (pg_name (i := 5) sc__law_renamed.nd rfl (Or.inl rfl)) (pss_cons (ps_for PassesOwn.never rfl (pi_list (pe_c c__law_binder_places hr (by omega) (by rfl) (pa_cons (pe_ix ix_tup (pv 0) pe_int (fun _ _ => rfl)) (pa_cons (pv 5) pa_nil)))) (pg_name (i := 6) sc__law_renamed.nd rfl (Or.inl rfl)) (pss_one (ps_asg (pe_ifExp (pt_cmpR op_eq (pe_ix ix_list (pv 3) (pv 6) (fun _ _ => rfl)) (pv 1) (nomark _)) (pv 2) (pe_ix ix_list (pv 3) (pv 6) (fun _ _ => rfl))) (pg_sub (pv 3) (pv 6) set_list))))
      (pss_one (ps_asg (pe_c c__law_renamed hr (by omega) (by rfl) (pa_cons (pe_ix ix_tup (pv 0) (pe_ix ix_list (pv 4) (pv 5) (fun _ _ => rfl)) (fun _ _ => rfl)) (pa_cons (pv 1) (pa_cons (pv 2) pa_nil)))) (pg_sub (pv 3) (pe_ix ix_list (pv 4) (pv 5) (fun _ _ => rfl)) set_list)))))
      (pss_one (ps_ret (pe_callTy call_tuple_of (by rfl) T.tuple (by decide +kernel) (pa_cons (pv 3) pa_nil)))))))), ?_⟩
    rw [st__law_renamed]
    obtain ⟨a, xs, rfl, hs, hits⟩ := ht.open
    have a0 := at0 hits
    repeat walk_at "w"
    refine ifD (fun e => ?_) (fun e => ?_)
    · obtain ⟨z, rfl⟩ := w_name t e
      have a1 : atI xs 1 = some (.str z) := by
        obtain ⟨y, e1, e2⟩ := hits.at_ (i := 1) (d := .str z) rfl
        rw [e2.strI] at e1
        exact at_of (j := 1) rfl e1
      repeat walk_at "w"
      refine ifD (fun ex => ?_) (fun ex => ?_)
      · repeat walk_at "w"
        intro p H1 n1 w1
        obtain ⟨w1, s1, h1⟩ := w1.frz
        repeat walk_at "w"
        exact k _ (.name y) _ _ s1 w1 (.tup (SqT.of h1) (.cons (.str _) (.cons (.str _) .nil))) hy ⟨Nat.le_refl _, Nat.le_refl _⟩
      · repeat walk_at "w"
        exact k _ _ _ _ (fun _ _ e => e) w0 ht wt ⟨Nat.le_refl _, Nat.le_refl _⟩
    · repeat walk_at "w"
      refine w_listT w0 (V.seqT w0.fr hs) fun r H1 n1 w1 => ?_
      repeat walk_at "w"
      refine ⟨t, rfl, fun H2 pp s2 n2 h2 => ?_⟩
      obtain ⟨Z2, w2, sz2, new2⟩ := w1.callNew s2
      have hpp := new2 pp _ n2 h2
      have plen : (t.pos.map fun (k : Nat) => V.int (k : Int)).length = t.parts.length := by rw [List.length_map, t.pos_len]
      have p3 := t.parts3
      repeat walk_at "w"
      rw [plen]
      refine for_range (n := t.parts.length) (fun i σ H' => ∃ (Z' : Hp) (row : List V) (y5 y6 : Option V), σ = [some (.ref a), some (.str x), some (.str y), some (.ref r), some (.ref pp), y5, y6] ∧ Same Z2 Z' ∧ V.Hw Z' so H' ((true, r, .lst row) :: L) ∧ RowOf K Z' N t row) ⟨Z2, xs, _, _, rfl, fun _ _ e => e, w2, .start (hits.mono sz2) wt⟩ ?_ ?_
      · rintro i σ H3 hi2 ⟨Z3, row, y5, y6, rfl, s3, w3, hrow⟩
        have z3 : Same Z Z3 := fun b o e => s3 _ _ (sz2 _ _ e)
        have hs3 : SqT K Z3 a xs := V.seqT z3 hs
        have hpp3 := s3 _ _ hpp
        obtain ⟨tp, hp⟩ : ∃ tp, t.parts[i]? = some tp := ⟨_, List.getElem?_eq_getElem hi2⟩
        obtain ⟨ks, hks⟩ : ∃ ks, t.bpos[i]? = some ks := ⟨_, List.getElem?_eq_getElem (by rw [t.bnds_len.2]; exact hi2)⟩
        obtain ⟨pk, pk2⟩ := pick_parts hits
        obtain ⟨v, hv, hvt⟩ := TmAll.at_ pk hp
        have e0 : (0 : Int) + (i : Int) = (i : Int) := Int.zero_add _
        repeat walk_at "w"
        rw [e0]
        refine ⟨t, i, ks, rfl, hks, fun H4 q s4 n4 h4 => ?_⟩
        obtain ⟨Z4, w4, sz4, new4⟩ := w3.callNew s4
        have hq := new4 q _ n4 h4
        repeat walk_at "w"
        refine for_list (K := K) (a := q) (xs := ks.map fun (k : Nat) => V.int (k : Int)) (fun j σ H' => ∃ (row : List V) (y6 : Option V), σ = [some (.ref a), some (.str x), some (.str y), some (.ref r), some (.ref pp), some (.int (i : Int)), y6] ∧ V.Hw Z4 so H' ((true, r, .lst row) :: L) ∧ RowOf K Z4 N t row) ⟨row, _, rfl, w4, hrow.mono sz4⟩ (fun j σ H' _ ⟨_, _, _, w', _⟩ => SqL.of (w'.fro hq)) ?_ ?_
        · rintro j yy σ H5 hyy ⟨row, y6, rfl, w5, hrow⟩
          rw [List.getElem?_map] at hyy
          obtain ⟨kk, hkk, rfl⟩ := Option.map_eq_some_iff.mp hyy
          obtain ⟨z, zN, rk, rset⟩ := hrow.bnd hks (List.mem_of_getElem? hkk)
          have ark : atI row (kk : Int) = some (.str z) := at_of (j := kk) rfl rk
          have kl : kk < row.length := (List.getElem?_eq_some_iff.mp rk).1
          repeat walk_at "w"
          refine meetV (a := .str y) (b := .str z) ?_ ?_ ?_
          · intro Q' q
            repeat walk_at "w"
            exact q
          · intro Q' q
            repeat walk_at "w"
            exact q
          obtain ⟨y2, e2, hy2⟩ : ∃ y2 : Str, (if z = x then V.str y else V.str z) = .str y2 ∧ y2 ∈ N := by
            by_cases e : z = x
            · exact ⟨y, if_pos e, hy⟩
            · exact ⟨z, if_neg e, zN⟩
          rw [e2]
          repeat walk_at "w"
          refine V.w_setL w5 .here .here (V.ixN_nat kl) fun H6 w6 => ?_
          repeat walk_at "w"
          exact ⟨_, _, rfl, w6, rset y2 hy2⟩
        · rintro σ H5 ⟨row, y6, rfl, w5, hrow⟩
          have hki : t.pos[i]? = some (t.pos[i]'(by rw [t.pos_len]; exact hi2)) := List.getElem?_eq_getElem _
          have ipk : atI (t.pos.map fun (k : Nat) => V.int (k : Int)) (i : Int) = some (.int ((t.pos[i]'(by rw [t.pos_len]; exact hi2) : Nat) : Int)) := at_of (j := i) rfl (by rw [List.getElem?_map, List.getElem?_eq_getElem (by rw [t.pos_len]; exact hi2)]; rfl)
          have iv := at_pick hki pk2
          have ev2 : xs.getD (t.pos[i]'(by rw [t.pos_len]; exact hi2)) .non = v := by
            unfold pick at hv
            rw [List.getElem?_map, hki] at hv
            exact Option.some.inj hv
          rw [ev2] at iv
          have z4 : Same Z Z4 := fun b o e => sz4 _ _ (z3 _ _ e)
          have hs5 : SqT K H5 a xs := V.seqT (fun b o e => w5.fr _ _ (z4 _ _ e)) hs
          have hpp5 : H5 pp = some (.lst (t.pos.map fun (k : Nat) => V.int (k : Int))) := w5.fro (sz4 _ _ hpp3)
          have hppL := SqL.of (K := K) hpp5
          have mp := List.mem_of_getElem? hp
          have dp := Tm.depth_lt mp
          repeat walk_at "w"
          refine ⟨_, so, _, v, tp, x, y, N, rfl, w5, hvt.mono z4, wt.part mp, hy, by omega, fun v9 u9 Z9 H9 s9 w9 t9 wf9 sm9 => ?_⟩
          obtain ⟨rp, kl⟩ := (hrow.mono s9).part hki hp t9 wf9 sm9
          have hppL9 : SqL K H9 pp (t.pos.map fun (k : Nat) => V.int (k : Int)) := SqL.of (w9.fro (s9 _ _ (sz4 _ _ hpp3)))
          repeat walk_at "w"
          refine V.w_setL w9 .here .here (V.ixN_nat kl) fun H10 w10 => ?_
          repeat walk_at "w"
          exact ⟨Z9, _, _, _, rfl, fun b o e => s9 _ _ (sz4 _ _ (s3 _ _ e)), w10, rp⟩
      · rintro σ H3 ⟨Z3, row, y5, y6, rfl, s3, w3, hrow⟩
        repeat walk_at "w"
        refine ⟨r, row, rfl, .inl ⟨SqL.of (w3.get .here), fun p np => ?_⟩⟩
        have w4 := w3.new (o := .tup row) np
        obtain ⟨w4, s4, h4⟩ := w4.frz
        obtain ⟨u, hu, le, wu⟩ := hrow
        exact k _ u _ _ (fun b o e => s4 _ _ (s3 _ _ (sz2 _ _ e))) (w4.sub (.skip (.refl _))) (TmAt.mk (SqT.of h4) (hu.mono s4)) wu le.sm
end
/-! ### a renaming under one binder -/
open UK UM UN
def spUnd (K : PySem.W.Frag) (d : Nat) : Sp := fun vs H Q _ => ∃ (Z : Hp) (so : Option (Addr × Addr)) (L : V.Cells) (v : V) (t : Tm) (x y : Str) (c : Int) (N : List Str), vs = [v, .str x, .str y, .int c] ∧ V.Hw Z so H L ∧ TmAt K Z v t ∧ t.Wf N ∧ y ∈ N ∧ t.depth ≤ d ∧
  ∀ (v' : V) (u : Tm) (Z' H' : Hp), Same Z Z' → V.Hw Z' so H' L → TmAt K Z' v' u → u.Wf N → Sm u t → Q v' H'
theorem w_tuple {K : PySem.W.Frag} {Z H : Hp} {so : Option (Addr × Addr)} {L : V.Cells} {r : Addr} {row : List V} {Q : VK} (w : V.Hw Z so H L) (h : H r = some (.lst row)) (k : ∀ p H', H p = none → V.Hw Z so H' ((true, p, .tup row) :: L) → Q (.ref p) H') :
    ∃ p ys, [V.ref r] = [V.ref p] ∧ ((SqL K H p ys ∧ ∀ l, H l = none → Q (.ref l) (upd H l (.tup ys))) ∨ SqT K H p ys ∧ Q (.ref p) H) := ⟨r, row, rfl, .inl ⟨SqL.of h, fun p np => k p _ np (w.new np)⟩⟩
theorem gda_nats (n : Nat) : ∀ ks : List Nat, UE.gda n (ks.map fun (k : Nat) => PyData.int (k : Int))
  | [] => UE.gda_nil
  | k :: ks => UE.gda_cons (UE.gd_int _) (gda_nats n ks)
theorem dp_nats {K : PySem.W.Frag} {Z : Hp} : ∀ ks : List Nat, DpAll K Z (ks.map fun (k : Nat) => V.int (k : Int)) (ks.map fun (k : Nat) => PyData.int (k : Int))
  | [] => .nil
  | k :: ks => .cons (.int _) (dp_nats ks)
theorem eqv_nil (xs : List PyData) : PyData.eqv (.list xs) (.list []) = xs.isEmpty := by
  rw [eqv_lists]
  cases xs <;> simp [PyData.eqvAll]
section
variable {P : Program} {w : World} {K : PySem.W.Frag} {mg : Str → Option Value} {base : Heap}
theorem sc__law_under : FnScope ["_law_term", "_law_name", "_law_new", "_law_choice", "_law_row", "_law_places_here", "_law_k", "_law_at"] ["_law_term", "_law_name", "_law_new", "_law_choice"] (defScope (top 21)) := ⟨rfl, rfl, rfl, by decide +kernel, rfl, by decide +kernel, by decide +kernel⟩
theorem st__law_under (v0 v1 v2 v3 : V) : L2.start ["_law_term", "_law_name", "_law_new", "_law_choice", "_law_row", "_law_places_here", "_law_k", "_law_at"] [v0, v1, v2, v3] = [some v0, some v1, some v2, some v3, none, none, none, none] := rfl
theorem ok_lund {f : Addr} {fd : FuncData} (d : Nat) (spr : Sp) (hspr : spr = spUnd K d) (F : Fun K "_law_under" "_law_under" (top 21) f fd) (T : TxL K mg) (c__law_places : Cal P w K mg base CX0 1 "_law_places" (spPlaces K)) (c__law_binder_places : Cal P w K mg base CX0 1 "_law_binder_places" (spBPl K))
    (c__law_renamed : Cal P w K mg base CX0 (1 + d) "_law_renamed" (spRen K d)) (c__law_under : Cal P w K mg base CX0 (1 + d) "_law_under" spr) : FnOk P w K mg base CX0 (1 + d + 1) f fd ["_law_term", "_law_name", "_law_new", "_law_choice"] (spUnd K (d + 1)) := by
  subst hspr
  refine F.ok sc__law_under (fun vs H Q E h => ?_) (fun cdv A outer s H vs Q E hr h => ?_)
  · obtain ⟨Z, so, L, v, t, x, y, c, N, rfl, _⟩ := h
    rfl
  · obtain ⟨Z, so, L, v, t, x, y, c, N, rfl, w0, ht, wt, hy, hd, k⟩ := h
    refine ⟨_, (pss_cons (ps_set (i := 4) sc__law_under.nd rfl (Or.inl rfl) (pe_callTy (V.call_list K rfl) (by rfl) T.list (by decide +kernel) (pa_cons (pv 0) pa_nil)))
      (pss_cons (ps_set (i := 5) sc__law_under.nd rfl (Or.inl rfl) (pe_c c__law_places hr (by omega) (by rfl) (pa_cons (pe_ix ix_tup (pv 0) pe_int (fun _ _ => rfl)) pa_nil)))
      (pss_cons (ps_if (pt_cmpR (op_eqD hr.units) (pv 5) (pe_lst pa_nil) (nomark _)) (pss_one (ps_ret (pv 0))) pss_nil)
      (pss_cons (ps_set (i := 6) sc__law_under.nd rfl (Or.inl rfl) (pe_op op_mod (pe_callTy V.call_int1 (by rfl) T.int (by decide +kernel) (pa_cons (pv 3) pa_nil)) (pe_callB (V.call_len K rfl) (by rfl) T.len (by decide +kernel) (pa_cons (pv 5) pa_nil))))
      (pss_cons (ps_for PassesOwn.never rfl (pi_list (pe_c c__law_binder_places hr (by omega) (by rfl) (pa_cons (pe_ix ix_tup (pv 0) pe_int (fun _ _ => rfl)) (pa_cons (pv 6) pa_nil)))) (pg_name (i := 7) sc__law_under.nd rfl (Or.inl rfl)) (pss_one (ps_if (pt_cmpR op_eq (pe_ix ix_tup (pv 0) (pv 7) (fun _ _ => rfl)) (pv 1) (nomark _)) (pss_cons (ps_asg (pv 2) (pg_sub (pv 4) (pv 7) set_list))
      (pss_cons (ps_asg (pe_c c__law_renamed hr (by omega) (by rfl) (pa_cons (pe_ix ix_tup (pv 0) (pe_ix ix_list (pv 5) (pv 6) (fun _ _ => rfl)) (fun _ _ => rfl)) (pa_cons (pv 1) (pa_cons (pv 2) pa_nil)))) (pg_sub (pv 4) (pe_ix ix_list (pv 5) (pv 6) (fun _ _ => rfl)) set_list))
      (pss_one (ps_ret (pe_callTy call_tuple_of (by rfl) T.tuple (by decide +kernel) (pa_cons (pv 4) pa_nil)))))) pss_nil)))
      (pss_cons (ps_asg (pe_c c__law_under hr (by omega) (by rfl) (pa_cons (pe_ix ix_tup (pv 0) (pe_ix ix_list (pv 5) (pv 6) (fun _ _ => rfl)) (fun _ _ => rfl)) (pa_cons (pv 1) (pa_cons (pv 2) (pa_cons (pe_op op_add (pe_op op_fdivN (pv 3) (pe_callB (V.call_len K rfl) (by rfl) T.len (by decide +kernel) (pa_cons (pv 5) pa_nil))) (pv 3)) pa_nil))))) (pg_sub (pv 4) (pe_ix ix_list (pv 5) (pv 6) (fun _ _ => rfl)) set_list))
      (pss_one (ps_ret (pe_callTy call_tuple_of (by rfl) T.tuple (by decide +kernel) (pa_cons (pv 4) pa_nil)))))))))), ?_⟩
    rw [st__law_under]
    obtain ⟨a, xs, rfl, hs, hits⟩ := ht.open
    have a0 := at0 hits
    repeat walk_at "w"
    refine w_listT w0 (V.seqT w0.fr hs) fun r H1 n1 w1 => ?_
    repeat walk_at "w"
    refine ⟨t, rfl, fun H2 pp s2 n2 h2 => ?_⟩
    obtain ⟨Z2, w2, sz2, new2⟩ := w1.callNew s2
    have hpp := new2 pp _ n2 h2
    have hs2 : SqT K Z2 a xs := V.seqT sz2 hs
    have plen : (t.pos.map fun (k : Nat) => V.int (k : Int)).length = t.parts.length := by rw [List.length_map, t.pos_len]
    have p3 := t.parts3
    repeat walk_at "w"
    intro q0 H3 n3 w3
    have hq0 := w3.get .here
    have w3 := w3.sub (.skip (.refl _))
    refine ⟨.list (t.pos.map fun (k : Nat) => .int (k : Int)), .list [], .lst (SqL.of (w3.fro hpp)) (dp_nats _), .lst (SqL.of hq0) .nil, (UE.gd_list (gda_nats 1 _)).sh (by decide), (UE.gd_list (n := 1) UE.gda_nil).sh (by decide), ?_⟩
    rw [eqv_nil]
    repeat walk_at "w"
    refine ifB (fun e => ?_) (fun e => ?_)
    · repeat walk_at "w"
      exact k _ _ _ _ sz2 (w3.sub (.skip (.refl _))) (ht.mono sz2) wt ⟨Nat.le_refl _, Nat.le_refl _⟩
    have p0 : 0 < t.parts.length := by
      rw [← plen]
      cases q : t.pos with
      | nil => rw [q] at e; cases e
      | cons a l => simp
    have e2 : (c % (t.parts.length : Int)).toNat < t.parts.length ∧ ((c % (t.parts.length : Int)).toNat : Int) = c % (t.parts.length : Int) := by
      have h1 := Int.emod_nonneg c (show (t.parts.length : Int) ≠ 0 by omega)
      have h2 := Int.emod_lt_of_pos c (show (0 : Int) < (t.parts.length : Int) by omega)
      omega
    obtain ⟨i, hi⟩ : ∃ i, i = (c % (t.parts.length : Int)).toNat := ⟨_, rfl⟩
    rw [← hi] at e2
    obtain ⟨hi2, ei⟩ := e2
    obtain ⟨tp, hp⟩ : ∃ tp, t.parts[i]? = some tp := ⟨_, List.getElem?_eq_getElem hi2⟩
    obtain ⟨ks, hks⟩ : ∃ ks, t.bpos[i]? = some ks := ⟨_, List.getElem?_eq_getElem (by rw [t.bnds_len.2]; exact hi2)⟩
    obtain ⟨pk, pk2⟩ := pick_parts hits
    obtain ⟨v, hv, hvt⟩ := TmAll.at_ pk hp
    have hki : t.pos[i]? = some (t.pos[i]'(by rw [t.pos_len]; exact hi2)) := List.getElem?_eq_getElem _
    have ipk : atI (t.pos.map fun (k : Nat) => V.int (k : Int)) (i : Int) = some (.int ((t.pos[i]'(by rw [t.pos_len]; exact hi2) : Nat) : Int)) := at_of (j := i) rfl (by rw [List.getElem?_map, List.getElem?_eq_getElem (by rw [t.pos_len]; exact hi2)]; rfl)
    have iv := at_pick hki pk2
    have ev2 : xs.getD (t.pos[i]'(by rw [t.pos_len]; exact hi2)) .non = v := by
      unfold pick at hv
      rw [List.getElem?_map, hki] at hv
      exact Option.some.inj hv
    rw [ev2] at iv
    have mp := List.mem_of_getElem? hp
    have dp := Tm.depth_lt mp
    have hrow : RowOf K Z2 N t xs := .start (hits.mono sz2) wt
    have lpos : (0 : Int) < ((t.pos.map fun (k : Nat) => V.int (k : Int)).length : Int) := by rw [plen]; omega
    repeat walk_at "w"
    rw [plen, ← ei]
    refine ⟨t, i, ks, rfl, hks, fun H4 q s4 n4 h4 => ?_⟩
    obtain ⟨Z4, w4, sz4, new4⟩ := w3.callNew s4
    have hq := new4 q _ n4 h4
    have z4 : Same Z Z4 := fun b o e => sz4 _ _ (sz2 _ _ e)
    have hpp4 := sz4 _ _ hpp
    repeat walk_at "w"
    refine for_list (K := K) (a := q) (xs := ks.map fun (k : Nat) => V.int (k : Int)) (fun j σ H' => ∃ (y7 : Option V), σ = [some (.ref a), some (.str x), some (.str y), some (.int c), some (.ref r), some (.ref pp), some (.int (i : Int)), y7] ∧ V.Hw Z4 so H' ((true, r, .lst xs) :: L)) ⟨_, rfl, w4⟩ (fun j σ H' _ ⟨_, _, w'⟩ => SqL.of (w'.fro hq)) ?_ ?_
    · rintro j yy σ H5 hyy ⟨y7, rfl, w5⟩
      rw [List.getElem?_map] at hyy
      obtain ⟨kk, hkk, rfl⟩ := Option.map_eq_some_iff.mp hyy
      obtain ⟨z, zN, rk, rset⟩ := hrow.bnd hks (List.mem_of_getElem? hkk)
      have ark : atI xs (kk : Int) = some (.str z) := at_of (j := kk) rfl rk
      have kl : kk < xs.length := (List.getElem?_eq_some_iff.mp rk).1
      have hs5 : SqT K H5 a xs := V.seqT (fun b o e => w5.fr _ _ (z4 _ _ e)) hs
      repeat walk_at "w"
      refine ifD (fun ez => ?_) (fun ez => ?_)
      · repeat walk_at "w"
        refine V.w_setL w5 .here .here (V.ixN_nat kl) fun H6 w6 => ?_
        have hs6 : SqT K H6 a xs := V.seqT (fun b o e => w6.fr _ _ (z4 _ _ e)) hs
        have hppL6 : SqL K H6 pp (t.pos.map fun (k : Nat) => V.int (k : Int)) := SqL.of (w6.fro hpp4)
        repeat walk_at "w"
        refine ⟨_, so, _, v, tp, x, y, N, rfl, w6, hvt.mono z4, wt.part mp, hy, by omega, fun v9 u9 Z9 H9 s9 w9 t9 wf9 sm9 => ?_⟩
        obtain ⟨rp, kl9⟩ := (((rset y hy).mono sz4).mono s9).part hki hp t9 wf9 sm9
        have hppL9 : SqL K H9 pp (t.pos.map fun (k : Nat) => V.int (k : Int)) := SqL.of (w9.fro (s9 _ _ hpp4))
        repeat walk_at "w"
        refine V.w_setL w9 .here .here (V.ixN_nat kl9) fun H10 w10 => ?_
        repeat walk_at "w"
        refine w_tuple w10 (w10.get .here) fun p H11 n11 w11 => ?_
        obtain ⟨w11, s11, h11⟩ := w11.frz
        obtain ⟨u, hu, le, wu⟩ := rp
        exact k _ u _ _ (fun b o e => s11 _ _ (s9 _ _ (z4 _ _ e))) (w11.sub (.skip (.refl _))) (TmAt.mk (SqT.of h11) (hu.mono s11)) wu le.sm
      · repeat walk_at "w"
        exact ⟨_, rfl, w5⟩
    · rintro σ H5 ⟨y7, rfl, w5⟩
      have hs5 : SqT K H5 a xs := V.seqT (fun b o e => w5.fr _ _ (z4 _ _ e)) hs
      have hppL5 : SqL K H5 pp (t.pos.map fun (k : Nat) => V.int (k : Int)) := SqL.of (w5.fro hpp4)
      repeat walk_at "w"
      refine ⟨_, so, _, v, tp, x, y, _, N, rfl, w5, hvt.mono z4, wt.part mp, hy, by omega, fun v9 u9 Z9 H9 s9 w9 t9 wf9 sm9 => ?_⟩
      obtain ⟨rp, kl9⟩ := ((hrow.mono sz4).mono s9).part hki hp t9 wf9 sm9
      have hppL9 : SqL K H9 pp (t.pos.map fun (k : Nat) => V.int (k : Int)) := SqL.of (w9.fro (s9 _ _ hpp4))
      repeat walk_at "w"
      refine V.w_setL w9 .here .here (V.ixN_nat kl9) fun H10 w10 => ?_
      repeat walk_at "w"
      refine w_tuple w10 (w10.get .here) fun p H11 n11 w11 => ?_
      obtain ⟨w11, s11, h11⟩ := w11.frz
      obtain ⟨u, hu, le, wu⟩ := rp
      exact k _ u _ _ (fun b o e => s11 _ _ (s9 _ _ (z4 _ _ e))) (w11.sub (.skip (.refl _))) (TmAt.mk (SqT.of h11) (hu.mono s11)) wu le.sm
end
/-! ### a term with one thing changed -/
open UK UM UN
def SetK (u : Tm) (k : Nat) (d : PyData) : Prop := k < u.its.length ∧ ∃ u' : Tm, u'.its = u.its.set k d ∧ u'.w = u.w ∧ u'.pos = u.pos ∧ u'.bpos = u.bpos ∧ u'.parts = u.parts ∧ ∀ N, u.Wf N → u'.Wf N
theorem RowOf.setk {K : PySem.W.Frag} {Z : Hp} {N : List Str} {t : Tm} {row : List V} {k : Nat} {v : V} {d : PyData} (h : RowOf K Z N t row) (q : ∀ u : Tm, u.w = t.w → SetK u k d) (hv : Dp K Z v d) : RowOf K Z N t (row.set k v) ∧ k < row.length := by
  obtain ⟨u, h1, h2, h3⟩ := h
  obtain ⟨kl, u', e1, e2, e3, e4, e5, e6⟩ := q u h2.w
  exact ⟨⟨u', by rw [e1]; exact dpset h1 hv, ⟨e2.trans h2.w, e3.trans h2.pos, e4.trans h2.bpos, by rw [e5]; exact h2.parts⟩, e6 N h3⟩, by rw [h1.len]; exact kl⟩
theorem set_k1 {A : Kd} (wA : A.Wf ∧ A.depth ≤ 8) : ∀ (u : Tm), u.w ∈ (["gone", "as", "left", "right"] : List Str) → SetK u 1 A.d
  | .gone B, _ => ⟨Nat.le_of_ble_eq_true rfl, .gone A, rfl, rfl, rfl, rfl, rfl, fun N h => wA⟩
  | .pre o B a, _ => ⟨Nat.le_of_ble_eq_true rfl, .pre o A a, rfl, rfl, rfl, rfl, rfl, fun N h => ⟨wA, h.2⟩⟩
  | .int _, h => absurd (show ("int" : Str) ∈ (["gone", "as", "left", "right"] : List Str) from h) (by decide +kernel)
  | .name _, h => absurd (show ("name" : Str) ∈ (["gone", "as", "left", "right"] : List Str) from h) (by decide +kernel)
  | .op o _ _, h => absurd (show o.s ∈ (["gone", "as", "left", "right"] : List Str) from h) (by cases o <;> decide +kernel)
  | .fn _ _ _ _, h => absurd (show ("fn" : Str) ∈ (["gone", "as", "left", "right"] : List Str) from h) (by decide +kernel)
  | .split _ _ _ _, h => absurd (show ("split" : Str) ∈ (["gone", "as", "left", "right"] : List Str) from h) (by decide +kernel)
  | .case _ _ _ _ _, h => absurd (show ("case" : Str) ∈ (["gone", "as", "left", "right"] : List Str) from h) (by decide +kernel)
  | .box _ _, h => absurd (show ("box" : Str) ∈ (["gone", "as", "left", "right"] : List Str) from h) (by decide +kernel)
  | .unbox _ _ _, h => absurd (show ("unbox" : Str) ∈ (["gone", "as", "left", "right"] : List Str) from h) (by decide +kernel)
  | .test _ _ _, h => absurd (show ("test" : Str) ∈ (["gone", "as", "left", "right"] : List Str) from h) (by decide +kernel)
  | .rep _ _ _ _ _, h => absurd (show ("repeat" : Str) ∈ (["gone", "as", "left", "right"] : List Str) from h) (by decide +kernel)
theorem w_inj {t u : Tm} (h : t.w = u.w) : t.tag = u.tag := Tm.tag_eq h
theorem is_fn : ∀ {u : Tm}, u.w = "fn" → ∃ x g A b, u = .fn x g A b
  | u, h => by
    have := Tm.tag_eq (t := u) (u := .fn "" "" .int (.int 0)) h
    cases u <;> (first | exact ⟨_, _, _, _, rfl⟩ | cases this | (rename_i o _ _; cases o <;> cases this))
theorem is_box : ∀ {u : Tm}, u.w = "box" → ∃ g b, u = .box g b
  | u, h => by
    have := Tm.tag_eq (t := u) (u := .box "" (.int 0)) h
    cases u <;> (first | exact ⟨_, _, rfl⟩ | cases this | (rename_i o _ _; cases o <;> cases this))
theorem is_rep : ∀ {u : Tm}, u.w = "repeat" → ∃ e x g z s, u = .rep e x g z s
  | u, h => by
    have := Tm.tag_eq (t := u) (u := .rep (.int 0) "" "" (.int 0) (.int 0)) h
    cases u <;> (first | exact ⟨_, _, _, _, _, rfl⟩ | cases this | (rename_i o _ _; cases o <;> cases this))
theorem is_op : ∀ {u : Tm}, u.w ∈ (["add", "sub", "mul", "call", "pair"] : List Str) → ∃ o a b, u = .op o a b
  | .op o a b, _ => ⟨o, a, b, rfl⟩
  | .gone _, h => absurd (show ("gone" : Str) ∈ (["add", "sub", "mul", "call", "pair"] : List Str) from h) (by decide +kernel)
  | .pre o _ _, h => absurd (show o.s ∈ (["add", "sub", "mul", "call", "pair"] : List Str) from h) (by cases o <;> decide +kernel)
  | .int _, h => absurd (show ("int" : Str) ∈ (["add", "sub", "mul", "call", "pair"] : List Str) from h) (by decide +kernel)
  | .name _, h => absurd (show ("name" : Str) ∈ (["add", "sub", "mul", "call", "pair"] : List Str) from h) (by decide +kernel)
  | .fn _ _ _ _, h => absurd (show ("fn" : Str) ∈ (["add", "sub", "mul", "call", "pair"] : List Str) from h) (by decide +kernel)
  | .split _ _ _ _, h => absurd (show ("split" : Str) ∈ (["add", "sub", "mul", "call", "pair"] : List Str) from h) (by decide +kernel)
  | .case _ _ _ _ _, h => absurd (show ("case" : Str) ∈ (["add", "sub", "mul", "call", "pair"] : List Str) from h) (by decide +kernel)
  | .box _ _, h => absurd (show ("box" : Str) ∈ (["add", "sub", "mul", "call", "pair"] : List Str) from h) (by decide +kernel)
  | .unbox _ _ _, h => absurd (show ("unbox" : Str) ∈ (["add", "sub", "mul", "call", "pair"] : List Str) from h) (by decide +kernel)
  | .test _ _ _, h => absurd (show ("test" : Str) ∈ (["add", "sub", "mul", "call", "pair"] : List Str) from h) (by decide +kernel)
  | .rep _ _ _ _ _, h => absurd (show ("repeat" : Str) ∈ (["add", "sub", "mul", "call", "pair"] : List Str) from h) (by decide +kernel)
theorem is_lr : ∀ {u : Tm}, u.w ∈ (["left", "right"] : List Str) → ∃ o A a, u = .pre o A a ∧ (o = .left ∨ o = .right)
  | .pre .left A a, _ => ⟨_, A, a, rfl, .inl rfl⟩
  | .pre .right A a, _ => ⟨_, A, a, rfl, .inr rfl⟩
  | .pre .as A a, h => absurd (show ("as" : Str) ∈ (["left", "right"] : List Str) from h) (by decide +kernel)
  | .gone _, h => absurd (show ("gone" : Str) ∈ (["left", "right"] : List Str) from h) (by decide +kernel)
  | .op o _ _, h => absurd (show o.s ∈ (["left", "right"] : List Str) from h) (by cases o <;> decide +kernel)
  | .int _, h => absurd (show ("int" : Str) ∈ (["left", "right"] : List Str) from h) (by decide +kernel)
  | .name _, h => absurd (show ("name" : Str) ∈ (["left", "right"] : List Str) from h) (by decide +kernel)
  | .fn _ _ _ _, h => absurd (show ("fn" : Str) ∈ (["left", "right"] : List Str) from h) (by decide +kernel)
  | .split _ _ _ _, h => absurd (show ("split" : Str) ∈ (["left", "right"] : List Str) from h) (by decide +kernel)
  | .case _ _ _ _ _, h => absurd (show ("case" : Str) ∈ (["left", "right"] : List Str) from h) (by decide +kernel)
  | .box _ _, h => absurd (show ("box" : Str) ∈ (["left", "right"] : List Str) from h) (by decide +kernel)
  | .unbox _ _ _, h => absurd (show ("unbox" : Str) ∈ (["left", "right"] : List Str) from h) (by decide +kernel)
  | .test _ _ _, h => absurd (show ("test" : Str) ∈ (["left", "right"] : List Str) from h) (by decide +kernel)
  | .rep _ _ _ _ _, h => absurd (show ("repeat" : Str) ∈ (["left", "right"] : List Str) from h) (by decide +kernel)
theorem set_fn3 {A : Kd} (wA : A.Wf ∧ A.depth ≤ 8) (u : Tm) (h : u.w = "fn") : SetK u 3 A.d := by
  obtain ⟨x, g, B, b, rfl⟩ := is_fn h
  exact ⟨Nat.le_of_ble_eq_true rfl, .fn x g A b, rfl, rfl, rfl, rfl, rfl, fun N h => ⟨h.1, h.2.1, wA, h.2.2.2⟩⟩
theorem set_fn2 {g : Str} (hg : g = "?" ∨ GrOk g) (u : Tm) (h : u.w = "fn") : SetK u 2 (.str g) := by
  obtain ⟨x, g', B, b, rfl⟩ := is_fn h
  exact ⟨Nat.le_of_ble_eq_true rfl, .fn x g B b, rfl, rfl, rfl, rfl, rfl, fun N h => ⟨h.1, hg, h.2.2⟩⟩
theorem set_rep3 {g : Str} (hg : g = "?" ∨ GrOk g) (u : Tm) (h : u.w = "repeat") : SetK u 3 (.str g) := by
  obtain ⟨e, x, g', z, s, rfl⟩ := is_rep h
  exact ⟨Nat.le_of_ble_eq_true rfl, .rep e x g z s, rfl, rfl, rfl, rfl, rfl, fun N h => ⟨h.1, hg, h.2.2⟩⟩
theorem set_box1 {g : Str} (hg : GrOk g) (u : Tm) (h : u.w = "box") : SetK u 1 (.str g) := by
  obtain ⟨g', b, rfl⟩ := is_box h
  exact ⟨Nat.le_of_ble_eq_true rfl, .box g b, rfl, rfl, rfl, rfl, rfl, fun N h => ⟨hg, h.2⟩⟩
def spBent (K : PySem.W.Frag) (d : Nat) : Sp := fun vs H Q _ => ∃ (Z : Hp) (S0 T : Addr) (L : V.Cells) (v : V) (t : Tm) (nm : Addr) (M N : List Str), vs = [.ref S0, v, .ref nm] ∧ V.Hw Z (some (S0, T)) H L ∧ TmAt K Z v t ∧ t.Wf N ∧ Z nm = some (.lst (M.map V.str)) ∧ 0 < M.length ∧ M.length ≤ 100 ∧ (∀ z ∈ M, z ∈ N) ∧ t.depth ≤ d ∧
  ∀ (v' : V) (u : Tm) (Z' H' : Hp), Same Z Z' → V.Hw Z' (some (S0, T)) H' L → TmAt K Z' v' u → u.Wf N → Sm u t → Q v' H'
section
variable {P : Program} {w : World} {K : PySem.W.Frag} {mg : Str → Option Value} {base : Heap}
theorem sc__law_bent : FnScope ["_law_state", "_law_term", "_law_names", "_law_places_here", "_law_row", "_law_at"] ["_law_state", "_law_term", "_law_names"] (defScope (top 22)) := ⟨rfl, rfl, rfl, by decide +kernel, rfl, by decide +kernel, by decide +kernel⟩
theorem st__law_bent (v0 v1 v2 : V) : L2.start ["_law_state", "_law_term", "_law_names", "_law_places_here", "_law_row", "_law_at"] [v0, v1, v2] = [some v0, some v1, some v2, none, none, none] := rfl
theorem ok_lbent {f : Addr} {fd : FuncData} (d : Nat) (spr : Sp) (hspr : spr = spBent K d) (F : Fun K "_law_bent" "_law_bent" (top 22) f fd) (T : TxL K mg) (c__law_draw : Cal P w K mg base CX0 1 "_law_draw" spDraw) (c__law_rough_grade : Cal P w K mg base CX0 2 "_law_rough_grade" spGrade)
    (c__law_rough_kind : Cal P w K mg base CX0 4 "_law_rough_kind" (spKind K 1)) (c__law_places : Cal P w K mg base CX0 1 "_law_places" (spPlaces K)) (c__law_bent : Cal P w K mg base CX0 (4 + d) "_law_bent" spr) : FnOk P w K mg base CX0 (4 + d + 1) f fd ["_law_state", "_law_term", "_law_names"] (spBent K (d + 1)) := by
  subst hspr
  refine F.ok sc__law_bent (fun vs H Q E h => ?_) (fun cdv A outer s H vs Q E hr h => ?_)
  · obtain ⟨Z, S0, T0, L, v, t, nm, M, N, rfl, _⟩ := h
    rfl
  · obtain ⟨Z, S0, T0, L, v, t, nm, M, N, rfl, w0, ht, wt, hM, M0, M1, MN, hd, k⟩ := h
    have hu := hu_of hr
    refine ⟨_, (pss_cons (ps_set (i := 3) sc__law_bent.nd rfl (Or.inl rfl) (pe_c c__law_places hr (by omega) (by rfl) (pa_cons (pe_ix ix_tup (pv 1) pe_int (fun _ _ => rfl)) pa_nil)))
      (pss_cons (ps_set (i := 4) sc__law_bent.nd rfl (Or.inl rfl) (pe_callTy (V.call_list K rfl) (by rfl) T.list (by decide +kernel) (pa_cons (pv 1) pa_nil)))
      (pss_cons (ps_if (PW.pt (pw_and (pt_cmpR (op_neD hr.units) (pv 3) (pe_lst pa_nil) (nomark _)) (pw_and1 (pt_cmpR op_gt (pe_c c__law_draw hr (by omega) (by rfl) (pa_cons (pv 0) (pa_cons pe_int pa_nil))) pe_int (nomark _))))) (pss_cons (ps_set (i := 5) sc__law_bent.nd rfl (Or.inl rfl) (pe_ix ix_list (pv 3) (pe_c c__law_draw hr (by omega) (by rfl) (pa_cons (pv 0) (pa_cons (pe_callB (V.call_len K rfl) (by rfl) T.len (by decide +kernel) (pa_cons (pv 3) pa_nil)) pa_nil))) (fun _ _ => rfl)))
      (pss_cons (ps_asg (pe_c c__law_bent hr (by omega) (by rfl) (pa_cons (pv 0) (pa_cons (pe_ix ix_tup (pv 1) (pv 5) (fun _ _ => rfl)) (pa_cons (pv 2) pa_nil)))) (pg_sub (pv 4) (pv 5) set_list))
      (pss_one (ps_ret (pe_callTy call_tuple_of (by rfl) T.tuple (by decide +kernel) (pa_cons (pv 4) pa_nil)))))) pss_nil)
      (pss_cons (ps_if (pt_cmpR op_eq (pe_ix ix_tup (pv 1) pe_int (fun _ _ => rfl)) pe_str (nomark _)) (pss_one (ps_ret (pe_tup (pa_cons pe_str (pa_cons (pe_op op_add (pe_ix ix_tup (pv 1) pe_int (fun _ _ => rfl)) pe_int) pa_nil))))) pss_nil)
      (pss_cons (ps_if (pt_cmpR op_eq (pe_ix ix_tup (pv 1) pe_int (fun _ _ => rfl)) pe_str (nomark _)) (pss_one (ps_ret (pe_tup (pa_cons pe_str (pa_cons (pe_ix ix_list (pv 2) (pe_c c__law_draw hr (by omega) (by rfl) (pa_cons (pv 0) (pa_cons (pe_callB (V.call_len K rfl) (by rfl) T.len (by decide +kernel) (pa_cons (pv 2) pa_nil)) pa_nil))) (fun _ _ => rfl)) pa_nil))))) pss_nil)
      (pss_cons (ps_if (PW.pt (pw_and (pt_cmpR op_in_seq (pe_ix ix_tup (pv 1) pe_int (fun _ _ => rfl)) (pe_lst (pa_cons pe_str (pa_cons pe_str pa_nil))) (by rfl)) (pw_and1 (pt_cmpR op_eq (pe_c c__law_draw hr (by omega) (by rfl) (pa_cons (pv 0) (pa_cons pe_int pa_nil))) pe_int (nomark _))))) (pss_one (ps_ret (pe_tup (pa_cons (pe_dget hu (pe_disp (pps_cons pe_str pe_str (pps_cons pe_str pe_str pps_nil)) (by rfl) (by rfl) (fun z => by cases z) (by decide)) (pe_ix ix_tup (pv 1) pe_int (fun _ _ => rfl)) (fun _ _ => rfl)) (pa_cons (pe_ix ix_tup (pv 1) pe_int (fun _ _ => rfl)) (pa_cons (pe_ix ix_tup (pv 1) pe_int (fun _ _ => rfl)) pa_nil)))))) pss_nil)
      (pss_cons (ps_if (PW.pt (pw_and (pt_cmpR op_in_seq (pe_ix ix_tup (pv 1) pe_int (fun _ _ => rfl)) (pe_lst (pa_cons pe_str (pa_cons pe_str (pa_cons pe_str pa_nil)))) (by rfl)) (pw_and1 (pt_cmpR op_eq (pe_c c__law_draw hr (by omega) (by rfl) (pa_cons (pv 0) (pa_cons pe_int pa_nil))) pe_int (nomark _))))) (pss_cons (ps_asg (pe_c c__law_rough_kind hr (by omega) (by rfl) (pa_cons (pv 0) (pa_cons pe_int pa_nil))) (pg_sub (pv 4) (pe_ifExp (pt_cmpR op_eq (pe_ix ix_tup (pv 1) pe_int (fun _ _ => rfl)) pe_str (nomark _)) pe_int pe_int) set_list))
      (pss_one (ps_ret (pe_callTy call_tuple_of (by rfl) T.tuple (by decide +kernel) (pa_cons (pv 4) pa_nil))))) pss_nil)
      (pss_cons (ps_if (pt_cmpR op_in_seq (pe_ix ix_tup (pv 1) pe_int (fun _ _ => rfl)) (pe_lst (pa_cons pe_str (pa_cons pe_str pa_nil))) (by rfl)) (pss_one (ps_asg (pe_c c__law_rough_kind hr (by omega) (by rfl) (pa_cons (pv 0) (pa_cons pe_int pa_nil))) (pg_sub (pv 4) pe_int set_list))) pss_nil)
      (pss_cons (ps_if (pt_cmpR op_eq (pe_ix ix_tup (pv 1) pe_int (fun _ _ => rfl)) pe_str (nomark _)) (pss_one (ps_asg (pe_c c__law_rough_grade hr (by omega) (by rfl) (pa_cons (pv 0) pa_nil)) (pg_sub (pv 4) pe_int set_list))) pss_nil)
      (pss_cons (ps_if (pt_cmpR op_in_seq (pe_ix ix_tup (pv 1) pe_int (fun _ _ => rfl)) (pe_lst (pa_cons pe_str (pa_cons pe_str pa_nil))) (by rfl)) (pss_one (ps_asg (pe_ix ix_list (pe_lst (pa_cons pe_str (pa_cons (pe_c c__law_rough_grade hr (by omega) (by rfl) (pa_cons (pv 0) pa_nil)) pa_nil))) (pe_c c__law_draw hr (by omega) (by rfl) (pa_cons (pv 0) (pa_cons pe_int pa_nil))) (fun _ _ => rfl)) (pg_sub (pv 4) (pe_ifExp (pt_cmpR op_eq (pe_ix ix_tup (pv 1) pe_int (fun _ _ => rfl)) pe_str (nomark _)) pe_int pe_int) set_list))) pss_nil)
      (pss_cons (ps_if (pt_cmpR op_in_seq (pe_ix ix_tup (pv 1) pe_int (fun _ _ => rfl)) (pe_lst (pa_cons pe_str (pa_cons pe_str (pa_cons pe_str (pa_cons pe_str (pa_cons pe_str pa_nil)))))) (by rfl)) (pss_one (ps_asg (pe_ix ix_list (pe_lst (pa_cons pe_str (pa_cons pe_str (pa_cons pe_str (pa_cons pe_str (pa_cons pe_str pa_nil)))))) (pe_c c__law_draw hr (by omega) (by rfl) (pa_cons (pv 0) (pa_cons pe_int pa_nil))) (fun _ _ => rfl)) (pg_sub (pv 4) pe_int set_list))) pss_nil)
      (pss_one (ps_ret (pe_callTy call_tuple_of (by rfl) T.tuple (by decide +kernel) (pa_cons (pv 4) pa_nil))))))))))))))), ?_⟩
    rw [st__law_bent]
    obtain ⟨a, xs, rfl, hs, hits⟩ := ht.open
    have a0 := at0 hits
    have hMl : (M.map V.str).length = M.length := List.length_map ..
    repeat walk_at "w"
    refine ⟨t, rfl, fun H2 pp s2 n2 h2 => ?_⟩
    obtain ⟨Z2, w2, sz2, new2⟩ := w0.callNew s2
    have hpp := new2 pp _ n2 h2
    have hs2 : SqT K Z2 a xs := V.seqT sz2 hs
    have plen : (t.pos.map fun (k : Nat) => V.int (k : Int)).length = t.parts.length := by rw [List.length_map, t.pos_len]
    have p3 := t.parts3
    repeat walk_at "w"
    refine w_listT w2 (V.seqT w2.fr hs2) fun r H3 n3 w3 => ?_
    have hrow : RowOf K Z2 N t xs := .start (hits.mono sz2) wt
    repeat walk_at "m"
    (try ((with_reducible show Ends.nx _ _ _); dsimp only))
    refine UM.meetI (fun σ' H' => σ' = [some (.ref S0), some (.ref a), some (.ref nm), some (.ref pp), some (.ref r), none] ∧ V.Hw Z2 (some (S0, T0)) H' ((true, r, .lst xs) :: L)) ?_ ?_
    · intro D' hD hrt _ _
      repeat walk_at "w"
      intro q0 H4 n4 w4
      have hq0 := w4.get .here
      have w4 := w4.sub (.skip (.refl _))
      refine ⟨.list (t.pos.map fun (k : Nat) => .int (k : Int)), .list [], .lst (SqL.of (w4.fro hpp)) (dp_nats _), .lst (SqL.of hq0) .nil, (UE.gd_list (gda_nats 1 _)).sh (by decide), (UE.gd_list (n := 1) UE.gda_nil).sh (by decide), ?_⟩
      rw [eqv_nil]
      repeat walk_at "w"
      refine ifB (fun e => ?_) (fun e => ?_)
      · have p0 : 0 < t.parts.length := by
          rw [← plen]
          cases q : t.pos with
          | nil => rw [q] at e; cases e
          | cons a l => simp
        repeat walk_at "w"
        intro i4 H5 i40 i41 w5
        repeat walk_at "w"
        refine ifD (fun e4 => ?_) (fun e4 => ?_)
        · have lpos : (0 : Int) < ((t.pos.map fun (k : Nat) => V.int (k : Int)).length : Int) := by rw [plen]; omega
          have lle : ((t.pos.map fun (k : Nat) => V.int (k : Int)).length : Int) ≤ 3 := by rw [plen]; omega
          repeat walk_at "w"
          intro i5 H6 i50 i51 w6
          rw [plen] at i51
          obtain ⟨i, hi⟩ : ∃ i : Nat, (i : Int) = i5 := ⟨i5.toNat, Int.toNat_of_nonneg i50⟩
          subst hi
          have hi2 : i < t.parts.length := by omega
          obtain ⟨tp, hp⟩ : ∃ tp, t.parts[i]? = some tp := ⟨_, List.getElem?_eq_getElem hi2⟩
          obtain ⟨pk, pk2⟩ := pick_parts hits
          obtain ⟨v, hv, hvt⟩ := TmAll.at_ pk hp
          have hki : t.pos[i]? = some (t.pos[i]'(by rw [t.pos_len]; exact hi2)) := List.getElem?_eq_getElem _
          have ipk : atI (t.pos.map fun (k : Nat) => V.int (k : Int)) (i : Int) = some (.int ((t.pos[i]'(by rw [t.pos_len]; exact hi2) : Nat) : Int)) := at_of (j := i) rfl (by rw [List.getElem?_map, List.getElem?_eq_getElem (by rw [t.pos_len]; exact hi2)]; rfl)
          have iv := at_pick hki pk2
          have ev2 : xs.getD (t.pos[i]'(by rw [t.pos_len]; exact hi2)) .non = v := by
            unfold pick at hv
            rw [List.getElem?_map, hki] at hv
            exact Option.some.inj hv
          rw [ev2] at iv
          have mp := List.mem_of_getElem? hp
          have dp := Tm.depth_lt mp
          repeat walk_at "w"
          refine ⟨Z2, S0, T0, _, v, tp, nm, M, N, rfl, w6, hvt.mono sz2, wt.part mp, sz2 _ _ hM, M0, M1, MN, by omega, fun v9 u9 Z9 H9 s9 w9 t9 wf9 sm9 => ?_⟩
          obtain ⟨rp, kl9⟩ := (hrow.mono s9).part hki hp t9 wf9 sm9
          repeat walk_at "w"
          refine V.w_setL w9 .here .here (V.ixN_nat kl9) fun H10 w10 => ?_
          repeat walk_at "w"
          refine w_tuple w10 (w10.get .here) fun p H11 n11 w11 => ?_
          obtain ⟨w11, s11, h11⟩ := w11.frz
          obtain ⟨u, hu, le, wu⟩ := rp
          rw [hrt]
          exact k _ u _ _ (fun b o e => s11 _ _ (s9 _ _ (sz2 _ _ e))) (w11.sub (.skip (.refl _))) (TmAt.mk (SqT.of h11) (hu.mono s11)) wu le.sm
        · repeat walk_at "w"
          exact hD _ _ ⟨rfl, w5⟩
      · repeat walk_at "w"
        exact hD _ _ ⟨rfl, w4⟩
    · rintro σ' H4 ⟨rfl, w4⟩
      repeat walk_at "w"
      refine ifD (fun ei => ?_) (fun ei => ?_)
      · obtain ⟨n, rfl⟩ := Tm.tag0 (Tm.tag_eq (t := t) (u := .int 0) ei)
        have a1 : atI xs 1 = some (.int n) := by
          obtain ⟨y, e1, e2⟩ := hits.at_ (i := 1) (d := .int n) rfl
          rw [e2.intI] at e1
          exact at_of (j := 1) rfl e1
        repeat walk_at "w"
        intro p H5 n5 w5
        obtain ⟨w5, s5, h5⟩ := w5.frz
        repeat walk_at "w"
        exact k _ (.int (n + 1)) _ _ (fun b o e => s5 _ _ (sz2 _ _ e)) (w5.sub (.skip (.refl _))) (.tup (SqT.of h5) (.cons (.str _) (.cons (.int _) .nil))) trivial ⟨Nat.le_refl _, Nat.le_refl _⟩
      repeat walk_at "w"
      refine ifD (fun en => ?_) (fun en => ?_)
      · obtain ⟨x, rfl⟩ := w_name t en
        repeat walk_at "w"
        have hM4 := sz2 _ _ hM
        repeat walk_at "w"
        intro iy H5 iy0 iy1 w5
        obtain ⟨y, y1, y2⟩ := lit_at (zs := M) iy0 (by omega)
        repeat walk_at "w"
        intro p H6 n6 w6
        obtain ⟨w6, s6, h6⟩ := w6.frz
        repeat walk_at "w"
        exact k _ (.name y) _ _ (fun b o e => s6 _ _ (sz2 _ _ e)) (w6.sub (.skip (.refl _))) (.tup (SqT.of h6) (.cons (.str _) (.cons (.str _) .nil))) (MN y (List.mem_of_getElem? y1)) ⟨Nat.le_refl _, Nat.le_refl _⟩
      repeat walk_at "m"
      (try ((with_reducible show Ends.nx _ _ _); dsimp only))
      refine UM.meetI (fun σ' H' => σ' = [some (.ref S0), some (.ref a), some (.ref nm), some (.ref pp), some (.ref r), none] ∧ V.Hw Z2 (some (S0, T0)) H' ((true, r, .lst xs) :: L)) ?_ ?_
      · intro D' hD hrt _ _
        repeat walk_at "w"
        intro q0 H5 n5 w5
        refine V.w_inL (xs := (["left", "right"] : List Str).map V.str) (SqL.of (w5.get .here)) rfl (flat_strs _) ?_
        rw [inV_str]
        have w5 := w5.sub (.skip (.refl _))
        repeat walk_at "w"
        refine ifD (fun el => ?_) (fun el => ?_)
        · repeat walk_at "w"
          intro i6 H6 i60 i61 w6
          repeat walk_at "w"
          refine ifD (fun e6 => ?_) (fun e6 => ?_)
          · obtain ⟨o, A', b, rfl, ho⟩ := is_lr el
            obtain ⟨va, e1, da⟩ := hits.at_ (i := 1) (d := A'.d) rfl
            obtain ⟨vb, e2, db⟩ := hits.at_ (i := 2) (d := b.d) rfl
            have a1 : atI xs 1 = some va := at_of (j := 1) rfl e1
            have a2 : atI xs 2 = some vb := at_of (j := 2) rfl e2
            repeat walk_at "w"
            refine UM.w_disp w6 fun pd H7 n7 w7 => ?_
            repeat walk_at "w"
            refine ⟨w7.get .here, [(Sum.inr "left", .str "right"), (Sum.inr "right", .str "left")], rfl, Nat.le_of_ble_eq_true rfl, ?_⟩
            have w8 := w7.up (a := pd) (o := .dK (mergeK [] [(Sum.inr "left", .str "right"), (Sum.inr "right", .str "left")])) .here
            generalize upd H7 pd (.dK (mergeK [] [(Sum.inr "left", .str "right"), (Sum.inr "right", .str "left")])) = H8 at w8 ⊢
            have w8 := w8.sub (L := (true, pd, _) :: (true, r, .lst xs) :: L) (.cons (.cons (.refl _)))
            have key : ∃ o' : Pre, valV (mergeK [] [((Sum.inr "left" : Key), V.str "right"), (Sum.inr "right", .str "left")]) (Sum.inr o.s : Key) = some (.str o'.s) := by
              rcases ho with rfl | rfl
              · exact ⟨.right, by kernel_rfl⟩
              · exact ⟨.left, by kernel_rfl⟩
            obtain ⟨o', ek⟩ := key
            have a0' : atI xs 0 = some (.str o.s) := a0
            repeat walk_at "w"
            intro p H9 n9 w9
            obtain ⟨w9, s9, h9⟩ := w9.frz
            rw [hrt]
            exact k _ (.pre o' A' b) _ _ (fun b o e => s9 _ _ (sz2 _ _ e)) (w9.sub (.skip (.skip (.refl _)))) (.tup (SqT.of h9) (.cons (.str _) (.cons ((da.mono sz2).mono s9) (.cons ((db.mono sz2).mono s9) .nil)))) wt ⟨Nat.le_refl _, Nat.le_refl _⟩
          · repeat walk_at "w"
            exact hD _ _ ⟨rfl, w6⟩
        · repeat walk_at "w"
          exact hD _ _ ⟨rfl, w5⟩
      · rintro σ' H5 ⟨rfl, w5⟩
        repeat walk_at "m"
        (try ((with_reducible show Ends.nx _ _ _); dsimp only))
        refine UM.meetI (fun σ' H' => σ' = [some (.ref S0), some (.ref a), some (.ref nm), some (.ref pp), some (.ref r), none] ∧ V.Hw Z2 (some (S0, T0)) H' ((true, r, .lst xs) :: L)) ?_ ?_
        · intro D' hD hrt _ _
          repeat walk_at "w"
          intro q0 H6 n6 w6
          refine V.w_inL (xs := (["fn", "left", "right"] : List Str).map V.str) (SqL.of (w6.get .here)) rfl (flat_strs _) ?_
          rw [inV_str]
          have w6 := w6.sub (.skip (.refl _))
          repeat walk_at "w"
          refine ifD (fun el => ?_) (fun el => ?_)
          · repeat walk_at "w"
            intro i7 H7 i70 i71 w7
            repeat walk_at "w"
            refine ifD (fun e7 => ?_) (fun e7 => ?_)
            · repeat walk_at "w"
              refine ⟨Z2, S0, T0, _, rfl, w7, fun va ka Z8 H8 s8 w8 da wa la => ?_⟩
              have wk8 : ka.Wf ∧ ka.depth ≤ 8 := ⟨wa, by omega⟩
              have hs8 : SqT K Z8 a xs := V.seqT (fun b o e => s8 _ _ (sz2 _ _ e)) hs
              repeat walk_at "w"
              refine meetV (a := .int 3) (b := .int 1) (fun Q' q => q) (fun Q' q => q) ?_
              obtain ⟨kk, ek, hset⟩ : ∃ kk : Nat, (if t.w = "fn" then V.int 3 else V.int 1) = .int (kk : Int) ∧ ∀ u : Tm, u.w = t.w → SetK u kk ka.d := by
                by_cases e : t.w = "fn"
                · exact ⟨3, by rw [if_pos e]; rfl, fun u hu => set_fn3 wk8 u (hu.trans e)⟩
                · refine ⟨1, by rw [if_neg e]; rfl, fun u hu => set_k1 wk8 u ?_⟩
                  rw [hu]
                  simp only [List.mem_cons, List.not_mem_nil, or_false] at el ⊢
                  rcases el with q | q | q
                  · exact absurd q e
                  · exact .inr (.inr (.inl q))
                  · exact .inr (.inr (.inr q))
              rw [ek]
              obtain ⟨rp, kl⟩ := (hrow.mono s8).setk hset da
              repeat walk_at "w"
              refine V.w_setL w8 .here .here (V.ixN_nat kl) fun H10 w10 => ?_
              repeat walk_at "w"
              refine w_tuple w10 (w10.get .here) fun p H11 n11 w11 => ?_
              obtain ⟨w11, s11, h11⟩ := w11.frz
              obtain ⟨u, hu, le, wu⟩ := rp
              rw [hrt]
              exact k _ u _ _ (fun b o e => s11 _ _ (s8 _ _ (sz2 _ _ e))) (w11.sub (.skip (.refl _))) (TmAt.mk (SqT.of h11) (hu.mono s11)) wu le.sm
            · repeat walk_at "w"
              exact hD _ _ ⟨rfl, w7⟩
          · repeat walk_at "w"
            exact hD _ _ ⟨rfl, w6⟩
        · rintro σ' H6 ⟨rfl, w6⟩
          repeat walk_at "m"
          (try ((with_reducible show Ends.nx _ _ _); dsimp only))
          refine UM.meetI (fun σ' H' => ∃ (Z' : Hp) (row : List V), σ' = [some (.ref S0), some (.ref a), some (.ref nm), some (.ref pp), some (.ref r), none] ∧ Same Z2 Z' ∧ V.Hw Z' (some (S0, T0)) H' ((true, r, .lst row) :: L) ∧ RowOf K Z' N t row) ?_ ?_
          · intro D' hD hrt _ _
            repeat walk_at "w"
            intro q0 H7 n7 w7
            refine V.w_inL (xs := (["gone", "as"] : List Str).map V.str) (SqL.of (w7.get .here)) rfl (flat_strs _) ?_
            rw [inV_str]
            have w7 := w7.sub (.skip (.refl _))
            repeat walk_at "w"
            refine ifD (fun el => ?_) (fun el => ?_)
            · repeat walk_at "w"
              refine ⟨Z2, S0, T0, _, rfl, w7, fun va ka Z8 H8 s8 w8 da wa la => ?_⟩
              have wk8 : ka.Wf ∧ ka.depth ≤ 8 := ⟨wa, by omega⟩
              obtain ⟨rp, kl⟩ := (hrow.mono s8).setk (k := 1) (d := ka.d) (fun u hu => set_k1 wk8 u (by
                rw [hu]
                simp only [List.mem_cons, List.not_mem_nil, or_false] at el ⊢
                exact el.elim .inl fun q => .inr (.inl q))) da
              repeat walk_at "w"
              refine V.w_setL w8 .here .here (V.ixN_nat kl) fun H10 w10 => ?_
              repeat walk_at "w"
              exact hD _ _ ⟨Z8, _, rfl, s8, w10, rp⟩
            · repeat walk_at "w"
              exact hD _ _ ⟨Z2, xs, rfl, fun _ _ e => e, w7, hrow⟩
          rintro σ' H7 ⟨Z7, row, rfl, s7, w7, hrow⟩
          have hs7 : SqT K Z7 a xs := V.seqT (fun b o e => s7 _ _ (sz2 _ _ e)) hs
          repeat walk_at "m"
          (try ((with_reducible show Ends.nx _ _ _); dsimp only))
          refine UM.meetI (fun σ' H' => ∃ (Z' : Hp) (row : List V), σ' = [some (.ref S0), some (.ref a), some (.ref nm), some (.ref pp), some (.ref r), none] ∧ Same Z2 Z' ∧ V.Hw Z' (some (S0, T0)) H' ((true, r, .lst row) :: L) ∧ RowOf K Z' N t row) ?_ ?_
          · intro D' hD hrt _ _
            repeat walk_at "w"
            refine ifD (fun el => ?_) (fun el => ?_)
            · repeat walk_at "w"
              refine ⟨Z7, S0, T0, _, rfl, w7, fun g H8 hg w8 => ?_⟩
              obtain ⟨rp, kl⟩ := hrow.setk (k := 1) (fun u hu => set_box1 hg u (hu.trans el)) (.str g)
              repeat walk_at "w"
              refine V.w_setL w8 .here .here (V.ixN_nat kl) fun H10 w10 => ?_
              repeat walk_at "w"
              exact hD _ _ ⟨Z7, _, rfl, s7, w10, rp⟩
            · repeat walk_at "w"
              exact hD _ _ ⟨Z7, row, rfl, s7, w7, hrow⟩
          rintro σ' H8 ⟨Z8, row, rfl, s8, w8, hrow⟩
          have hs8 : SqT K Z8 a xs := V.seqT (fun b o e => s8 _ _ (sz2 _ _ e)) hs
          repeat walk_at "m"
          (try ((with_reducible show Ends.nx _ _ _); dsimp only))
          refine UM.meetI (fun σ' H' => ∃ (Z' : Hp) (row : List V), σ' = [some (.ref S0), some (.ref a), some (.ref nm), some (.ref pp), some (.ref r), none] ∧ Same Z2 Z' ∧ V.Hw Z' (some (S0, T0)) H' ((true, r, .lst row) :: L) ∧ RowOf K Z' N t row) ?_ ?_
          · intro D' hD hrt _ _
            repeat walk_at "w"
            intro q0 H9 n9 w9
            refine V.w_inL (xs := (["fn", "repeat"] : List Str).map V.str) (SqL.of (w9.get .here)) rfl (flat_strs _) ?_
            rw [inV_str]
            have w9 := w9.sub (.skip (.refl _))
            repeat walk_at "w"
            refine ifD (fun el => ?_) (fun el => ?_)
            · repeat walk_at "w"
              refine ⟨Z8, S0, T0, _, rfl, w9, fun g H10 hg w10 => ?_⟩
              repeat walk_at "w"
              intro q1 H11 n11 w11
              repeat walk_at "w"
              intro ig H12 g0 g1 w12
              obtain ⟨g', g2, g3⟩ := lit_at (zs := ["?", g]) g0 (by show ig < 2; omega)
              have hg' : g' = "?" ∨ GrOk g' := by
                have : g' ∈ (["?", g] : List Str) := List.mem_of_getElem? g2
                rcases List.mem_cons.mp this with q | q
                · exact .inl q
                · exact .inr (List.mem_singleton.mp q ▸ hg)
              repeat walk_at "w"
              refine meetV (a := .int 2) (b := .int 3) (fun Q' q => q) (fun Q' q => q) ?_
              obtain ⟨kk, ek, hset⟩ : ∃ kk : Nat, (if t.w = "fn" then V.int 2 else V.int 3) = .int (kk : Int) ∧ ∀ u : Tm, u.w = t.w → SetK u kk (.str g') := by
                by_cases e : t.w = "fn"
                · exact ⟨2, by rw [if_pos e]; rfl, fun u hu => set_fn2 hg' u (hu.trans e)⟩
                · refine ⟨3, by rw [if_neg e]; rfl, fun u hu => set_rep3 hg' u ?_⟩
                  rw [hu]
                  simp only [List.mem_cons, List.not_mem_nil, or_false] at el
                  exact el.elim (fun q => absurd q e) id
              rw [ek]
              obtain ⟨rp, kl⟩ := hrow.setk hset (.str g')
              repeat walk_at "w"
              have w12 := w12.sub (.skip (.refl _))
              refine V.w_setL w12 .here .here (V.ixN_nat kl) fun H13 w13 => ?_
              repeat walk_at "w"
              exact hD _ _ ⟨Z8, _, rfl, s8, w13, rp⟩
            · repeat walk_at "w"
              exact hD _ _ ⟨Z8, row, rfl, s8, w9, hrow⟩
          rintro σ' H9 ⟨Z9, row, rfl, s9, w9, hrow⟩
          have hs9 : SqT K Z9 a xs := V.seqT (fun b o e => s9 _ _ (sz2 _ _ e)) hs
          repeat walk_at "w"
          intro q0 H10 n10 w10
          refine V.w_inL (xs := (["add", "sub", "mul", "call", "pair"] : List Str).map V.str) (SqL.of (w10.get .here)) rfl (flat_strs _) ?_
          rw [inV_str]
          have w10 := w10.sub (.skip (.refl _))
          repeat walk_at "w"
          obtain ⟨u, hu, le, wu⟩ := hrow
          refine ifD (fun el => ?_) (fun el => ?_)
          · repeat walk_at "w"
            intro q1 H11 n11 w11
            repeat walk_at "w"
            intro io H12 o0 o1 w12
            obtain ⟨z, z1, z2⟩ := lit_at (zs := ["add", "sub", "mul", "call", "pair"]) o0 (by show io < 5; omega)
            obtain ⟨o, oa, ob, rfl⟩ := is_op (u := u) (by rw [le.w]; exact el)
            obtain ⟨o', rfl⟩ : ∃ o' : Op, z = o'.s := by
              have : z ∈ (["add", "sub", "mul", "call", "pair"] : List Str) := List.mem_of_getElem? z1
              simp only [List.mem_cons, List.not_mem_nil, or_false] at this
              rcases this with q | q | q | q | q
              · exact ⟨.add, q⟩
              · exact ⟨.sub, q⟩
              · exact ⟨.mul, q⟩
              · exact ⟨.call, q⟩
              · exact ⟨.pair, q⟩
            have kl : 0 < row.length := by rw [hu.len]; exact Nat.zero_lt_succ _
            have smu := le.sm
            repeat walk_at "w"
            have w12 := w12.sub (.skip (.refl _))
            refine V.w_setL w12 .here .here (V.ixN_nat (j := 0) kl) fun H13 w13 => ?_
            repeat walk_at "w"
            refine w_tuple w13 (w13.get .here) fun p H14 n14 w14 => ?_
            obtain ⟨w14, s14, h14⟩ := w14.frz
            have hu' := dpset (k := 0) hu (.str o'.s)
            exact k _ (.op o' oa ob) _ _ (fun b o e => s14 _ _ (s9 _ _ (sz2 _ _ e))) (w14.sub (.skip (.refl _))) (TmAt.mk (SqT.of h14) (hu'.mono s14)) wu smu
          · repeat walk_at "w"
            refine w_tuple w10 (w10.get .here) fun p H14 n14 w14 => ?_
            obtain ⟨w14, s14, h14⟩ := w14.frz
            exact k _ u _ _ (fun b o e => s14 _ _ (s9 _ _ (sz2 _ _ e))) (w14.sub (.skip (.refl _))) (TmAt.mk (SqT.of h14) (hu.mono s14)) wu le.sm
end
def spLaw (K : PySem.W.Frag) : Sp := fun vs H Q _ => ∃ (a : Addr) (ns : List Int), vs = [.ref a] ∧ SqL K H a (ns.map V.int) ∧ ns.length ≤ 63 ∧ ∀ H', Q (.bl true) H'
/-! ### k26: nameless terms as data, and the law -/
open UK UM UN
theorem sql_cut {K : PySem.W.Frag} {H H0 : Hp} {S T a : Addr} {xs : List V} (h : SqL K H a xs) (nS : H S = none) (nT : H T = none) (e : Same H H0) : SqL K (V.cut H0 [S, T]) a xs := by
  have g : Same H (V.cut H0 [S, T]) := fun b o q => by
    rw [V.cut_not]
    · exact e _ _ q
    · simp only [List.mem_cons, List.not_mem_nil, or_false]
      rintro (r | r)
      · subst r; rw [nS] at q; cases q
      · subst r; rw [nT] at q; cases q
  exact g.seq h
theorem str_ok {z : Str} (h : NmOk z) : PyData.strOk z = true := by
  unfold PyData.strOk
  rw [Array.all_eq_true_iff_forall_mem]
  intro c hc
  have := h.2.2.1 c (Array.mem_toList_iff.mpr hc)
  unfold nch at this
  simp only [Bool.or_eq_true, Bool.and_eq_true, decide_eq_true_eq] at this
  refine decide_eq_true ?_
  omega
theorem wf_mono {N M : List Str} (h : ∀ z ∈ N, z ∈ M) : ∀ {t : Tm}, t.Wf N → t.Wf M
  | .int _, _ => trivial
  | .name x, q => h x q
  | .gone _, q => q
  | .op _ _ _, q => ⟨wf_mono h q.1, wf_mono h q.2⟩
  | .fn x _ _ _, q => ⟨h x q.1, q.2.1, q.2.2.1, wf_mono h q.2.2.2⟩
  | .split x y _ _, q => ⟨h x q.1, h y q.2.1, wf_mono h q.2.2.1, wf_mono h q.2.2.2⟩
  | .pre _ _ _, q => ⟨q.1, wf_mono h q.2⟩
  | .case _ x _ y _, q => ⟨h x q.1, h y q.2.1, wf_mono h q.2.2.1, wf_mono h q.2.2.2.1, wf_mono h q.2.2.2.2⟩
  | .box _ _, q => ⟨q.1, wf_mono h q.2⟩
  | .unbox x _ _, q => ⟨h x q.1, wf_mono h q.2.1, wf_mono h q.2.2⟩
  | .test _ _ _, q => ⟨wf_mono h q.1, wf_mono h q.2.1, wf_mono h q.2.2⟩
  | .rep _ x _ _ _, q => ⟨h x q.1, q.2.1, wf_mono h q.2.2.1, wf_mono h q.2.2.2.1, wf_mono h q.2.2.2.2⟩
theorem kd8 {A : Kd} (h : A.Wf ∧ A.depth ≤ 8) {m : Nat} (l : 8 ≤ m) : UE.gd m A.d := (kd_gd A h.1).mono (by have := h.2; omega)
theorem nl_gd {N : List Str} (hN : ∀ z ∈ N, PyData.strOk z = true) : ∀ {t : Tm} (bs : List Str) (n : Nat), t.depth + 9 ≤ n → t.Wf N → UE.gd n (t.nl noim bs)
  | .int i, bs, n + 1, _, _ => UE.gd_list (UE.gda_cons (s_gd (by decide +kernel)) (UE.gda_cons (UE.gd_int _) UE.gda_nil))
  | .name x, bs, n + 1, _, h => by
    show UE.gd _ (nmD noim bs x)
    unfold nmD
    cases loc bs x with
    | some k => exact UE.gd_list (UE.gda_cons (s_gd (by decide +kernel)) (UE.gda_cons (UE.gd_int _) UE.gda_nil))
    | none => exact UE.gd_list (UE.gda_cons (s_gd (by decide +kernel)) (UE.gda_cons (s_gd (hN x h)) UE.gda_nil))
  | .gone A, bs, n + 1, l, h => UE.gd_list (UE.gda_cons (s_gd (by decide +kernel)) (UE.gda_cons (kd8 h (by simp only [Tm.depth] at l; omega)) UE.gda_nil))
  | .op o a b, bs, n + 1, l, h => UE.gd_list (UE.gda_cons (s_gd (by cases o <;> decide +kernel)) (UE.gda_cons (nl_gd hN _ _ (by simp only [Tm.depth] at l; omega) h.1) (UE.gda_cons (nl_gd hN _ _ (by simp only [Tm.depth] at l; omega) h.2) UE.gda_nil)))
  | .fn x g A b, bs, n + 1, l, h => UE.gd_list (UE.gda_cons (s_gd (by decide +kernel)) (UE.gda_cons (s_gd (gr_str h.2.1)) (UE.gda_cons (kd8 h.2.2.1 (by simp only [Tm.depth] at l; omega)) (UE.gda_cons (nl_gd hN _ _ (by simp only [Tm.depth] at l; omega) h.2.2.2) UE.gda_nil))))
  | .split x y e b, bs, n + 1, l, h => UE.gd_list (UE.gda_cons (s_gd (by decide +kernel)) (UE.gda_cons (nl_gd hN _ _ (by simp only [Tm.depth] at l; omega) h.2.2.1) (UE.gda_cons (nl_gd hN _ _ (by simp only [Tm.depth] at l; omega) h.2.2.2) UE.gda_nil)))
  | .pre o A a, bs, n + 1, l, h => UE.gd_list (UE.gda_cons (s_gd (by cases o <;> decide +kernel)) (UE.gda_cons (kd8 h.1 (by simp only [Tm.depth] at l; omega)) (UE.gda_cons (nl_gd hN _ _ (by simp only [Tm.depth] at l; omega) h.2) UE.gda_nil)))
  | .case e x a y b, bs, n + 1, l, h => UE.gd_list (UE.gda_cons (s_gd (by decide +kernel)) (UE.gda_cons (nl_gd hN _ _ (by simp only [Tm.depth] at l; omega) h.2.2.1) (UE.gda_cons (nl_gd hN _ _ (by simp only [Tm.depth] at l; omega) h.2.2.2.1) (UE.gda_cons (nl_gd hN _ _ (by simp only [Tm.depth] at l; omega) h.2.2.2.2) UE.gda_nil))))
  | .box g e, bs, n + 1, l, h => UE.gd_list (UE.gda_cons (s_gd (by decide +kernel)) (UE.gda_cons (s_gd (gr_str (.inr h.1))) (UE.gda_cons (nl_gd hN _ _ (by simp only [Tm.depth] at l; omega) h.2) UE.gda_nil)))
  | .unbox x e b, bs, n + 1, l, h => UE.gd_list (UE.gda_cons (s_gd (by decide +kernel)) (UE.gda_cons (nl_gd hN _ _ (by simp only [Tm.depth] at l; omega) h.2.1) (UE.gda_cons (nl_gd hN _ _ (by simp only [Tm.depth] at l; omega) h.2.2) UE.gda_nil)))
  | .test e a b, bs, n + 1, l, h => UE.gd_list (UE.gda_cons (s_gd (by decide +kernel)) (UE.gda_cons (nl_gd hN _ _ (by simp only [Tm.depth] at l; omega) h.1) (UE.gda_cons (nl_gd hN _ _ (by simp only [Tm.depth] at l; omega) h.2.1) (UE.gda_cons (nl_gd hN _ _ (by simp only [Tm.depth] at l; omega) h.2.2) UE.gda_nil))))
  | .rep e x g z s, bs, n + 1, l, h => UE.gd_list (UE.gda_cons (s_gd (by decide +kernel)) (UE.gda_cons (s_gd (gr_str h.2.1)) (UE.gda_cons (nl_gd hN _ _ (by simp only [Tm.depth] at l; omega) h.2.2.1) (UE.gda_cons (nl_gd hN _ _ (by simp only [Tm.depth] at l; omega) h.2.2.2.1) (UE.gda_cons (nl_gd hN _ _ (by simp only [Tm.depth] at l; omega) h.2.2.2.2) UE.gda_nil)))))
  | t, bs, 0, l, _ => absurd l (by omega)
theorem meetQ {bb : Bool} {ta tb : TE} {σ : L2.St} {H : Hp} {Q : VK} (B : V → Hp → Prop) (ha : ∀ Q' : VK, (∀ v H', B v H' → Q' v H') → ta σ H Q') (hb : ∀ Q' : VK, (∀ v H', B v H' → Q' v H') → tb σ H Q') (k : ∀ v H', B v H' → Q v H') : if bb = true then ta σ H Q else tb σ H Q := by
  cases bb
  · exact iteF (hb Q k)
  · exact iteT (ha Q k)
theorem img0 {K : PySem.W.Frag} {Z : Hp} {p : Addr} (h : Z p = some (.dK [])) : ImgAt K Z p noim := ⟨[], h, fun x => .inl ⟨rfl, rfl⟩⟩
section
variable {P : Program} {w : World} {K : PySem.W.Frag} {mg : Str → Option Value} {base : Heap} {DT DB : Addr}
theorem sc_law : FnScope ["_law_script", "_law_state", "_law_names", "_law_first", "_law_pick", "_law_name", "_law_new", "_law_second", "_law_due", "_law_found", "_law_k", "_law_told"] ["_law_script"] (defScope (top 23)) := ⟨rfl, rfl, rfl, by decide +kernel, rfl, by decide +kernel, by decide +kernel⟩
theorem st_law (v0 : V) : L2.start ["_law_script", "_law_state", "_law_names", "_law_first", "_law_pick", "_law_name", "_law_new", "_law_second", "_law_due", "_law_found", "_law_k", "_law_told"] [v0] = [some v0, none, none, none, none, none, none, none, none, none, none, none] := rfl
theorem ok_law {f : Addr} {fd : FuncData} (F : Fun K "law" "law" (top 23) f fd) (T : TxT K w mg DT DB) (c__law_draws : Cal P w K mg base CX0 1 "_law_draws" (spDraws K)) (c__law_draw : Cal P w K mg base CX0 1 "_law_draw" spDraw) (c__law_word : Cal P w K mg base CX0 2 "_law_word" spWord)
    (c__law_rough : Cal P w K mg base CX0 9 "_law_rough" (spRough K 3)) (c__law_nameless : Cal P w K mg base CX0 5 "_law_nameless" (spNl K noim 4)) (c__law_renamed : Cal P w K mg base CX0 5 "_law_renamed" (spRen K 4)) (c__law_under : Cal P w K mg base CX0 5 "_law_under" (spUnd K 4))
    (c__law_bent : Cal P w K mg base CX0 8 "_law_bent" (spBent K 4)) (c_alike : Cal P w K mg base CX0 3 "alike" (spAlike K)) : FnOk P w K mg base CX0 10 f fd ["_law_script"] (spLaw K) := by
  refine F.ok sc_law (fun vs H Q E h => ?_) (fun cdv A outer s H vs Q E hr h => ?_)
  · obtain ⟨a, ns, rfl, _⟩ := h
    rfl
  · obtain ⟨a, ns, rfl, hS, hlen, k⟩ := h
    refine ⟨_, (pss_cons (ps_set (i := 1) sc_law.nd rfl (Or.inr rfl) (pe_c c__law_draws hr (by decide) (by rfl) (pa_cons (pv 0) pa_nil)))
      (pss_cons (ps_setLc (i := 2) (own := [("_law_k", 10)]) (g := (gName 10)) (by rfl) sc_law.nd rfl rfl (sw_true rfl rfl rfl (by decide +kernel)) (pi_range1 (by rfl) T.range (pa_cons (pe_op op_add pe_int (pe_c c__law_draw hr (by decide) (by rfl) (pa_cons (pv 1) (pa_cons pe_int pa_nil)))) pa_nil)) (blkOk_by (own := [("_law_k", 10)]) (N := ["_law_script", "_law_state", "_law_names", "_law_first", "_law_pick", "_law_name", "_law_new", "_law_second", "_law_due", "_law_found", "_law_k", "_law_told"]) (sc := defScope (top 23)) (by decide +kernel)) (fun _ _ _ _ _ => (pg_name (i := 10) sc_law.nd rfl (Or.inl rfl))) (fun _ _ _ _ _ => pts_nil) (fun _ _ _ _ _ => (pe_c c__law_word hr (by decide) (by rfl) (pa_cons (pv 1) pa_nil))))
      (pss_cons (ps_set (i := 3) sc_law.nd rfl (Or.inl rfl) (pe_c c__law_rough hr (by decide) (by rfl) (pa_cons (pv 1) (pa_cons (pv 2) (pa_cons pe_int pa_nil)))))
      (pss_cons (ps_set (i := 4) sc_law.nd rfl (Or.inl rfl) (pe_c c__law_draw hr (by decide) (by rfl) (pa_cons (pv 1) (pa_cons pe_int pa_nil))))
      (pss_cons (ps_set (i := 5) sc_law.nd rfl (Or.inl rfl) (pe_ix ix_list (pv 2) (pe_c c__law_draw hr (by decide) (by rfl) (pa_cons (pv 1) (pa_cons (pe_callB (V.call_len K rfl) (by rfl) T.len (by decide +kernel) (pa_cons (pv 2) pa_nil)) pa_nil))) (fun _ _ => rfl)))
      (pss_cons (ps_set (i := 6) sc_law.nd rfl (Or.inl rfl) (pe_ifExp (pt_cmpR op_eq (pe_c c__law_draw hr (by decide) (by rfl) (pa_cons (pv 1) (pa_cons pe_int pa_nil))) pe_int (nomark _)) (pe_c c__law_word hr (by decide) (by rfl) (pa_cons (pv 1) pa_nil)) (pe_ix ix_list (pv 2) (pe_c c__law_draw hr (by decide) (by rfl) (pa_cons (pv 1) (pa_cons (pe_callB (V.call_len K rfl) (by rfl) T.len (by decide +kernel) (pa_cons (pv 2) pa_nil)) pa_nil))) (fun _ _ => rfl))))
      (pss_cons (ps_set (i := 7) sc_law.nd rfl (Or.inl rfl) (pe_c c__law_under hr (by decide) (by rfl) (pa_cons (pv 3) (pa_cons (pv 5) (pa_cons (pv 6) (pa_cons (pe_c c__law_draw hr (by decide) (by rfl) (pa_cons (pv 1) (pa_cons pe_int pa_nil))) pa_nil))))))
      (pss_cons (ps_if (pt_cmpR op_eq (pv 4) pe_int (nomark _)) (pss_one (ps_set (i := 7) sc_law.nd rfl (Or.inl rfl) (pe_c c__law_renamed hr (by decide) (by rfl) (pa_cons (pv 3) (pa_cons (pv 5) (pa_cons (pv 6) pa_nil)))))) pss_nil)
      (pss_cons (ps_if (pt_cmpR op_eq (pv 4) pe_int (nomark _)) (pss_one (ps_set (i := 7) sc_law.nd rfl (Or.inl rfl) (pe_c c__law_bent hr (by decide) (by rfl) (pa_cons (pv 1) (pa_cons (pv 3) (pa_cons (pv 2) pa_nil)))))) pss_nil)
      (pss_cons (ps_if (pt_cmpR op_eq (pv 4) pe_int (nomark _)) (pss_one (ps_set (i := 7) sc_law.nd rfl (Or.inl rfl) (pe_c c__law_bent hr (by decide) (by rfl) (pa_cons (pv 1) (pa_cons (pe_c c__law_under hr (by decide) (by rfl) (pa_cons (pv 3) (pa_cons (pv 5) (pa_cons (pv 6) (pa_cons (pe_c c__law_draw hr (by decide) (by rfl) (pa_cons (pv 1) (pa_cons pe_int pa_nil))) pa_nil))))) (pa_cons (pv 2) pa_nil)))))) pss_nil)
      (pss_cons (ps_set (i := 8) sc_law.nd rfl (Or.inl rfl) (pe_cmpR (op_eqD hr.units) (pe_c c__law_nameless hr (by decide) (by rfl) (pa_cons (pv 3) (pa_cons (pe_lst pa_nil) (pa_cons pe_dnewK pa_nil)))) (pe_c c__law_nameless hr (by decide) (by rfl) (pa_cons (pv 7) (pa_cons (pe_lst pa_nil) (pa_cons pe_dnewK pa_nil)))) (nomark _)))
      (pss_cons (ps_set (i := 9) sc_law.nd rfl (Or.inl rfl) (pe_lst (pa_cons (pe_c c_alike hr (by decide) (by rfl) (pa_cons (pv 3) (pa_cons (pv 7) pa_nil))) (pa_cons (pe_c c_alike hr (by decide) (by rfl) (pa_cons (pv 7) (pa_cons (pv 3) pa_nil))) (pa_cons (pe_c c_alike hr (by decide) (by rfl) (pa_cons (pv 3) (pa_cons (pv 3) pa_nil))) (pa_cons (pe_c c_alike hr (by decide) (by rfl) (pa_cons (pv 7) (pa_cons (pv 7) pa_nil))) pa_nil))))))
      (pss_one (ps_ret (pe_and (pe_cmpR (op_eqD hr.units) (pv 9) (pe_lst (pa_cons (pv 8) (pa_cons (pv 8) (pa_cons pe_bl (pa_cons pe_bl pa_nil))))) (nomark _)) (pe_one (pe_cmpR op_notIn_seq pe_bl (pe_lc (own := [("_law_told", 11)]) (g := (gName 11)) (by rfl) sc_law.nd (pi_list (pv 9)) (blkOk_by (own := [("_law_told", 11)]) (N := ["_law_script", "_law_state", "_law_names", "_law_first", "_law_pick", "_law_name", "_law_new", "_law_second", "_law_due", "_law_found", "_law_k", "_law_told"]) (sc := defScope (top 23)) (by decide +kernel)) (fun _ _ _ _ _ => (pg_name (i := 11) sc_law.nd rfl (Or.inl rfl))) (fun _ _ _ _ _ => pts_nil) (fun _ _ _ _ _ => (pe_callB (call_isiKn K rfl) (by rfl) T.isinstance (by decide +kernel) (pa_cons (pv 11) (pa_cons (pe_bltn (v := .ty "bool") (by rfl) T.bool (by decide +kernel) rfl) pa_nil))))) (by rfl)))))))))))))))))), ?_⟩
    rw [st_law]
    have w00 := V.Hw.start (H := H)
    repeat walk_at "w"
    refine ⟨a, ns, rfl, hS, hlen, fun S0 T2 H0 nS nT st0 e0 => ?_⟩
    have w0 := V.Hw.startD st0
    have hS := sql_cut hS nS nT e0
    generalize V.cut H0 [S0, T2] = Z0 at w0 hS
    repeat walk_at "w"
    intro n H1 n0 n1 w1
    obtain ⟨n, rfl⟩ := Int.eq_ofNat_of_zero_le n0
    repeat walk_at "w"
    refine V.w_ir1 (n := 1 + n) (by omega) (by omega) ?_
    refine V.lcRG (n := 1 + n) (fun i _ acc => ∃ N : List Str, N.length = i ∧ acc = N.map V.str ∧ ∀ z ∈ N, NmOk z) w1 (by walk_at "wi") ⟨[], rfl, rfl, by simp⟩ ?_ ?_
    · rintro i D Z1 H2 acc hi e1 ⟨N, rfl, rfl, hN⟩ w2
      repeat walk_at "w"
      refine ⟨rfl, ?_⟩
      repeat walk_at "w"
      refine ⟨Z1, S0, T2, _, rfl, w2, fun z H3 hz w3 => ?_⟩
      refine V.w_accG w3 (.refl _) e1 (small1000 (by rw [List.length_map]; omega)) ⟨N ++ [z], by simp, by rw [List.map_append]; rfl, fun y hy => ?_⟩
      rcases List.mem_append.mp hy with hy | hy
      · exact hN y hy
      · rw [List.mem_singleton] at hy; subst hy; exact hz
    · rintro nm Z1 H2 acc e1 ⟨N, Nl, rfl, hN⟩ w2
      obtain ⟨w2, s2, hnm⟩ := w2.frz
      generalize upd Z1 nm (.lst (N.map V.str)) = Z2 at w2 s2 hnm
      have hNl : (N.map V.str).length = N.length := List.length_map ..
      repeat walk_at "w"
      refine ⟨Z2, S0, T2, nm, _, N, rfl, w2, hnm, by omega, by omega, fun v1 t Z3 H3 s3 w3 hv1 wt dt zt => ?_⟩
      have rs3 : rsz 3 = 40 := rfl
      rw [rs3] at zt
      have hnm3 := s3 _ _ hnm
      repeat walk_at "w"
      intro ip H4 ip0 ip1 w4
      repeat walk_at "w"
      intro ix H5 ix0 ix1 w5
      obtain ⟨x, x1, x2⟩ := lit_at (zs := N) ix0 (by omega)
      repeat walk_at "w"
      intro ic H6 ic0 ic1 w6
      repeat walk_at "w"
      refine meetQ (fun v H' => ∃ y, v = .str y ∧ NmOk y ∧ V.Hw Z3 (some (S0, T2)) H' []) ?_ ?_ ?_
      · intro Q' hQ
        repeat walk_at "w"
        exact ⟨Z3, S0, T2, _, rfl, w6, fun z H7 hz w7 => hQ _ _ ⟨z, rfl, hz, w7⟩⟩
      · intro Q' hQ
        repeat walk_at "w"
        intro iy H7 iy0 iy1 w7
        obtain ⟨y, y1, y2⟩ := lit_at (zs := N) iy0 (by omega)
        repeat walk_at "w"
        exact hQ _ _ ⟨y, rfl, hN y (List.mem_of_getElem? y1), w7⟩
      rintro _ H7 ⟨y, rfl, hy, w7⟩
      have hN' : ∀ z ∈ N ++ [y], PyData.strOk z = true := fun z hz => by
        rcases List.mem_append.mp hz with q | q
        · exact str_ok (hN z q)
        · rw [List.mem_singleton.mp q]; exact str_ok hy
      have wt' : t.Wf (N ++ [y]) := wf_mono (fun z hz => List.mem_append_left _ hz) wt
      have yN : y ∈ N ++ [y] := by simp
      have NN : ∀ z ∈ N, z ∈ N ++ [y] := fun z hz => List.mem_append_left _ hz
      repeat walk_at "w"
      intro i8 H8 i80 i81 w8
      repeat walk_at "w"
      refine ⟨Z3, some (S0, T2), [], v1, t, x, y, i8, N ++ [y], rfl, w8, hv1, wt', yN, by omega, fun v2 u Z9 H9 s9 w9 hv2 wu sm => ?_⟩
      repeat walk_at "m"
      (try ((with_reducible show Ends.nx _ _ _); dsimp only))
      refine UM.meetI (fun σ' H' => ∃ (Z' : Hp) (v2 : V) (u : Tm), σ' = [some (.ref a), some (.ref S0), some (.ref nm), some v1, some (.int ip), some (.str x), some (.str y), some v2, none, none, none, none] ∧ Same Z3 Z' ∧ V.Hw Z' (some (S0, T2)) H' [] ∧ TmAt K Z' v2 u ∧ u.Wf (N ++ [y]) ∧ Sm u t) ?_ ?_
      · intro D' hD _ _ _
        repeat walk_at "w"
        refine ifD (fun ee => ?_) (fun ee => ?_)
        · repeat walk_at "w"
          refine ⟨Z9, some (S0, T2), [], v1, t, x, y, N ++ [y], rfl, w9, hv1.mono s9, wt', yN, by omega, fun v2 u Z10 H10 s10 w10 hv2 wu sm => ?_⟩
          repeat walk_at "w"
          exact hD _ _ ⟨Z10, v2, u, rfl, fun b o e => s10 _ _ (s9 _ _ e), w10, hv2, wu, sm⟩
        · repeat walk_at "w"
          exact hD _ _ ⟨Z9, v2, u, rfl, s9, w9, hv2, wu, sm⟩
      rintro σ' H10 ⟨Z10, v2, u, rfl, s10, w10, hv2, wu, sm⟩
      have hnm10 := s10 _ _ hnm3
      repeat walk_at "m"
      (try ((with_reducible show Ends.nx _ _ _); dsimp only))
      refine UM.meetI (fun σ' H' => ∃ (Z' : Hp) (v2 : V) (u : Tm), σ' = [some (.ref a), some (.ref S0), some (.ref nm), some v1, some (.int ip), some (.str x), some (.str y), some v2, none, none, none, none] ∧ Same Z3 Z' ∧ V.Hw Z' (some (S0, T2)) H' [] ∧ TmAt K Z' v2 u ∧ u.Wf (N ++ [y]) ∧ Sm u t) ?_ ?_
      · intro D' hD _ _ _
        repeat walk_at "w"
        refine ifD (fun ee => ?_) (fun ee => ?_)
        · repeat walk_at "w"
          refine ⟨Z10, S0, T2, [], v1, t, nm, N, N ++ [y], rfl, w10, hv1.mono s10, wt', hnm10, by omega, by omega, NN, by omega, fun v2 u Z11 H11 s11 w11 hv2 wu sm => ?_⟩
          repeat walk_at "w"
          exact hD _ _ ⟨Z11, v2, u, rfl, fun b o e => s11 _ _ (s10 _ _ e), w11, hv2, wu, sm⟩
        · repeat walk_at "w"
          exact hD _ _ ⟨Z10, v2, u, rfl, s10, w10, hv2, wu, sm⟩
      rintro σ' H11 ⟨Z11, v2, u, rfl, s11, w11, hv2, wu, sm⟩
      have hnm11 := s11 _ _ hnm3
      repeat walk_at "m"
      (try ((with_reducible show Ends.nx _ _ _); dsimp only))
      refine UM.meetI (fun σ' H' => ∃ (Z' : Hp) (v2 : V) (u : Tm), σ' = [some (.ref a), some (.ref S0), some (.ref nm), some v1, some (.int ip), some (.str x), some (.str y), some v2, none, none, none, none] ∧ Same Z3 Z' ∧ V.Hw Z' (some (S0, T2)) H' [] ∧ TmAt K Z' v2 u ∧ u.Wf (N ++ [y]) ∧ Sm u t) ?_ ?_
      · intro D' hD _ _ _
        repeat walk_at "w"
        refine ifD (fun ee => ?_) (fun ee => ?_)
        · repeat walk_at "w"
          intro i12 H12 i120 i121 w12
          repeat walk_at "w"
          refine ⟨Z11, some (S0, T2), [], v1, t, x, y, i12, N ++ [y], rfl, w12, hv1.mono s11, wt', yN, by omega, fun v2 u Z13 H13 s13 w13 hv2 wu sm => ?_⟩
          repeat walk_at "w"
          have smd := sm.1
          refine ⟨Z13, S0, T2, [], v2, u, nm, N, N ++ [y], rfl, w13, hv2, wu, s13 _ _ hnm11, by omega, by omega, NN, by omega, fun v3 u3 Z14 H14 s14 w14 hv3 wu3 sm3 => ?_⟩
          repeat walk_at "w"
          exact hD _ _ ⟨Z14, v3, u3, rfl, fun b o e => s14 _ _ (s13 _ _ (s11 _ _ e)), w14, hv3, wu3, ⟨Nat.le_trans sm3.1 sm.1, Nat.le_trans sm3.2 sm.2⟩⟩
        · repeat walk_at "w"
          exact hD _ _ ⟨Z11, v2, u, rfl, s11, w11, hv2, wu, sm⟩
      rintro σ' H12 ⟨Z12, v2, u, rfl, s12, w12, hv2, wu, sm⟩
      have hnm12 := s12 _ _ hnm3
      have w12 : V.Hw Z12 none H12 [] := ⟨w12.fr, w12.ok, trivial⟩
      have hv1 := hv1.mono s12
      obtain ⟨sm1, sm2⟩ := sm
      have g1 : UE.gd 13 (nls [] t) := nl_gd hN' [] 13 (by omega) wt'
      have g2 : UE.gd 13 (nls [] u) := nl_gd hN' [] 13 (by omega) wu
      repeat walk_at "w"
      intro q1 H13 n13 w13
      obtain ⟨w13, s13, h13⟩ := w13.frz
      repeat walk_at "w"
      refine UM.w_dnew w13 fun d1 H14 n14 w14 => ?_
      obtain ⟨w14, s14, h14⟩ := w14.frz
      repeat walk_at "w"
      refine ⟨_, none, [], v1, t, q1, d1, [], rfl, w14, (hv1.mono s13).mono s14, by omega, s14 _ _ h13, img0 h14, by simp; omega, fun v15 Z15 H15 s15 w15 dp15 => ?_⟩
      have z15 : Same Z12 Z15 := fun b o e => s15 _ _ (s14 _ _ (s13 _ _ e))
      repeat walk_at "w"
      intro q2 H16 n16 w16
      obtain ⟨w16, s16, h16⟩ := w16.frz
      repeat walk_at "w"
      refine UM.w_dnew w16 fun d2 H17 n17 w17 => ?_
      obtain ⟨w17, s17, h17⟩ := w17.frz
      repeat walk_at "w"
      refine ⟨_, none, [], v2, u, q2, d2, [], rfl, w17, ((hv2.mono z15).mono s16).mono s17, by omega, s17 _ _ h16, img0 h17, by simp; omega, fun v18 Z18 H18 s18 w18 dp18 => ?_⟩
      have z18 : Same Z15 Z18 := fun b o e => s18 _ _ (s17 _ _ (s16 _ _ e))
      refine ⟨nls [] t, nls [] u, (dp15.mono z18).mono w18.fr, dp18.mono w18.fr, g1.sh (by decide), g2.sh (by decide), ?_⟩
      have hv1 := (hv1.mono z15).mono z18
      have hv2 := (hv2.mono z15).mono z18
      repeat walk_at "w"
      refine ⟨Z18, v1, v2, t, u, N ++ [y], rfl, w18.fr, hv1, hv2, wt', wu, by omega, fun H19 s19 => ?_⟩
      have w19 := w18.call s19
      repeat walk_at "w"
      refine ⟨Z18, v2, v1, u, t, N ++ [y], rfl, w19.fr, hv2, hv1, wu, wt', by omega, fun H20 s20 => ?_⟩
      have w20 := w19.call s20
      repeat walk_at "w"
      refine ⟨Z18, v1, v1, t, t, N ++ [y], rfl, w20.fr, hv1, hv1, wt', wt', by omega, fun H21 s21 => ?_⟩
      have w21 := w20.call s21
      repeat walk_at "w"
      refine ⟨Z18, v2, v2, u, u, N ++ [y], rfl, w21.fr, hv2, hv2, wu, wu, by omega, fun H22 s22 => ?_⟩
      have w22 := w21.call s22
      repeat walk_at "w"
      rw [PySem.W.eqv_comm (nls [] u) (nls [] t), SeqAt.eqv_refl _ g1.1, SeqAt.eqv_refl _ g2.1]
      generalize PyData.eqv (nls [] t) (nls [] u) = due
      intro D H23 n23 w23
      obtain ⟨w23, s23, h23⟩ := w23.frz
      repeat walk_at "w"
      intro q3 H24 n24 w24
      have gb : UE.gd 1 (.list [.bool due, .bool due, .bool true, .bool true]) := UE.gd_list (UE.gda_cons (UE.gd_bool _) (UE.gda_cons (UE.gd_bool _) (UE.gda_cons (UE.gd_bool _) (UE.gda_cons (UE.gd_bool _) UE.gda_nil))))
      refine ⟨.list [.bool due, .bool due, .bool true, .bool true], .list [.bool due, .bool due, .bool true, .bool true], .lst (SqL.of (w24.fro h23)) (.cons (.bl _) (.cons (.bl _) (.cons (.bl _) (.cons (.bl _) .nil)))), .lst (SqL.of (w24.get .here)) (.cons (.bl _) (.cons (.bl _) (.cons (.bl _) (.cons (.bl _) .nil)))), gb.sh (by decide), gb.sh (by decide), ?_⟩
      rw [SeqAt.eqv_refl _ gb.1]
      repeat walk_at "w"
      refine V.lcW (fun i => List.replicate i (V.bl true)) w24 (by walk_at "wi") (fun H' w' => SqL.of (w'.fro h23)) rfl ?_ ?_
      · intro i xx Dd H25 hx w25
        have il : i < 4 := (List.getElem?_eq_some_iff.mp hx).1
        obtain ⟨b, rfl⟩ : ∃ b, xx = .bl b := by
          match i, hx with
          | 0, hx => cases hx; exact ⟨_, rfl⟩
          | 1, hx => cases hx; exact ⟨_, rfl⟩
          | 2, hx => cases hx; exact ⟨_, rfl⟩
          | 3, hx => cases hx; exact ⟨_, rfl⟩
          | i + 4, _ => omega
        repeat walk_at "w"
        refine ⟨rfl, ?_⟩
        repeat walk_at "w"
        refine ⟨_, _, _, _, true, rfl, .ty _, .base (.bl b), kit_ty (by decide +kernel), ?_⟩
        refine V.w_acc w25 (.refl _) (small1000 (by rw [List.length_replicate]; omega)) (List.replicate_succ' ..)
      · intro Dd H25 w25
        repeat walk_at "w"
        refine V.w_notInL (SqL.of (w25.get .here)) rfl rfl ?_
        exact k _
end
/-! ### k26: the end -/
theorem cal_no {P : Program} {w : World} {K : PySem.W.Frag} {mg : Str → Option Value} {base : Heap} {CX : CXT} {k : Nat} {f : Addr} {fd : FuncData} {ps : List Str} {x : Str} {sp : Sp} (hn : ∀ vs H Q E, sp vs H Q E → False) (hm : mg x = some (.ref f)) (kp : PySem.W.keepIn K (.ref f) = true) (b : Binds K fd ps []) :
    Cal P w K mg base CX k x sp := ⟨f, fd, ps, ⟨fun _ _ _ _ h => (hn _ _ _ _ h).elim, fun _ _ _ _ _ _ _ _ _ _ _ _ _ h => (hn _ _ _ _ h).elim⟩, hm, kp, b⟩
theorem dp_pos (t : UK.Tm) : 0 < t.depth := by rw [t.depth_parts]; exact Nat.succ_pos _
theorem all_mk {l : PySem.W.OpenLaw} {w : World} {K : PySem.W.Frag} {h : Heap} {mg : Str → Option Value} {fa : Addr} (X : K.In h) (G : h.Ns mainGlobals mg) (hfa : mg "law" = some (.ref fa))
    {f_part_positions : Addr} {oc_part_positions kV_part_positions dc_part_positions pm_part_positions cd_part_positions ct_part_positions : Value} {od_part_positions an_part_positions : Option Addr} {sl_part_positions : Array (Option Value)}
    {f_term_parts : Addr} {oc_term_parts kV_term_parts dc_term_parts pm_term_parts cd_term_parts ct_term_parts : Value} {od_term_parts an_term_parts : Option Addr} {sl_term_parts : Array (Option Value)}
    {f_binder_positions : Addr} {oc_binder_positions kV_binder_positions dc_binder_positions pm_binder_positions cd_binder_positions ct_binder_positions : Value} {od_binder_positions an_binder_positions : Option Addr} {sl_binder_positions : Array (Option Value)}
    {f_grades_and_kinds : Addr} {oc_grades_and_kinds kV_grades_and_kinds dc_grades_and_kinds pm_grades_and_kinds cd_grades_and_kinds ct_grades_and_kinds : Value} {od_grades_and_kinds an_grades_and_kinds : Option Addr} {sl_grades_and_kinds : Array (Option Value)}
    {f_same_outside : Addr} {oc_same_outside kV_same_outside dc_same_outside pm_same_outside cd_same_outside ct_same_outside : Value} {od_same_outside an_same_outside : Option Addr} {sl_same_outside : Array (Option Value)}
    {f_alike : Addr} {oc_alike kV_alike dc_alike pm_alike cd_alike ct_alike : Value} {od_alike an_alike : Option Addr} {sl_alike : Array (Option Value)}
    {f__law_draws : Addr} {oc__law_draws kV__law_draws dc__law_draws pm__law_draws cd__law_draws ct__law_draws : Value} {od__law_draws an__law_draws : Option Addr} {sl__law_draws : Array (Option Value)}
    {f__law_draw : Addr} {oc__law_draw kV__law_draw dc__law_draw pm__law_draw cd__law_draw ct__law_draw : Value} {od__law_draw an__law_draw : Option Addr} {sl__law_draw : Array (Option Value)}
    {f__law_word : Addr} {oc__law_word kV__law_word dc__law_word pm__law_word cd__law_word ct__law_word : Value} {od__law_word an__law_word : Option Addr} {sl__law_word : Array (Option Value)}
    {f__law_rough_grade : Addr} {oc__law_rough_grade kV__law_rough_grade dc__law_rough_grade pm__law_rough_grade cd__law_rough_grade ct__law_rough_grade : Value} {od__law_rough_grade an__law_rough_grade : Option Addr} {sl__law_rough_grade : Array (Option Value)}
    {f__law_rough_kind : Addr} {oc__law_rough_kind kV__law_rough_kind dc__law_rough_kind pm__law_rough_kind cd__law_rough_kind ct__law_rough_kind : Value} {od__law_rough_kind an__law_rough_kind : Option Addr} {sl__law_rough_kind : Array (Option Value)}
    {f__law_rough : Addr} {oc__law_rough kV__law_rough dc__law_rough pm__law_rough cd__law_rough ct__law_rough : Value} {od__law_rough an__law_rough : Option Addr} {sl__law_rough : Array (Option Value)}
    {f__law_places : Addr} {oc__law_places kV__law_places dc__law_places pm__law_places cd__law_places ct__law_places : Value} {od__law_places an__law_places : Option Addr} {sl__law_places : Array (Option Value)}
    {f__law_binder_places : Addr} {oc__law_binder_places kV__law_binder_places dc__law_binder_places pm__law_binder_places cd__law_binder_places ct__law_binder_places : Value} {od__law_binder_places an__law_binder_places : Option Addr} {sl__law_binder_places : Array (Option Value)}
    {f__law_nameless : Addr} {oc__law_nameless kV__law_nameless dc__law_nameless pm__law_nameless cd__law_nameless ct__law_nameless : Value} {od__law_nameless an__law_nameless : Option Addr} {sl__law_nameless : Array (Option Value)}
    {f__law_renamed : Addr} {oc__law_renamed kV__law_renamed dc__law_renamed pm__law_renamed cd__law_renamed ct__law_renamed : Value} {od__law_renamed an__law_renamed : Option Addr} {sl__law_renamed : Array (Option Value)}
    {f__law_under : Addr} {oc__law_under kV__law_under dc__law_under pm__law_under cd__law_under ct__law_under : Value} {od__law_under an__law_under : Option Addr} {sl__law_under : Array (Option Value)}
    {f__law_bent : Addr} {oc__law_bent kV__law_bent dc__law_bent pm__law_bent cd__law_bent ct__law_bent : Value} {od__law_bent an__law_bent : Option Addr} {sl__law_bent : Array (Option Value)}
    {f_law : Addr} {oc_law kV_law dc_law pm_law cd_law ct_law : Value} {od_law an_law : Option Addr} {sl_law : Array (Option Value)}
    {DT DB : Addr} {esT esB : Array DictEntry} {nT nB : Nat}
    (a_part_positions : PySem.W.nsIn K mainGlobals "part_positions" = some (some (.ref f_part_positions)))
    (l_part_positions : K.lookup f_part_positions = some ⟨oc_part_positions, od_part_positions, .func (PySem.W.fnOf "part_positions" "part_positions" (defArgs (top 3)) (defBody (top 3)) (defScope (top 3)) .none kV_part_positions dc_part_positions pm_part_positions an_part_positions cd_part_positions ct_part_positions), sl_part_positions⟩)
    (c_part_positions : PySem.W.codeIn K cd_part_positions "part_positions" = true)
    (k_part_positions : PySem.W.keepIn K (.ref f_part_positions) = true)
    (a_term_parts : PySem.W.nsIn K mainGlobals "term_parts" = some (some (.ref f_term_parts)))
    (l_term_parts : K.lookup f_term_parts = some ⟨oc_term_parts, od_term_parts, .func (PySem.W.fnOf "term_parts" "term_parts" (defArgs (top 4)) (defBody (top 4)) (defScope (top 4)) .none kV_term_parts dc_term_parts pm_term_parts an_term_parts cd_term_parts ct_term_parts), sl_term_parts⟩)
    (c_term_parts : PySem.W.codeIn K cd_term_parts "term_parts" = true)
    (k_term_parts : PySem.W.keepIn K (.ref f_term_parts) = true)
    (a_binder_positions : PySem.W.nsIn K mainGlobals "binder_positions" = some (some (.ref f_binder_positions)))
    (l_binder_positions : K.lookup f_binder_positions = some ⟨oc_binder_positions, od_binder_positions, .func (PySem.W.fnOf "binder_positions" "binder_positions" (defArgs (top 5)) (defBody (top 5)) (defScope (top 5)) .none kV_binder_positions dc_binder_positions pm_binder_positions an_binder_positions cd_binder_positions ct_binder_positions), sl_binder_positions⟩)
    (c_binder_positions : PySem.W.codeIn K cd_binder_positions "binder_positions" = true)
    (k_binder_positions : PySem.W.keepIn K (.ref f_binder_positions) = true)
    (a_grades_and_kinds : PySem.W.nsIn K mainGlobals "grades_and_kinds" = some (some (.ref f_grades_and_kinds)))
    (l_grades_and_kinds : K.lookup f_grades_and_kinds = some ⟨oc_grades_and_kinds, od_grades_and_kinds, .func (PySem.W.fnOf "grades_and_kinds" "grades_and_kinds" (defArgs (top 6)) (defBody (top 6)) (defScope (top 6)) .none kV_grades_and_kinds dc_grades_and_kinds pm_grades_and_kinds an_grades_and_kinds cd_grades_and_kinds ct_grades_and_kinds), sl_grades_and_kinds⟩)
    (c_grades_and_kinds : PySem.W.codeIn K cd_grades_and_kinds "grades_and_kinds" = true)
    (k_grades_and_kinds : PySem.W.keepIn K (.ref f_grades_and_kinds) = true)
    (a_same_outside : PySem.W.nsIn K mainGlobals "same_outside" = some (some (.ref f_same_outside)))
    (l_same_outside : K.lookup f_same_outside = some ⟨oc_same_outside, od_same_outside, .func (PySem.W.fnOf "same_outside" "same_outside" (defArgs (top 9)) (defBody (top 9)) (defScope (top 9)) .none kV_same_outside dc_same_outside pm_same_outside an_same_outside cd_same_outside ct_same_outside), sl_same_outside⟩)
    (c_same_outside : PySem.W.codeIn K cd_same_outside "same_outside" = true)
    (k_same_outside : PySem.W.keepIn K (.ref f_same_outside) = true)
    (a_alike : PySem.W.nsIn K mainGlobals "alike" = some (some (.ref f_alike)))
    (l_alike : K.lookup f_alike = some ⟨oc_alike, od_alike, .func (PySem.W.fnOf "alike" "alike" (defArgs (top 8)) (defBody (top 8)) (defScope (top 8)) .none kV_alike dc_alike pm_alike an_alike cd_alike ct_alike), sl_alike⟩)
    (c_alike : PySem.W.codeIn K cd_alike "alike" = true)
    (k_alike : PySem.W.keepIn K (.ref f_alike) = true)
    (a__law_draws : PySem.W.nsIn K mainGlobals "_law_draws" = some (some (.ref f__law_draws)))
    (l__law_draws : K.lookup f__law_draws = some ⟨oc__law_draws, od__law_draws, .func (PySem.W.fnOf "_law_draws" "_law_draws" (defArgs (top 11)) (defBody (top 11)) (defScope (top 11)) .none kV__law_draws dc__law_draws pm__law_draws an__law_draws cd__law_draws ct__law_draws), sl__law_draws⟩)
    (c__law_draws : PySem.W.codeIn K cd__law_draws "_law_draws" = true)
    (k__law_draws : PySem.W.keepIn K (.ref f__law_draws) = true)
    (a__law_draw : PySem.W.nsIn K mainGlobals "_law_draw" = some (some (.ref f__law_draw)))
    (l__law_draw : K.lookup f__law_draw = some ⟨oc__law_draw, od__law_draw, .func (PySem.W.fnOf "_law_draw" "_law_draw" (defArgs (top 12)) (defBody (top 12)) (defScope (top 12)) .none kV__law_draw dc__law_draw pm__law_draw an__law_draw cd__law_draw ct__law_draw), sl__law_draw⟩)
    (c__law_draw : PySem.W.codeIn K cd__law_draw "_law_draw" = true)
    (k__law_draw : PySem.W.keepIn K (.ref f__law_draw) = true)
    (a__law_word : PySem.W.nsIn K mainGlobals "_law_word" = some (some (.ref f__law_word)))
    (l__law_word : K.lookup f__law_word = some ⟨oc__law_word, od__law_word, .func (PySem.W.fnOf "_law_word" "_law_word" (defArgs (top 13)) (defBody (top 13)) (defScope (top 13)) .none kV__law_word dc__law_word pm__law_word an__law_word cd__law_word ct__law_word), sl__law_word⟩)
    (c__law_word : PySem.W.codeIn K cd__law_word "_law_word" = true)
    (k__law_word : PySem.W.keepIn K (.ref f__law_word) = true)
    (a__law_rough_grade : PySem.W.nsIn K mainGlobals "_law_rough_grade" = some (some (.ref f__law_rough_grade)))
    (l__law_rough_grade : K.lookup f__law_rough_grade = some ⟨oc__law_rough_grade, od__law_rough_grade, .func (PySem.W.fnOf "_law_rough_grade" "_law_rough_grade" (defArgs (top 14)) (defBody (top 14)) (defScope (top 14)) .none kV__law_rough_grade dc__law_rough_grade pm__law_rough_grade an__law_rough_grade cd__law_rough_grade ct__law_rough_grade), sl__law_rough_grade⟩)
    (c__law_rough_grade : PySem.W.codeIn K cd__law_rough_grade "_law_rough_grade" = true)
    (k__law_rough_grade : PySem.W.keepIn K (.ref f__law_rough_grade) = true)
    (a__law_rough_kind : PySem.W.nsIn K mainGlobals "_law_rough_kind" = some (some (.ref f__law_rough_kind)))
    (l__law_rough_kind : K.lookup f__law_rough_kind = some ⟨oc__law_rough_kind, od__law_rough_kind, .func (PySem.W.fnOf "_law_rough_kind" "_law_rough_kind" (defArgs (top 15)) (defBody (top 15)) (defScope (top 15)) .none kV__law_rough_kind dc__law_rough_kind pm__law_rough_kind an__law_rough_kind cd__law_rough_kind ct__law_rough_kind), sl__law_rough_kind⟩)
    (c__law_rough_kind : PySem.W.codeIn K cd__law_rough_kind "_law_rough_kind" = true)
    (k__law_rough_kind : PySem.W.keepIn K (.ref f__law_rough_kind) = true)
    (a__law_rough : PySem.W.nsIn K mainGlobals "_law_rough" = some (some (.ref f__law_rough)))
    (l__law_rough : K.lookup f__law_rough = some ⟨oc__law_rough, od__law_rough, .func (PySem.W.fnOf "_law_rough" "_law_rough" (defArgs (top 16)) (defBody (top 16)) (defScope (top 16)) .none kV__law_rough dc__law_rough pm__law_rough an__law_rough cd__law_rough ct__law_rough), sl__law_rough⟩)
    (c__law_rough : PySem.W.codeIn K cd__law_rough "_law_rough" = true)
    (k__law_rough : PySem.W.keepIn K (.ref f__law_rough) = true)
    (a__law_places : PySem.W.nsIn K mainGlobals "_law_places" = some (some (.ref f__law_places)))
    (l__law_places : K.lookup f__law_places = some ⟨oc__law_places, od__law_places, .func (PySem.W.fnOf "_law_places" "_law_places" (defArgs (top 17)) (defBody (top 17)) (defScope (top 17)) .none kV__law_places dc__law_places pm__law_places an__law_places cd__law_places ct__law_places), sl__law_places⟩)
    (c__law_places : PySem.W.codeIn K cd__law_places "_law_places" = true)
    (k__law_places : PySem.W.keepIn K (.ref f__law_places) = true)
    (a__law_binder_places : PySem.W.nsIn K mainGlobals "_law_binder_places" = some (some (.ref f__law_binder_places)))
    (l__law_binder_places : K.lookup f__law_binder_places = some ⟨oc__law_binder_places, od__law_binder_places, .func (PySem.W.fnOf "_law_binder_places" "_law_binder_places" (defArgs (top 18)) (defBody (top 18)) (defScope (top 18)) .none kV__law_binder_places dc__law_binder_places pm__law_binder_places an__law_binder_places cd__law_binder_places ct__law_binder_places), sl__law_binder_places⟩)
    (c__law_binder_places : PySem.W.codeIn K cd__law_binder_places "_law_binder_places" = true)
    (k__law_binder_places : PySem.W.keepIn K (.ref f__law_binder_places) = true)
    (a__law_nameless : PySem.W.nsIn K mainGlobals "_law_nameless" = some (some (.ref f__law_nameless)))
    (l__law_nameless : K.lookup f__law_nameless = some ⟨oc__law_nameless, od__law_nameless, .func (PySem.W.fnOf "_law_nameless" "_law_nameless" (defArgs (top 19)) (defBody (top 19)) (defScope (top 19)) .none kV__law_nameless dc__law_nameless pm__law_nameless an__law_nameless cd__law_nameless ct__law_nameless), sl__law_nameless⟩)
    (c__law_nameless : PySem.W.codeIn K cd__law_nameless "_law_nameless" = true)
    (k__law_nameless : PySem.W.keepIn K (.ref f__law_nameless) = true)
    (a__law_renamed : PySem.W.nsIn K mainGlobals "_law_renamed" = some (some (.ref f__law_renamed)))
    (l__law_renamed : K.lookup f__law_renamed = some ⟨oc__law_renamed, od__law_renamed, .func (PySem.W.fnOf "_law_renamed" "_law_renamed" (defArgs (top 20)) (defBody (top 20)) (defScope (top 20)) .none kV__law_renamed dc__law_renamed pm__law_renamed an__law_renamed cd__law_renamed ct__law_renamed), sl__law_renamed⟩)
    (c__law_renamed : PySem.W.codeIn K cd__law_renamed "_law_renamed" = true)
    (k__law_renamed : PySem.W.keepIn K (.ref f__law_renamed) = true)
    (a__law_under : PySem.W.nsIn K mainGlobals "_law_under" = some (some (.ref f__law_under)))
    (l__law_under : K.lookup f__law_under = some ⟨oc__law_under, od__law_under, .func (PySem.W.fnOf "_law_under" "_law_under" (defArgs (top 21)) (defBody (top 21)) (defScope (top 21)) .none kV__law_under dc__law_under pm__law_under an__law_under cd__law_under ct__law_under), sl__law_under⟩)
    (c__law_under : PySem.W.codeIn K cd__law_under "_law_under" = true)
    (k__law_under : PySem.W.keepIn K (.ref f__law_under) = true)
    (a__law_bent : PySem.W.nsIn K mainGlobals "_law_bent" = some (some (.ref f__law_bent)))
    (l__law_bent : K.lookup f__law_bent = some ⟨oc__law_bent, od__law_bent, .func (PySem.W.fnOf "_law_bent" "_law_bent" (defArgs (top 22)) (defBody (top 22)) (defScope (top 22)) .none kV__law_bent dc__law_bent pm__law_bent an__law_bent cd__law_bent ct__law_bent), sl__law_bent⟩)
    (c__law_bent : PySem.W.codeIn K cd__law_bent "_law_bent" = true)
    (k__law_bent : PySem.W.keepIn K (.ref f__law_bent) = true)
    (a_law : PySem.W.nsIn K mainGlobals "law" = some (some (.ref f_law)))
    (l_law : K.lookup f_law = some ⟨oc_law, od_law, .func (PySem.W.fnOf "law" "law" (defArgs (top 23)) (defBody (top 23)) (defScope (top 23)) .none kV_law dc_law pm_law an_law cd_law ct_law), sl_law⟩)
    (c_law : PySem.W.codeIn K cd_law "law" = true)
    (k_law : PySem.W.keepIn K (.ref f_law) = true)
    (z_int : PySem.W.nsIn K mainGlobals "int" = some none)
    (z_len : PySem.W.nsIn K mainGlobals "len" = some none)
    (z_range : PySem.W.nsIn K mainGlobals "range" = some none)
    (z_isinstance : PySem.W.nsIn K mainGlobals "isinstance" = some none)
    (z_bool : PySem.W.nsIn K mainGlobals "bool" = some none)
    (z_str : PySem.W.nsIn K mainGlobals "str" = some none)
    (z_tuple : PySem.W.nsIn K mainGlobals "tuple" = some none)
    (z_list : PySem.W.nsIn K mainGlobals "list" = some none)
    (z_dict : PySem.W.nsIn K mainGlobals "dict" = some none)
    (z_sorted : PySem.W.nsIn K mainGlobals "sorted" = some none)
    (z_enumerate : PySem.W.nsIn K mainGlobals "enumerate" = some none)
    (gTF : PySem.W.nsIn K mainGlobals "TERM_FIELDS" = some (some (.ref DT)))
    (lTF : K.lookup DT = some ⟨.type "dict", none, .dict esT nT, #[]⟩)
    (klTF : PySem.W.KeysLit w.params esT.toList)
    (loTF : (DT == sysModules) = false)
    (tTF : UT.kTabW K DT UK.rowsTF UK.missTF = true)
    (gBI : PySem.W.nsIn K mainGlobals "BINDERS" = some (some (.ref DB)))
    (lBI : K.lookup DB = some ⟨.type "dict", none, .dict esB nB, #[]⟩)
    (klBI : PySem.W.KeysLit w.params esB.toList)
    (loBI : (DB == sysModules) = false)
    (tBI : UT.kTabW K DB UK.rowsBI UK.missBI = true)
    : ∃ fd : FuncData, (∀ (s : Shared) (v : Value), BindsTo s fd ⟨[v], []⟩ [("_law_script", v)]) ∧ ∀ base : Heap, K.In base → base.Ns mainGlobals mg → FnOk l.prog w K mg base CX0 10 fa fd ["_law_script"] (spLaw K) := by
  have e := hfa.symm.trans (PySem.W.mg_of X G a_law)
  cases e
  have F_part_positions := fun_mk (st := (top 3)) l_part_positions c_part_positions k_part_positions
  have g_part_positions := PySem.W.mg_of X G a_part_positions
  have b_part_positions := F_part_positions.binds (ps := ["term"]) fun _ _ _ _ _ _ us hl => match us, hl with | [_], _ => rfl
  have F_term_parts := fun_mk (st := (top 4)) l_term_parts c_term_parts k_term_parts
  have g_term_parts := PySem.W.mg_of X G a_term_parts
  have b_term_parts := F_term_parts.binds (ps := ["term"]) fun _ _ _ _ _ _ us hl => match us, hl with | [_], _ => rfl
  have F_binder_positions := fun_mk (st := (top 5)) l_binder_positions c_binder_positions k_binder_positions
  have g_binder_positions := PySem.W.mg_of X G a_binder_positions
  have b_binder_positions := F_binder_positions.binds (ps := ["term", "number"]) fun _ _ _ _ _ _ us hl => match us, hl with | [_, _], _ => rfl
  have F_grades_and_kinds := fun_mk (st := (top 6)) l_grades_and_kinds c_grades_and_kinds k_grades_and_kinds
  have g_grades_and_kinds := PySem.W.mg_of X G a_grades_and_kinds
  have b_grades_and_kinds := F_grades_and_kinds.binds (ps := ["term"]) fun _ _ _ _ _ _ us hl => match us, hl with | [_], _ => rfl
  have F_same_outside := fun_mk (st := (top 9)) l_same_outside c_same_outside k_same_outside
  have g_same_outside := PySem.W.mg_of X G a_same_outside
  have b_same_outside := F_same_outside.binds (ps := ["first", "second", "meaning", "other_meaning"]) fun _ _ _ _ _ _ us hl => match us, hl with | [_, _, _, _], _ => rfl
  have F_alike := fun_mk (st := (top 8)) l_alike c_alike k_alike
  have g_alike := PySem.W.mg_of X G a_alike
  have b_alike := F_alike.binds (ps := ["first", "second"]) fun _ _ _ _ _ _ us hl => match us, hl with | [_, _], _ => rfl
  have F__law_draws := fun_mk (st := (top 11)) l__law_draws c__law_draws k__law_draws
  have g__law_draws := PySem.W.mg_of X G a__law_draws
  have b__law_draws := F__law_draws.binds (ps := ["_law_script"]) fun _ _ _ _ _ _ us hl => match us, hl with | [_], _ => rfl
  have F__law_draw := fun_mk (st := (top 12)) l__law_draw c__law_draw k__law_draw
  have g__law_draw := PySem.W.mg_of X G a__law_draw
  have b__law_draw := F__law_draw.binds (ps := ["_law_state", "_law_many"]) fun _ _ _ _ _ _ us hl => match us, hl with | [_, _], _ => rfl
  have F__law_word := fun_mk (st := (top 13)) l__law_word c__law_word k__law_word
  have g__law_word := PySem.W.mg_of X G a__law_word
  have b__law_word := F__law_word.binds (ps := ["_law_state"]) fun _ _ _ _ _ _ us hl => match us, hl with | [_], _ => rfl
  have F__law_rough_grade := fun_mk (st := (top 14)) l__law_rough_grade c__law_rough_grade k__law_rough_grade
  have g__law_rough_grade := PySem.W.mg_of X G a__law_rough_grade
  have b__law_rough_grade := F__law_rough_grade.binds (ps := ["_law_state"]) fun _ _ _ _ _ _ us hl => match us, hl with | [_], _ => rfl
  have F__law_rough_kind := fun_mk (st := (top 15)) l__law_rough_kind c__law_rough_kind k__law_rough_kind
  have g__law_rough_kind := PySem.W.mg_of X G a__law_rough_kind
  have b__law_rough_kind := F__law_rough_kind.binds (ps := ["_law_state", "_law_depth"]) fun _ _ _ _ _ _ us hl => match us, hl with | [_, _], _ => rfl
  have F__law_rough := fun_mk (st := (top 16)) l__law_rough c__law_rough k__law_rough
  have g__law_rough := PySem.W.mg_of X G a__law_rough
  have b__law_rough := F__law_rough.binds (ps := ["_law_state", "_law_names", "_law_depth"]) fun _ _ _ _ _ _ us hl => match us, hl with | [_, _, _], _ => rfl
  have F__law_places := fun_mk (st := (top 17)) l__law_places c__law_places k__law_places
  have g__law_places := PySem.W.mg_of X G a__law_places
  have b__law_places := F__law_places.binds (ps := ["_law_head"]) fun _ _ _ _ _ _ us hl => match us, hl with | [_], _ => rfl
  have F__law_binder_places := fun_mk (st := (top 18)) l__law_binder_places c__law_binder_places k__law_binder_places
  have g__law_binder_places := PySem.W.mg_of X G a__law_binder_places
  have b__law_binder_places := F__law_binder_places.binds (ps := ["_law_head", "_law_k"]) fun _ _ _ _ _ _ us hl => match us, hl with | [_, _], _ => rfl
  have F__law_nameless := fun_mk (st := (top 19)) l__law_nameless c__law_nameless k__law_nameless
  have g__law_nameless := PySem.W.mg_of X G a__law_nameless
  have b__law_nameless := F__law_nameless.binds (ps := ["_law_term", "_law_bound", "_law_images"]) fun _ _ _ _ _ _ us hl => match us, hl with | [_, _, _], _ => rfl
  have F__law_renamed := fun_mk (st := (top 20)) l__law_renamed c__law_renamed k__law_renamed
  have g__law_renamed := PySem.W.mg_of X G a__law_renamed
  have b__law_renamed := F__law_renamed.binds (ps := ["_law_term", "_law_name", "_law_new"]) fun _ _ _ _ _ _ us hl => match us, hl with | [_, _, _], _ => rfl
  have F__law_under := fun_mk (st := (top 21)) l__law_under c__law_under k__law_under
  have g__law_under := PySem.W.mg_of X G a__law_under
  have b__law_under := F__law_under.binds (ps := ["_law_term", "_law_name", "_law_new", "_law_choice"]) fun _ _ _ _ _ _ us hl => match us, hl with | [_, _, _, _], _ => rfl
  have F__law_bent := fun_mk (st := (top 22)) l__law_bent c__law_bent k__law_bent
  have g__law_bent := PySem.W.mg_of X G a__law_bent
  have b__law_bent := F__law_bent.binds (ps := ["_law_state", "_law_term", "_law_names"]) fun _ _ _ _ _ _ us hl => match us, hl with | [_, _, _], _ => rfl
  have F_law := fun_mk (st := (top 23)) l_law c_law k_law
  have g_law := PySem.W.mg_of X G a_law
  have zn_int := PySem.W.mg_none_of X G z_int
  have zn_len := PySem.W.mg_none_of X G z_len
  have zn_range := PySem.W.mg_none_of X G z_range
  have zn_isinstance := PySem.W.mg_none_of X G z_isinstance
  have zn_bool := PySem.W.mg_none_of X G z_bool
  have zn_str := PySem.W.mg_none_of X G z_str
  have zn_tuple := PySem.W.mg_none_of X G z_tuple
  have zn_list := PySem.W.mg_none_of X G z_list
  have zn_dict := PySem.W.mg_none_of X G z_dict
  have zn_sorted := PySem.W.mg_none_of X G z_sorted
  have zn_enumerate := PySem.W.mg_none_of X G z_enumerate
  have hTF := PySem.W.mg_of X G gTF
  have hBI := PySem.W.mg_of X G gBI
  refine ⟨PySem.W.fnOf "law" "law" (defArgs (top 23)) (defBody (top 23)) (defScope (top 23)) .none kV_law dc_law pm_law an_law cd_law ct_law, fun s v => .of_eq rfl, fun base _ _ => ?_⟩
  have TL : TxL K mg := ⟨zn_int, zn_len, zn_range, zn_isinstance, zn_bool, zn_str, zn_tuple, zn_list⟩
  have TT : TxT K w mg DT DB := ⟨TL, zn_dict, zn_sorted, zn_enumerate, ⟨_, hTF, rfl⟩, ⟨_, hBI, rfl⟩, UT.wtab_of lTF klTF loTF tTF, UT.wtab_of lBI klBI loBI tBI⟩
  have c_part_positions : Cal l.prog w K mg base CX0 1 "part_positions" (spPP K) := ⟨_, _, _, ok_part_positions F_part_positions TT, g_part_positions, k_part_positions, b_part_positions⟩
  have c_term_parts : Cal l.prog w K mg base CX0 2 "term_parts" (spTP K) := ⟨_, _, _, ok_term_parts F_term_parts c_part_positions, g_term_parts, k_term_parts, b_term_parts⟩
  have c_binder_positions : Cal l.prog w K mg base CX0 1 "binder_positions" (spBP K) := ⟨_, _, _, ok_binder_positions F_binder_positions TT, g_binder_positions, k_binder_positions, b_binder_positions⟩
  have c_grades_and_kinds : Cal l.prog w K mg base CX0 1 "grades_and_kinds" (spGK K) := ⟨_, _, _, ok_gk F_grades_and_kinds TT, g_grades_and_kinds, k_grades_and_kinds, b_grades_and_kinds⟩
  have c_same_outside : Cal l.prog w K mg base CX0 2 "same_outside" (spSO K) := ⟨_, _, _, ok_so F_same_outside TT c_grades_and_kinds, g_same_outside, k_same_outside, b_same_outside⟩
  have c_alike : Cal l.prog w K mg base CX0 3 "alike" (spAlike K) := ⟨_, _, _, ok_alike F_alike TT c_term_parts c_binder_positions c_same_outside, g_alike, k_alike, b_alike⟩
  have c__law_draws : Cal l.prog w K mg base CX0 1 "_law_draws" (spDraws K) := ⟨_, _, _, ok_draws F__law_draws TL, g__law_draws, k__law_draws, b__law_draws⟩
  have c__law_draw : Cal l.prog w K mg base CX0 1 "_law_draw" spDraw := ⟨_, _, _, ok_draw F__law_draw TL, g__law_draw, k__law_draw, b__law_draw⟩
  have c__law_word : Cal l.prog w K mg base CX0 2 "_law_word" spWord := ⟨_, _, _, ok_lword F__law_word TL c__law_draw, g__law_word, k__law_word, b__law_word⟩
  have c__law_rough_grade : Cal l.prog w K mg base CX0 2 "_law_rough_grade" spGrade := ⟨_, _, _, ok_lgrade F__law_rough_grade TL c__law_draw, g__law_rough_grade, k__law_rough_grade, b__law_rough_grade⟩
  have ck0 : Cal l.prog w K mg base CX0 2 "_law_rough_kind" (fun _ _ _ _ => False) := cal_no (fun _ _ _ _ h => h) g__law_rough_kind k__law_rough_kind b__law_rough_kind
  have ck1 : Cal l.prog w K mg base CX0 3 "_law_rough_kind" (spKind K 0) := ⟨_, _, _, ok_lkind 0 _ (fun e h => absurd h (by omega)) F__law_rough_kind TL c__law_draw c__law_rough_grade ck0, g__law_rough_kind, k__law_rough_kind, b__law_rough_kind⟩
  have ck2 : Cal l.prog w K mg base CX0 4 "_law_rough_kind" (spKind K 1) := ⟨_, _, _, ok_lkind 1 _ (fun e h => by cases h; rfl) F__law_rough_kind TL c__law_draw c__law_rough_grade ck1, g__law_rough_kind, k__law_rough_kind, b__law_rough_kind⟩
  have ck3 : Cal l.prog w K mg base CX0 5 "_law_rough_kind" (spKind K 2) := ⟨_, _, _, ok_lkind 2 _ (fun e h => by cases h; rfl) F__law_rough_kind TL c__law_draw c__law_rough_grade ck2, g__law_rough_kind, k__law_rough_kind, b__law_rough_kind⟩
  have cr0 : Cal l.prog w K mg base CX0 5 "_law_rough" (fun _ _ _ _ => False) := cal_no (fun _ _ _ _ h => h) g__law_rough k__law_rough b__law_rough
  have cr1 : Cal l.prog w K mg base CX0 6 "_law_rough" (spRough K 0) := ⟨_, _, _, ok_lrough 0 _ (fun e h => absurd h (by omega)) F__law_rough TL c__law_draw c__law_rough_grade ck3 cr0, g__law_rough, k__law_rough, b__law_rough⟩
  have cr2 : Cal l.prog w K mg base CX0 7 "_law_rough" (spRough K 1) := ⟨_, _, _, ok_lrough 1 _ (fun e h => by cases h; rfl) F__law_rough TL c__law_draw c__law_rough_grade ck3 cr1, g__law_rough, k__law_rough, b__law_rough⟩
  have cr3 : Cal l.prog w K mg base CX0 8 "_law_rough" (spRough K 2) := ⟨_, _, _, ok_lrough 2 _ (fun e h => by cases h; rfl) F__law_rough TL c__law_draw c__law_rough_grade ck3 cr2, g__law_rough, k__law_rough, b__law_rough⟩
  have cr4 : Cal l.prog w K mg base CX0 9 "_law_rough" (spRough K 3) := ⟨_, _, _, ok_lrough 3 _ (fun e h => by cases h; rfl) F__law_rough TL c__law_draw c__law_rough_grade ck3 cr3, g__law_rough, k__law_rough, b__law_rough⟩
  have c__law_places : Cal l.prog w K mg base CX0 1 "_law_places" (spPlaces K) := ⟨_, _, _, ok_lplaces F__law_places TL, g__law_places, k__law_places, b__law_places⟩
  have c__law_binder_places : Cal l.prog w K mg base CX0 1 "_law_binder_places" (spBPl K) := ⟨_, _, _, ok_lbplaces F__law_binder_places TL, g__law_binder_places, k__law_binder_places, b__law_binder_places⟩
  have cn : ∀ d, Cal l.prog w K mg base CX0 (1 + d) "_law_nameless" (spNl K UN.noim d) := fun d => by
    induction d with
    | zero => exact cal_no (fun _ _ _ _ h => by
        obtain ⟨Z, so, L, v, t, pb, pi, bs, _, _, _, hd, _⟩ := h
        exact absurd (dp_pos t) (by omega)) g__law_nameless k__law_nameless b__law_nameless
    | succ d ih => exact ⟨_, _, _, ok_lnl UN.noim d _ rfl F__law_nameless TL c__law_places c__law_binder_places ih, g__law_nameless, k__law_nameless, b__law_nameless⟩
  have cR : ∀ d, Cal l.prog w K mg base CX0 (1 + d) "_law_renamed" (spRen K d) := fun d => by
    induction d with
    | zero => exact cal_no (fun _ _ _ _ h => by
        obtain ⟨Z, so, L, v, t, x, y, N, _, _, _, _, _, hd, _⟩ := h
        exact absurd (dp_pos t) (by omega)) g__law_renamed k__law_renamed b__law_renamed
    | succ d ih => exact ⟨_, _, _, ok_lren d _ rfl F__law_renamed TL c__law_places c__law_binder_places ih, g__law_renamed, k__law_renamed, b__law_renamed⟩
  have cU : ∀ d, Cal l.prog w K mg base CX0 (1 + d) "_law_under" (spUnd K d) := fun d => by
    induction d with
    | zero => exact cal_no (fun _ _ _ _ h => by
        obtain ⟨Z, so, L, v, t, x, y, c, N, _, _, _, _, _, hd, _⟩ := h
        exact absurd (dp_pos t) (by omega)) g__law_under k__law_under b__law_under
    | succ d ih => exact ⟨_, _, _, ok_lund d _ rfl F__law_under TL c__law_places c__law_binder_places (cR d) ih, g__law_under, k__law_under, b__law_under⟩
  have cB : ∀ d, Cal l.prog w K mg base CX0 (4 + d) "_law_bent" (spBent K d) := fun d => by
    induction d with
    | zero => exact cal_no (fun _ _ _ _ h => by
        obtain ⟨Z, S0, T, L, v, t, nm, M, N, _, _, _, _, _, _, _, _, hd, _⟩ := h
        exact absurd (dp_pos t) (by omega)) g__law_bent k__law_bent b__law_bent
    | succ d ih => exact ⟨_, _, _, ok_lbent d _ rfl F__law_bent TL c__law_draw c__law_rough_grade ck2 c__law_places ih, g__law_bent, k__law_bent, b__law_bent⟩
  exact ok_law F_law TT c__law_draws c__law_draw c__law_word cr4 (cn 4) (cR 4) (cU 4) (cB 4) c_alike
theorem walk {l : PySem.W.OpenLaw} {q : Program} {loose : List Str} {XP : (Str → Option Value) → Heap → Prop} {YP : World → Heap → Prop} {d : DefRec} {K : Params → PySem.W.Frag} (hn : l.most = some 63) (hdf : d.params.defaults = [])
    (hY : ∀ (w : World) (h : Heap), YP w h → (K w.params).In h)
    (F : ∀ (w : World) (mg : Str → Option Value) (fa : Addr) (h : Heap), (K w.params).In h → h.Ns mainGlobals mg → mg d.name = some (.ref fa) →
      ∃ fd : FuncData, (∀ (s : Shared) (u : Value), BindsTo s fd ⟨[u], []⟩ [("_law_script", u)]) ∧ ∀ base : Heap, (K w.params).In base → base.Ns mainGlobals mg → FnOk l.prog w (K w.params) mg base CX0 10 fa fd ["_law_script"] (spLaw (K w.params))) :
    PySem.W.WalkO q loose XP YP l.row.toRowW d [] (fun f vs => PySem.call f vs) :=
  L2.walk_of (n := 63) (k := 10) (x := "_law_script") (CX := fun _ => CX0) (sp := fun w => spLaw (K w.params)) hn (by decide) hdf ⟨rfl, by decide, by decide⟩ hY F (fun _ _ a ns hl _ hS => ⟨a, ns, rfl, hS, hl, fun _ => rfl⟩) fun _ _ _ _ _ z => z
end Q
open PySem PySem.W PyProof.Rows
set_option maxRecDepth 100000 in
set_option maxHeartbeats 0 in
theorem PySem.Challenge.cw_usescale_k26_alike_terms_holds : PySem.Challenge.rw_usescale_k26_alike_terms.Holds := by
  w_on; o_law; k_head; (case hw => w_witness2)
  k_fill
  refine Q.walk (l := PySem.Challenge.rw_usescale_k26_alike_terms) rfl rfl (fun w h Y => PySem.W.kIn_of Y) ?F
  case F =>
    intro w mg fa h KX G hmg
    refine' Q.all_mk KX G hmg ?a_part_positions ?l_part_positions ?c_part_positions ?k_part_positions ?a_term_parts ?l_term_parts ?c_term_parts ?k_term_parts ?a_binder_positions ?l_binder_positions ?c_binder_positions ?k_binder_positions ?a_grades_and_kinds ?l_grades_and_kinds ?c_grades_and_kinds ?k_grades_and_kinds ?a_same_outside ?l_same_outside ?c_same_outside ?k_same_outside ?a_alike ?l_alike ?c_alike ?k_alike ?a__law_draws ?l__law_draws ?c__law_draws ?k__law_draws ?a__law_draw ?l__law_draw ?c__law_draw ?k__law_draw ?a__law_word ?l__law_word ?c__law_word ?k__law_word ?a__law_rough_grade ?l__law_rough_grade ?c__law_rough_grade ?k__law_rough_grade ?a__law_rough_kind ?l__law_rough_kind ?c__law_rough_kind ?k__law_rough_kind ?a__law_rough ?l__law_rough ?c__law_rough ?k__law_rough ?a__law_places ?l__law_places ?c__law_places ?k__law_places ?a__law_binder_places ?l__law_binder_places ?c__law_binder_places ?k__law_binder_places ?a__law_nameless ?l__law_nameless ?c__law_nameless ?k__law_nameless ?a__law_renamed ?l__law_renamed ?c__law_renamed ?k__law_renamed ?a__law_under ?l__law_under ?c__law_under ?k__law_under ?a__law_bent ?l__law_bent ?c__law_bent ?k__law_bent ?a_law ?l_law ?c_law ?k_law ?z_int ?z_len ?z_range ?z_isinstance ?z_bool ?z_str ?z_tuple ?z_list ?z_dict ?z_sorted ?z_enumerate ?gTF ?lTF ?klTF ?loTF ?tTF ?gBI ?lBI ?klBI ?loBI ?tBI
    (case a_part_positions => k_is)
    (case l_part_positions => k_is)
    (case c_part_positions => k_is)
    (case k_part_positions => k_is)
    (case a_term_parts => k_is)
    (case l_term_parts => k_is)
    (case c_term_parts => k_is)
    (case k_term_parts => k_is)
    (case a_binder_positions => k_is)
    (case l_binder_positions => k_is)
    (case c_binder_positions => k_is)
    (case k_binder_positions => k_is)
    (case a_grades_and_kinds => k_is)
    (case l_grades_and_kinds => k_is)
    (case c_grades_and_kinds => k_is)
    (case k_grades_and_kinds => k_is)
    (case a_same_outside => k_is)
    (case l_same_outside => k_is)
    (case c_same_outside => k_is)
    (case k_same_outside => k_is)
    (case a_alike => k_is)
    (case l_alike => k_is)
    (case c_alike => k_is)
    (case k_alike => k_is)
    (case a__law_draws => k_is)
    (case l__law_draws => k_is)
    (case c__law_draws => k_is)
    (case k__law_draws => k_is)
    (case a__law_draw => k_is)
    (case l__law_draw => k_is)
    (case c__law_draw => k_is)
    (case k__law_draw => k_is)
    (case a__law_word => k_is)
    (case l__law_word => k_is)
    (case c__law_word => k_is)
    (case k__law_word => k_is)
    (case a__law_rough_grade => k_is)
    (case l__law_rough_grade => k_is)
    (case c__law_rough_grade => k_is)
    (case k__law_rough_grade => k_is)
    (case a__law_rough_kind => k_is)
    (case l__law_rough_kind => k_is)
    (case c__law_rough_kind => k_is)
    (case k__law_rough_kind => k_is)
    (case a__law_rough => k_is)
    (case l__law_rough => k_is)
    (case c__law_rough => k_is)
    (case k__law_rough => k_is)
    (case a__law_places => k_is)
    (case l__law_places => k_is)
    (case c__law_places => k_is)
    (case k__law_places => k_is)
    (case a__law_binder_places => k_is)
    (case l__law_binder_places => k_is)
    (case c__law_binder_places => k_is)
    (case k__law_binder_places => k_is)
    (case a__law_nameless => k_is)
    (case l__law_nameless => k_is)
    (case c__law_nameless => k_is)
    (case k__law_nameless => k_is)
    (case a__law_renamed => k_is)
    (case l__law_renamed => k_is)
    (case c__law_renamed => k_is)
    (case k__law_renamed => k_is)
    (case a__law_under => k_is)
    (case l__law_under => k_is)
    (case c__law_under => k_is)
    (case k__law_under => k_is)
    (case a__law_bent => k_is)
    (case l__law_bent => k_is)
    (case c__law_bent => k_is)
    (case k__law_bent => k_is)
    (case a_law => k_is)
    (case l_law => k_is)
    (case c_law => k_is)
    (case k_law => k_is)
    (case z_int => k_is)
    (case z_len => k_is)
    (case z_range => k_is)
    (case z_isinstance => k_is)
    (case z_bool => k_is)
    (case z_str => k_is)
    (case z_tuple => k_is)
    (case z_list => k_is)
    (case z_dict => k_is)
    (case z_sorted => k_is)
    (case z_enumerate => k_is)
    (case gTF => k_is)
    (case lTF => k_is)
    (case klTF => (repeat (first | exact trivial | refine ⟨⟨_, _, rfl, rfl⟩, ?_⟩)))
    (case loTF => decide)
    (case tTF => kernel_rfl)
    (case gBI => k_is)
    (case lBI => k_is)
    (case klBI => (repeat (first | exact trivial | refine ⟨⟨_, _, rfl, rfl⟩, ?_⟩)))
    (case loBI => decide)
    (case tBI => kernel_rfl)
