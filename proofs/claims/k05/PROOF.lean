import PyProof.Rows.All
import Wide.All
import OpenK.AllK
import Wide.FinOn
import HandS.ForMost
import HandS.Defaults
import HandS.MakeKwOnly
import HandS.Conv
import HandS.Style
import HandS.IsInst
import HandS.FStr
import HandS.DictComp
import HandS.ClsMeth
import HandS.Steps
import KE.KExcInit
import KE.KExcIs
import HandS.ForExc
import HandS.ExcInit
import HandS.ExcField
import HandS.ExcIs
import KE.KxField
import KE.KEqSeq
import HandS.StrMore
import HandS.Strs
import HandS.SetKeys
import HandS.Walk
import HandS.WordsDict
import HandS.Flow
import PyProof.Rows.StrOr
import KE.KIntText
import KE.IntTextLaws
import HandS.WideBits
import HandS.Wide
import KE.KExcLine
import KE.RegKTryMore
import KE.RegKIsAll
import PySem.Challenge.RW_usescale_k05_tallies
set_option Elab.async false
set_option linter.all false
set_option maxRecDepth 100000
set_option maxHeartbeats 4000000
/-! Rules of my own over the hand layer, for every law of this program. -/
namespace U
open PySem PySem.Spec PyProof.Rows L2

/-! ### tests whose answer is known -/
theorem ifY {c A B : Prop} [Decidable c] (hc : c) (h : A) : if decide c = true then A else B := by
  rw [decide_eq_true hc]; exact iteT h
theorem ifN {c A B : Prop} [Decidable c] (hc : ¬ c) (h : B) : if decide c = true then A else B := by
  rw [decide_eq_false hc]; exact iteF h
theorem nifY {c A B : Prop} [Decidable c] (hc : c) (h : B) : if (!decide c) = true then A else B := by
  rw [decide_eq_true hc]; exact iteF h
theorem nifN {c A B : Prop} [Decidable c] (hc : ¬ c) (h : A) : if (!decide c) = true then A else B := by
  rw [decide_eq_false hc]; exact iteT h
theorem ifD {c A B : Prop} [Decidable c] (h1 : c → A) (h2 : ¬ c → B) : if decide c = true then A else B := by
  by_cases h : c
  · exact ifY h (h1 h)
  · exact ifN h (h2 h)
theorem ifB {b : Bool} {A B : Prop} (h1 : b = true → A) (h2 : b = false → B) : if b = true then A else B := by
  cases b
  · exact iteF (h2 rfl)
  · exact iteT (h1 rfl)
theorem ifT {b : Bool} {A B : Prop} (e : b = true) (h : A) : if b = true then A else B := by
  rw [e]; exact iteT h
theorem ifF {b : Bool} {A B : Prop} (e : b = false) (h : B) : if b = true then A else B := by
  rw [e]; exact iteF h

theorem tYesI {σ : L2.St} {H : Hp} {Q : Bool → Hp → Prop} (h : Q true H) : tYes σ H Q := h
theorem sameNew {H : Hp} {p : Addr} {o : HO} (h : H p = none) : Same H (upd H p o) := fun b u e => by
  rw [upd_ne (ne_of_none e h)]; exact e
theorem at_map {ns : List Int} {i : Nat} {y : V} (hi : (ns.map V.int)[i]? = some y) : ∃ n, y = V.int n ∧ ns[i]? = some n := by
  rw [List.getElem?_map] at hi
  cases e : ns[i]? with
  | none => rw [e] at hi; cases hi
  | some n => rw [e] at hi; exact ⟨n, (Option.some.inj hi).symm, rfl⟩
theorem take_snoc {α : Type} {l : List α} {i : Nat} {x : α} (h : l[i]? = some x) : l.take (i + 1) = l.take i ++ [x] := by
  rw [List.take_succ, h]; rfl

/-- a while: W with its measure, B where it ends by its test or a break -/
theorem whileX {c : TT} {tb : TS} {D : Ends} {σ : L2.St} {H : Hp} (W : Nat → L2.St → Hp → Prop) (B : L2.St → Hp → Prop) (n : Nat) (h0 : W n σ H) (hB : ∀ σ H, B σ H → D.nx σ H)
    (hs : ∀ (nx : L2.St → Hp → Prop), (∀ σ H, B σ H → nx σ H) → ∀ m σ H, W m σ H → c σ H fun b H1 => if b = true then ∃ N : L2.St → Hp → Prop, (∀ σ' H', N σ' H' → ∃ m', m' < m ∧ W m' σ' H') ∧ tb { D with nx := N, ct := N, bk := nx } σ H1 else nx σ H1) :
    tWhile c tb D σ H := ⟨W, ⟨n, h0⟩, hs D.nx hB⟩

/-! ### attributes by position -/
theorem lk : ∀ {ks : List Str} {vs : List V} {f : Str} {i : Nat} {v : V}, ks.findIdx? (fun k => k == f) = some i → vs[i]? = some v → (ks.zip vs).lookup f = some v
  | [], vs, f, i, v, h, _ => by simp at h
  | k :: ks, [], f, i, v, _, hv => by simp at hv
  | k :: ks, x :: vs, f, i, v, h, hv => by
    rw [List.findIdx?_cons] at h
    by_cases e : (k == f) = true
    · rw [if_pos e] at h
      obtain rfl : 0 = i := Option.some.inj h
      have e1 : f = k := (beq_iff_eq.mp e).symm
      subst e1
      obtain rfl : x = v := by simpa using hv
      simp [List.lookup]
    · rw [if_neg e] at h
      cases i with
      | zero => simp at h
      | succ i =>
        have h' : ks.findIdx? (fun k => k == f) = some i := by
          cases q : ks.findIdx? (fun k => k == f) with
          | none => rw [q] at h; simp at h
          | some j => rw [q] at h; simp at h; rw [h]
        have e2 : (f == k) = false := by
          rw [Bool.eq_false_iff]; intro z
          exact e (beq_iff_eq.mpr (beq_iff_eq.mp z).symm)
        show (match f == k with | true => some x | false => (ks.zip vs).lookup f) = some v
        rw [e2]
        exact lk h' (by simpa using hv)
theorem lkn : ∀ {ks : List Str} {vs : List V} {f : Str}, ks.findIdx? (fun k => k == f) = none → (ks.zip vs).lookup f = none
  | [], vs, f, h => by simp
  | k :: ks, [], f, _ => by simp
  | k :: ks, x :: vs, f, h => by
    rw [List.findIdx?_cons] at h
    by_cases e : (k == f) = true
    · rw [if_pos e] at h; simp at h
    · rw [if_neg e] at h
      have h' : ks.findIdx? (fun k => k == f) = none := by
        cases q : ks.findIdx? (fun k => k == f) with
        | none => rfl
        | some j => rw [q] at h; simp at h
      have e2 : (f == k) = false := by
        rw [Bool.eq_false_iff]; intro z
        exact e (beq_iff_eq.mpr (beq_iff_eq.mp z).symm)
      show (match f == k with | true => some x | false => (ks.zip vs).lookup f) = none
      rw [e2]
      exact lkn h'
/-- a new attribute -/
theorem pf : ∀ {ks : List Str} {vs : List V} {f : Str} {v : V}, ks.findIdx? (fun k => k == f) = none → ks.length = vs.length → putF f v (ks.zip vs) = (ks ++ [f]).zip (vs ++ [v])
  | [], [], f, v, _, _ => rfl
  | [], x :: vs, f, v, _, h => by simp at h
  | k :: ks, [], f, v, _, h => by simp at h
  | k :: ks, x :: vs, f, v, h, hl => by
    rw [List.findIdx?_cons] at h
    by_cases e : (k == f) = true
    · rw [if_pos e] at h; simp at h
    · rw [if_neg e] at h
      have h' : ks.findIdx? (fun k => k == f) = none := by
        cases q : ks.findIdx? (fun k => k == f) with
        | none => rfl
        | some j => rw [q] at h; simp at h
      have e2 : ¬ k = f := fun z => e (beq_iff_eq.mpr z)
      show (if k = f then (k, v) :: ks.zip vs else (k, x) :: putF f v (ks.zip vs)) = _
      rw [if_neg e2, pf h' (by simpa using hl)]
      rfl

/-! ### o[i] of a list, for o[i] op= e -/
def rGetL (K : PySem.W.Frag) : V → V → Hp → VK → Prop := fun x y H Q => ∃ p xs i v, x = .ref p ∧ y = .int i ∧ SqL K H p xs ∧ 0 ≤ i ∧ xs[i.toNat]? = some v ∧ Q v H
theorem get_list {X : Cx} : PGet X (rGetL X.K) := by
  intro pins s σ H x y v u Q I rx ry h
  obtain ⟨p, xs, i, z, rfl, rfl, hq, h0, he, q⟩ := h
  cases (show v = Value.ref p from rx)
  obtain ⟨t, rfl⟩ := ry
  obtain ⟨its, r, pl, hz⟩ := I.list hq
  obtain ⟨w, ew, rw'⟩ := r.get he
  have hl := r.length
  have hn := line63
  have hb := (List.getElem?_eq_some_iff.mp he).1
  exact wpAny_getItem_list pl.isList h0 (by omega) (by simpa using ew) ⟨z, H, I, rw', q⟩

/-! ### a[i], a a list or a tuple -/
theorem ix_or {X : Cx} {r r' : R2} (h : IxR X r) (h' : IxR X r') : IxR X (fun x y H Q => r x y H Q ∨ r' x y H Q) := by
  intro value slice pins s σ H x y v u Q I rx ry hq hs
  rcases hq with q | q
  · exact h value slice pins s σ H x y v u Q I rx ry q hs
  · exact h' value slice pins s σ H x y v u Q I rx ry q hs
def rIxLT (K : PySem.W.Frag) : R2 := fun x y H Q => rIxL K x y H Q ∨ rIxT K x y H Q
theorem ix_ls {X : Cx} : IxR X (rIxLT X.K) := ix_or ix_list ix_tup

/-! ### x is True, x is False: x anything -/
def rIsBA : R2 := fun x y H Q => ∃ b : Bool, y = .bl b ∧ Q (.bl (decide (x = .bl b))) H
theorem plain_bl {x : V} {v : Value} (b : Bool) (rx : RelV x v) : plainIs v (.bool b) = true := by
  cases x with
  | non => cases (show v = Value.none from rx); rfl
  | bl c => cases (show v = Value.bool c from rx); rfl
  | int i => obtain ⟨t, rfl⟩ := rx; rfl
  | str i => obtain ⟨t, rfl⟩ := rx; rfl
  | byt i => obtain ⟨t, rfl⟩ := rx; rfl
  | flt i => obtain ⟨t, rfl⟩ := rx; rfl
  | ref a => cases (show v = Value.ref a from rx); rfl
  | ty n => cases (show v = Value.type n from rx); rfl
theorem op_isBA {X : Cx} : OpR X (compareOp .Is) rIsBA := by
  intro pins s σ H x y v u Q I rx ry h
  obtain ⟨b, rfl, q⟩ := h
  cases (show u = Value.bool b from ry)
  by_cases e : x = .bl b
  · subst e
    cases (show v = Value.bool b from rx)
    exact wpAny_is_self rfl ⟨.bl true, H, I, rfl, by simpa using q⟩
  · refine wpAny_is_other (plain_bl b rx) (fun z => ?_) ⟨.bl false, H, I, rfl, by simpa [e] using q⟩
    subst z
    exact e (RelV.inj rx (show RelV (.bl b) (.bool b) from rfl))

/-! ### Base.m(self, ..): a def of an own class read off the class -/
structure CFn (K : PySem.W.Frag) (C : Addr) (mc : Value) (m : Str) (f : Addr) : Prop where
  rd : PySem.W.readsIn K C mc = true
  ga : PySem.W.specialIn K (.ref C) "__getattribute__" = some (some (.builtin "type.__getattribute__"))
  at_ : PySem.W.findCls K (.ref C) mc m = some (.val (.ref f))
  kp : PySem.W.keepIn K (.ref f) = true
def tCFn (C : Addr) (sp : Sp) (E : XK) (ta : TE) (t : TA) : TE := fun σ H Q => ta σ H fun x H1 => x = .ref C ∧ t σ H1 fun vs H2 => sp vs H2 Q E
section
variable {X : Cx} {CX : CXT} {k : Nat} {f C : Addr} {mc : Value} {fd : FuncData} {ps : List Str} {sp : Sp} {E : XK} {m : Str} {pos apos : Pos} {e o : Expr} {es : List Expr} {ta : TE} {t : TA}
theorem pe_cfn {pl : Sem Bool} (he : PE X o ta) (c : CFn X.K C mc m f) (F : FnOk X.prog X.w X.K X.mg X.base CX k f fd ps sp) (hr : Room k X.A) (hb : Binds X.K fd ps []) (hx : Passes CX X E) (ha : PA X (e :: es) t)
    (hst : starEach (e :: es) X.env = (false, eval e X.env) :: starEach es X.env := by rfl) (hpl : (backTo pos (starEach es X.env)).any (·.1) = false := by rfl)
    (ht : eval (.Call (.Attribute o m apos) (e :: es) [] pos) X.env = (do
      let ov ← eval o X.env
      standAt apos.atName
      let (f, first) ← holding [ov] (getMethod ov m pl)
      callWith pos f first (backTo pos (starEach (e :: es) X.env)) (backToKw pos (keywordEach [] X.env))) := by rfl) :
    PE X (.Call (.Attribute o m apos) (e :: es) [] pos) (tCFn C sp E ta t) := by
  refine ⟨fun pins s σ H Q I h => ?_⟩
  refine PySem.W.methodCall_KW (pl := pl) (thn (he.run pins s σ H _ I h) fun u s1 ⟨x, H1, I1, rx, ex, q⟩ => ?_) ht
  subst ex
  obtain rfl : u = Value.ref C := rx
  refine PySem.W.method_cls I1.kIn c.ga (PySem.W.cls_value I1.kIn c.rd c.at_ rfl ?_)
  refine PySem.W.callWith_K (first := []) (h₀ := X.base) I.ok.mod.kin c.kp (thn (ha.run pos pins _ σ H1 _ (I1.tok _) q) fun us s2 ⟨vs, H2, I2, r, q2⟩ => ⟨I2.kIn, ?_⟩) hst hpl
  exact run_fn (us := us) (vs := vs) F hr hb .nil hx I2 r (by rw [List.append_nil]; exact q2)
end
end U
namespace U
open PySem PySem.Spec PyProof.Rows L2
/-! ### calls of what has been proved, by name -/
structure Cal (P : Program) (w : World) (K : PySem.W.Frag) (mg : Str → Option Value) (base : Heap) (CX : CXT) (k : Nat) (x : Str) (sp : Sp) : Prop where
  ex : ∃ (f : Addr) (fd : FuncData) (ps : List Str), FnOk P w K mg base CX k f fd ps sp ∧ mg x = some (.ref f) ∧ PySem.W.keepIn K (.ref f) = true ∧ Binds K fd ps []
structure Met (P : Program) (w : World) (K : PySem.W.Frag) (mg : Str → Option Value) (base : Heap) (CX : CXT) (k : Nat) (C : Addr) (m : Str) (sp : Sp) : Prop where
  ex : ∃ (f : Addr) (fd : FuncData) (ps : List Str), Cls K C ∧ Meth K C m f ∧ FnOk P w K mg base CX k f fd ps sp ∧ Binds K fd ps []
structure Mak (P : Program) (w : World) (K : PySem.W.Frag) (mg : Str → Option Value) (base : Heap) (CX : CXT) (k : Nat) (x : Str) (C : Addr) (sp : Sp) : Prop where
  ex : ∃ (f : Addr) (fd : FuncData) (ps : List Str), Mk K C f ∧ FnOk P w K mg base CX k f fd ps sp ∧ mg x = some (.ref C) ∧ Binds K fd ps []
structure CFB (P : Program) (w : World) (K : PySem.W.Frag) (mg : Str → Option Value) (base : Heap) (CX : CXT) (k : Nat) (x m : Str) (sp : Sp) : Prop where
  ex : ∃ (C : Addr) (mc : Value) (f : Addr) (fd : FuncData) (ps : List Str), mg x = some (.ref C) ∧ CFn K C mc m f ∧ FnOk P w K mg base CX k f fd ps sp ∧ Binds K fd ps []
/-- a promise that asks the impossible is kept by any def -/
theorem cal_false {P : Program} {w : World} {K : PySem.W.Frag} {mg : Str → Option Value} {base : Heap} {CX : CXT} {k : Nat} {f : Addr} {fd : FuncData} {ps : List Str} {x : Str} (hm : mg x = some (.ref f)) (kp : PySem.W.keepIn K (.ref f) = true) (b : Binds K fd ps []) :
    Cal P w K mg base CX k x (fun _ _ _ _ => False) := ⟨f, fd, ps, ⟨fun _ _ _ _ h => h.elim, fun _ _ _ _ _ _ _ _ _ _ _ _ _ h => h.elim⟩, hm, kp, b⟩
section
variable {X : Cx} {k j : Nat} {C : Addr} {x m : Str} {sp : Sp} {p pos apos : Pos} {e o : Expr} {es : List Expr} {ta : TE} {t : TA}
theorem pe_c (c : Cal X.prog X.w X.K X.mg X.base CX0 k x sp) (hr : Room j X.A) (hk : k ≤ j) (hg : Gl X x) (ha : PA X (e :: es) t)
    (hdb : (x == ("__debug__" : Str)) = false := by decide) (he : starEach (e :: es) X.env = (false, eval e X.env) :: starEach es X.env := by rfl) (hpl : (backTo pos (starEach es X.env)).any (·.1) = false := by rfl) :
    PE X (.Call (.Name x p) (e :: es) [] pos) (tCall sp [] E0 t) := by
  obtain ⟨f, fd, ps, F, hm, kp, b⟩ := c.ex
  exact pe_call F (hr.mono hk) hg hm kp b .nil pass0 ha hdb he hpl
theorem pe_c0 (c : Cal X.prog X.w X.K X.mg X.base CX0 k x sp) (hr : Room j X.A) (hk : k ≤ j) (hg : Gl X x)
    (hdb : (x == ("__debug__" : Str)) = false := by decide) :
    PE X (.Call (.Name x p) [] [] pos) (tCall sp [] E0 tNil) := by
  obtain ⟨f, fd, ps, F, hm, kp, b⟩ := c.ex
  exact pe_call0 F (hr.mono hk) hg hm kp b .nil pass0 hdb
theorem pe_mk (c : Mak X.prog X.w X.K X.mg X.base CX0 k x C sp) (hr : Room j X.A) (hk : k + 1 ≤ j) (hg : Gl X x) (ha : PA X (e :: es) t)
    (hdb : (x == ("__debug__" : Str)) = false := by decide) (he : starEach (e :: es) X.env = (false, eval e X.env) :: starEach es X.env := by rfl) (hpl : (backTo pos (starEach es X.env)).any (·.1) = false := by rfl) :
    PE X (.Call (.Name x p) (e :: es) [] pos) (tMake C sp [] E0 t) := by
  obtain ⟨f, fd, ps, M, F, hm, b⟩ := c.ex
  exact pe_make M F (hr.mono hk) hg hm b .nil pass0 ha hdb he hpl
theorem pe_mt {pl : Sem Bool} (c : Met X.prog X.w X.K X.mg X.base CX0 k C m sp) (hr : Room j X.A) (hk : k ≤ j) (he : PE X o ta) (ha : PA X (e :: es) t)
    (hst : starEach (e :: es) X.env = (false, eval e X.env) :: starEach es X.env := by rfl) (hpl : (backTo pos (starEach es X.env)).any (·.1) = false := by rfl)
    (ht : eval (.Call (.Attribute o m apos) (e :: es) [] pos) X.env = (do
      let ov ← eval o X.env
      standAt apos.atName
      let (f, first) ← holding [ov] (getMethod ov m pl)
      callWith pos f first (backTo pos (starEach (e :: es) X.env)) (backToKw pos (keywordEach [] X.env))) := by rfl) :
    PE X (.Call (.Attribute o m apos) (e :: es) [] pos) (tMeth C m sp [] E0 ta t) := by
  obtain ⟨f, fd, ps, hc, hm, F, b⟩ := c.ex
  exact pe_meth (pl := pl) he hc hm F (hr.mono hk) b .nil pass0 ha hst hpl ht
theorem pe_mt0 {pl : Sem Bool} (c : Met X.prog X.w X.K X.mg X.base CX0 k C m sp) (hr : Room j X.A) (hk : k ≤ j) (he : PE X o ta)
    (ht : eval (.Call (.Attribute o m apos) [] [] pos) X.env = (do
      let ov ← eval o X.env
      standAt apos.atName
      let (f, first) ← holding [ov] (getMethod ov m pl)
      callWith pos f first (backTo pos (starEach [] X.env)) (backToKw pos (keywordEach [] X.env))) := by rfl) :
    PE X (.Call (.Attribute o m apos) [] [] pos) (tMeth C m sp [] E0 ta tNil) := by
  obtain ⟨f, fd, ps, hc, hm, F, b⟩ := c.ex
  exact pe_meth0 (pl := pl) he hc hm F (hr.mono hk) b .nil pass0 ht
/-- Base.m(self, ..) -/
def tCF (sp : Sp) (t : TA) : TE := fun σ H Q => t σ H fun vs H1 => sp vs H1 Q E0
theorem pe_cf {pl : Sem Bool} (c : CFB X.prog X.w X.K X.mg X.base CX0 k x m sp) (hr : Room j X.A) (hk : k ≤ j) (hg : Gl X x) (ha : PA X (e :: es) t)
    (hdb : (x == ("__debug__" : Str)) = false := by decide)
    (hst : starEach (e :: es) X.env = (false, eval e X.env) :: starEach es X.env := by rfl) (hpl : (backTo pos (starEach es X.env)).any (·.1) = false := by rfl)
    (ht : eval (.Call (.Attribute (.Name x p) m apos) (e :: es) [] pos) X.env = (do
      let ov ← eval (.Name x p) X.env
      standAt apos.atName
      let (f, first) ← holding [ov] (getMethod ov m pl)
      callWith pos f first (backTo pos (starEach (e :: es) X.env)) (backToKw pos (keywordEach [] X.env))) := by rfl) :
    PE X (.Call (.Attribute (.Name x p) m apos) (e :: es) [] pos) (tCF sp t) := by
  obtain ⟨C, mc, f, fd, ps, hm, cf, F, b⟩ := c.ex
  have z : PE X (.Call (.Attribute (.Name x p) m apos) (e :: es) [] pos) (tCFn C sp E0 (tC (.ref C)) t) := pe_cfn (pl := pl) (pe_glob hg hm rfl hdb) cf F (hr.mono hk) b pass0 ha hst hpl ht
  exact ⟨fun pins s σ H Q I h => z.run pins s σ H Q I ⟨rfl, h⟩⟩
end
end U
namespace U
open PySem PySem.Spec PyProof.Rows L2
/-- a module's constant -/
theorem pe_gx {X : Cx} {x : Str} {v : V} {p : Pos} (hg : Gl X x) (h : ∃ u, X.mg x = some u ∧ RelV v u) (hd : (x == ("__debug__" : Str)) = false := by decide) : PE X (.Name x p) (tC v) := by
  obtain ⟨u, hm, r⟩ := h
  exact pe_glob hg hm r hd
/-- a dict comprehension over a range -/
theorem dc_rng {lo : Int} {n : Nat} {g : TG} {tt : TT} {tk tv : TE} {vs : List Nat} {σ : L2.St} {H1 : Hp} {D : Addr} {Qd : Hp → Prop} (Pv : Nat → Hp → Prop) (h0 : Pv 0 (upd H1 D (.dK [])))
    (hs : ∀ (i : Nat) (H : Hp), i < n → Pv i H → g (.int (lo + i)) (wipe σ vs) H fun σ2 H2 => wipe σ2 vs = wipe σ vs ∧ tt σ2 H2 fun b H3 =>
      if b = true then tk σ2 H3 fun y H4 => tv σ2 H4 fun z H5 => ∃ kvs k, y = kV k ∧ H5 D = some (.dK kvs) ∧ kvs.length < sizeLine ∧ Pv (i + 1) (upd H5 D (.dK (putK kvs k z))) else Pv (i + 1) H3) (hd : ∀ H, Pv n H → Qd H) :
    ∃ W : Nat → Nat → Hp → Prop, (∃ m, W 0 m (upd H1 D (.dK []))) ∧ ∀ i m H, W i m H →
      ((Itr lo n).stop i H ∧ Qd H) ∨ ((Itr lo n).go i H ∧ ∃ Nx : Hp → Prop, (∀ H', Nx H' → ∃ m', m' < m ∧ W (i + 1) m' H') ∧ ∀ x H', (Itr lo n).yld i H x H' → g x (wipe σ vs) H' fun σ2 H2 => wipe σ2 vs = wipe σ vs ∧ tt σ2 H2 fun b H3 =>
        if b = true then tk σ2 H3 fun y H4 => tv σ2 H4 fun z H5 => ∃ kvs k, y = kV k ∧ H5 D = some (.dK kvs) ∧ kvs.length < sizeLine ∧ Nx (upd H5 D (.dK (putK kvs k z))) else Nx H3) := by
  refine ⟨fun i m H => m = n - i ∧ i ≤ n ∧ Pv i H, ⟨n, by omega, Nat.zero_le _, h0⟩, ?_⟩
  rintro i m H ⟨rfl, hi, p⟩
  by_cases hlt : i < n
  · refine .inr ⟨hlt, Pv (i + 1), fun H' p' => ⟨n - (i + 1), by omega, rfl, hlt, p'⟩, fun x H' y => ?_⟩
    obtain ⟨e, y⟩ := y
    subst e y
    exact hs i _ hlt p
  · have e : i = n := by omega
    subst e
    exact .inl ⟨Nat.le_refl _, hd H p⟩
theorem range_at {n i : Nat} (h : i < n) : (List.range n)[i]? = some i := by simp [h]
/-- the heap is as it was, but at p -/
def But (p : Addr) (H H' : Hp) : Prop := ∀ b o, H b = some o → b ≠ p → H' b = some o
theorem But.refl {p : Addr} {H : Hp} : But p H H := fun _ _ h _ => h
theorem But.trans {p : Addr} {H H1 H2 : Hp} (a : But p H H1) (b : But p H1 H2) : But p H H2 := fun c o h n => b c o (a c o h n) n
theorem But.upd {p : Addr} {H H1 : Hp} {o : HO} (a : But p H H1) : But p H (upd H1 p o) := fun c u h n => by rw [upd_ne n]; exact a c u h n
theorem But.new {p q : Addr} {H H1 : Hp} {o : HO} (a : But p H H1) (hq : H1 q = none) : But p H (L2.upd H1 q o) := fun c u h n => by
  have z := a c u h n
  rw [upd_ne (ne_of_none z hq)]; exact z
theorem But.of {p : Addr} {H H1 : Hp} (a : Same H H1) : But p H H1 := fun c u h _ => a c u h
end U
namespace U
open PySem PySem.Spec PyProof.Rows L2
theorem putF_le (f : Str) (v : V) : ∀ fs : List (Str × V), (putF f v fs).length ≤ fs.length + 1
  | [] => Nat.le_refl _
  | (g, x) :: r => by
    show (if g = f then (g, v) :: r else (g, x) :: putF f v r).length ≤ r.length + 1 + 1
    split
    · rw [List.length_cons]; omega
    · rw [List.length_cons]; have := putF_le f v r; omega
theorem putF_n {f : Str} {v : V} {fs : List (Str × V)} {n : Nat} (h : fs.length ≤ n) : (putF f v fs).length ≤ n + 1 := Nat.le_trans (putF_le f v fs) (Nat.succ_le_succ h)
end U
namespace U
open PySem PySem.Spec PyProof.Rows L2
theorem putK_le (kvs : List (Key × V)) (k : Key) (v : V) : (putK kvs k v).length ≤ kvs.length + 1 := by
  unfold putK
  split
  · rw [List.length_map]; omega
  · rw [List.length_append]; exact Nat.le_refl _
/-- the dict of the places of names -/
def foundTo (zs : List Str) : Nat → List (Key × V)
  | 0 => []
  | i + 1 => putK (foundTo zs i) (Sum.inr (zs.getD i Str.empty)) (.int (i : Int))
theorem foundTo_le (zs : List Str) : ∀ i, (foundTo zs i).length ≤ i
  | 0 => Nat.le_refl _
  | i + 1 => Nat.le_trans (putK_le _ _ _) (Nat.succ_le_succ (foundTo_le zs i))
theorem at_mapS {ns : List Str} {i : Nat} (h : i < ns.length) : (ns.map V.str)[i]? = some (.str (ns.getD i Str.empty)) := by
  rw [List.getElem?_map, List.getElem?_eq_getElem h, List.getD_eq_getElem?_getD, List.getElem?_eq_getElem h]
  rfl
end U
namespace U
open PySem PySem.Spec PyProof.Rows L2
/-! ### the same rules with the written part named, for the inside of comprehensions -/
theorem ix_listK {X : Cx} (K : PySem.W.Frag) (h : X.K = K) : IxR X (rIxL K) := by subst h; exact ix_list
theorem ix_tupK {X : Cx} (K : PySem.W.Frag) (h : X.K = K) : IxR X (rIxT K) := by subst h; exact ix_tup
theorem ix_lsK {X : Cx} (K : PySem.W.Frag) (h : X.K = K) : IxR X (rIxLT K) := by subst h; exact ix_ls
theorem pe_fldK {X : Cx} (K : PySem.W.Frag) (h : X.K = K) {e : Expr} {ta : TE} {f : Str} {pos : Pos} (he : PE X e ta) (hb : attributeBase e f X.env (eval e X.env) = eval e X.env) : PE X (.Attribute e f pos) (tFld K ta f) := by
  subst h; exact pe_fld he hb
def rLenLT (K : PySem.W.Frag) : List V → Hp → VK → Prop := fun xs H Q => ∃ p ys, xs = [V.ref p] ∧ (SqL K H p ys ∨ SqT K H p ys) ∧ Q (V.int (ys.length : Int)) H
theorem call_lenK {X : Cx} (K : PySem.W.Frag) (h : X.K = K) : CallR X (.builtin "len") (rLenLT K) := by subst h; exact call_len_seq
theorem op_inK {X : Cx} (K : PySem.W.Frag) (h : X.K = K) : OpR X (compareOp .In) (rIn K false) := by subst h; exact op_in_seq
theorem call_isiKn {X : Cx} (K : PySem.W.Frag) (h : X.K = K) : CallR X (.builtin "isinstance") (rIsi K) := by subst h; exact call_isi
end U
namespace U
open PySem PySem.Spec PyProof.Rows L2
/-! ### comprehensions that change nothing but their own new object: F i is what it holds ahead of turn i -/
theorem dcF_range {lo : Int} {n : Nat} {g : TG} {tt : TT} {tk tv : TE} {vs : List Nat} {σ : L2.St} {HB : Hp} {D : Addr} {Qd : Hp → Prop} (F : Nat → List (Key × V)) (h0 : F 0 = [])
    (hs : ∀ (i : Nat), i < n → g (.int (lo + i)) (wipe σ vs) (upd HB D (.dK (F i))) fun σ2 H2 => wipe σ2 vs = wipe σ vs ∧ tt σ2 H2 fun b H3 =>
      if b = true then tk σ2 H3 fun y H4 => tv σ2 H4 fun z H5 => ∃ kvs k, y = kV k ∧ H5 D = some (.dK kvs) ∧ kvs.length < sizeLine ∧ upd H5 D (.dK (putK kvs k z)) = upd HB D (.dK (F (i + 1))) else H3 = upd HB D (.dK (F (i + 1)))) (hd : Qd (upd HB D (.dK (F n)))) :
    ∃ W : Nat → Nat → Hp → Prop, (∃ m, W 0 m (upd HB D (.dK []))) ∧ ∀ i m H, W i m H →
      ((Itr lo n).stop i H ∧ Qd H) ∨ ((Itr lo n).go i H ∧ ∃ Nx : Hp → Prop, (∀ H', Nx H' → ∃ m', m' < m ∧ W (i + 1) m' H') ∧ ∀ x H', (Itr lo n).yld i H x H' → g x (wipe σ vs) H' fun σ2 H2 => wipe σ2 vs = wipe σ vs ∧ tt σ2 H2 fun b H3 =>
        if b = true then tk σ2 H3 fun y H4 => tv σ2 H4 fun z H5 => ∃ kvs k, y = kV k ∧ H5 D = some (.dK kvs) ∧ kvs.length < sizeLine ∧ Nx (upd H5 D (.dK (putK kvs k z))) else Nx H3) :=
  dc_rng (fun i H => H = upd HB D (.dK (F i))) (by rw [h0]) (fun i H hi e => by subst e; exact hs i hi) (fun H e => by subst e; exact hd)
theorem lcF_range {lo : Int} {n : Nat} {g : TG} {tt : TT} {te : TE} {vs : List Nat} {σ : L2.St} {HB : Hp} {D : Addr} {Qd : Hp → Prop} (F : Nat → List V) (h0 : F 0 = [])
    (hs : ∀ (i : Nat), i < n → g (.int (lo + i)) (wipe σ vs) (upd HB D (.lst (F i))) fun σ2 H2 => wipe σ2 vs = wipe σ vs ∧ tt σ2 H2 fun b H3 =>
      if b = true then te σ2 H3 fun y H4 => ∃ acc, H4 D = some (.lst acc) ∧ acc.length < sizeLine ∧ upd H4 D (.lst (acc ++ [y])) = upd HB D (.lst (F (i + 1))) else H3 = upd HB D (.lst (F (i + 1)))) (hd : Qd (upd HB D (.lst (F n)))) :
    ∃ W : Nat → Nat → Hp → Prop, (∃ m, W 0 m (upd HB D (.lst []))) ∧ ∀ i m H, W i m H →
      ((Itr lo n).stop i H ∧ Qd H) ∨ ((Itr lo n).go i H ∧ ∃ Nx : Hp → Prop, (∀ H', Nx H' → ∃ m', m' < m ∧ W (i + 1) m' H') ∧ ∀ x H', (Itr lo n).yld i H x H' → g x (wipe σ vs) H' fun σ2 H2 => wipe σ2 vs = wipe σ vs ∧ tt σ2 H2 fun b H3 =>
        if b = true then te σ2 H3 fun y H4 => ∃ acc, H4 D = some (.lst acc) ∧ acc.length < sizeLine ∧ Nx (upd H4 D (.lst (acc ++ [y]))) else Nx H3) :=
  lc_range (fun i H => H = upd HB D (.lst (F i))) (by rw [h0]) (fun i H hi e => by subst e; exact hs i hi) (fun H e => by subst e; exact hd)
theorem lcF_list {K : PySem.W.Frag} {a : Addr} {xs : List V} {g : TG} {tt : TT} {te : TE} {vs : List Nat} {σ : L2.St} {HB : Hp} {D : Addr} {Qd : Hp → Prop} (F : Nat → List V) (hD : HB D = none) (hl : SqL K HB a xs) (h0 : F 0 = [])
    (hs : ∀ (i : Nat) (x : V), xs[i]? = some x → g x (wipe σ vs) (upd HB D (.lst (F i))) fun σ2 H2 => wipe σ2 vs = wipe σ vs ∧ tt σ2 H2 fun b H3 =>
      if b = true then te σ2 H3 fun y H4 => ∃ acc, H4 D = some (.lst acc) ∧ acc.length < sizeLine ∧ upd H4 D (.lst (acc ++ [y])) = upd HB D (.lst (F (i + 1))) else H3 = upd HB D (.lst (F (i + 1)))) (hd : Qd (upd HB D (.lst (F xs.length)))) :
    ∃ W : Nat → Nat → Hp → Prop, (∃ m, W 0 m (upd HB D (.lst []))) ∧ ∀ i m H, W i m H →
      ((Itl K a).stop i H ∧ Qd H) ∨ ((Itl K a).go i H ∧ ∃ Nx : Hp → Prop, (∀ H', Nx H' → ∃ m', m' < m ∧ W (i + 1) m' H') ∧ ∀ x H', (Itl K a).yld i H x H' → g x (wipe σ vs) H' fun σ2 H2 => wipe σ2 vs = wipe σ vs ∧ tt σ2 H2 fun b H3 =>
        if b = true then te σ2 H3 fun y H4 => ∃ acc, H4 D = some (.lst acc) ∧ acc.length < sizeLine ∧ Nx (upd H4 D (.lst (acc ++ [y]))) else Nx H3) :=
  lc_list (xs := xs) (fun i H => H = upd HB D (.lst (F i))) (by rw [h0]) (fun i H _ e => by subst e; exact (sameNew hD).seq hl) (fun i x H hx e => by subst e; exact hs i x hx) (fun H e => by subst e; exact hd)
end U
namespace U
open PySem PySem.Spec PyProof.Rows L2
/-- a number in decimal -/
abbrev num (i : Int) : Str := Str.ofString (toString i)
theorem num_short (i : Int) (h0 : 0 ≤ i) (h1 : i < 130) : (num i).length ≤ 3 := by
  have z : ∀ n : Nat, n < 130 → (num (n : Int)).length ≤ 3 := by decide +kernel
  obtain ⟨n, rfl⟩ := Int.eq_ofNat_of_zero_le h0
  exact z n (by omega)
theorem num_log (i : Int) (h0 : 0 ≤ i) (h1 : i < 130) : i.natAbs.log2 < 1920 := by
  have e : i.natAbs < 2 ^ 1920 := Nat.lt_of_lt_of_le (show i.natAbs < 130 by omega) (by decide +kernel)
  by_cases hz : i.natAbs = 0
  · rw [hz]; decide
  · exact (Nat.log2_lt hz).mpr e
theorem len_app (a b : Str) : (a ++ b).length = a.length + b.length := by
  show (a.cps ++ b.cps).size = a.cps.size + b.cps.size
  rw [Array.size_append]
theorem rg_at {n : Int} {i : Nat} (h : (i : Int) < n) : (rgV 0 n)[i]? = some (.int (i : Int)) := by
  unfold rgV
  rw [List.getElem?_map, range_at (by omega)]
  simp
end U
namespace U
open PySem PySem.Spec PyProof.Rows L2
abbrev fld (fs : List (Str × V)) (f : Str) : Option V := fs.lookup f
theorem fld_put (f g : Str) (v : V) (fs : List (Str × V)) : fld (putF f v fs) g = if g = f then some v else fld fs g := lookup_putF f g v fs
end U
namespace U
open PySem PySem.Spec PyProof.Rows L2
theorem tNextI {D : Ends} {σ : L2.St} {H : Hp} (h : D.nx σ H) : tNext D σ H := h
end U
namespace U
open PySem PySem.Spec PyProof.Rows L2
/-- the ways of a statement meet in B -/
theorem join {t : TS} {D : Ends} {σ : L2.St} {H : Hp} (B : L2.St → Hp → Prop) (h : ∀ D' : Ends, (∀ σ H, B σ H → D'.nx σ H) → t D' σ H) (k : ∀ σ H, B σ H → D.nx σ H) : t D σ H := h D k
theorem joinR {t : TS} {D : Ends} {σ : L2.St} {H : Hp} (B : L2.St → Hp → Prop) (h : ∀ D' : Ends, D'.rt = D.rt → (∀ σ H, B σ H → D'.nx σ H) → t D' σ H) (k : ∀ σ H, B σ H → D.nx σ H) : t D σ H := h D rfl k
theorem range_map_snoc {β : Type} (f : Nat → β) (i : Nat) : (List.range (i + 1)).map f = (List.range i).map f ++ [f i] := by
  rw [List.range_succ, List.map_append]; rfl
theorem rg_inv {n : Int} {i : Nat} {x : V} (h : (rgV 0 n)[i]? = some x) : x = .int (i : Int) ∧ (i : Int) < n := by
  have hi : i < (rgV 0 n).length := (List.getElem?_eq_some_iff.mp h).1
  rw [rgV_length] at hi
  have hn : (i : Int) < n := by omega
  rw [rg_at hn] at h
  exact ⟨(Option.some.inj h).symm, hn⟩
end U
namespace U
open PySem PySem.Spec PyProof.Rows L2
theorem gNameI {i : Nat} {v : V} {σ : L2.St} {H : Hp} {Q : L2.St → Hp → Prop} (h : Q (σ.set i (some v)) H) : gName i v σ H Q := h
end U
namespace U
open PySem PySem.Spec PyProof.Rows L2
theorem app_le {a b : Str} {m n : Nat} (ha : a.length ≤ m) (hb : b.length ≤ n) : (a ++ b).length ≤ m + n := by rw [len_app]; omega
theorem sz {n m : Nat} (h : n ≤ m) (hm : m ≤ 1000) : n ≤ sizeLine := Nat.le_trans h (Nat.le_trans hm (by decide))
end U
namespace U
open PySem PySem.Spec PyProof.Rows L2
theorem find_at {α : Type} {p : α → Bool} : ∀ {us : List α} {i : Nat} {x : α}, us[i]? = some x → p x = true → (∀ y ∈ us.take i, p y = false) → us.find? p = some x
  | [], i, x, h, _, _ => by simp at h
  | u :: us, 0, x, h, hp, _ => by
    obtain rfl : u = x := by simpa using h
    rw [List.find?_cons, hp]
  | u :: us, i + 1, x, h, hp, ht => by
    rw [List.find?_cons, ht u (by simp)]
    exact find_at (i := i) (by simpa using h) hp (fun y hy => ht y (by simp [hy]))
theorem find_none {α : Type} {p : α → Bool} {us : List α} (h : ∀ y ∈ us, p y = false) : us.find? p = none := by
  rw [List.find?_eq_none]
  intro y hy
  rw [h y hy]; decide
end U
namespace U
open PySem PySem.Spec PyProof.Rows L2
/-- a class made with keywords -/
structure MakK (P : Program) (w : World) (K : PySem.W.Frag) (mg : Str → Option Value) (base : Heap) (CX : CXT) (k : Nat) (x : Str) (C : Addr) (sp : Sp) (n : Nat) (ks : List Str) (gV : List V → List V → List V) : Prop where
  ex : ∃ (f : Addr) (fd : FuncData) (ps : List Str) (g : List Value → List Value → List Value), Mk K C f ∧ FnOk P w K mg base CX k f fd ps sp ∧ mg x = some (.ref C) ∧ KBn K fd ps (n + 1) ks g gV
theorem pe_mkK {X : Cx} {k j n : Nat} {C : Addr} {x : Str} {sp : Sp} {p pos : Pos} {e : Expr} {es : List Expr} {t tk : TA} {ks : List Str} {kws : List Keyword} {gV : List V → List V → List V}
    (c : MakK X.prog X.w X.K X.mg X.base CX0 k x C sp n ks gV) (hr : Room j X.A) (hk : k + 1 ≤ j) (hg : Gl X x) (ha : PA X (e :: es) t) (hkw : PK X kws tk)
    (hall : (backToKw pos (keywordEach kws X.env)).all (·.1.isSome) = true := by rfl) (hks : (backToKw pos (keywordEach kws X.env)).filterMap (·.1) = ks := by rfl) (hdb : (x == ("__debug__" : Str)) = false := by decide)
    (he : starEach (e :: es) X.env = (false, eval e X.env) :: starEach es X.env := by rfl) (hpl : ((backTo pos (starEach (e :: es) X.env)).any (·.1) || (backToKw pos (keywordEach kws X.env)).any (·.1.isNone)) = false := by rfl) :
    PE X (.Call (.Name x p) (e :: es) kws pos) (tMakeK C n ks.length sp gV E0 t tk) := by
  obtain ⟨f, fd, ps, g, M, F, hm, hb⟩ := c.ex
  exact pe_makeK M F (hr.mono hk) hg hm hb pass0 ha hkw hall hks hdb he hpl
end U
namespace U
open PySem PySem.Spec PyProof.Rows L2
theorem tAsgC {i : Nat} {v : V} {D : Ends} {σ : L2.St} {H : Hp} (h : D.nx (σ.set i (some v)) H) : tAsg (tC v) (gName i) D σ H := h
end U
namespace U
open PySem PySem.Spec PyProof.Rows L2
theorem upd_none {H : Hp} {a b : Addr} {o : HO} (h : upd H a o b = none) : b ≠ a ∧ H b = none := by
  by_cases e : b = a
  · subst e; rw [upd_same] at h; cases h
  · rw [upd_ne e] at h; exact ⟨e, h⟩
/-- a class made by its name, with these defaults behind what is written -/
structure MakD (P : Program) (w : World) (K : PySem.W.Frag) (mg : Str → Option Value) (base : Heap) (CX : CXT) (k : Nat) (x : Str) (C : Addr) (sp : Sp) (dvs : List V) : Prop where
  ex : ∃ (f : Addr) (fd : FuncData) (ps : List Str) (ds : List Value), Mk K C f ∧ FnOk P w K mg base CX k f fd ps sp ∧ mg x = some (.ref C) ∧ Binds K fd ps ds ∧ Vals dvs ds
theorem pe_mkD {X : Cx} {k j : Nat} {C : Addr} {x : Str} {sp : Sp} {dvs : List V} {p pos : Pos} {e : Expr} {es : List Expr} {t : TA} (c : MakD X.prog X.w X.K X.mg X.base CX0 k x C sp dvs) (hr : Room j X.A) (hk : k + 1 ≤ j) (hg : Gl X x) (ha : PA X (e :: es) t)
    (hdb : (x == ("__debug__" : Str)) = false := by decide) (he : starEach (e :: es) X.env = (false, eval e X.env) :: starEach es X.env := by rfl) (hpl : (backTo pos (starEach es X.env)).any (·.1) = false := by rfl) :
    PE X (.Call (.Name x p) (e :: es) [] pos) (tMake C sp dvs E0 t) := by
  obtain ⟨f, fd, ps, ds, M, F, hm, b, d⟩ := c.ex
  exact pe_make M F (hr.mono hk) hg hm b d pass0 ha hdb he hpl
end U
namespace U
open PySem PySem.Spec PyProof.Rows L2
theorem found_get (zs : List Str) (z : Str) : ∀ n, n ≤ zs.length → (∀ i < n, zs.getD i Str.empty ≠ z) → valV (foundTo zs n) (Sum.inr z : Key) = none
  | 0, _, _ => rfl
  | n + 1, h, hne => by
    show valV (putK (foundTo zs n) (Sum.inr (zs.getD n Str.empty)) (.int (n : Int))) (Sum.inr z : Key) = none
    rw [valV_put, if_neg (fun e => hne n (Nat.lt_succ_self n) (Sum.inr.inj e).symm)]
    exact found_get zs z n (by omega) fun i hi => hne i (by omega)
theorem found_at (zs : List Str) (k : Nat) (hd : ∀ i < zs.length, zs.getD i Str.empty = zs.getD k Str.empty → i = k) : ∀ n, n ≤ zs.length → k < n → valV (foundTo zs n) (Sum.inr (zs.getD k Str.empty) : Key) = some (.int (k : Int))
  | 0, _, h => absurd h (by omega)
  | n + 1, h, hk => by
    show valV (putK (foundTo zs n) (Sum.inr (zs.getD n Str.empty)) (.int (n : Int))) (Sum.inr (zs.getD k Str.empty) : Key) = some (.int (k : Int))
    rw [valV_put]
    by_cases e : k = n
    · subst e; rw [if_pos rfl]
    · rw [if_neg (fun q => e (hd n (by omega) (Sum.inr.inj q).symm).symm)]
      exact found_at zs k hd n (by omega) (by omega)
end U
namespace U
open PySem PySem.Spec PyProof.Rows L2
/-- an expression that changes nothing, by its value -/
theorem pe_joinV {X : Cx} {e : Expr} {t : TE} (h : PE X e t) : PE X e (fun σ H Q => ∃ v, (∀ Q' : VK, Q' v H → t σ H Q') ∧ Q v H) :=
  ⟨fun pins s σ H Q I ⟨v, h1, h2⟩ => h.run pins s σ H Q I (h1 Q h2)⟩
theorem num_inj : ∀ i : Nat, i < 65 → ∀ j : Nat, j < 65 → num (i : Int) = num (j : Int) → i = j := by decide +kernel
theorem num_not : ∀ i : Nat, i < 65 → ∀ w ∈ (["many", "-1", "", " 1", "1 ", "+1", "MANY"] : List Str), num (i : Int) ≠ w := by decide +kernel
theorem num_zero : ∀ s : Nat, s < 64 → ∀ i : Nat, i < 64 → num (i : Int) ≠ ("0" : Str) ++ num (s : Int) := by decide +kernel
theorem many_zero : ∀ s : Nat, s < 64 → ("many" : Str) ≠ ("0" : Str) ++ num (s : Int) := by decide +kernel
end U
/-! Errors of own classes over any base: made with a walked __init__, their attributes, isinstance. -/
namespace UX
open PySem PySem.Spec PyProof.Rows L2 U

/-- what the written part says of an own error class at C over the built-in B -/
structure OexB (K : PySem.W.Frag) (C : Addr) (B newId initId : String) (bt : List Value) : Prop where
  SF : StoreFacts B bt "object.__setattr__" "object"
  FB : ExcBaseFacts B newId initId bt
  ini : PySem.W.excInitIn K C bt newId = true
  ov : PySem.W.excOver K C bt = true
  hd : PySem.W.hasDictIn K C = true
  sa : PySem.W.findIn K (.ref C) "__setattr__" = some (some (.builtin "object.__setattr__"))
  exC : PySem.W.subIn K (.ref C) (.type "BaseException") = some true
  tyC : PySem.W.typeIn K (.ref C) = some (.type "type")
  kC : PySem.W.keepIn K (.ref C) = true
section
variable {X : Cx} {pins : List (Addr × Obj)} {σ : L2.St} {H : Hp} {s : Shared} {a C dx : Addr} {f : Str} {y : V} {u : Value} {fs : List (Str × V)} {E : Value → Shared → Prop} {A : Around} {B newId initId : String} {bt : List Value}
theorem storeB {hp h' : Heap} {g : Array GenState} {d : Drawn} {t t' : Nat} {os : OsState} {t1 : Addr} (I : Inv X pins σ H ⟨hp, g, d, t, os⟩) (e : H a = some (exo a C none)) (old : ∀ b o, b ≠ a → hp.get? b = some o → h'.get? b = some o) (hdx : hp.objs.size ≤ dx) (hne : dx ≠ a)
    (hx : h'.get? a = some ({ cls := .ref C, dict := some dx, data := .fields #[.ref t1, .none, .none, .none, .bool false, .none] } : Obj)) (hn : h'.Ns1 dx (fun y => if y = f then some u else none)) (ry : RelV y u) :
    Inv X pins σ (upd (upd H dx (exd dx [(f, y)])) a (exo a C (some dx))) ⟨h', g, d, t', os⟩ := by
  have hnd : H dx = none := I.hok.fresh hdx
  have lt : ∀ {b : Addr} {o : Obj}, hp.get? b = some o → b ≠ dx := fun q => Nat.ne_of_lt (Nat.lt_of_lt_of_le (Heap.lt_size q) hdx)
  have na : ∀ {b : Addr}, H b = none → b ≠ a := fun n z => by rw [z, e] at n; cases n
  refine I.un (t' := t') ⟨fun b o q n _ _ => old b o (na n) q, fun b o q n _ _ => ⟨o.slots, old b o (na n) q⟩, fun b o q n _ => by rw [upd_ne (na n), upd_ne (lt q)]; exact n, fun b o q _ => ?_,
    fun b xs q => by rw [upd_ne (at_ne e q exo_tup), upd_ne (ne_of_none q hnd)]; exact q, fun b o v q => by rw [upd_ne (at_ne e q exo_frz), upd_ne (ne_of_none q hnd)]; exact q,
    fun b ps q => ⟨#[], by rw [upd_ne (at_ne e q exo_tbl), upd_ne (ne_of_none q hnd), q]; simp⟩⟩ fun b o q => ?_
  · by_cases hb : b = a
    · exact ⟨_, hb ▸ hx⟩
    · exact ⟨o, old b o hb q⟩
  · by_cases hb : b = a
    · subst hb
      rw [upd_same] at q
      cases q
      exact exo_ok hx
    · rw [upd_ne hb] at q
      by_cases hd : b = dx
      · subst hd
        rw [upd_same] at q
        cases q
        exact exd_ok hn (relO_put (fs := []) ry fun _ => True.intro)
      · rw [upd_ne hd] at q
        refine (I.hok b o q).stay (fun c v hc z => old c v ?_ z) (fun c hc => by rw [upd_ne (at_ne e hc exo_own), upd_ne (ne_of_none hc hnd)]; exact hc) fun c xs hc => by rw [upd_ne (at_ne e hc exo_tup), upd_ne (ne_of_none hc hnd)]; exact hc
        rcases hc with rfl | hc
        · exact hb
        · exact at_ne e hc exo_own
theorem ostB_new {Q : Unit → Shared → Prop} (T : OexB X.K C B newId initId bt) (I : Inv X pins σ H s) (e : H a = some (exo a C none)) (hno : NoAttr X.K C f) (ry : RelV y u)
    (h : ∀ dx s', H dx = none → dx ≠ a → Inv X pins σ (upd (upd H dx (exd dx [(f, y)])) a (exo a C (some dx))) s' → Q () s') : wpAny (model X.prog X.w) A (setAttr (.ref a) f u) Q E s := by
  obtain ⟨t1, ho⟩ := exo_at I.hok e
  obtain ⟨cd, hc, hdc⟩ := PySem.W.any_some T.hd
  obtain ⟨hp, g, d, t, os⟩ := s
  refine PySem.W.set_plain I.kIn (ox := { cls := .ref C, dict := none, data := .fields #[.ref t1, .none, .none, .none, .bool false, .none] }) (od := none) ⟨ho, rfl, rfl, trivial⟩ T.sa ?_
  refine PySem.W.osa_openX (od := none) T.SF I.kIn ⟨ho, rfl, rfl, trivial⟩ T.ov hno.taker fun b => ?_
  refine wpAny_bind (wpAny_pure (wpAny_bind (PySem.W.instanceDict_exc (c2 := .none) ho (PySem.W.looks_clsIn I.kIn hc) hdc ?_)))
  have lta : a < hp.objs.size := Heap.lt_size ho
  have nsa : hp.objs.size ≠ a := Nat.ne_of_gt lta
  show wpAny _ _ (Builtin.ObjectAttr.storeInDict hp.objs.size (.str f t) f u) _ _ _
  refine PySem.HandSPX.store_in_new ⟨_, #[], _, (Heap.get?_update_ne _ _ _ _ nsa).trans (Heap.get?_push_at rfl rfl), rfl, fun e he => absurd he (by simp), fun _ => rfl⟩ fun h' tk' hn hs => ?_
  -- the heap behind it
  have old : ∀ b o, b ≠ a → hp.get? b = some o → h'.get? b = some o := fun b o hb q =>
    (hs.2 b (Nat.ne_of_lt (Heap.lt_size q))).trans ((Heap.get?_update_ne _ _ _ _ hb).trans (Heap.get?_push_of_some _ q))
  have hx : h'.get? a = some { cls := .ref C, dict := some hp.objs.size, data := .fields #[.ref t1, .none, .none, .none, .bool false, .none] } :=
    (hs.2 a nsa.symm).trans (Heap.get?_update_self _ (Heap.get?_push_of_some _ ho) rfl)
  have hnd : H hp.objs.size = none := I.hok.fresh (Nat.le_refl _)
  refine h hp.objs.size _ hnd nsa (storeB (t' := tk') I e old (Nat.le_refl _) nsa hx hn ry)
/-- a further attribute -/
theorem ostB_old {Q : Unit → Shared → Prop} (T : OexB X.K C B newId initId bt) (I : Inv X pins σ H s) (e : H a = some (exo a C (some dx))) (ed : H dx = some (exd dx fs)) (hl : fs.length ≤ 900) (hno : NoAttr X.K C f) (ry : RelV y u)
    (h : ∀ s', Inv X pins σ (upd H dx (exd dx ((f, y) :: fs))) s' → Q () s') : wpAny (model X.prog X.w) A (setAttr (.ref a) f u) Q E s := by
  obtain ⟨t1, ho⟩ := exo_at I.hok e
  obtain ⟨mA, hns, rel⟩ := exd_at I.hok ed
  have hw := within_of rel
  obtain ⟨cd, hc, hdc⟩ := PySem.W.any_some T.hd
  obtain ⟨hp, g, d, t, os⟩ := s
  obtain ⟨oD, _, _, hoD, _, _⟩ := hns.count hw
  refine PySem.W.set_plain I.kIn (ox := { cls := .ref C, dict := some dx, data := .fields #[.ref t1, .none, .none, .none, .bool false, .none] }) (od := some oD) ⟨ho, rfl, rfl, hoD⟩ T.sa ?_
  refine PySem.W.osa_openX (od := some oD) T.SF I.kIn ⟨ho, rfl, rfl, hoD⟩ T.ov hno.taker fun b => ?_
  have di : ∀ {R : Option Addr → Shared → Prop} {E' : Value → Shared → Prop} {A' : Around} {t' : Nat}, R (some dx) ⟨hp, g, d, t', os⟩ → wpAny (model X.prog X.w) A' (instanceDict a true) R E' ⟨hp, g, d, t', os⟩ := fun q => by
    unfold instanceDict
    refine wpAny_bind (wpAny_loadPart ho ?_)
    dsimp only
    refine wpAny_bind ((PySem.W.looks_clsIn (M := model X.prog X.w) I.kIn hc).at ?_)
    rw [hdc]
    exact wpAny_pure q
  refine wpAny_bind (wpAny_pure (wpAny_bind (di ?_)))
  show wpAny _ _ (Builtin.ObjectAttr.storeInDict dx (.str f t) f u) _ _ _
  refine PySem.OEX.store_in_old hns hw (by rw [List.length_map]; omega) fun h' tk' hn hs => ?_
  have hd : ∃ o, h'.get? dx = some o := by
    obtain ⟨o, _, _, e', _⟩ := hn
    exact ⟨o, e'⟩
  exact h _ (I.write (t' := tk') (x := dx) (e := dx) (o := exd dx ((f, y) :: fs)) (by rw [ed]; exact True.intro) (.inl rfl) (fun b o hb q => (hs.2 b hb).trans q) hd (exd_ok hn (relO_put ry rel)))
/-- B.__init__(self, ..) through an own class: nothing of it is told -/
theorem oinitB {us : List Value} {Q : Value → Shared → Prop} (T : OexB X.K C B newId initId bt) (I : Inv X pins σ H s) (e : H a = some (exo a C none)) (hl : us.length ≤ sizeLine) (h : ∀ s', Inv X pins σ H s' → Q .none s') :
    wpAny (model X.prog X.w) A (call (.builtin initId) (.ref a :: us)) Q E s := by
  obtain ⟨nm, N, qn, bs, bm, hdct, sn, sub, ab, col, dd, k0, k1, k2, k3, k5, hC, hT⟩ := PySem.W.excInit_of I.kIn T.ini
  obtain ⟨t1, ho⟩ := exo_at I.hok e
  obtain ⟨hp, g, d, t, os⟩ := s
  refine wpAny_call (PySem.HandSPX.init_base T.FB hT hC ho hl fun h' t2 k hx => ?_)
  have J := I.write (t' := t) (x := a) (e := a) (o := exo a C none) (by rw [e]; exact True.intro) (.inl rfl) k ⟨_, hx⟩ (exo_ok hx)
  have eu : upd H a (exo a C none) = H := by
    funext b
    by_cases hb : b = a
    · subst hb; rw [upd_same, e]
    · exact upd_ne hb
  rw [eu] at J
  exact h _ J
end

/-! ### rules -/
/-- D.__init__(self, ..), D an own class without __init__ over the built-in B; nothing of it is told -/
def tBI (K : PySem.W.Frag) (B newId initId : String) (bt : List Value) (ta : TA) : TE := fun σ H Q => ta σ H fun vs H1 => ∃ (a C : Addr) (ws : List V), vs = .ref a :: ws ∧ ws.length ≤ 1000 ∧ OexB K C B newId initId bt ∧ H1 a = some (exo a C none) ∧ Q .non H1
/-- self.f = e, self an error -/
def tOstB (K : PySem.W.Frag) (B newId initId : String) (bt : List Value) (f : Str) (to te : TE) : TS := fun D σ H => te σ H fun y H1 => to σ H1 fun x H2 => ∃ a C : Addr, x = .ref a ∧ OexB K C B newId initId bt ∧ NoAttr K C f ∧
  ((H2 a = some (exo a C none) ∧ ∀ dx, H2 dx = none → dx ≠ a → D.nx σ (upd (upd H2 dx (exd dx [(f, y)])) a (exo a C (some dx)))) ∨
    ∃ (dx : Addr) (fs : List (Str × V)), H2 a = some (exo a C (some dx)) ∧ H2 dx = some (exd dx fs) ∧ fs.length ≤ 900 ∧ D.nx σ (upd H2 dx (exd dx ((f, y) :: fs))))
/-- what is known of the class that is named -/
structure BInit (K : PySem.W.Frag) (mg : Str → Option Value) (x : Str) (initId : String) : Prop where
  ex : ∃ D : Addr, mg x = some (.ref D) ∧ PySem.W.readsIn K D (.type "type") = true ∧ PySem.W.specialIn K (.ref D) "__getattribute__" = some (some (.builtin "type.__getattribute__")) ∧
    PySem.W.findCls K (.ref D) (.type "type") "__init__" = some (.val (.builtin initId)) ∧ PySem.W.handedIn (.builtin initId) = true
section
variable {X : Cx} {o e : Expr} {es : List Expr} {to te : TE} {ta : TA} {f x : Str} {p p' p1 p2 pos : Pos} {B newId initId : String} {bt : List Value}
theorem pe_binit {pl : Sem Bool} (c : BInit X.K X.mg x initId) (hg : Gl X x) (ha : PA X (e :: es) ta) (hdb : (x == ("__debug__" : Str)) = false := by decide)
    (hc : eval (.Call (.Attribute (.Name x p1) "__init__" p2) (e :: es) [] pos) X.env = (do
      let ov ← eval (.Name x p1) X.env
      standAt p2.atName
      let (f, first) ← holding [ov] (getMethod ov "__init__" pl)
      callWith pos f first (backTo pos (starEach (e :: es) X.env)) (backToKw pos (keywordEach [] X.env))) := by rfl)
    (he : starEach (e :: es) X.env = (false, eval e X.env) :: starEach es X.env := by rfl) (hpl : (backTo pos (starEach es X.env)).any (·.1) = false := by rfl) :
    PE X (.Call (.Attribute (.Name x p1) "__init__" p2) (e :: es) [] pos) (tBI X.K B newId initId bt ta) := by
  obtain ⟨D, hm, hrd, hga, hat, hh⟩ := c.ex
  refine ⟨fun pins s σ H Q I h => ?_⟩
  refine PySem.W.methodCall_KW (pl := pl) (ld_glob I hg hm ?_ hdb) hc
  refine PySem.W.method_cls I.kIn hga (PySem.W.cls_value I.kIn hrd hat hh ?_)
  refine PyProof.Rows.callWith_method1 (thn (ha.run pos pins _ σ H _ (I.tok _) h) fun us s1 ⟨vs, H1, I1, r1, a, C, ws, ev, hl, T, ea, q⟩ => ?_) he hpl
  subst ev
  cases r1 with
  | @cons _ u0 _ ur ra rw' =>
    obtain rfl : u0 = Value.ref a := ra
    refine oinitB T I1 ea ?_ fun s' J => ⟨.non, H1, J, rfl, q⟩
    rw [← Paired.length rw', sizeLine_eq]
    omega
theorem ps_ostB (ho : PE X o to) (he : PE X e te) (hs : swapsWith e (some (.Attribute o f p')) pos.line X.env = pure false := by rfl) : PS X (.Assign [.Attribute o f p'] e pos) (tOstB X.K B newId initId bt f to te) := by
  refine ⟨fun pins s σ H D I h => ?_⟩
  refine plainObj_wpAny_Assign_Attribute (thn (he.run pins s σ H _ I h) fun v s1 ⟨y, H1, I1, r1, q1⟩ => thn (ho.run pins s1 σ H1 _ I1 q1) fun u s2 ⟨x, H2, I2, r2, a, C, ex, T, hno, q⟩ => ?_) hs
  subst ex
  obtain rfl : u = Value.ref a := r2
  rcases q with ⟨ea, q⟩ | ⟨dx, fs, ea, ed, hl, q⟩
  · exact ostB_new T I2 ea hno r1 fun dx s' n ne J => ⟨σ, _, J, q dx n ne⟩
  · exact ostB_old T I2 ea ed hl hno r1 fun s' J => ⟨σ, _, J, q⟩
end
/-- C(e, ..), an error of an own class whose __init__ keeps sp, to be raised -/
def tMkB (C : Addr) (sp : Sp) (ta : TA) : L2.St → Hp → XK → Prop := fun σ H Q => ta σ H fun vs H1 => vs.length ≤ 1000 ∧ ∀ a, H1 a = none → sp (.ref a :: vs) (upd H1 a (exo a C none))
  (fun v H2 => v = .non ∧ ∃ (d : Addr) (fs : List (Str × V)), H2 a = some (exo a C (some d)) ∧ H2 d = some (exd d fs) ∧ H1 d = none ∧ Q (.ref C) (some d) (upd (del H2 a) d (.xd fs))) E0
structure ExM (P : Program) (w : World) (K : PySem.W.Frag) (mg : Str → Option Value) (base : Heap) (k : Nat) (x : Str) (C : Addr) (sp : Sp) : Prop where
  ex : ∃ (B newId initId : String) (bt : List Value) (f : Addr) (fd : FuncData) (ps : List Str), OexB K C B newId initId bt ∧ mg x = some (.ref C) ∧ PySem.W.findIn K (.ref C) "__init__" = some (some (.ref f)) ∧ PySem.W.typeIn K (.ref f) = some (.type "function") ∧
    FnOk P w K mg base CX0 k f fd ps sp ∧ Binds K fd ps []
section
variable {X : Cx} {e : Expr} {es : List Expr} {ta : TA} {x : Str} {p pos : Pos} {C : Addr} {sp : Sp} {k j : Nat}
theorem pmk_B (c : ExM X.prog X.w X.K X.mg X.base k x C sp) (hr : Room j X.A) (hk : k + 1 ≤ j) (hg : Gl X x) (ha : PA X (e :: es) ta)
    (hdb : (x == ("__debug__" : Str)) = false := by decide) (he : starEach (e :: es) X.env = (false, eval e X.env) :: starEach es X.env := by rfl) (hpl : (backTo pos (starEach es X.env)).any (·.1) = false := by rfl) :
    PMk X (.Call (.Name x p) (e :: es) [] pos) (tMkB C sp ta) := by
  obtain ⟨B, newId, initId, bt, f, fd, ps, T, hm, iC, tI, F, hb⟩ := c.ex
  have hr' : Room (k + 1) X.A := hr.mono hk
  intro pins s σ H Q I h
  refine wpAny_Call_Name_kw (ld_glob I hg hm ?_ hdb)
  refine PySem.W.callWith_K (h₀ := X.base) I.ok.mod.kin T.kC (thn (ha.run pos pins s σ H _ I h) fun us s1 ⟨vs, H1, I1, r1, hz, q1⟩ => ⟨I1.kIn, ?_⟩) he hpl
  show wpAny _ _ (call (.ref C) us) _ _ _
  obtain ⟨nm, N, qn, bs, bm, hdct, sn, sub, ab, col, dd, k0, k1, k2, k3, k5, hC, hT⟩ := PySem.W.excInit_of I1.kIn T.ini
  obtain ⟨hp, g, dr, tk, os⟩ := s1
  have hsz : hp.objs.size ≤ hp.objs.size + 1 := Nat.le_succ _
  have hq := q1 (hp.objs.size + 1) (I1.hok.fresh hsz)
  have kk : ∀ b o, hp.get? b = some o → ((hp.push (PySem.W.kdv_tup us)).push (PySem.HandSPX.excO C hp.objs.size)).get? b = some o := fun b o q => Heap.get?_push_of_some _ (Heap.get?_push_of_some _ q)
  have hget : ((hp.push (PySem.W.kdv_tup us)).push (PySem.HandSPX.excO C hp.objs.size)).get? (hp.objs.size + 1) = some (PySem.HandSPX.excO C hp.objs.size) := by heap_get
  have I2 : Inv X pins σ (upd H1 (hp.objs.size + 1) (exo (hp.objs.size + 1) C none)) ⟨(hp.push (PySem.W.kdv_tup us)).push (PySem.HandSPX.excO C hp.objs.size), g, dr, tk, os⟩ :=
    I1.laid (t' := tk) (a := hp.objs.size + 1) (o := exo (hp.objs.size + 1) C none) (h' := (hp.push (PySem.W.kdv_tup us)).push (PySem.HandSPX.excO C hp.objs.size)) kk hsz (exo_ok hget)
  have r2 : Vals (V.ref (hp.objs.size + 1) :: vs) (Value.ref (hp.objs.size + 1) :: us) := .cons rfl r1
  have hl : (Value.ref (hp.objs.size + 1) :: us).length = ps.length := by
    have z := F.len _ _ _ _ hq
    rw [r2.length] at z
    exact z
  have hus : us.length ≤ sizeLine := by
    rw [← Paired.length r1, sizeLine_eq]
    omega
  have hbb := hb _ (Value.ref (hp.objs.size + 1) :: us) I2.kIn (by rw [List.append_nil]; exact hl)
  rw [List.append_nil] at hbb
  refine wpAny_call (PySem.HandSPX.call_own T.FB hT hC (PySem.W.looks_findIn I1.kIn iC) (fun self => PySem.W.bind_fn I1.kIn self tI) hus
    (codeAny_mono (F.run _ X.stack _ _ ⟨Value.ref (hp.objs.size + 1) :: us, []⟩ (Value.ref (hp.objs.size + 1) :: us) _ _ E0 (hr'.make C us []) (I2.env0.make C us []) hbb r2 hq) fun r s' hq' => ?_))
  cases r with
  | error er => exact False.elim hq'
  | ok fl =>
    cases fl with
    | ret u =>
      obtain ⟨v, H2, os2, bare2, un2, hok2, rv, ev, d, fs, ea, ed, hd1, q2⟩ := hq'
      subst ev
      obtain ⟨h2, g2, d2, t2, os'⟩ := s'
      exact ⟨rv, mk_end (raises_own T.exC T.tyC) I1 hsz kk un2 hok2 os2 bare2 ea ed hd1 q2⟩
    | next => exact False.elim hq'
    | brk => exact False.elim hq'
    | cont => exact False.elim hq'
end

/-! ### o.m(e, ..) in a try: what is raised is wished for at the caller's slots -/
def tMtS (C : Addr) (m : Str) (sp : Sp) (E : L2.St → XK) (ta : TE) (t : TA) : TE := fun σ H Q => ta σ H fun x H1 => ∃ a dx fs, x = .ref a ∧ H1 a = some (.ins C dx fs) ∧ fld fs m = none ∧ t σ H1 fun vs H2 => sp (.ref a :: vs) H2 Q (E σ)
theorem pe_mtS {X : Cx} {CX : CXT} {k j : Nat} {C : Addr} {m : Str} {sp : Sp} {E : L2.St → XK} {pos apos : Pos} {e o : Expr} {es : List Expr} {ta : TE} {t : TA} {pl : Sem Bool} (c : Met X.prog X.w X.K X.mg X.base CX k C m sp) (hr : Room j X.A) (hk : k ≤ j) (hx : ∀ σ, PassesAt CX X σ (E σ)) (he : PE X o ta) (ha : PA X (e :: es) t)
    (hst : starEach (e :: es) X.env = (false, eval e X.env) :: starEach es X.env := by rfl) (hpl : (backTo pos (starEach es X.env)).any (·.1) = false := by rfl)
    (ht : eval (.Call (.Attribute o m apos) (e :: es) [] pos) X.env = (do
      let ov ← eval o X.env
      standAt apos.atName
      let (f, first) ← holding [ov] (getMethod ov m pl)
      callWith pos f first (backTo pos (starEach (e :: es) X.env)) (backToKw pos (keywordEach [] X.env))) := by rfl) :
    PE X (.Call (.Attribute o m apos) (e :: es) [] pos) (tMtS C m sp E ta t) := by
  obtain ⟨f, fd, ps, hc, hm, F, b⟩ := c.ex
  refine ⟨fun pins s σ H Q I h => ?_⟩
  refine PySem.W.methodCall_KW (pl := pl) (thn (he.run pins s σ H _ I h) fun u s1 ⟨x, H1, I1, rx, a, dx, fs, ex, ea, l, q⟩ => ?_) ht
  subst ex
  obtain rfl : u = Value.ref a := rx
  refine getmeth_ok I1 ea hc hm l ?_
  refine PySem.W.callWith_K (first := [.ref a]) (h₀ := X.base) I.ok.mod.kin hm.kp (thn (ha.run pos pins s1 σ H1 _ I1 q) fun us s2 ⟨vs, H2, I2, r, q2⟩ => ⟨I2.kIn, ?_⟩) hst hpl
  exact run_fnS (us := .ref a :: us) (vs := .ref a :: vs) F (hr.mono hk) b (hx σ) I2 (.cons rfl r) q2

/-! ### isinstance of a caught error that has attributes -/
structure ExcI (K : PySem.W.Frag) (D : Addr) : Prop where
  cl : (PySem.W.clsIn K D).isSome = true
  ga : PySem.W.findIn K (.ref D) "__getattribute__" = some (some (.builtin "BaseException.__getattribute__"))
  gg : PySem.W.findIn K (.ref D) "__getattr__" = some none
  exC : PySem.W.subIn K (.ref D) (.type "BaseException") = some true
  ca : PySem.W.findIn K (.ref D) "__class__" = some (some (.builtin "object.__class__"))
  cg : PySem.W.specialIn K (.builtin "object.__class__") "__get__" = some (some (.builtin "getset_descriptor.__get__"))
  ct : PySem.W.takesIn K (.builtin "object.__class__") = some true
  mo : PySem.W.mroIn K D (.type "object") = some true
def rIsD (K : PySem.W.Frag) (D a : Addr) (cls : Value) (d : Option Addr) : List V → Hp → VK → Prop := fun xs H Q => ∃ (c : V) (cv : Value) (b : Bool) (dd : Addr) (fs : List (Str × V)), xs = [.ref a, c] ∧ ClsV c cv ∧ cls = .ref D ∧ d = some dd ∧ H dd = some (.xd fs) ∧ PySem.W.kitOne K (.ref D) cv = some b ∧ Q (.bl b) H
theorem call_isD {X : Cx} {a D : Addr} {cls : Value} {d : Option Addr} {oe : Obj} {pn : List (Addr × Obj)} (C : ExcI X.K D) (hz : Zc cls d oe) (hf : ∃ vs, oe.data = .fields vs) : CallR (X.suite a ((a, oe) :: pn)) (.builtin "isinstance") (rIsD X.K D a cls d) := by
  intro pins s σ H xs us Q I r h
  obtain ⟨c, cv, b, dd, fs, rfl, hcv, rfl, rfl, hdd, e, q⟩ := h
  cases r with
  | cons rx rr =>
    cases rr with
    | cons rt rr =>
      cases rr
      cases rx
      have ec := hcv.eq rt
      subst ec
      obtain ⟨hget, _⟩ := I.pin (a, oe) (List.mem_append_left _ List.mem_cons_self)
      obtain ⟨mA, ⟨od, es, ep, hod, _⟩, _⟩ := (show ObjOk X.prog X.w H s.heap dd (.xd fs) from I.hok dd _ hdd)
      obtain ⟨vs, hv⟩ := hf
      have J : PySem.W.InstAt s.heap a oe D (some od) := ⟨hget, hz.1, by unfold PySem.W.notCls; rw [hv] <;> rfl, by rw [hz.2]; exact hod⟩
      exact PySem.W.kia_one (PySem.W.kitx_exc C.cl C.ga C.gg C.exC C.ca C.cg C.ct C.mo) I.kIn J e (fun z => nomatch z) fun tk => ⟨.bl b, H, I.kept (t' := tk) fun _ _ z => z, rfl, q⟩
end UX
namespace UX
open PySem PySem.Spec PyProof.Rows L2 U
/-- a def that lets nothing out, calling defs that may raise where they don't -/
theorem okN {P : Program} {w : World} {K : PySem.W.Frag} {mg : Str → Option Value} {base : Heap} {x qual : Str} {st : Stmt} {f : Addr} {fd : FuncData} {N ps : List Str} {k : Nat} {sp : Sp} (F : Fun K x qual st f fd) (S : FnScope N ps (defScope st)) (len : ∀ vs H Q E, sp vs H Q E → vs.length = ps.length)
    (hbody : ∀ (cdv : Value) (A : Around) (outer : List Env) (s : Shared) (H : Hp) (vs : List V) (Q : VK) (E : XK), Room k (A.deeper (envOfC qual (defScope st) s.heap.objs.size f cdv)) → sp vs H Q E →
      ∃ t, PSs (cxOf (L2.CX P w) P w K mg base N qual (defScope st) f cdv A outer s H E).nox (defBody st) t ∧ t { nx := fun _ H' => Q .non H', rt := Q } (start N vs) H) : FnOk P w K mg base (L2.CX P w) (k + 1) f fd ps sp := by
  obtain ⟨oc, od, kV, doc, pm, an, cdv, ct, osl, rfl, lk, hcd⟩ := F.ex
  refine fn_of lk hcd S len fun A outer s H vs Q E hr hsp => ?_
  obtain ⟨t, h, q⟩ := hbody cdv A outer s H vs Q E hr hsp
  exact ⟨t, h.nox, q⟩
section
variable {X : Cx} {k j : Nat} {C : Addr} {x m : Str} {sp : Sp} {p pos apos : Pos} {e o : Expr} {es : List Expr} {ta : TE} {t : TA}
theorem pe_cL (c : Cal X.prog X.w X.K X.mg X.base (L2.CX X.prog X.w) k x sp) (hr : Room j X.A) (hk : k ≤ j) (hg : Gl X x) (ha : PA X (e :: es) t)
    (hdb : (x == ("__debug__" : Str)) = false := by decide) (he : starEach (e :: es) X.env = (false, eval e X.env) :: starEach es X.env := by rfl) (hpl : (backTo pos (starEach es X.env)).any (·.1) = false := by rfl) :
    PE X (.Call (.Name x p) (e :: es) [] pos) (tCall sp [] L2.E0 t) := by
  obtain ⟨f, fd, ps, F, hm, kp, b⟩ := c.ex
  exact pe_call F (hr.mono hk) hg hm kp b .nil passL ha hdb he hpl
theorem pe_mtL {pl : Sem Bool} (c : Met X.prog X.w X.K X.mg X.base (L2.CX X.prog X.w) k C m sp) (hr : Room j X.A) (hk : k ≤ j) (he : PE X o ta) (ha : PA X (e :: es) t)
    (hst : starEach (e :: es) X.env = (false, eval e X.env) :: starEach es X.env := by rfl) (hpl : (backTo pos (starEach es X.env)).any (·.1) = false := by rfl)
    (ht : eval (.Call (.Attribute o m apos) (e :: es) [] pos) X.env = (do
      let ov ← eval o X.env
      standAt apos.atName
      let (f, first) ← holding [ov] (getMethod ov m pl)
      callWith pos f first (backTo pos (starEach (e :: es) X.env)) (backToKw pos (keywordEach [] X.env))) := by rfl) :
    PE X (.Call (.Attribute o m apos) (e :: es) [] pos) (tMeth C m sp [] L2.E0 ta t) := by
  obtain ⟨f, fd, ps, hc, hm, F, b⟩ := c.ex
  exact pe_meth (pl := pl) he hc hm F (hr.mono hk) b .nil passL ha hst hpl ht
end
end UX
namespace UX
open PySem PySem.Spec PyProof.Rows L2 U
theorem cxF {P : Program} {w : World} {H : Hp} {s : Shared} {e : Value} {s' : Shared} (h : L2.CX P w [] H s (fun _ _ _ => False) e s') : False := by
  obtain ⟨_, _, _, _, _, _, _, _, _, _, _, _, z⟩ := h
  exact z.elim
end UX
open PySem PySem.Spec PyProof.Rows L2 U
set_option maxHeartbeats 400000
namespace UF
open Builtin Builtin.Str Builtin.Int Builtin.Float
def binT (n : Nat) : Str := PySem.Str.ofString (String.ofList (Nat.toDigits 2 n))
theorem meetsB0 (n : Nat) (hn : n < 64) (t u : Tok) (spec : PySem.Str) (hne : (spec.length == 0) = false) (hasc : ((spec.cps.toList.drop 1).any (· ≥ 128) || (spec.cps.getD 0 0 ≥ 128 && !([60, 62, 61, 94] : List Nat).contains (spec.cps.getD 1 0))) = false)
    (hp : parseFormatSpec spec.cps.toList "int" 62 = .ok { align := 62, type := some 98 }) : Meets (Builtin.«int.__format__» ⟨[.int (n : Int) t, .str spec u], []⟩) (fun _ R s => ∀ t' k, R (.ok (.ret (.str (binT n) t'))) { s with toks := k }) := by
  apply PySem.W.KPc.meets_of
  intro _ _ _ _ _ _ a
  unfold Builtin.«int.__format__»
  simp only [selfAndOne, noKeywords, Int.intOfSelf, asInt?, asStr?, List.isEmpty_nil, if_true, pure_bind, bind_pure, bind_assoc, hne, hasc, Bool.false_eq_true, if_false,
    show (Value.str spec u == Value.none) = false from rfl]
  refine wpAny_bind (wpAny_typeNameOf (T := "str") (typeIs_str _ _ _) (by decide) fun _ => ?_)
  refine wpAny_bind (wpAny_typeNameOfCut_int ?_)
  simp only [hp, Option.getD]
  refine wpAny_ite (PySem.W.KPc.ite_yes (by decide +kernel) ?_)
  refine PySem.W.KXf.ret_text (T := binT n) ?e ?l ?_
  case e => clear a; revert n; decide +kernel
  case l => clear a; revert n; decide +kernel
  exact a
/-- the rule: f'{x:b}' of a small number -/
def tFmtB (te : TE) : TE := fun σ H Q => te σ H fun x H1 => ∃ n : Nat, x = .int (n : Int) ∧ n < 64 ∧ Q (.str (binT n)) H1
theorem pe_fmtB {X : Cx} {e : Expr} {te : TE} {kk : Nat} {p1 p2 p3 : Pos} (he : PE X e te) : PE X (.FormattedValue e (-1) (some (.JoinedStr [.Constant (.str "b") kk p1] p2)) p3) (tFmtB te) := by
  refine ⟨fun pins s σ H Q I h => ?_⟩
  refine wpAny_FormattedValue_spec (thn (he.run pins s σ H _ I h) fun v s1 hv => ?_)
  obtain ⟨x, H1, I1, r1, n, rfl, hn, q⟩ := hv
  obtain ⟨t, rfl⟩ := r1
  refine thn ((pe_joined1 (X := X) pe_str).run pins s1 σ H1 (fun y H2 => y = .str "b" ∧ H2 = H1) I1 ?_) fun v2 s2 hv2 => ?_
  · exact ⟨rfl, rfl⟩
  obtain ⟨y, H2, I2, r2, rfl, rfl⟩ := hv2
  obtain ⟨t2, rfl⟩ := r2
  refine ⟨_, t2, rfl, ?_⟩
  exact PySem.W.KXf.field_int rfl (by decide +kernel) (by decide +kernel) (fun u => meetsB0 n hn t u _ (by decide +kernel) (by decide +kernel) (by rfl)) fun t' k => ⟨.str (binT n), H2, I2.tok _, ⟨_, rfl⟩, q⟩
theorem pe_joinK {X : Cx} (K : PySem.W.Frag) (hK : X.K = K) {o e : Expr} {to te : TE} {apos pos : Pos} (ho : PE X o to) (he : PE X e te) (hs : starEach [e] X.env = [(false, eval e X.env)]) (hbase : attributeBase o "join" X.env (eval o X.env) = eval o X.env) (hline : (apos.endLine == pos.line) = true) :
    PE X (.Call (.Attribute o "join" apos) [e] [] pos) (tM1 (fun x xs H Q => ∃ a p, ∃ ys : List Str, x = .str a ∧ xs = [.ref p] ∧ (SqL K H p (ys.map V.str) ∨ SqT K H p (ys.map V.str)) ∧
      (ys.map (·.length)).sum + ys.length * a.length ≤ 16777216 ∧ Q (.str (Txt.join a ys)) H) to te) := by
  subst hK; exact pe_join ho he hs hbase hline
/-- one of several readings -/
theorem pe_ex {ι : Type} {X : Cx} {e : Expr} {t : ι → TE} (h : ∀ i, PE X e (t i)) : PE X e (fun σ H Q => ∃ i, t i σ H Q) := ⟨fun pins s σ H Q I ⟨i, h1⟩ => (h i).run pins s σ H Q I h1⟩
end UF
namespace UF
theorem op_mulS {X : Cx} : OpR X (binaryOp .Mult) (fun x y H Q => ∃ (i : Str) (n : Int), x = .str i ∧ y = .int n ∧ PySem.MulOk i n ∧ Q (.str (PySem.Txt.mul i n)) H) := by
  intro pins s σ H x y v u Q I rx ry h
  obtain ⟨i, n, rfl, rfl, hz, q⟩ := h
  obtain ⟨t, rfl⟩ := rx
  obtain ⟨t', rfl⟩ := ry
  exact PySem.SB.mul hz (fun t' tk => ⟨.str (PySem.Txt.mul i n), H, I.tok _, ⟨_, rfl⟩, q⟩)
theorem cutS_le (z : Str) (lo hi : Option Int) : (cutS z lo hi).length ≤ z.length := by
  unfold cutS
  show (((z.cps.toList.drop _).take _).toArray).size ≤ z.cps.size
  rw [List.size_toArray, List.length_take, List.length_drop, Array.length_toList]
  omega
end UF
namespace UF
theorem pi_listK {X : Cx} {tg : Expr} (K : PySem.W.Frag) (hK : X.K = K) {l : Expr} {tl : TE} (hl : PE X l tl) : PI X tg l (iList K tl) := by subst hK; exact pi_list hl
end UF
set_option maxHeartbeats 3200000
/-! set(xs) of a list of any keys of one kind, and len(set(xs)) of a list of texts -/
namespace US
open PySem PySem.Spec PyProof.Rows L2 U
section
variable {T : Type} [DecidableEq T]
/-- the keys met before place i, each once -/
def dd (ks : Nat → T) : Nat → List T
  | 0 => []
  | i + 1 => if ks i ∈ dd ks i then dd ks i else dd ks i ++ [ks i]
theorem dd_mem {ks : Nat → T} {i : Nat} {x : T} : x ∈ dd ks (i + 1) ↔ x ∈ dd ks i ∨ x = ks i := by
  rw [dd]
  by_cases h : ks i ∈ dd ks i
  · rw [if_pos h]
    exact ⟨Or.inl, fun q => q.elim id fun e => e ▸ h⟩
  · rw [if_neg h, List.mem_append, List.mem_singleton]
theorem dd_le (ks : Nat → T) : ∀ i, (dd ks i).length ≤ i
  | 0 => Nat.le_refl _
  | i + 1 => by
    rw [dd]
    have := dd_le ks i
    by_cases h : ks i ∈ dd ks i
    · rw [if_pos h]; omega
    · rw [if_neg h, List.length_append]; show _ + 1 ≤ _; omega
theorem dd_len {ks : Nat → T} {i : Nat} : (dd ks (i + 1)).length = if decide (ks i ∈ dd ks i) = true then (dd ks i).length else (dd ks i).length + 1 := by
  rw [dd]
  by_cases h : ks i ∈ dd ks i
  · rw [if_pos h, if_pos (decide_eq_true h)]
  · rw [if_neg h, if_neg (by rw [decide_eq_false h]; decide), List.length_append]; rfl
end
section
variable {prog : Program} {w : World} {A : Around} {T : Type} [DecidableEq T] {knd : KeyKind prog w T}
theorem kept {h h' : Heap} {S : Addr} {f : T → Bool} {n : Nat} (q : h.SetOf knd S f n) (k : ∀ o, h.get? S = some o → h'.get? S = some o) : h'.SetOf knd S f n := by
  obtain ⟨o, es, ep, tb, at0, more⟩ := q
  exact ⟨o, es, ep, tb, k o at0, more⟩
/-- the loop that fills the set -/
theorem fill {R : Result → Shared → Prop} {I S : Addr} {fp wr : List Addr} {G : Array GenState → Array GenState → Prop} {n : Nat} {Pv : Nat → Value → Prop} {St : Nat → Shared → Prop} {ks : Nat → T}
    (W : WalksS prog w A.in1 I fp wr G n Pv St) (out : S ∉ fp) (key : ∀ i v, Pv i v → knd.is (ks i) v = true ∧ v.scannable = true) (few : n + 1 < scanBound) :
    ∀ (r i : Nat) (s : Shared), i + r = n → St i s → s.heap.SetOf knd S (fun x => decide (x ∈ dd ks i)) (dd ks i).length →
      (∀ s', Moved (S :: wr) G s s' → s'.heap.SetOf knd S (fun x => decide (x ∈ dd ks n)) (dd ks n).length → R (.ok (.ret .none)) s') →
      codeAny (model prog w) A (.builtin "set.update.loop" ⟨[.ref S, .ref I], []⟩) R s := by
  have off : S ∉ wr := fun q => out (W.sub S q)
  have more : ∀ b, b ∈ wr → b ∈ S :: wr := fun b q => .tail _ q
  intro r
  induction r with
  | zero =>
    rintro i s e st hS fin
    obtain rfl : i = n := e
    apply codeAny_builtin PyProof.Rows.F.entry_set_update_loop
    rw [Around.under_plainId PyProof.Rows.F.plain_set_update_loop]
    refine wpAny_bind (m := pyNext (.ref I)) (W.done s _ _ st fun s' mv => ?_)
    refine wpAny_pure (fin s' (mv.mono more) (kept hS fun o at0 => mv.heap S o off at0))
  | succ r ih =>
    rintro i s e st hS fin
    have lt : i < n := by omega
    apply codeAny_builtin PyProof.Rows.F.entry_set_update_loop
    rw [Around.under_plainId PyProof.Rows.F.plain_set_update_loop]
    refine wpAny_bind (m := pyNext (.ref I)) (W.item i s _ _ lt st fun v s' pv st' mv => ?_)
    obtain ⟨isk, scn⟩ := key i v pv
    refine wpAny_bind (m := holding [v] (setAdd S v)) (wpAny_holding ?_)
    unfold setAdd
    refine wpAny_holding (wpAny_bind (knd.pyHash (k := ks i) isk ?_))
    have room := dd_le ks i
    refine wpAny_setAddHashed_of isk scn (kept hS fun o at0 => mv.heap S o off at0) (by omega) fun h2 but put => ?_
    have put' : h2.SetOf knd S (fun x => decide (x ∈ dd ks (i + 1))) (dd ks (i + 1)).length := by
      rw [dd_len]
      have ef : (fun x => decide (x ∈ dd ks (i + 1))) = fun x => decide (x ∈ dd ks i) || decide (x = ks i) := by
        funext x
        by_cases h1 : x ∈ dd ks i <;> by_cases h2 : x = ks i <;> simp [dd_mem, h1, h2]
      rw [ef]
      exact put
    have far : ∀ b o, b ≠ S → s'.heap.get? b = some o → h2.get? b = some o := fun b o nb q => by rw [but.2 b nb]; exact q
    refine wpAny_pure ⟨plainId_quiet PyProof.Rows.F.plain_set_update_loop _, ih (i + 1) _ (by omega) ?_ put' fun s2 mv2 q2 => fin s2 ?_ q2⟩
    · exact W.frame _ s' _ _ st' (Nat.le_succ _) fun b inb o q => far b o (fun z => out (z ▸ inb)) q
    · exact .trans W.gtrans ((mv.mono more).then_heap (Nat.le_succ _) fun b o nb q => far b o (fun z => nb (z ▸ .head _)) q) mv2
end
section
variable {prog : Program} {w : World} {A : Around} {E : Value → Shared → Prop} {s : Shared} {T : Type} [DecidableEq T] {knd : KeyKind prog w T}
/-- a set that was just made -/
abbrev bare (led : Bool) : Obj := { cls := .type "set", dict := none, data := .set #[] 0 (.fresh 0 0 led) }
theorem set_of_list {l : Addr} {items : Array Value} {ks : Nat → T} {Q : Value → Shared → Prop} (calm : A.handled = none) (isl : s.heap.IsList l items) (key : ∀ i v, items[i]? = some v → knd.is (ks i) v = true ∧ v.scannable = true) (few : items.size + 1 < scanBound)
    (go : ∀ (h' : Heap) (tk : Nat), h'.SetOf knd s.heap.objs.size (fun x => decide (x ∈ dd ks items.size)) (dd ks items.size).length → (∀ b o, s.heap.get? b = some o → h'.get? b = some o) → Q (.ref s.heap.objs.size) { s with heap := h', toks := tk }) :
    wpAny (model prog w) A (call (.type "set") [.ref l]) Q E s := by
  obtain ⟨m1, m2, mro0⟩ := PySem.F.called_set.mro
  have made0 := PySem.F.called_set.made; have sub0 := PySem.F.called_set.sub; have nt0 := PySem.F.called_set.notType; have cc0 := PySem.F.called_set.canCreate
  have tc0 := PySem.F.typeCall_set_1 (.ref l)
  apply wpAny_call; apply codeAny_of_tree
  show wpAny _ _ (callAny (.type "set") _) _ _ _
  refine wpAny_pure ⟨Code.quiet_builtin _ (by decide +kernel), ?_⟩
  apply codeAny_builtin PySem.F.entry_type_call
  rw [Around.under_plain (weight_type_call_type "set" [.ref l] []) rfl]
  repeat (any_goals (first | assumption | wp_step))
  refine codeAny_mono (code_set_new_1 (.ref l) (E := E) (Q₁ := fun v s1 => ∃ led : Bool, v = .ref s.heap.objs.size ∧ s1 = { s with heap := s.heap.push (bare led) }) fun led => ⟨led, rfl, rfl⟩) fun r s1 got => ?_
  cases r with
  | error e => exact got
  | ok fl => cases fl with
    | ret v =>
      obtain ⟨led, rfl, rfl⟩ := got
      generalize hp0 : s.heap.push (bare led) = H0
      have at0 : H0.get? s.heap.objs.size = some (bare led) := by rw [← hp0]; exact Heap.get?_push_size _ rfl
      have old0 : ∀ b o, s.heap.get? b = some o → H0.get? b = some o := fun b o q => by rw [← hp0]; exact Heap.get?_push_of_some _ q
      have ty0 : Shared.TypeIs { s with heap := H0 } (.ref s.heap.objs.size) "set" := ⟨_, at0, rfl⟩
      have look0 := PySem.F.called_set.init.lookup; have bind0 := PySem.F.called_set.init.bind (.ref s.heap.objs.size)
      repeat (any_goals (first | assumption | wp_step))
      refine codeAny_mono (codeAny_call_builtin (R := wants (fun v s2 => v = .none ∧ ∃ h' tk, s2 = { s with heap := h', toks := tk } ∧ h'.SetOf knd s.heap.objs.size (fun x => decide (x ∈ dd ks items.size)) (dd ks items.size).length ∧ ∀ b o, s.heap.get? b = some o → h'.get? b = some o) E)
        PySem.F.called_set.init.plain PySem.F.entry_set_init (check_set_init_1 ty0 ?_)) fun r2 s2 got2 => ?_
      · obtain ⟨⟨lc, ld, lda, ls⟩, lat, lcl, ln, ldd⟩ := isl
        dsimp only at lcl ldd
        cases lcl; cases ldd
        have lat0 := old0 _ _ lat
        have nl0 := PySem.F.sub_list_set; have nf0 := PySem.F.sub_list_frozenset
        have nd0 : (Value.type "list" == Value.type "dict") = false := by decide
        have isl0 : H0.IsList l items := ⟨_, lat0, rfl, ln, rfl⟩
        unfold Builtin.«set.__init__» noKeywords Builtin.Frozenset.updateFrom
        generalize hit : pyIter = iter0
        wp_walk
        subst hit
        refine wpAny_pyIter_list isl0 ?_
        refine wpAny_bind (wpAny_runValue ?_)
        have b1 : l < s.heap.objs.size := Heap.lt_size lat
        have b2 : s.heap.objs.size < H0.objs.size := Heap.lt_size at0
        have calm3 : A.in1.in1.in1.handled = none := by simp [calm]
        refine fill ((Walks.list calm3 _ l (Nat.ne_of_lt (Nat.lt_trans b1 b2)) items).toS) (S := s.heap.objs.size) (knd := knd) ?out key few items.size 0 _ (Nat.zero_add _) ⟨⟨_, Heap.get?_push_size _ rfl, rfl, rfl⟩, isl0.push _⟩ ?start ?stop
        case out =>
          intro q
          rcases List.mem_cons.mp q with e | q
          · exact Nat.ne_of_lt b2 e
          · exact Nat.ne_of_gt b1 (List.mem_singleton.mp q)
        case start =>
          have z := (setObjOf_fresh (knd := knd) led).setOf at0 (by unfold scanBound; omega)
          refine kept (SetOf_congr z (fun x => ?_) ?_) fun o q => Heap.get?_push_of_some _ q
          · rfl
          · rfl
        case stop =>
          rintro ⟨h', g', d', tk', os'⟩ mv put
          obtain rfl : g' = s.gens := mv.gens
          obtain rfl : d' = s.drawn := mv.drawn
          obtain rfl : os' = s.os := mv.os
          refine wpAny_pure (a := ()) ?_
          refine wpAny_pure (a := Fin.done (.ret Value.none)) ⟨rfl, h', tk', rfl, put, fun b o q => mv.heap b o (fun i => ?_) (Heap.get?_push_of_some _ (old0 b o q))⟩
          have b3 : b < s.heap.objs.size := Heap.lt_size q
          rcases List.mem_cons.mp i with e | i
          · exact Nat.ne_of_lt b3 e
          · exact Nat.ne_of_lt (Nat.lt_trans b3 b2) (List.mem_singleton.mp i)
      · cases r2 with
        | error e => exact got2
        | ok fl2 => cases fl2 with
          | ret v2 =>
            obtain ⟨rfl, h', tk, rfl, put, keep⟩ := got2
            repeat (any_goals (first | assumption | wp_step))
            exact go _ _ put keep
          | _ => exact got2.elim
    | _ => exact got.elim
end
/-- the number of different texts of a list -/
def kinds (xs : List Str) : Nat := (dd (fun i => xs.getD i Str.empty) xs.length).length
def tLenSetS (K : PySem.W.Frag) (ta : TE) : TE := fun σ H Q => ta σ H fun x H1 => ∃ (l : Addr) (xs : List Str), x = .ref l ∧ SqL K H1 l (xs.map V.str) ∧ xs.length ≤ 4000 ∧ Q (.int ((kinds xs : Nat) : Int)) H1
theorem strs_at {xs : List Str} {us : List Value} (r : Vals (xs.map V.str) us) (i : Nat) (v : Value) (q : us[i]? = some v) : ∃ t, v = .str (xs.getD i Str.empty) t := by
  induction xs generalizing us i with
  | nil => cases r; cases q
  | cons x xs ih =>
    cases r with
    | cons a b =>
      obtain ⟨t, rfl⟩ := a
      cases i with
      | zero => cases q; exact ⟨t, rfl⟩
      | succ i => exact ih b i q
theorem pe_lenSetS {X : Cx} {a : Expr} {ta : TE} {p p2 q pos : Pos} (gl : Gl X "len") (ml : X.mg "len" = none) (gs : Gl X "set") (ms : X.mg "set" = none) (ha : PE X a ta) (calm : X.calm = true := by rfl) (one : starEach [a] X.env = (false, eval a X.env) :: starEach [] X.env := by rfl) :
    PE X (.Call (.Name "len" p) [.Call (.Name "set" p2) [a] [] q] [] pos) (tLenSetS X.K ta) := by
  refine ⟨fun pins s σ H Q I h => Call_ (ld_blt I gl ml boot_len ?_)⟩
  refine callWith_builtin1 (args_cons (Call_ (ld_blt I gs ms boot_set ?_)) rfl) rfl rfl
  refine callWith_type1 (args_cons (thn (ha.run pins s σ H _ I h) fun v s1 got => args_nil ?_) one) one rfl
  obtain ⟨x, H1, I1, r1, l, xs, rfl, isl, few, q1⟩ := got
  cases r1
  obtain ⟨its, r, pl, _⟩ := I1.list isl
  have size : its.toArray.size = xs.length := by rw [List.size_toArray, ← r.length, List.length_map]
  refine set_of_list (knd := PySem.strKind X.prog X.w) (ks := fun i => xs.getD i Str.empty) (I1.ok.hd calm) pl.isList (fun i v e => ?_) (by rw [size]; unfold scanBound; omega) fun h' tk put keep => args_nil ?_
  · rw [List.getElem?_toArray] at e
    obtain ⟨t, rfl⟩ := strs_at r i v e
    exact ⟨strKind_is _ _ _ _, rfl⟩
  · rw [size] at put
    obtain ⟨o, es, ep, tb, at1, ex, dt, _, _, _, fits, num⟩ := put
    have I2 : Inv X pins σ H1 { s1 with heap := h', toks := tk } := I1.kept fun b o e => keep b o e
    have le : kinds xs ≤ xs.length := dd_le _ _
    exact call_len_set at1 ex dt fits (by rw [num]; unfold kinds at le; omega) ⟨.int (kinds xs : Nat), H1, I2.tok _, ⟨_, by rw [num]; rfl⟩, q1⟩
end US
namespace UW
open PySem PySem.Spec PyProof.Rows L2 U
theorem at_strs {xs : List Str} {i : Nat} {y : V} (h : (xs.map V.str)[i]? = some y) : ∃ x, y = .str x ∧ xs[i]? = some x := by
  rw [List.getElem?_map] at h
  obtain ⟨x, hx, rfl⟩ := Option.map_eq_some_iff.mp h
  exact ⟨x, rfl, hx⟩
theorem at_refs {xs : List Addr} {i : Nat} {y : V} (h : (xs.map V.ref)[i]? = some y) : ∃ x, y = .ref x ∧ xs[i]? = some x := by
  rw [List.getElem?_map] at h
  obtain ⟨x, hx, rfl⟩ := Option.map_eq_some_iff.mp h
  exact ⟨x, rfl, hx⟩
/-- a walk over a list, whatever is done with an item (for a comprehension of two clauses) -/
theorem loopL {K : PySem.W.Frag} {a : Addr} {xs : List V} {B : V → Hp → (Hp → Prop) → Prop} {H0 : Hp} {Qd : Hp → Prop} (Pv : Nat → Hp → Prop) (h0 : Pv 0 H0) (st : ∀ i H, Pv i H → SqL K H a xs) (step : ∀ i x H, xs[i]? = some x → Pv i H → B x H (Pv (i + 1))) (fin : ∀ H, Pv xs.length H → Qd H) :
    ∃ W : Nat → Nat → Hp → Prop, (∃ m, W 0 m H0) ∧ ∀ i m H, W i m H → ((Itl K a).stop i H ∧ Qd H) ∨ ((Itl K a).go i H ∧ ∃ Nx : Hp → Prop, (∀ H', Nx H' → ∃ m', m' < m ∧ W (i + 1) m' H') ∧ ∀ x H', (Itl K a).yld i H x H' → B x H' Nx) := by
  refine ⟨fun i m H => i + m = xs.length ∧ Pv i H, ⟨_, Nat.zero_add _, h0⟩, ?_⟩
  rintro i m H ⟨e, p⟩
  have q := st i H p
  cases m with
  | zero =>
    obtain rfl : i = xs.length := e
    exact .inl ⟨⟨xs, q, Nat.le_refl _⟩, fin H p⟩
  | succ m =>
    have lt : i < xs.length := by omega
    refine .inr ⟨⟨xs, xs[i], q, List.getElem?_eq_getElem lt⟩, Pv (i + 1), fun H' p' => ⟨m, Nat.lt_succ_self m, by omega, p'⟩, ?_⟩
    rintro x _ ⟨rfl, y⟩
    exact step i x _ (y xs q) p
section
variable {X : Cx}
theorem swD {kx vx : Expr} {cs : List Comprehension} {sc : Scope} {p py : Pos} {y : Str} {n : Nat} {e : Env} (fn : e.scope.kind = .function) (loc : e.scope.names.lookup y = some .local) (line : (py.line == p.line) = true)
    (free : (sc.names.any fun (z, k) => z == y && (k == .local || k == .cell)) = false) : swapsWith (.DictComp kx vx cs sc p) (some (.Name y py)) n e = pure true := by
  have k1 : e.kindOf y = some .local := loc
  have k2 : e.blockKind = .function := by unfold Env.blockKind; rw [fn]; rfl
  unfold swapsWith; simp only [k1, k2, free, line, Expr.pos]; rfl
/-- name = {.. for ..} on one line, the name a local -/
theorem ps_setDc {i : Nat} {y : Str} {py pos spos : Pos} {kx vx tg iter : Expr} {ifs : List Expr} {sc : Scope} {own : List (Str × Nat)} {wi : TI} {g : TG} {tt : TT} {tk tv : TE} (calm : X.calm = true) (nd : X.N.Nodup) (hy : X.N[i]? = some y) (loc : X.env.scope.names.lookup y = some .local)
    (sw : swapsWith (.DictComp kx vx [⟨tg, iter, ifs, 0⟩] sc pos) (some (.Name y py)) spos.line X.env = pure true) (hi : PI X tg iter wi) (ok : BlkOk X.N X.env.scope sc own)
    (hg : ∀ (s : Shared) (H : Hp) (C : Addr) (cl : List (Str × Addr)) (fp : List Addr), PG (X.blk s H sc (compEnvC sc cl C X.env) fp) tg g) (ht : ∀ (s : Shared) (H : Hp) (C : Addr) (cl : List (Str × Addr)) (fp : List Addr), PTs (X.blk s H sc (compEnvC sc cl C X.env) fp) ifs tt)
    (hk : ∀ (s : Shared) (H : Hp) (C : Addr) (cl : List (Str × Addr)) (fp : List Addr), PE (X.blk s H sc (compEnvC sc cl C X.env) fp) kx tk) (he : ∀ (s : Shared) (H : Hp) (C : Addr) (cl : List (Str × Addr)) (fp : List Addr), PE (X.blk s H sc (compEnvC sc cl C X.env) fp) vx tv)
    (fold : ∀ x, foldedSetIterable iter X.env x = pure x := by intro _; rfl) : PS X (.Assign [.Name y py] (.DictComp kx vx [⟨tg, iter, ifs, 0⟩] sc pos) spos) (tAsg (tDc wi g tt tk tv (own.map (·.2))) (gName i)) := by
  refine ⟨fun pins s σ H D I got => ?_⟩
  rw [exec_Assign_Name_used _ _ _ _ sw]
  refine wpAny_bind (wpAny_standAt (wpAny_bind ?_))
  show wpAny _ X.A (do let _ ← comprehension (.DictComp kx vx [⟨tg, iter, ifs, 0⟩] sc pos) sc X.env (firstIterPos [⟨tg, iter, ifs, 0⟩] pos) newDict false (eval iter X.env) (some (assign (.Name y py) X.env))) _ _ s
  have got : tDc wi g tt tk tv (own.map (·.2)) σ H (fun x H1 => gName i x σ H1 D.nx) := got
  refine wpAny_bind (thn (dc_core (Qf := fun _ s1 => SP X pins D .next s1) calm nd I hi ok hg ht hk he fold got fun L C s1 m H1 I1 q1 ns f => ?_) fun _ s1 z => wpAny_pure (wpAny_pure z))
  show wpAny _ _ (assign (.Name y py) X.env (.ref L)) _ _ _
  refine wpAny_assign_Name (store_ok2 (v := V.ref L) I1 nd hy (.inl loc) rfl (fun s2 I2 ⟨b, but, hb⟩ => ?_) (.inr loc))
  obtain ⟨f0, f1, f2, f3, f4, f5⟩ := f
  have far : C ≠ b := hb.elim (fun z => by rw [z]; exact f1) fun z e => f4 y b z e.symm
  exact ⟨m, ns.sameBut but far, fun h3 but3 => ⟨_, H1, I2.turned (t' := s2.toks) (fun c o hc e => (but3.2 c hc).trans e) f0 f1 f3 f4 f5, q1⟩⟩
end
end UW
/-! What stands in the heap, as a list; one lemma for each question, so that a walk can be found by its head. -/
namespace V
open PySem PySem.Spec PyProof.Rows L2 U

/-! ### the heap as a list of cells -/
abbrev Cells := List (Bool × Addr × HO)
def Nd (a : Addr) : Cells → Prop
  | [] => True
  | c :: L => c.2.1 ≠ a ∧ Nd a L
/-- each cell stands; those that are marked may be written: they are not frozen -/
def Ok (Z H : Hp) : Cells → Prop
  | [] => True
  | c :: L => (H c.2.1 = some c.2.2 ∧ (c.1 = true → Z c.2.1 = none)) ∧ Nd c.2.1 L ∧ Ok Z H L
/-- the state of the draws: the list at S, what is left of the script at T -/
def StD (H : Hp) (S T : Addr) : Prop := S ≠ T ∧ ∃ (ns : List Int) (a b c : Int), ns.length ≤ 63 ∧ H S = some (.lst [.ref T, .int a, .int b, .int c]) ∧ H T = some (.lst (ns.map V.int))
def StO (Z H : Hp) (L : Cells) : Option (Addr × Addr) → Prop
  | none => True
  | some (S, T) => (StD H S T ∧ Z S = none ∧ Z T = none) ∧ Nd S L ∧ Nd T L
/-- what is frozen (Z) stands, the cells L stand, and the state of the draws -/
structure Hw (Z : Hp) (s : Option (Addr × Addr)) (H : Hp) (L : Cells) : Prop where
  fr : Same Z H
  ok : Ok Z H L
  st : StO Z H L s
inductive At (a : Addr) (o : HO) : Cells → Prop
  | here {f L} : At a o ((f, a, o) :: L)
  | there {c L} : At a o L → At a o (c :: L)
inductive Up (a : Addr) (o : HO) : Cells → Cells → Prop
  | here {u L} : Up a o ((true, a, u) :: L) ((true, a, o) :: L)
  | there {c L L'} : Up a o L L' → Up a o (c :: L) (c :: L')
inductive Sub : Cells → Cells → Prop
  | nil {L} : Sub [] L
  | cons {c L L'} : Sub L L' → Sub (c :: L) (c :: L')
  | skip {c L L'} : Sub L L' → Sub L (c :: L')
variable {Z Z' H H' : Hp} {s : Option (Addr × Addr)} {L L' : Cells} {a b p S T : Addr} {o u : HO} {f : Bool}
theorem Ok.get : ∀ {L : Cells}, Ok Z H L → At a o L → H a = some o
  | _, k, .here => k.1.1
  | _, k, .there h => Ok.get k.2.2 h
theorem Hw.get (w : Hw Z s H L) (h : At a o L) : H a = some o := w.ok.get h
theorem Hw.fro (w : Hw Z s H L) (h : Z a = some o) : H a = some o := w.fr _ _ h
theorem Ok.stay : ∀ {L : Cells}, Ok Z H L → (∀ b o, H b = some o → H' b = some o) → Ok Z H' L
  | [], _, _ => trivial
  | _ :: _, k, s => ⟨⟨s _ _ k.1.1, k.1.2⟩, k.2.1, Ok.stay k.2.2 s⟩
theorem Ok.nd_none : ∀ {L : Cells}, Ok Z H L → H p = none → Nd p L
  | [], _, _ => trivial
  | c :: _, k, n => ⟨fun e => (by have := k.1.1; rw [e, n] at this; cases this), Ok.nd_none k.2.2 n⟩
theorem StD.stay (k : StD H S T) (s : ∀ b o, H b = some o → b = S ∨ b = T → H' b = some o) : StD H' S T := by
  obtain ⟨n, ns, x, y, z, l, h1, h2⟩ := k
  exact ⟨n, ns, x, y, z, l, s _ _ h1 (.inl rfl), s _ _ h2 (.inr rfl)⟩
theorem StD.some1 (k : StD H S T) : ∃ o, H S = some o := by obtain ⟨n, ns, x, y, z, l, h1, h2⟩ := k; exact ⟨_, h1⟩
theorem StD.some2 (k : StD H S T) : ∃ o, H T = some o := by obtain ⟨n, ns, x, y, z, l, h1, h2⟩ := k; exact ⟨_, h2⟩
theorem Hw.new (w : Hw Z s H L) (n : H p = none) : Hw Z s (upd H p o) ((true, p, o) :: L) :=
  have k : ∀ b u, H b = some u → upd H p o b = some u := fun b u e => by rw [upd_ne (ne_of_none e n)]; exact e
  ⟨fun b u e => k b u (w.fr b u e), ⟨⟨upd_same, fun _ => w.fr.free n⟩, w.ok.nd_none n, w.ok.stay k⟩, by
    have t := w.st
    match s, t with
    | none, _ => trivial
    | some (S, T), ⟨⟨t1, t2, t3⟩, t4, t5⟩ =>
      obtain ⟨o1, e1⟩ := t1.some1
      obtain ⟨o2, e2⟩ := t1.some2
      exact ⟨⟨t1.stay fun b o e _ => k b o e, t2, t3⟩, ⟨(ne_of_none e1 n).symm, t4⟩, (ne_of_none e2 n).symm, t5⟩⟩
theorem Nd.ne : ∀ {L : Cells}, Nd a L → At b o L → b ≠ a
  | _, k, .here => k.1
  | _, k, .there h => Nd.ne k.2 h
theorem Up.nd : ∀ {L L' : Cells}, Up a o L L' → Nd b L → Nd b L'
  | _, _, .here, k => k
  | _, _, .there h, k => ⟨k.1, Up.nd h k.2⟩
theorem Up.ne : ∀ {L L' : Cells}, Up a o L L' → Nd b L → a ≠ b
  | _, _, .here, k => k.1
  | _, _, .there h, k => Up.ne h k.2
theorem Up.free : ∀ {L L' : Cells}, Up a o L L' → Ok Z H L → Z a = none
  | _, _, .here, k => k.1.2 rfl
  | _, _, .there h, k => Up.free h k.2.2
theorem Ok.away : ∀ {L : Cells}, Ok Z H L → Nd a L → Ok Z (upd H a o) L
  | [], _, _ => trivial
  | _ :: _, k, n => ⟨⟨by rw [upd_ne n.1]; exact k.1.1, k.1.2⟩, k.2.1, Ok.away k.2.2 n.2⟩
theorem Ok.up : ∀ {L L' : Cells}, Ok Z H L → Up a o L L' → Ok Z (upd H a o) L'
  | _, _, k, .here => ⟨⟨upd_same, k.1.2⟩, k.2.1, k.2.2.away k.2.1⟩
  | _, _, k, .there h => ⟨⟨by rw [upd_ne (h.ne k.2.1).symm]; exact k.1.1, k.1.2⟩, h.nd k.2.1, Ok.up k.2.2 h⟩
theorem Hw.up (w : Hw Z s H L) (h : Up a o L L') : Hw Z s (upd H a o) L' := ⟨fun b u e => by
  have n : b ≠ a := fun q => by
    subst q
    rw [h.free w.ok] at e; cases e
  rw [upd_ne n]; exact w.fr b u e, w.ok.up h, by
    have t := w.st
    match s, t with
    | none, _ => trivial
    | some (S, T), ⟨⟨t1, t2, t3⟩, t4, t5⟩ =>
      exact ⟨⟨t1.stay fun b o e q => by
        have n : b ≠ a := by
          rcases q with rfl | rfl
          · exact (h.ne t4).symm
          · exact (h.ne t5).symm
        rw [upd_ne n]; exact e, t2, t3⟩, h.nd t4, h.nd t5⟩⟩
theorem Sub.nd : ∀ {L L' : Cells}, Sub L L' → Nd b L' → Nd b L
  | _, _, .nil, _ => trivial
  | _, _, .cons h, k => ⟨k.1, Sub.nd h k.2⟩
  | _, _, .skip h, k => Sub.nd h k.2
theorem Ok.sub : ∀ {L L' : Cells}, Ok Z H L' → Sub L L' → Ok Z H L
  | _, _, _, .nil => trivial
  | _, _, k, .cons h => ⟨k.1, h.nd k.2.1, Ok.sub k.2.2 h⟩
  | _, _, k, .skip h => Ok.sub k.2.2 h
theorem Hw.sub (w : Hw Z s H L') (h : Sub L L') : Hw Z s H L := ⟨w.fr, w.ok.sub h, by
  have t := w.st
  match s, t with
  | none, _ => trivial
  | some (S, T), ⟨t1, t4, t5⟩ => exact ⟨t1, h.nd t4, h.nd t5⟩⟩
theorem Sub.refl : ∀ L : Cells, Sub L L
  | [] => .nil
  | _ :: L => .cons (Sub.refl L)
theorem Hw.start : Hw H none H [] := ⟨fun _ _ e => e, trivial, trivial⟩
/-- a heap without some places -/
def cut (H : Hp) (ds : List Addr) : Hp := fun b => if b ∈ ds then none else H b
theorem cut_some {ds : List Addr} (h : cut H ds b = some o) : b ∉ ds ∧ H b = some o := by
  unfold cut at h
  by_cases e : b ∈ ds
  · rw [if_pos e] at h; cases h
  · rw [if_neg e] at h; exact ⟨e, h⟩
theorem cut_in {ds : List Addr} (h : b ∈ ds) : cut H ds b = none := by unfold cut; rw [if_pos h]
theorem cut_not {ds : List Addr} (h : b ∉ ds) : cut H ds b = H b := by unfold cut; rw [if_neg h]
theorem cut_same {ds : List Addr} : Same (cut H ds) H := fun _ _ e => (cut_some e).2
theorem Hw.startD (k : StD H S T) : Hw (cut H [S, T]) (some (S, T)) H [] := ⟨cut_same, trivial, ⟨k, cut_in (by simp), cut_in (by simp)⟩, trivial, trivial⟩
theorem Hw.startM (ds : List Addr) : Hw (cut H ds) none H [] := ⟨cut_same, trivial, trivial⟩
/-- a thing that stands, read alone -/
theorem Hw.add (w : Hw Z none H L) (e : H a = some o) (n : Nd a L) : Hw Z none H ((false, a, o) :: L) := ⟨w.fr, ⟨⟨e, fun z => nomatch z⟩, n, w.ok⟩, trivial⟩
theorem Hw.addM (w : Hw Z none H L) (e : H a = some o) (m : Z a = none) (n : Nd a L) : Hw Z none H ((true, a, o) :: L) := ⟨w.fr, ⟨⟨e, fun _ => m⟩, n, w.ok⟩, trivial⟩
/-- what is written is not frozen -/
theorem Ok.out : ∀ {L : Cells}, Ok Z H L → (true, a, o) ∈ L → Z a = none
  | _ :: _, k, h => by
    rcases List.mem_cons.mp h with e | e
    · subst e; exact k.1.2 rfl
    · exact Ok.out k.2.2 e
/-- what a call does that changes nothing that stood -/
theorem Hw.call (w : Hw Z s H L) (e : Same H H') : Hw Z s H' L := ⟨fun b u q => e _ _ (w.fr b u q), w.ok.stay e, by
  have t := w.st
  match s, t with
  | none, _ => trivial
  | some (S, T), ⟨⟨t1, t2⟩, t4⟩ => exact ⟨⟨t1.stay fun b o q _ => e b o q, t2⟩, t4⟩⟩
/-- what stood stands but the state -/
def Keeps (S T : Addr) (H H' : Hp) : Prop := ∀ d o, H d = some o → d ≠ S → d ≠ T → H' d = some o
/-- a call that draws -/
theorem Hw.callD (w : Hw Z (some (S, T)) H L) (k : StD H' S T) (e : Keeps S T H H') : Hw Z (some (S, T)) H' L := by
  obtain ⟨w1, w2, ⟨⟨t1, t2, t3⟩, t4, t5⟩⟩ := w
  refine ⟨fun b u q => e b u (w1 b u q) (fun n => ?_) fun n => ?_, ?_, ⟨⟨k, t2, t3⟩, t4, t5⟩⟩
  · rw [n, t2] at q; cases q
  · rw [n, t3] at q; cases q
  · have g : ∀ {L : Cells}, Ok Z H L → Nd S L → Nd T L → Ok Z H' L := fun {L} => by
      induction L with
      | nil => intros; trivial
      | cons c L ih => exact fun k n1 n2 => ⟨⟨e _ _ k.1.1 n1.1 n2.1, k.1.2⟩, k.2.1, ih k.2.2 n1.2 n2.2⟩
    exact g w2 t4 t5
theorem Hw.std (w : Hw Z (some (S, T)) H L) : StD H S T := w.st.1.1
/-- at the end of a def that draws -/
theorem Hw.keeps {H0 : Hp} (w : Hw Z s H' L) (e : Same (cut H0 [S, T]) Z) : Keeps S T H0 H' := fun d o q n1 n2 => w.fr _ _ (e _ _ (by rw [cut_not (by simp [n1, n2])]; exact q))
/-- a cell that is written no more -/
theorem Hw.freeze (w : Hw Z s H ((f, a, o) :: L)) (n : Z a = none) : Hw (upd Z a o) s H L ∧ Same Z (upd Z a o) ∧ upd Z a o a = some o := by
  obtain ⟨w1, ⟨k1, k2, k3⟩, w3⟩ := w
  have g : ∀ {L : Cells}, Ok Z H L → Nd a L → Ok (upd Z a o) H L := fun {L} => by
    induction L with
    | nil => intros; trivial
    | cons c L ih => exact fun k n1 => ⟨⟨k.1.1, fun e => by rw [upd_ne n1.1]; exact k.1.2 e⟩, k.2.1, ih k.2.2 n1.2⟩
  refine ⟨⟨fun b u q => ?_, g k3 k2, ?_⟩, sameNew n, upd_same⟩
  · by_cases e : b = a
    · subst e; rw [upd_same] at q; rw [← q]; exact k1.1
    · rw [upd_ne e] at q; exact w1 b u q
  · match s, w3 with
    | none, _ => trivial
    | some (S, T), ⟨⟨t1, t2, t3⟩, t4, t5⟩ => exact ⟨⟨t1, by rw [upd_ne (fun e => t4.1 e.symm)]; exact t2, by rw [upd_ne (fun e => t5.1 e.symm)]; exact t3⟩, t4.2, t5.2⟩
/-- a thing that was made on the way was not there at the start -/
theorem Hw.fresh {H0 : Hp} (w : Hw Z (some (S, T)) H' ((true, a, o) :: L)) (e : Same (cut H0 [S, T]) Z) : H0 a = none := by
  cases q : H0 a with
  | none => rfl
  | some u =>
    have n1 : a ≠ S := w.st.2.1.1
    have n2 : a ≠ T := w.st.2.2.1
    have z : cut H0 [S, T] a = some u := by rw [cut_not (by simp [n1, n2])]; exact q
    have z2 := e _ _ z
    rw [w.ok.1.2 rfl] at z2; cases z2
theorem Hw.fresh0 {H0 : Hp} (w : Hw Z s H' ((true, a, o) :: L)) (e : Same H0 Z) : H0 a = none := by
  cases q : H0 a with
  | none => rfl
  | some u =>
    have z2 := e _ _ q
    rw [w.ok.1.2 rfl] at z2; cases z2
theorem Hw.frz (w : Hw Z s H ((true, a, o) :: L)) : Hw (upd Z a o) s H L ∧ Same Z (upd Z a o) ∧ upd Z a o a = some o := w.freeze (w.ok.1.2 rfl)
/-- what is new since Z0 -/
def nw (Z0 Z : Hp) : Hp := fun b => match Z0 b with
  | some _ => none
  | none => Z b
theorem nw_of {Z0 : Hp} (n : Z0 a = none) (e : Z a = some o) : nw Z0 Z a = some o := by unfold nw; rw [n]; exact e
theorem nw_some {Z0 : Hp} (e : nw Z0 Z a = some o) : Z0 a = none ∧ Z a = some o := by
  unfold nw at e
  cases q : Z0 a with
  | some u => rw [q] at e; cases e
  | none => rw [q] at e; exact ⟨rfl, e⟩
theorem nw_same {Z0 : Hp} (e : Same Z Z') : Same (nw Z0 Z) (nw Z0 Z') := fun b o h => nw_of (nw_some h).1 (e _ _ (nw_some h).2)
theorem nw_sub {Z0 : Hp} : Same (nw Z0 Z) Z := fun b o h => (nw_some h).2
theorem Hw.nwH {H0 : Hp} (w : Hw Z (some (S, T)) H' L) : Same (nw (cut H0 [S, T]) Z) (nw H0 H') := fun b o e => by
  obtain ⟨e1, e2⟩ := nw_some e
  refine nw_of ?_ (w.fr _ _ e2)
  cases q : H0 b with
  | none => rfl
  | some u =>
    obtain ⟨⟨_, t2, t3⟩, _⟩ := w.st
    rw [cut_not (by simp only [List.mem_cons, List.not_mem_nil, or_false]; rintro (r | r) <;> (subst r; first | (rw [t2] at e2; cases e2) | (rw [t3] at e2; cases e2)))] at e1
    rw [q] at e1; cases e1
/-- what is new in H', frozen too, but at ds -/
def uni (Z H H' : Hp) (ds : List Addr) : Hp := fun b => match Z b with
  | some o => some o
  | none => match H b with
    | some _ => none
    | none => if b ∈ ds then none else H' b
theorem uni_old {ds : List Addr} : Same Z (uni Z H H' ds) := fun b o e => by unfold uni; rw [e]
theorem uni_new {ds : List Addr} (z : Same Z H) (n : H b = none) (m : b ∉ ds) (e : H' b = some o) : uni Z H H' ds b = some o := by
  unfold uni
  rw [z.free n, n]
  show (if b ∈ ds then none else H' b) = _
  rw [if_neg m]; exact e
theorem uni_had {ds : List Addr} (e : H b = some o) : uni Z H H' ds b = Z b := by
  unfold uni
  cases q : Z b with
  | some o => rfl
  | none => rw [e]
theorem uni_in {ds : List Addr} (m : b ∈ ds) : uni Z H H' ds b = Z b := by
  unfold uni
  cases q : Z b with
  | some o => rfl
  | none =>
    cases H b with
    | some _ => rfl
    | none => show (if b ∈ ds then none else H' b) = none; rw [if_pos m]
theorem uni_sub {ds : List Addr} (z : Same Z H') : Same (uni Z H H' ds) H' := fun b o e => by
  cases q : Z b with
  | some u => unfold uni at e; rw [q] at e; cases e; exact z _ _ q
  | none =>
    unfold uni at e
    rw [q] at e
    cases h : H b with
    | some u => rw [h] at e; cases e
    | none =>
      rw [h] at e
      have e : (if b ∈ ds then none else H' b) = some o := e
      by_cases m : b ∈ ds
      · rw [if_pos m] at e; cases e
      · rw [if_neg m] at e; exact e
theorem Ok.uni {ds : List Addr} : ∀ {L : Cells}, Ok Z H L → Ok Z H' L → Ok (uni Z H H' ds) H' L
  | [], _, _ => trivial
  | _ :: _, k, k' => ⟨⟨k'.1.1, fun e => by rw [uni_had k.1.1]; exact k.1.2 e⟩, k.2.1, Ok.uni k.2.2 k'.2.2⟩
theorem StO.uni {ds : List Addr} (k : StO Z H L s) (k' : StO Z H' L s) : StO (uni Z H H' ds) H' L s := by
  match s, k, k' with
  | none, _, _ => trivial
  | some (S, T), ⟨⟨t1, t2, t3⟩, t4⟩, ⟨⟨u1, u2⟩, u4⟩ =>
    obtain ⟨o1, e1⟩ := t1.some1
    obtain ⟨o2, e2⟩ := t1.some2
    exact ⟨⟨u1, by rw [uni_had e1]; exact t2, by rw [uni_had e2]; exact t3⟩, t4⟩
/-- what a call made is frozen -/
theorem Hw.allNew (w : Hw Z s H L) (w' : Hw Z s H' L) : ∃ Z', Hw Z' s H' L ∧ Same Z Z' ∧ ∀ b o, H b = none → H' b = some o → Z' b = some o :=
  ⟨uni Z H H' [], ⟨uni_sub w'.fr, w.ok.uni w'.ok, w.st.uni w'.st⟩, uni_old, fun b o n e => uni_new w.fr n (by simp) e⟩
theorem Hw.callNew (w : Hw Z s H L) (e : Same H H') : ∃ Z', Hw Z' s H' L ∧ Same Z Z' ∧ ∀ b o, H b = none → H' b = some o → Z' b = some o := w.allNew (w.call e)
theorem Hw.callNewD (w : Hw Z (some (S, T)) H L) (k : StD H' S T) (e : Keeps S T H H') : ∃ Z', Hw Z' (some (S, T)) H' L ∧ Same Z Z' ∧ ∀ b o, H b = none → H' b = some o → Z' b = some o := w.allNew (w.callD k e)
/-- the same, for what was frozen early too -/
theorem Hw.callNew2 {Y : Hp} (w : Hw Z s H L) (e : Same H H') (y : Same Y Z) : ∃ Z' Y', Hw Z' s H' L ∧ Same Z Z' ∧ Same Y Y' ∧ Same Y' Z' ∧ (∀ b o, H b = none → H' b = some o → Y' b = some o) ∧ ∀ b o, H b = some o → Y b = none → Y' b = none :=
  have w' := w.call e
  ⟨uni Z H H' [], uni Y H H' [], ⟨uni_sub w'.fr, w.ok.uni w'.ok, w.st.uni w'.st⟩, uni_old, uni_old, fun b o q => by
    cases n : H b with
    | some u =>
      rw [uni_had n] at q ⊢
      exact y _ _ q
    | none =>
      have z := w.fr.free n
      unfold uni at q ⊢
      rw [y.free z, n] at q
      rw [z, n]; exact q, fun b o n q => uni_new (fun b o e => w.fr _ _ (y _ _ e)) n (by simp) q, fun b o q n => by rw [uni_had q]; exact n⟩
theorem Hw.thaw {Y : Hp} (w : Hw Z s H L) (y : Same Y Z) : Hw Y s H L := by
  refine ⟨fun b o e => w.fr _ _ (y _ _ e), ?_, ?_⟩
  · have g : ∀ {L : Cells}, Ok Z H L → Ok Y H L := fun {L} => by
      induction L with
      | nil => intros; trivial
      | cons c L ih => exact fun k => ⟨⟨k.1.1, fun q => y.free (k.1.2 q)⟩, k.2.1, ih k.2.2⟩
    exact g w.ok
  · have t := w.st
    match s, t with
    | none, _ => trivial
    | some (S, T), ⟨⟨t1, t2, t3⟩, t4⟩ => exact ⟨⟨t1, y.free t2, y.free t3⟩, t4⟩
/-- a store into a thing that is no cell -/
theorem Hw.write (w : Hw Z (some (S, T)) H L) (n : Z a = none) (d : Nd a L) (nS : a ≠ S) (nT : a ≠ T) : Hw Z (some (S, T)) (upd H a o) L := by
  refine ⟨fun b u e => ?_, w.ok.away d, ?_⟩
  · rw [upd_ne (fun q => by subst q; rw [n] at e; cases e)]; exact w.fr b u e
  · obtain ⟨⟨t1, t2, t3⟩, t4, t5⟩ := w.st
    exact ⟨⟨t1.stay fun b o e q => by
      rw [upd_ne (by rcases q with rfl | rfl; exact nS.symm; exact nT.symm)]; exact e, t2, t3⟩, t4, t5⟩
/-- what a call made is frozen but the thing at a, which may be written -/
theorem Hw.oneNew (w : Hw Z s H L) (w' : Hw Z s H' L) (n : H a = none) (h : H' a = some o) : ∃ Z', Hw Z' s H' ((true, a, o) :: L) ∧ Same Z Z' ∧ ∀ b o, H b = none → b ≠ a → H' b = some o → Z' b = some o := by
  refine ⟨uni Z H H' [a], ⟨uni_sub w'.fr, ⟨⟨h, fun _ => ?_⟩, w.ok.nd_none n, w.ok.uni w'.ok⟩, ?_⟩, uni_old, fun b o n m e => uni_new w.fr n (by simpa using m) e⟩
  · rw [uni_in (by simp)]; exact w.fr.free n
  · have k := w.st.uni (ds := [a]) w'.st
    have t := w.st
    match s, t, k with
    | none, _, _ => trivial
    | some (S, T), ⟨⟨t1, t2⟩, t4⟩, ⟨k1, k4, k5⟩ =>
      obtain ⟨o1, e1⟩ := t1.some1
      obtain ⟨o2, e2⟩ := t1.some2
      exact ⟨k1, ⟨(ne_of_none e1 n).symm, k4⟩, (ne_of_none e2 n).symm, k5⟩
/-- a cell of a thing that a call made, nothing frozen -/
theorem Hw.cellNew (w : Hw Z s H L) (w' : Hw Z s H' L) (n : H a = none) (h : H' a = some o) : Hw Z s H' ((true, a, o) :: L) := by
  refine ⟨w'.fr, ⟨⟨h, fun _ => w.fr.free n⟩, w.ok.nd_none n, w'.ok⟩, ?_⟩
  have t := w.st
  have t' := w'.st
  match s, t, t' with
  | none, _, _ => trivial
  | some (S, T), ⟨⟨t1, t2⟩, t4⟩, ⟨k1, k4, k5⟩ =>
    obtain ⟨o1, e1⟩ := t1.some1
    obtain ⟨o2, e2⟩ := t1.some2
    exact ⟨k1, ⟨(ne_of_none e1 n).symm, k4⟩, (ne_of_none e2 n).symm, k5⟩
end V
namespace V
open PySem PySem.Spec PyProof.Rows L2 U
/-! ### one lemma a question -/
section
variable {K : PySem.W.Frag} {Z H : Hp} {so : Option (Addr × Addr)} {L L' : Cells} {a b p C dx : Addr} {o u : HO} {σ σ' : L2.St} {Q : VK} {QB : Bool → Hp → Prop} {x y z v : V} {i j : Int} {D : Ends}
variable {ta tb tc te to : TE} {t t' : TA} {tt tt' : TT} {s s' : TS} {f m : Str} {vs ws dvs : List V} {E : XK}
inductive SetAt : L2.St → Nat → V → L2.St → Prop
  | z {w σ v} : SetAt (w :: σ) 0 v (some v :: σ)
  | s {w σ i v σ'} : SetAt σ i v σ' → SetAt (w :: σ) (i + 1) v (w :: σ')
theorem SetAt.eq : ∀ {σ : L2.St} {i : Nat} {v : V} {σ' : L2.St}, SetAt σ i v σ' → σ.set i (some v) = σ'
  | _, _, _, _, .z => rfl
  | _, _, _, _, .s h => by rw [List.set_cons_succ, h.eq]
theorem w_var {n : Nat} (h : σ[n]? = some (some v)) (q : Q v H) : tVar n σ H Q := ⟨v, h, q⟩
theorem w_c (q : Q v H) : tC v σ H Q := q
theorem w_op {r : R2} (q : ta σ H fun x H1 => tb σ H1 fun y H2 => r x y H2 Q) : tOp r ta tb σ H Q := q
theorem w_un {r : V → Hp → VK → Prop} (q : ta σ H fun x H1 => r x H1 Q) : tUn r ta σ H Q := q
theorem w_ri {c : Int → Int → Prop} {g : Int → Int → V} (h : c i j) (q : Q (g i j) H) : rI c g (.int i) (.int j) H Q := ⟨i, j, rfl, rfl, h, q⟩
theorem w_ri0 {g : Int → Int → V} (q : Q (g i j) H) : rI0 g (.int i) (.int j) H Q := ⟨i, j, rfl, rfl, q⟩
theorem w_ru {g : Int → V} (q : Q (g i) H) : rU g (.int i) H Q := ⟨i, rfl, q⟩
theorem w_eq (h : scal x y = true) (q : Q (.bl (decide (x = y))) H) : rEq x y H Q := ⟨h, q⟩
theorem w_nei (h : scal x y = true) (q : Q (.bl (!decide (x = y))) H) : rNe x y H Q := ⟨h, q⟩
theorem w_eqI (q : Q (.bl (decide (i = j))) H) : rEq (.int i) (.int j) H Q := ⟨rfl, by
  have e : decide (V.int i = V.int j) = decide (i = j) := by simp
  rw [e]; exact q⟩
theorem w_eqS {a b : Str} (q : Q (.bl (decide (a = b))) H) : rEq (.str a) (.str b) H Q := ⟨rfl, by
  have e : decide (V.str a = V.str b) = decide (a = b) := by simp
  rw [e]; exact q⟩
theorem w_neI (q : Q (.bl (!decide (i = j))) H) : rNe (.int i) (.int j) H Q := ⟨rfl, by
  have e : decide (V.int i = V.int j) = decide (i = j) := by simp
  rw [e]; exact q⟩
theorem w_neS {a b : Str} (q : Q (.bl (!decide (a = b))) H) : rNe (.str a) (.str b) H Q := ⟨rfl, by
  have e : decide (V.str a = V.str b) = decide (a = b) := by simp
  rw [e]; exact q⟩
/-- a bool at last -/
def gBl (Q : Bool → Hp → Prop) (x : V) (H : Hp) : Prop := ∃ c, x = .bl c ∧ Q c H
theorem w_bl {c : Bool} (q : QB c H) : gBl QB (.bl c) H := ⟨c, rfl, q⟩
theorem w_b (q : te σ H (gBl QB)) : tB te σ H QB := q
theorem w_test (q : te σ H (gBl QB)) : tTest te σ H QB := q
theorem w_and (q : tt σ H fun c H1 => if c = true then tt' σ H1 QB else QB false H1) : tAnd tt tt' σ H QB := q
theorem w_or (q : tt σ H fun c H1 => if c = true then QB true H1 else tt' σ H1 QB) : tOr tt tt' σ H QB := q
theorem w_not (q : tt σ H fun c H1 => QB (!c) H1) : tNot tt σ H QB := q
theorem w_andV (q : ta σ H (gBl fun c H1 => if c = true then tb σ H1 Q else Q (.bl false) H1)) : tAndV ta tb σ H Q := q
theorem w_orV (q : ta σ H (gBl fun c H1 => if c = true then Q (.bl true) H1 else tb σ H1 Q)) : tOrV ta tb σ H Q := q
theorem w_notV (q : ta σ H (gBl fun c H1 => Q (.bl (!c)) H1)) : tNotV ta σ H Q := q
theorem w_if (q : tt σ H fun c H1 => if c = true then ta σ H1 Q else tb σ H1 Q) : tIf tt ta tb σ H Q := q
theorem w_isN (q : ta σ H fun x H1 => Q (.bl (decide (x = .non))) H1) : tIsN ta σ H Q := q
theorem w_isn {A : Prop} (q : A) : V.non = V.non ∧ A := ⟨rfl, q⟩
theorem w_yes (q : QB true H) : tYes σ H QB := q
theorem w_seq (q : s { D with nx := s' D } σ H) : tSeq s s' D σ H := q
theorem w_next (q : D.nx σ H) : tNext D σ H := q
theorem w_break (q : D.bk σ H) : tBreak D σ H := q
theorem w_cont (q : D.ct σ H) : tCont D σ H := q
theorem w_drop (q : te σ H fun _ H1 => D.nx σ H1) : tDrop te D σ H := q
theorem w_ret (q : te σ H D.rt) : tRet te D σ H := q
theorem w_retN (q : D.rt .non H) : tRetN D σ H := q
theorem w_ifS (q : tt σ H fun b H1 => if b = true then s D σ H1 else s' D σ H1) : tIfS tt s s' D σ H := q
theorem w_asg {g : TG} (q : te σ H fun x H1 => g x σ H1 D.nx) : tAsg te g D σ H := q
theorem w_name {n : Nat} {R : L2.St → Hp → Prop} (h : SetAt σ n v σ') (q : R σ' H) : gName n v σ H R := by unfold gName; rw [h.eq]; exact q
theorem w_aug {n : Nat} {ti : TIp} (h : σ[n]? = some (some x)) (q : te σ H fun y H1 => ti x y H1 fun z H2 => gName n z σ H2 D.nx) : tAug n te ti D σ H := ⟨x, h, q⟩
theorem w_Dnx {nx bk ct : L2.St → Hp → Prop} {rt : VK} (q : nx σ H) : Ends.nx ⟨nx, rt, bk, ct⟩ σ H := q
theorem w_Drt {nx bk ct : L2.St → Hp → Prop} {rt : VK} (q : rt v H) : Ends.rt ⟨nx, rt, bk, ct⟩ v H := q
theorem w_Dbk {nx bk ct : L2.St → Hp → Prop} {rt : VK} (q : bk σ H) : Ends.bk ⟨nx, rt, bk, ct⟩ σ H := q
theorem w_Dct {nx bk ct : L2.St → Hp → Prop} {rt : VK} (q : ct σ H) : Ends.ct ⟨nx, rt, bk, ct⟩ σ H := q
/-! attributes -/
def gFld (K : PySem.W.Frag) (f : Str) (Q : VK) (x : V) (H1 : Hp) : Prop := ∃ a C dx fs v, x = .ref a ∧ H1 a = some (.ins C dx fs) ∧ Cls K C ∧ NoAttr K C f ∧ fs.lookup f = some v ∧ Q v H1
theorem w_fld (q : ta σ H (gFld K f Q)) : tFld K ta f σ H Q := q
theorem w_fld2 {fs : List (Str × V)} (h : H a = some (.ins C dx fs)) (c : Cls K C) (n : NoAttr K C f) (l : fs.lookup f = some v) (q : Q v H) : gFld K f Q (.ref a) H := ⟨a, C, dx, fs, v, rfl, h, c, n, l, q⟩
/-! dicts -/
def gDGet (Q : VK) (x y : V) (H2 : Hp) : Prop := ∃ a v, x = .ref a ∧ DGet H2 a y (some v) ∧ Q v H2
def gDIn (Q : VK) (x y : V) (H2 : Hp) : Prop := ∃ a o, x = .ref a ∧ DGet H2 a y o ∧ Q (.bl o.isSome) H2
def gDNotIn (Q : VK) (x y : V) (H2 : Hp) : Prop := ∃ a o, x = .ref a ∧ DGet H2 a y o ∧ Q (.bl (!o.isSome)) H2
theorem w_dget (q : ta σ H fun x H1 => tb σ H1 fun y H2 => gDGet Q x y H2) : tDGet ta tb σ H Q := q
theorem w_din (q : tb σ H fun y H1 => ta σ H1 fun x H2 => gDIn Q x y H2) : tDIn tb ta σ H Q := q
theorem w_dnin (q : tb σ H fun y H1 => ta σ H1 fun x H2 => gDNotIn Q x y H2) : tDNotIn tb ta σ H Q := q
theorem w_dgetS {kvs : List (Key × V)} {k : Str} (h : H a = some (.dK kvs)) (l : valV kvs (Sum.inr k) = some v) (q : Q v H) : gDGet Q (.ref a) (.str k) H := ⟨a, v, rfl, l ▸ DGet.k (k := Sum.inr k) h, q⟩
theorem w_dgetI {kvs : List (Key × V)} {k : Int} (h : H a = some (.dK kvs)) (l : valV kvs (Sum.inl k) = some v) (q : Q v H) : gDGet Q (.ref a) (.int k) H := ⟨a, v, rfl, l ▸ DGet.k (k := Sum.inl k) h, q⟩
theorem w_dinS {kvs : List (Key × V)} {k : Str} (h : H a = some (.dK kvs)) (q : Q (.bl (valV kvs (Sum.inr k)).isSome) H) : gDIn Q (.ref a) (.str k) H := ⟨a, _, rfl, DGet.k (k := Sum.inr k) h, q⟩
theorem w_dninS {kvs : List (Key × V)} {k : Str} (h : H a = some (.dK kvs)) (q : Q (.bl (!(valV kvs (Sum.inr k)).isSome)) H) : gDNotIn Q (.ref a) (.str k) H := ⟨a, _, rfl, DGet.k (k := Sum.inr k) h, q⟩
theorem w_dnin1 {kvs : List (Key × V)} {k : Str} (h : H a = some (.dK kvs)) (l : valV kvs (Sum.inr k) = some v) (q : Q (.bl false) H) : gDNotIn Q (.ref a) (.str k) H := w_dninS h (by rw [l]; exact q)
theorem w_dnin0 {kvs : List (Key × V)} {k : Str} (h : H a = some (.dK kvs)) (l : valV kvs (Sum.inr k) = none) (q : Q (.bl true) H) : gDNotIn Q (.ref a) (.str k) H := w_dninS h (by rw [l]; exact q)
theorem w_din1 {kvs : List (Key × V)} {k : Str} (h : H a = some (.dK kvs)) (l : valV kvs (Sum.inr k) = some v) (q : Q (.bl true) H) : gDIn Q (.ref a) (.str k) H := w_dinS h (by rw [l]; exact q)
theorem w_din0 {kvs : List (Key × V)} {k : Str} (h : H a = some (.dK kvs)) (l : valV kvs (Sum.inr k) = none) (q : Q (.bl false) H) : gDIn Q (.ref a) (.str k) H := w_dinS h (by rw [l]; exact q)
/-! new lists and tuples -/
def gTup (Q : VK) (xs : List V) (H1 : Hp) : Prop := xs.length ≤ sizeLine ∧ ∀ p, H1 p = none → Q (.ref p) (upd H1 p (.tup xs))
def gLst (Q : VK) (xs : List V) (H1 : Hp) : Prop := xs.length ≤ sizeLine ∧ ∀ p, H1 p = none → Q (.ref p) (upd H1 p (.lst xs))
theorem w_tup (q : t σ H (gTup Q)) : tTup t σ H Q := q
theorem w_lst (q : t σ H (gLst Q)) : tLst t σ H Q := q
theorem w_tup2 (w : Hw Z so H L) (l : vs.length ≤ sizeLine) (k : ∀ p H', H p = none → Hw Z so H' ((true, p, .tup vs) :: L) → Q (.ref p) H') : gTup Q vs H := ⟨l, fun p n => k p _ n (w.new n)⟩
theorem w_lst2 (w : Hw Z so H L) (l : vs.length ≤ sizeLine) (k : ∀ p H', H p = none → Hw Z so H' ((true, p, .lst vs) :: L) → Q (.ref p) H') : gLst Q vs H := ⟨l, fun p n => k p _ n (w.new n)⟩
theorem w_nil {R : List V → Hp → Prop} (q : R [] H) : tNil σ H R := q
theorem w_cons {R : List V → Hp → Prop} (q : ta σ H fun x H1 => t σ H1 fun xs H2 => R (x :: xs) H2) : tCons ta t σ H R := q
/-! sequences read -/
theorem w_ixL {xs : List V} (h : SqL K H a xs) (l : atI xs i = some v) (q : Q v H) : rIxL K (.ref a) (.int i) H Q := ⟨a, xs, i, v, rfl, rfl, h, l, q⟩
theorem w_ixT {xs : List V} (h : SqT K H a xs) (l : atI xs i = some v) (q : Q v H) : rIxT K (.ref a) (.int i) H Q := ⟨a, xs, i, v, rfl, rfl, h, l, q⟩
theorem w_ixLs {xs : List V} (h : SqL K H a xs) (l : atI xs i = some v) (q : Q v H) : rIxLT K (.ref a) (.int i) H Q := .inl (w_ixL h l q)
theorem w_ixTs {xs : List V} (h : SqT K H a xs) (l : atI xs i = some v) (q : Q v H) : rIxLT K (.ref a) (.int i) H Q := .inr (w_ixT h l q)
theorem w_sl {r : V → Option Int → Option Int → Hp → VK → Prop} {tl th : TO} (q : te σ H fun x H1 => tl σ H1 fun l H2 => th σ H2 fun u H3 => r x l u H3 Q) : tSl r te tl th σ H Q := q
theorem w_nopart {R : Option Int → Hp → Prop} (q : R none H) : tNoPart σ H R := q
def gPart (R : Option Int → Hp → Prop) (x : V) (H1 : Hp) : Prop := ∃ i, x = .int i ∧ R (some i) H1
theorem w_part {R : Option Int → Hp → Prop} (q : te σ H (gPart R)) : tPart te σ H R := q
theorem w_part2 {R : Option Int → Hp → Prop} (q : R (some i) H) : gPart R (.int i) H := ⟨i, rfl, q⟩
theorem w_slL {xs : List V} {lo hi : Option Int} (w : Hw Z so H L) (h : SqL K H a xs) (k : ∀ p H', H p = none → Hw Z so H' ((true, p, .lst (cutV xs lo hi)) :: L) → Q (.ref p) H') : rSlL K (.ref a) lo hi H Q := ⟨a, xs, rfl, h, fun p n => k p _ n (w.new n)⟩
/-! calls -/
theorem w_call {sp : Sp} (q : t σ H fun vs H1 => sp vs H1 Q E) : tCall sp [] E t σ H Q := by
  have e : (fun vs H1 => sp (vs ++ []) H1 Q E) = fun vs H1 => sp vs H1 Q E := by funext vs H1; rw [List.append_nil]
  show t σ H fun vs H1 => sp (vs ++ []) H1 Q E
  rw [e]; exact q
theorem w_cf {sp : Sp} (q : t σ H fun vs H1 => sp vs H1 Q E0) : tCF sp t σ H Q := q
def gMeth (C : Addr) (m : Str) (sp : Sp) (E : XK) (t : TA) (σ : L2.St) (Q : VK) (x : V) (H1 : Hp) : Prop := ∃ a dx fs, x = .ref a ∧ H1 a = some (.ins C dx fs) ∧ fs.lookup m = none ∧ t σ H1 fun vs H2 => sp (x :: vs) H2 Q E
theorem w_meth {sp : Sp} (q : ta σ H (gMeth C m sp E t σ Q)) : tMeth C m sp [] E ta t σ H Q := by
  unfold tMeth
  simp only [List.append_nil]
  exact q
theorem w_meth2 {sp : Sp} {fs : List (Str × V)} (h : H a = some (.ins C dx fs)) (n : fs.lookup m = none) (q : t σ H fun vs H2 => sp (.ref a :: vs) H2 Q E) : gMeth C m sp E t σ Q (.ref a) H := ⟨a, dx, fs, rfl, h, n, q⟩
theorem w_cb {r : List V → Hp → VK → Prop} (q : t σ H fun vs H1 => r vs H1 Q) : tCB r t σ H Q := q
def gMk (C : Addr) (sp : Sp) (dvs : List V) (E : XK) (Q : VK) (vs : List V) (H1 : Hp) : Prop := ∀ x dx, H1 x = none → H1 dx = none → dx ≠ x → sp (.ref x :: (vs ++ dvs)) (upd (upd H1 dx (.own x)) x (.ins C dx [])) (fun v H2 => v = .non ∧ Q (.ref x) H2) E
theorem w_mk {sp : Sp} (q : t σ H (gMk C sp dvs E Q)) : tMake C sp dvs E t σ H Q := q
def gMkK (C : Addr) (n m : Nat) (sp : Sp) (gV : List V → List V → List V) (E : XK) (Q : VK) (vs zs : List V) (H2 : Hp) : Prop := vs.length = n ∧ zs.length = m ∧ ∀ x dx, H2 x = none → H2 dx = none → dx ≠ x → sp (gV (.ref x :: vs) zs) (upd (upd H2 dx (.own x)) x (.ins C dx [])) (fun v H3 => v = .non ∧ Q (.ref x) H3) E
theorem w_mkK {n k : Nat} {sp : Sp} {gV : List V → List V → List V} {tk : TA} (q : t σ H fun vs H1 => tk σ H1 fun zs H2 => gMkK C n k sp gV E Q vs zs H2) : tMakeK C n k sp gV E t tk σ H Q := q
/-! methods of lists -/
def gBM (K : PySem.W.Frag) (T : String) (r : V → List V → Hp → VK → Prop) (t : TA) (σ : L2.St) (Q : VK) (x : V) (H1 : Hp) : Prop := tyV K T x H1 ∧ t σ H1 fun xs H2 => r x xs H2 Q
def gBM0 (K : PySem.W.Frag) (T : String) (r : V → List V → Hp → VK → Prop) (Q : VK) (x : V) (H1 : Hp) : Prop := tyV K T x H1 ∧ r x [] H1 Q
variable {T : String} {r : V → List V → Hp → VK → Prop}
theorem w_bm (q : to σ H (gBM K T r t σ Q)) : tBM K T r to t σ H Q := q
theorem w_bm0 (q : to σ H (gBM0 K T r Q)) : tBM0 K T r to σ H Q := q
theorem w_bmL {xs : List V} (h : SqL K H a xs) (q : t σ H fun ys H2 => r (.ref a) ys H2 Q) : gBM K "list" r t σ Q (.ref a) H := ⟨.inl ⟨rfl, _, h⟩, q⟩
theorem w_bm0L {xs : List V} (h : SqL K H a xs) (q : r (.ref a) [] H Q) : gBM0 K "list" r Q (.ref a) H := ⟨.inl ⟨rfl, _, h⟩, q⟩
theorem w_bmD {kvs : List (Key × V)} (h : H a = some (.dK kvs)) (q : t σ H fun ys H2 => r (.ref a) ys H2 Q) : gBM K "dict" r t σ Q (.ref a) H := ⟨.inr (.inr (.inl ⟨rfl, .inl ⟨_, h⟩⟩)), q⟩
theorem w_bm0D {kvs : List (Key × V)} (h : H a = some (.dK kvs)) (q : r (.ref a) [] H Q) : gBM0 K "dict" r Q (.ref a) H := ⟨.inr (.inr (.inl ⟨rfl, .inl ⟨_, h⟩⟩)), q⟩
theorem w_bmS {z : Str} (q : t σ H fun ys H2 => r (.str z) ys H2 Q) : gBM K "str" r t σ Q (.str z) H := ⟨rfl, q⟩
theorem w_bm0S {z : Str} (q : r (.str z) [] H Q) : gBM0 K "str" r Q (.str z) H := ⟨rfl, q⟩
theorem w_append {xs : List V} (w : Hw Z so H L) (h : At a (.lst xs) L) (u : Up a (.lst (xs ++ [y])) L L') (l : xs.length < sizeLine) (k : ∀ H', Hw Z so H' L' → Q .non H') : rAppend (.ref a) [y] H Q := ⟨a, xs, y, rfl, rfl, w.get h, l, k _ (w.up u)⟩
theorem w_pop {xs : List V} (w : Hw Z so H L) (h : At a (.lst (xs ++ [y])) L) (u : Up a (.lst xs) L L') (k : ∀ H', Hw Z so H' L' → Q y H') : rPop (.ref a) [] H Q := ⟨a, xs ++ [y], y, rfl, rfl, w.get h, by simp, by rw [List.dropLast_concat]; exact k _ (w.up u)⟩
theorem w_setL {xs : List V} {n : Nat} {k : Int} {R : Hp → Prop} (w : Hw Z so H L) (h : At a (.lst xs) L) (u : Up a (.lst (xs.set n v)) L L') (l : ixN xs.length k = some n) (q : ∀ H', Hw Z so H' L' → R H') : rSetL (.ref a) (.int k) v H R := ⟨a, xs, k, n, rfl, rfl, w.get h, l, q _ (w.up u)⟩
/-! stores -/
theorem ixN_nat {n j : Nat} (h : j < n) : ixN n (j : Int) = some j := by
  unfold ixN
  rw [if_pos (by omega), if_pos (by omega)]; simp
theorem w_gsub {ti : TE} {ts : TSet} {R : L2.St → Hp → Prop} (q : to σ H fun o H1 => ti σ H1 fun i H2 => ts o i v H2 fun H3 => R σ H3) : gSub to ti ts v σ H R := q
theorem w_setR {xs : List V} {n : Nat} {k : Int} {R : Hp → Prop} (h : H a = some (.lst xs)) (l : ixN xs.length k = some n) (q : R (upd H a (.lst (xs.set n v)))) : rSetL (.ref a) (.int k) v H R := ⟨a, xs, k, n, rfl, rfl, h, l, q⟩
theorem putLt {n : Nat} {fs : List (Str × V)} (h : fs.length < n) : (putF f y fs).length < n + 1 := Nat.lt_of_le_of_lt (putF_le _ _ _) (Nat.succ_lt_succ h)
def gSF (K : PySem.W.Frag) (f : Str) (D : Ends) (σ : L2.St) (y x : V) (H2 : Hp) : Prop := ∃ a C dx fs, x = .ref a ∧ H2 a = some (.ins C dx fs) ∧ Cls K C ∧ NoAttr K C f ∧ fs.length < 1000 ∧ D.nx σ (upd H2 a (.ins C dx (putF f y fs)))
theorem w_sfld {tv : TE} (q : tv σ H fun y H1 => ta σ H1 fun x H2 => gSF K f D σ y x H2) : sFld K ta tv f D σ H := q
theorem w_sfld2 {fs fs' : List (Str × V)} (w : Hw Z so H L) (h : At a (.ins C dx fs) L) (c : Cls K C) (n : NoAttr K C f) (l : fs.length < 1000) (e : putF f y fs = fs') (u : Up a (.ins C dx fs') L L') (q : ∀ H', Hw Z so H' L' → D.nx σ H') : gSF K f D σ y (.ref a) H := ⟨a, C, dx, fs, rfl, w.get h, c, n, l, q _ (e ▸ w.up u)⟩
def gDP (D : Ends) (σ : L2.St) (v x y : V) (H3 : Hp) : Prop := ∃ a H4, x = .ref a ∧ DPut H3 a y v H4 ∧ D.nx σ H4
theorem w_dput {td ty tv : TE} (q : tv σ H fun v H1 => td σ H1 fun x H2 => ty σ H2 fun y H3 => gDP D σ v x y H3) : sDPut td ty tv D σ H := q
theorem w_dputS {kvs kvs' : List (Key × V)} {k : Str} (w : Hw Z so H L) (h : At a (.dK kvs) L) (l : kvs.length < sizeLine) (e : putK kvs (Sum.inr k) v = kvs') (u : Up a (.dK kvs') L L') (q : ∀ H', Hw Z so H' L' → D.nx σ H') : gDP D σ v (.ref a) (.str k) H := ⟨a, _, rfl, DPut.k (k := Sum.inr k) (w.get h) l, q _ (e ▸ w.up u)⟩
/-! texts -/
def gFmt (Q : VK) (x : V) (H1 : Hp) : Prop := (∃ y : Str, x = .str y ∧ y.length ≤ sizeLine ∧ Q (.str y) H1) ∨ ∃ i : Int, x = .int i ∧ i.natAbs.log2 < 1920 ∧ Q (.str (toString i)) H1
theorem w_fmt (q : te σ H (gFmt Q)) : tFmt te σ H Q := q
theorem w_fmtS {z : Str} (l : z.length ≤ sizeLine) (q : Q (.str z) H) : gFmt Q (.str z) H := .inl ⟨z, rfl, l, q⟩
theorem w_fmtI (l : i.natAbs.log2 < 1920) (q : Q (.str (num i)) H) : gFmt Q (.int i) H := .inr ⟨i, rfl, l, q⟩
end
section
variable {A B : Prop}
theorem iTT (h : A) : if true = true then A else B := iteT h
theorem iTF (h : B) : if false = true then A else B := iteF h
theorem iNT (h : B) : if (!true) = true then A else B := iteF h
theorem iNF (h : A) : if (!false) = true then A else B := iteT h
end
/-- the ways of an if meet in B -/
theorem meetIf {s s' : TS} {D : Ends} {σ : L2.St} {H : Hp} {b : Bool} (B : L2.St → Hp → Prop) (h : ∀ D' : Ends, (∀ σ H, B σ H → D'.nx σ H) → D'.rt = D.rt → D'.bk = D.bk → D'.ct = D.ct → if b = true then s D' σ H else s' D' σ H) (k : ∀ σ H, B σ H → D.nx σ H) : if b = true then s D σ H else s' D σ H := h D k rfl rfl rfl
/-! ### int, bool, len, str, list -/
def rInt1 : List V → Hp → VK → Prop := fun xs H Q => (∃ i, xs = [.int i] ∧ Q (.int i) H) ∨ ∃ k, xs = [.bl k] ∧ Q (.int (if k then 1 else 0)) H
def rBool1 : List V → Hp → VK → Prop := fun xs H Q => (∃ i, xs = [.int i] ∧ Q (.bl (i != 0)) H) ∨ ∃ k, xs = [.bl k] ∧ Q (.bl k) H
def rStrI : List V → Hp → VK → Prop := fun xs H Q => ∃ i, xs = [.int i] ∧ i.natAbs.log2 < 1920 ∧ Q (.str (toString i)) H
def rLen (K : PySem.W.Frag) : List V → Hp → VK → Prop := fun xs H Q => ∃ p ys, xs = [V.ref p] ∧ (SqL K H p ys ∨ SqT K H p ys) ∧ Q (V.int (ys.length : Int)) H
def rListOf (K : PySem.W.Frag) : List V → Hp → VK → Prop := fun xs H Q => ∃ p ys, xs = [.ref p] ∧ (SqL K H p ys ∨ SqT K H p ys) ∧ ∀ l, H l = none → Q (.ref l) (upd H l (.lst ys))
theorem call_int1 {X : Cx} : CallR X (.type "int") rInt1 := L2.call_int1
theorem call_bool1 {X : Cx} : CallR X (.type "bool") rBool1 := L2.call_bool1
theorem call_str {X : Cx} : CallR X (.type "str") rStrI := L2.call_str_int
theorem call_len {X : Cx} (K : PySem.W.Frag) (h : X.K = K) : CallR X (.builtin "len") (rLen K) := by subst h; exact call_len_seq
theorem call_list {X : Cx} (K : PySem.W.Frag) (h : X.K = K) : CallR X (.type "list") (rListOf K) := by subst h; exact call_list_of
section
variable {K : PySem.W.Frag} {Z H : Hp} {so : Option (Addr × Addr)} {L : Cells} {a : Addr} {Q : VK} {i : Int} {b : Bool} {xs : List V}
theorem w_int1 (q : Q (.int i) H) : rInt1 [.int i] H Q := .inl ⟨i, rfl, q⟩
theorem w_int1b (q : Q (.int (if b then 1 else 0)) H) : rInt1 [.bl b] H Q := .inr ⟨b, rfl, q⟩
theorem w_bool1 (q : Q (.bl b) H) : rBool1 [.bl b] H Q := .inr ⟨b, rfl, q⟩
theorem w_str (l : i.natAbs.log2 < 1920) (q : Q (.str (num i)) H) : rStrI [.int i] H Q := ⟨i, rfl, l, q⟩
theorem w_lenL (h : SqL K H a xs) (q : Q (.int (xs.length : Int)) H) : rLen K [.ref a] H Q := ⟨a, xs, rfl, .inl (h), q⟩
theorem w_lenT (h : SqT K H a xs) (q : Q (.int (xs.length : Int)) H) : rLen K [.ref a] H Q := ⟨a, xs, rfl, .inr (h), q⟩
theorem w_listL (w : Hw Z so H L) (h : SqL K H a xs) (k : ∀ p H', H p = none → Hw Z so H' ((true, p, .lst xs) :: L) → Q (.ref p) H') : rListOf K [.ref a] H Q := ⟨a, xs, rfl, .inl (h), fun p n => k p _ n (w.new n)⟩
end
/-! ### texts -/
def rJoin (K : PySem.W.Frag) : V → List V → Hp → VK → Prop := fun x xs H Q => ∃ a p, ∃ ys : List Str, x = .str a ∧ xs = [.ref p] ∧ (SqL K H p (ys.map V.str) ∨ SqT K H p (ys.map V.str)) ∧ (ys.map (·.length)).sum + ys.length * a.length ≤ 16777216 ∧ Q (.str (Txt.join a ys)) H
section
variable {X : Cx} {o e : Expr} {to te : TE}
theorem pe_join (K : PySem.W.Frag) (hK : X.K = K) {apos pos : Pos} (ho : PE X o to) (he : PE X e te) (hs : starEach [e] X.env = [(false, eval e X.env)] := by rfl) (hbase : attributeBase o "join" X.env (eval o X.env) = eval o X.env := by rfl) (hline : (apos.endLine == pos.line) = true := by rfl) :
    PE X (.Call (.Attribute o "join" apos) [e] [] pos) (tM1 (rJoin K) to te) := by subst hK; exact L2.pe_join ho he hs hbase hline
end
theorem op_addS {X : Cx} : OpR X (binaryOp .Add) rAddS := op_add_str
theorem w_addS {a b : Str} {H : Hp} {Q : VK} (l : a.length + b.length ≤ sizeLine) (q : Q (.str (a ++ b)) H) : rAddS (.str a) (.str b) H Q := ⟨a, b, rfl, rfl, l, q⟩
theorem w_cat {Z H : Hp} {so : Option (Addr × Addr)} {L : Cells} {a b : Addr} {xs ys : List V} {Q : VK} (w : Hw Z so H L) (h1 : H a = some (.lst xs)) (h2 : H b = some (.lst ys)) (l : xs.length + ys.length ≤ sizeLine) (k : ∀ p H', H p = none → Hw Z so H' ((true, p, .lst (xs ++ ys)) :: L) → Q (.ref p) H') : rCat (.ref a) (.ref b) H Q := ⟨a, b, xs, ys, rfl, rfl, h1, h2, l, fun p n => k p _ n (w.new n)⟩
theorem w_gtup {K : PySem.W.Frag} {H : Hp} {a : Addr} {xs : List V} {n : Nat} {t : TGs} {σ : L2.St} {R : L2.St → Hp → Prop} (h : SqT K H a xs) (l : xs.length = n) (q : t xs σ H R) : L2.gTup K n t (.ref a) σ H R := ⟨a, xs, rfl, h, l, q⟩
theorem w_gcons {H : Hp} {v : V} {r : List V} {t : TG} {u : TGs} {σ : L2.St} {R : L2.St → Hp → Prop} (q : t v σ H fun σ' H' => u r σ' H' R) : gCons t u (v :: r) σ H R := ⟨v, r, rfl, q⟩
theorem w_gnil {H : Hp} {σ : L2.St} {R : L2.St → Hp → Prop} (q : R σ H) : gNil [] σ H R := ⟨rfl, q⟩
theorem w_inL {K : PySem.W.Frag} {H : Hp} {a : Addr} {x : V} {xs : List V} {Q : VK} (h : SqL K H a xs) (fx : flatV x = true) (fs : xs.all flatV = true) (q : Q (.bl (inV x xs)) H) : rIn K false x (.ref a) H Q := ⟨a, xs, rfl, .inl h, fx, fs, q⟩
theorem w_notInL {K : PySem.W.Frag} {H : Hp} {a : Addr} {x : V} {xs : List V} {Q : VK} (h : SqL K H a xs) (fx : flatV x = true) (fs : xs.all flatV = true) (q : Q (.bl (!inV x xs)) H) : rIn K true x (.ref a) H Q := ⟨a, xs, rfl, .inl h, fx, fs, q⟩
def gJs (ts : List TE) (acc : Str) (σ : L2.St) (R : Str → Hp → Prop) (x : V) (H1 : Hp) : Prop := ∃ y : Str, x = .str y ∧ (acc ++ y).length ≤ sizeLine ∧ tJs ts (acc ++ y) σ H1 R
theorem w_js0 {acc : Str} {σ : L2.St} {H : Hp} {R : Str → Hp → Prop} (q : R acc H) : tJs [] acc σ H R := q
theorem w_js1 {t : TE} {ts : List TE} {acc : Str} {σ : L2.St} {H : Hp} {R : Str → Hp → Prop} (q : t σ H (gJs ts acc σ R)) : tJs (t :: ts) acc σ H R := q
theorem w_js2 {ts : List TE} {acc y : Str} {σ : L2.St} {H : Hp} {R : Str → Hp → Prop} (l : (acc ++ y).length ≤ sizeLine) (q : tJs ts (acc ++ y) σ H R) : gJs ts acc σ R (.str y) H := ⟨y, rfl, l, q⟩
def gM1 (r : V → List V → Hp → VK → Prop) (te : TE) (σ : L2.St) (Q : VK) (x : V) (H1 : Hp) : Prop := (∃ a, x = .str a) ∧ te σ H1 fun y H2 => r x [y] H2 Q
section
variable {K : PySem.W.Frag} {H : Hp} {σ : L2.St} {Q : VK} {to te : TE} {p : Addr} {i : Int} {c : Nat} {z : Str}
theorem w_m1 {r : V → List V → Hp → VK → Prop} (q : to σ H (gM1 r te σ Q)) : tM1 r to te σ H Q := q
theorem w_m1s {r : V → List V → Hp → VK → Prop} (q : te σ H fun y H2 => r (.str z) [y] H2 Q) : gM1 r te σ Q (.str z) H := ⟨⟨z, rfl⟩, q⟩
theorem w_join {ys : List Str} (h : SqL K H p (ys.map V.str)) (l : (ys.map (·.length)).sum + ys.length * z.length ≤ 16777216) (q : Q (.str (Txt.join z ys)) H) : rJoin K (.str z) [.ref p] H Q := ⟨z, p, ys, rfl, rfl, .inl h, l, q⟩
theorem w_ixS (l : z.length ≤ sizeLine) (h : atI z.cps.toList i = some c) (q : Q (.str ⟨#[c]⟩) H) : rIxS (.str z) (.int i) H Q := ⟨z, i, c, rfl, rfl, l, h, q⟩
end
theorem seqT {K : PySem.W.Frag} {H H' : Hp} {a : Addr} {xs : List V} (e : Same H H') (h : SqT K H a xs) : SqT K H' a xs := by
  rcases h with h | h
  · refine .inl ?_
    rcases h with h | ⟨o, h⟩
    · exact .inl (e _ _ h)
    · exact .inr ⟨o, e _ _ h⟩
  · exact .inr h
/-! ### comprehensions: F i is what the new list holds ahead of turn i -/
def LcI (Z : Hp) (so : Option (Addr × Addr)) (L : Cells) (D : Addr) (xs : List V) (H : Hp) : Prop := Hw Z so H ((true, D, .lst xs) :: L)
def DcI (Z : Hp) (so : Option (Addr × Addr)) (L : Cells) (D : Addr) (kvs : List (Key × V)) (H : Hp) : Prop := Hw Z so H ((true, D, .dK kvs) :: L)
def gAcc (D : Addr) (Nx : Hp → Prop) (y : V) (H4 : Hp) : Prop := ∃ acc, H4 D = some (.lst acc) ∧ acc.length < sizeLine ∧ Nx (upd H4 D (.lst (acc ++ [y])))
def gDcc (D : Addr) (Nx : Hp → Prop) (y z : V) (H5 : Hp) : Prop := ∃ kvs k, y = kV k ∧ H5 D = some (.dK kvs) ∧ kvs.length < sizeLine ∧ Nx (upd H5 D (.dK (putK kvs k z)))
inductive Wi : L2.St → List Nat → L2.St → Prop
  | nil {σ} : Wi σ [] σ
  | cons {σ v vs σ'} (h : Wi σ vs σ') : Wi σ (v :: vs) (σ'.set v none)
theorem Wi.eq : ∀ {σ : L2.St} {vs : List Nat} {σ' : L2.St}, Wi σ vs σ' → wipe σ vs = σ'
  | _, _, _, .nil => rfl
  | _, _, _, .cons h => by rw [← h.eq]; rfl
section
variable {K : PySem.W.Frag} {Z H H' : Hp} {so : Option (Addr × Addr)} {L L' : Cells} {a D : Addr} {xs : List V} {y z : V} {g : TG} {tt : TT} {te tk tv : TE} {vs : List Nat} {σ σw : L2.St}
theorem w_acc {xs ys : List V} (w : Hw Z so H' L') (s : Sub ((true, D, .lst xs) :: L) L') (l : xs.length < sizeLine) (e : ys = xs ++ [y]) : gAcc D (LcI Z so L D ys) y H' := ⟨xs, (w.sub s).get .here, l, e ▸ (w.sub s).up .here⟩
theorem w_noacc {xs ys : List V} (w : Hw Z so H' L') (s : Sub ((true, D, .lst xs) :: L) L') (e : ys = xs) : LcI Z so L D ys H' := e ▸ w.sub s
theorem w_dccS {kvs kws : List (Key × V)} {k : Str} (w : Hw Z so H' L') (s : Sub ((true, D, .dK kvs) :: L) L') (l : kvs.length < sizeLine) (e : kws = putK kvs (Sum.inr k) z) : gDcc D (DcI Z so L D kws) (.str k) z H' := ⟨kvs, Sum.inr k, rfl, (w.sub s).get .here, l, e ▸ (w.sub s).up .here⟩
theorem w_dccI {kvs kws : List (Key × V)} {k : Int} (w : Hw Z so H' L') (s : Sub ((true, D, .dK kvs) :: L) L') (l : kvs.length < sizeLine) (e : kws = putK kvs (Sum.inl k) z) : gDcc D (DcI Z so L D kws) (.int k) z H' := ⟨kvs, Sum.inl k, rfl, (w.sub s).get .here, l, e ▸ (w.sub s).up .here⟩
theorem Hw.newU (w : Hw Z so H L) (n : H D = none) (o : HO) : Hw Z so (upd H D o) ((true, D, o) :: L) := w.new n
/-- over a list -/
theorem lcW {Qd : Addr → Hp → Prop} (F : Nat → List V) (w : Hw Z so H L) (hw : Wi σ vs σw) (hl : ∀ H', Hw Z so H' L → SqL K H' a xs) (h0 : F 0 = [])
    (hs : ∀ (i : Nat) (x : V) (D : Addr) (H' : Hp), xs[i]? = some x → Hw Z so H' ((true, D, .lst (F i)) :: L) → g x σw H' fun σ2 H2 => wipe σ2 vs = σw ∧ tt σ2 H2 fun b H3 =>
      if b = true then te σ2 H3 fun y H4 => gAcc D (LcI Z so L D (F (i + 1))) y H4 else LcI Z so L D (F (i + 1)) H3)
    (hd : ∀ (D : Addr) (H' : Hp), Hw Z so H' ((true, D, .lst (F xs.length)) :: L) → Qd D H') :
    ∀ D, H D = none → ∃ W : Nat → Nat → Hp → Prop, (∃ m, W 0 m (upd H D (.lst []))) ∧ ∀ i m H, W i m H →
      ((Itl K a).stop i H ∧ Qd D H) ∨ ((Itl K a).go i H ∧ ∃ Nx : Hp → Prop, (∀ H', Nx H' → ∃ m', m' < m ∧ W (i + 1) m' H') ∧ ∀ x H', (Itl K a).yld i H x H' → g x (wipe σ vs) H' fun σ2 H2 => wipe σ2 vs = wipe σ vs ∧ tt σ2 H2 fun b H3 =>
        if b = true then te σ2 H3 fun y H4 => ∃ acc, H4 D = some (.lst acc) ∧ acc.length < sizeLine ∧ Nx (upd H4 D (.lst (acc ++ [y]))) else Nx H3) := fun D n => by
  rw [hw.eq]
  refine UW.loopL (xs := xs) (fun i H => LcI Z so L D (F i) H) (by rw [h0]; exact w.new n) (fun i H h => hl H (h.sub (.skip (.refl _)))) (fun i x H hx h => ?_) (fun H h => hd D H h)
  exact hs i x D H hx h
/-- over lo, lo + 1, .. -/
theorem lcRW {Qd : Addr → Hp → Prop} {lo : Int} {n : Nat} (F : Nat → List V) (w : Hw Z so H L) (hw : Wi σ vs σw) (h0 : F 0 = [])
    (hs : ∀ (i : Nat) (D : Addr) (H' : Hp), i < n → Hw Z so H' ((true, D, .lst (F i)) :: L) → g (.int (lo + i)) σw H' fun σ2 H2 => wipe σ2 vs = σw ∧ tt σ2 H2 fun b H3 =>
      if b = true then te σ2 H3 fun y H4 => gAcc D (LcI Z so L D (F (i + 1))) y H4 else LcI Z so L D (F (i + 1)) H3)
    (hd : ∀ (D : Addr) (H' : Hp), Hw Z so H' ((true, D, .lst (F n)) :: L) → Qd D H') :
    ∀ D, H D = none → ∃ W : Nat → Nat → Hp → Prop, (∃ m, W 0 m (upd H D (.lst []))) ∧ ∀ i m H, W i m H →
      ((Itr lo n).stop i H ∧ Qd D H) ∨ ((Itr lo n).go i H ∧ ∃ Nx : Hp → Prop, (∀ H', Nx H' → ∃ m', m' < m ∧ W (i + 1) m' H') ∧ ∀ x H', (Itr lo n).yld i H x H' → g x (wipe σ vs) H' fun σ2 H2 => wipe σ2 vs = wipe σ vs ∧ tt σ2 H2 fun b H3 =>
        if b = true then te σ2 H3 fun y H4 => ∃ acc, H4 D = some (.lst acc) ∧ acc.length < sizeLine ∧ Nx (upd H4 D (.lst (acc ++ [y]))) else Nx H3) := fun D nn => by
  refine lc_range (fun i H => LcI Z so L D (F i) H) (by rw [h0]; exact w.new nn) (fun i H hi h => ?_) (fun H h => hd D H h)
  rw [hw.eq]
  exact hs i D H hi h
/-- a dict over lo, lo + 1, .. -/
theorem dcRW {Qd : Addr → Hp → Prop} {lo : Int} {n : Nat} (F : Nat → List (Key × V)) (w : Hw Z so H L) (hw : Wi σ vs σw) (h0 : F 0 = [])
    (hs : ∀ (i : Nat) (D : Addr) (H' : Hp), i < n → Hw Z so H' ((true, D, .dK (F i)) :: L) → g (.int (lo + i)) σw H' fun σ2 H2 => wipe σ2 vs = σw ∧ tt σ2 H2 fun b H3 =>
      if b = true then tk σ2 H3 fun y H4 => tv σ2 H4 fun z H5 => gDcc D (DcI Z so L D (F (i + 1))) y z H5 else DcI Z so L D (F (i + 1)) H3)
    (hd : ∀ (D : Addr) (H' : Hp), Hw Z so H' ((true, D, .dK (F n)) :: L) → Qd D H') :
    ∀ D, H D = none → ∃ W : Nat → Nat → Hp → Prop, (∃ m, W 0 m (upd H D (.dK []))) ∧ ∀ i m H, W i m H →
      ((Itr lo n).stop i H ∧ Qd D H) ∨ ((Itr lo n).go i H ∧ ∃ Nx : Hp → Prop, (∀ H', Nx H' → ∃ m', m' < m ∧ W (i + 1) m' H') ∧ ∀ x H', (Itr lo n).yld i H x H' → g x (wipe σ vs) H' fun σ2 H2 => wipe σ2 vs = wipe σ vs ∧ tt σ2 H2 fun b H3 =>
        if b = true then tk σ2 H3 fun y H4 => tv σ2 H4 fun z H5 => ∃ kvs k, y = kV k ∧ H5 D = some (.dK kvs) ∧ kvs.length < sizeLine ∧ Nx (upd H5 D (.dK (putK kvs k z))) else Nx H3) := fun D nn => by
  refine dc_rng (fun i H => DcI Z so L D (F i) H) (by rw [h0]; exact w.new nn) (fun i H hi h => ?_) (fun H h => hd D H h)
  rw [hw.eq]
  exact hs i D H hi h
/-- a dict over a list -/
theorem dcW {Qd : Addr → Hp → Prop} (F : Nat → List (Key × V)) (w : Hw Z so H L) (hw : Wi σ vs σw) (hl : ∀ H', Hw Z so H' L → SqL K H' a xs) (h0 : F 0 = [])
    (hs : ∀ (i : Nat) (x : V) (D : Addr) (H' : Hp), xs[i]? = some x → Hw Z so H' ((true, D, .dK (F i)) :: L) → g x σw H' fun σ2 H2 => wipe σ2 vs = σw ∧ tt σ2 H2 fun b H3 =>
      if b = true then tk σ2 H3 fun y H4 => tv σ2 H4 fun z H5 => gDcc D (DcI Z so L D (F (i + 1))) y z H5 else DcI Z so L D (F (i + 1)) H3)
    (hd : ∀ (D : Addr) (H' : Hp), Hw Z so H' ((true, D, .dK (F xs.length)) :: L) → Qd D H') :
    ∀ D, H D = none → ∃ W : Nat → Nat → Hp → Prop, (∃ m, W 0 m (upd H D (.dK []))) ∧ ∀ i m H, W i m H →
      ((Itl K a).stop i H ∧ Qd D H) ∨ ((Itl K a).go i H ∧ ∃ Nx : Hp → Prop, (∀ H', Nx H' → ∃ m', m' < m ∧ W (i + 1) m' H') ∧ ∀ x H', (Itl K a).yld i H x H' → g x (wipe σ vs) H' fun σ2 H2 => wipe σ2 vs = wipe σ vs ∧ tt σ2 H2 fun b H3 =>
        if b = true then tk σ2 H3 fun y H4 => tv σ2 H4 fun z H5 => ∃ kvs k, y = kV k ∧ H5 D = some (.dK kvs) ∧ kvs.length < sizeLine ∧ Nx (upd H5 D (.dK (putK kvs k z))) else Nx H3) := fun D n => by
  rw [hw.eq]
  refine UW.loopL (xs := xs) (fun i H => DcI Z so L D (F i) H) (by rw [h0]; exact w.new n) (fun i H h => hl H (h.sub (.skip (.refl _)))) (fun i x H hx h => ?_) (fun H h => hd D H h)
  exact hs i x D H hx h
/-! the same where the items are not told ahead, and frozen things may come along -/
def LcG (Z : Hp) (so : Option (Addr × Addr)) (L : Cells) (D : Addr) (P : Hp → List V → Prop) (H : Hp) : Prop := ∃ Z' acc, Same Z Z' ∧ P Z' acc ∧ Hw Z' so H ((true, D, .lst acc) :: L)
theorem w_accG {Z' : Hp} {P : Hp → List V → Prop} {acc : List V} (w : Hw Z' so H' L') (s : Sub ((true, D, .lst acc) :: L) L') (e : Same Z Z') (l : acc.length < sizeLine) (q : P Z' (acc ++ [y])) : gAcc D (LcG Z so L D P) y H' := ⟨acc, (w.sub s).get .here, l, Z', _, e, q, (w.sub s).up .here⟩
theorem w_noaccG {Z' : Hp} {P : Hp → List V → Prop} {acc : List V} (w : Hw Z' so H' L') (s : Sub ((true, D, .lst acc) :: L) L') (e : Same Z Z') (q : P Z' acc) : LcG Z so L D P H' := ⟨Z', _, e, q, w.sub s⟩
theorem lcG {Qd : Addr → Hp → Prop} (P : Nat → Hp → List V → Prop) (w : Hw Z so H L) (hw : Wi σ vs σw) (hl : ∀ Z' H', Same Z Z' → Hw Z' so H' L → SqL K H' a xs) (h0 : P 0 Z [])
    (hs : ∀ (i : Nat) (x : V) (D : Addr) (Z' H' : Hp) (acc : List V), xs[i]? = some x → Same Z Z' → P i Z' acc → Hw Z' so H' ((true, D, .lst acc) :: L) → g x σw H' fun σ2 H2 => wipe σ2 vs = σw ∧ tt σ2 H2 fun b H3 =>
      if b = true then te σ2 H3 fun y H4 => gAcc D (LcG Z so L D (P (i + 1))) y H4 else LcG Z so L D (P (i + 1)) H3)
    (hd : ∀ (D : Addr) (Z' H' : Hp) (acc : List V), Same Z Z' → P xs.length Z' acc → Hw Z' so H' ((true, D, .lst acc) :: L) → Qd D H') :
    ∀ D, H D = none → ∃ W : Nat → Nat → Hp → Prop, (∃ m, W 0 m (upd H D (.lst []))) ∧ ∀ i m H, W i m H →
      ((Itl K a).stop i H ∧ Qd D H) ∨ ((Itl K a).go i H ∧ ∃ Nx : Hp → Prop, (∀ H', Nx H' → ∃ m', m' < m ∧ W (i + 1) m' H') ∧ ∀ x H', (Itl K a).yld i H x H' → g x (wipe σ vs) H' fun σ2 H2 => wipe σ2 vs = wipe σ vs ∧ tt σ2 H2 fun b H3 =>
        if b = true then te σ2 H3 fun y H4 => ∃ acc, H4 D = some (.lst acc) ∧ acc.length < sizeLine ∧ Nx (upd H4 D (.lst (acc ++ [y]))) else Nx H3) := fun D n => by
  rw [hw.eq]
  refine UW.loopL (xs := xs) (fun i H => LcG Z so L D (P i) H) ⟨Z, [], fun _ _ e => e, h0, w.new n⟩ (fun i H ⟨Z', acc, e, _, h⟩ => hl Z' H e (h.sub (.skip (.refl _)))) (fun i x H hx ⟨Z', acc, e, q, h⟩ => ?_) (fun H ⟨Z', acc, e, q, h⟩ => hd D Z' H acc e q h)
  exact hs i x D Z' H acc hx e q h
theorem lcRG {Qd : Addr → Hp → Prop} {lo : Int} {n : Nat} (P : Nat → Hp → List V → Prop) (w : Hw Z so H L) (hw : Wi σ vs σw) (h0 : P 0 Z [])
    (hs : ∀ (i : Nat) (D : Addr) (Z' H' : Hp) (acc : List V), i < n → Same Z Z' → P i Z' acc → Hw Z' so H' ((true, D, .lst acc) :: L) → g (.int (lo + i)) σw H' fun σ2 H2 => wipe σ2 vs = σw ∧ tt σ2 H2 fun b H3 =>
      if b = true then te σ2 H3 fun y H4 => gAcc D (LcG Z so L D (P (i + 1))) y H4 else LcG Z so L D (P (i + 1)) H3)
    (hd : ∀ (D : Addr) (Z' H' : Hp) (acc : List V), Same Z Z' → P n Z' acc → Hw Z' so H' ((true, D, .lst acc) :: L) → Qd D H') :
    ∀ D, H D = none → ∃ W : Nat → Nat → Hp → Prop, (∃ m, W 0 m (upd H D (.lst []))) ∧ ∀ i m H, W i m H →
      ((Itr lo n).stop i H ∧ Qd D H) ∨ ((Itr lo n).go i H ∧ ∃ Nx : Hp → Prop, (∀ H', Nx H' → ∃ m', m' < m ∧ W (i + 1) m' H') ∧ ∀ x H', (Itr lo n).yld i H x H' → g x (wipe σ vs) H' fun σ2 H2 => wipe σ2 vs = wipe σ vs ∧ tt σ2 H2 fun b H3 =>
        if b = true then te σ2 H3 fun y H4 => ∃ acc, H4 D = some (.lst acc) ∧ acc.length < sizeLine ∧ Nx (upd H4 D (.lst (acc ++ [y]))) else Nx H3) := fun D nn => by
  refine lc_range (fun i H => LcG Z so L D (P i) H) ⟨Z, [], fun _ _ e => e, h0, w.new nn⟩ (fun i H hi ⟨Z', acc, e, q, h⟩ => ?_) (fun H ⟨Z', acc, e, q, h⟩ => hd D Z' H acc e q h)
  rw [hw.eq]
  exact hs i D Z' H acc hi e q h
/-- what a list comprehension walks: a list -/
def gIl (K : PySem.W.Frag) (R : It → Hp → Prop) (x : V) (H1 : Hp) : Prop := ∃ a, x = .ref a ∧ (∃ xs, SqL K H1 a xs) ∧ R (Itl K a) H1
theorem w_il {tl : TE} {R : It → Hp → Prop} (q : tl σ H (gIl K R)) : iList K tl σ H R := q
theorem w_il2 {R : It → Hp → Prop} (h : SqL K H a xs) (q : R (Itl K a) H) : gIl K R (.ref a) H := ⟨a, rfl, ⟨xs, h⟩, q⟩
def gIr1 (R : It → Hp → Prop) (vs : List V) (H1 : Hp) : Prop := ∃ j : Int, vs = [.int j] ∧ -(2 ^ 62) ≤ j ∧ j < 2 ^ 62 ∧ R (Itr 0 j.toNat) H1
theorem w_ir {ta : TA} {R : It → Hp → Prop} (q : ta σ H (gIr1 R)) : iRng1 ta σ H R := q
theorem w_ir1 {j : Int} {n : Nat} {R : It → Hp → Prop} (e : j = (n : Int)) (b : n < 4611686018427387904) (q : R (Itr 0 n) H) : gIr1 R [.int j] H := ⟨j, rfl, by omega, by omega, by rw [e]; exact q⟩
theorem w_for {wi : TI} {tb : TS} {D : Ends} (q : wi σ H fun J H1 => ∃ W : Nat → Nat → L2.St → Hp → Prop, (∃ m, W 0 m σ H1) ∧ ∀ i m σ H, W i m σ H →
  (J.stop i H ∧ D.nx σ H) ∨ (J.go i H ∧ ∃ N : L2.St → Hp → Prop, (∀ σ' H', N σ' H' → ∃ m', m' < m ∧ W (i + 1) m' σ' H') ∧ ∀ x H', J.yld i H x H' → g x σ H' fun σ2 H2 => tb { D with nx := N, ct := N, bk := D.nx } σ2 H2)) : tFor wi g tb D σ H := q
theorem w_lc {wi : TI} {Q : VK} (q : wi σ H fun J H1 => ∀ D, H1 D = none → ∃ W : Nat → Nat → Hp → Prop, (∃ m, W 0 m (upd H1 D (.lst []))) ∧ ∀ i m H, W i m H →
  (J.stop i H ∧ Q (.ref D) H) ∨ (J.go i H ∧ ∃ Nx : Hp → Prop, (∀ H', Nx H' → ∃ m', m' < m ∧ W (i + 1) m' H') ∧ ∀ x H', J.yld i H x H' → g x (wipe σ vs) H' fun σ2 H2 => wipe σ2 vs = wipe σ vs ∧ tt σ2 H2 fun b H3 =>
    if b = true then te σ2 H3 fun y H4 => ∃ acc, H4 D = some (.lst acc) ∧ acc.length < sizeLine ∧ Nx (upd H4 D (.lst (acc ++ [y]))) else Nx H3)) : tLc wi g tt te vs σ H Q := q
theorem w_dc {wi : TI} {Q : VK} (q : wi σ H fun J H1 => ∀ D, H1 D = none → ∃ W : Nat → Nat → Hp → Prop, (∃ m, W 0 m (upd H1 D (.dK []))) ∧ ∀ i m H, W i m H →
  (J.stop i H ∧ Q (.ref D) H) ∨ (J.go i H ∧ ∃ Nx : Hp → Prop, (∀ H', Nx H' → ∃ m', m' < m ∧ W (i + 1) m' H') ∧ ∀ x H', J.yld i H x H' → g x (wipe σ vs) H' fun σ2 H2 => wipe σ2 vs = wipe σ vs ∧ tt σ2 H2 fun b H3 =>
    if b = true then tk σ2 H3 fun y H4 => tv σ2 H4 fun z H5 => ∃ kvs k, y = kV k ∧ H5 D = some (.dK kvs) ∧ kvs.length < sizeLine ∧ Nx (upd H5 D (.dK (putK kvs k z))) else Nx H3)) : tDc wi g tt tk tv vs σ H Q := q
end
end V
/-! More rules. -/
namespace V
open PySem PySem.Spec PyProof.Rows L2 U
/-- a comprehension into a name that is a cell -/
theorem sw_cell {elt : Expr} {gs : List Comprehension} {scope : Scope} {pos py : Pos} {y : Str} {l : Nat} {env : Env} (hk : env.scope.kind = .function) (hy : env.scope.names.lookup y = some .cell) : swapsWith (.ListComp elt gs scope pos) (some (.Name y py)) l env = pure false := by
  have k1 : env.kindOf y = some .cell := hy
  have k2 : env.blockKind = .function := by unfold Env.blockKind; rw [hk]; rfl
  unfold swapsWith; simp only [k1, k2]; rfl
theorem sw_cellD {kx vx : Expr} {gs : List Comprehension} {scope : Scope} {pos py : Pos} {y : Str} {l : Nat} {env : Env} (hk : env.scope.kind = .function) (hy : env.scope.names.lookup y = some .cell) : swapsWith (.DictComp kx vx gs scope pos) (some (.Name y py)) l env = pure false := by
  have k1 : env.kindOf y = some .cell := hy
  have k2 : env.blockKind = .function := by unfold Env.blockKind; rw [hk]; rfl
  unfold swapsWith; simp only [k1, k2]; rfl
/-- i <= x < k, i and k written -/
theorem w_chC {σ : L2.St} {H : Hp} {Q : VK} {n : Nat} {i j k : Int} (hb : σ[n]? = some (some (.int j))) (h : Q (.bl (decide (i ≤ j) && decide (j < k))) H) : tChain (rI0 fun i j => V.bl (decide (i ≤ j))) (rI0 fun i j => V.bl (decide (i < j))) (tC (.int i)) (tVar n) (tC (.int k)) σ H Q := by
  refine ⟨_, hb, _, _, rfl, rfl, _, rfl, ?_⟩
  by_cases c : decide (i ≤ j) = true
  · rw [if_pos c]
    rw [c, Bool.true_and] at h
    exact ⟨_, _, rfl, rfl, h⟩
  · rw [if_neg c]
    have c2 : decide (i ≤ j) = false := by simpa using c
    rw [c2, Bool.false_and] at h
    exact h
end V
/-! An error of an own class without an own __init__ raised without arguments; str of ints of up to 4300 figures. -/
namespace UG
open PySem PySem.Spec PyProof.Rows L2 U UX
section
variable {X : Cx} {x : Str} {p pos : Pos} {C : Addr}
/-- raise C(), an own class of errors without an own __init__ -/
theorem pmk_exc0 {bmB : List Value} {B newId initId : String} (F : ExcBaseFacts B newId initId bmB) (q : PySem.W.excIn X.K C bmB newId = true) (gC : X.mg x = some (.ref C)) (kC : PySem.W.keepIn X.K (.ref C) = true) (r : Raises X (.ref C)) (hg : Gl X x) (hdb : (x == ("__debug__" : Str)) = false := by decide) :
    PMk X (.Call (.Name x p) [] [] pos) (fun _ H Q => Q (.ref C) none H) := by
  intro pins s σ H Q I h
  refine wpAny_Call_Name_kw (ld_glob I hg gC ?_ hdb)
  refine PySem.W.callWith_K0 I.kIn kC ?_
  show wpAny _ _ (call (.ref C) []) _ _ _
  obtain ⟨bm, N, nm, qn, bs, hdct, sn, sub, ab, col, dd, k0, k1, k2, k3, k5, mN, hC, hN, hni, T⟩ := exc_obj I.kIn q
  refine wpAny_call_exc_subT F T hC hN hni (fun h' e hm => ?_) (by show 0 ≤ sizeLine; rw [sizeLine_eq]; omega)
  exact mk_of I hm r h (I.hok.gone hm.new)
/-- str of an int of up to 4300 figures -/
def rStrW : List V → Hp → VK → Prop := fun xs H Q => ∃ i : Int, xs = [.int i] ∧ i.natAbs < 10 ^ 4300 ∧ Q (.str (toString i)) H
theorem call_str_intW (K : PySem.W.Frag) (hK : X.K = K) (hc : X.calm = true) (hd : PySem.W.nsIn K cStatics "sys.int_max_str_digits" = some none) : CallR X (.type "str") rStrW := by
  subst hK
  intro pins s σ H xs us Q I r h
  obtain ⟨i, rfl, hz, q⟩ := h
  obtain ⟨u, rfl, t, rfl⟩ := vals1 r
  have nd : s.heap.NoDigits := by
    obtain ⟨mc, hn, _⟩ := I.nolimit
    exact ⟨mc, hn, PySem.W.ns_none_of I.kIn hn hd⟩
  refine PyProof.Rows.str_of_int_or (I.ok.hd hc) nd (fun _ => ⟨.str _, H, I.tok _, ⟨_, rfl⟩, q⟩) (fun h => ?_)
  generalize 10 ^ 4300 = y at hz h
  omega
theorem w_strW {i : Int} {H : Hp} {Q : VK} (l : i.natAbs < 10 ^ 4300) (q : Q (.str (num i)) H) : rStrW [.int i] H Q := ⟨i, rfl, l, q⟩
end
section
variable {X : Cx} {C : Addr}
/-- o.m() in a try: what is raised is wished for at the caller's slots -/
theorem pe_mtS0 {CX : CXT} {k j : Nat} {m : Str} {sp : Sp} {E : L2.St → XK} {pos apos : Pos} {o : Expr} {ta : TE} {pl : Sem Bool} (c : Met X.prog X.w X.K X.mg X.base CX k C m sp) (hr : Room j X.A) (hk : k ≤ j) (hx : ∀ σ, PassesAt CX X σ (E σ)) (he : PE X o ta)
    (ht : eval (.Call (.Attribute o m apos) [] [] pos) X.env = (do
      let ov ← eval o X.env
      standAt apos.atName
      let (f, first) ← holding [ov] (getMethod ov m pl)
      callWith pos f first (backTo pos (starEach [] X.env)) (backToKw pos (keywordEach [] X.env))) := by rfl) :
    PE X (.Call (.Attribute o m apos) [] [] pos) (tMtS C m sp E ta tNil) := by
  obtain ⟨f, fd, ps, hc, hm, F, b⟩ := c.ex
  refine ⟨fun pins s σ H Q I h => ?_⟩
  refine PySem.W.methodCall_KW (pl := pl) (thn (he.run pins s σ H _ I h) fun u s1 ⟨x, H1, I1, rx, a, dx, fs, ex, ea, l, q⟩ => ?_) ht
  subst ex
  obtain rfl : u = Value.ref a := rx
  refine getmeth_ok I1 ea hc hm l ?_
  exact PySem.W.callWith_K0 (first := [.ref a]) I1.kIn hm.kp (run_fnS (us := [.ref a]) (vs := [.ref a]) F (hr.mono hk) b (hx σ) I1 (.cons rfl .nil) q)
/-- isinstance of a caught error that has no attributes -/
def rIsN (K : PySem.W.Frag) (D a : Addr) (cls : Value) (d : Option Addr) : List V → Hp → VK → Prop := fun xs H Q => ∃ (c : V) (cv : Value) (b : Bool), xs = [.ref a, c] ∧ ClsV c cv ∧ cls = .ref D ∧ d = none ∧ PySem.W.kitOne K (.ref D) cv = some b ∧ Q (.bl b) H
theorem call_isN {X : Cx} {a D : Addr} {cls : Value} {d : Option Addr} {oe : Obj} {pn : List (Addr × Obj)} (C : ExcC X.K D) (hz : Zc cls d oe) (hf : ∃ vs, oe.data = .fields vs) : CallR (X.suite a ((a, oe) :: pn)) (.builtin "isinstance") (rIsN X.K D a cls d) := by
  intro pins s σ H xs us Q I r h
  obtain ⟨c, cv, b, rfl, hcv, rfl, rfl, e, q⟩ := h
  exact call_isE C hz hf pins s σ H _ us Q I r ⟨c, cv, b, rfl, fun u h => hcv.eq h, e, q⟩
end
end UG
/-! Decimal texts in blocks. -/
namespace Dec
open PySem PySem.Spec PyProof.Rows L2 U PySem.NumText PySem.W.KIN
/-- the signs of a number -/
def ds (n : Nat) : List Nat := (Nat.toDigits 10 n).map Char.toNat
/-- its last k signs, filled with zeros -/
def pad : Nat → Nat → List Nat
  | 0, _ => []
  | k + 1, b => pad k (b / 10) ++ [48 + b % 10]
theorem dig : ∀ d : Nat, d < 10 → (Nat.digitChar d).toNat = 48 + d := by decide
theorem ds_small {d : Nat} (h : d < 10) : ds d = [48 + d] := by
  unfold ds; rw [Nat.toDigits_of_lt_base h, List.map_cons, List.map_nil, dig d h]
theorem ds_step {n d : Nat} (hn : 0 < n) (hd : d < 10) : ds (10 * n + d) = ds n ++ [48 + d] := by
  have t := Nat.toDigits_append_toDigits (b := 10) (by decide) hn hd
  rw [← ds_small hd]
  unfold ds
  rw [← t, List.map_append]
theorem ds_pad {a : Nat} (ha : 0 < a) : ∀ (k b : Nat), b < 10 ^ k → ds (a * 10 ^ k + b) = ds a ++ pad k b
  | 0, b, h => by
    have : b = 0 := by simpa using h
    subst this
    rw [Nat.pow_zero, Nat.mul_one, Nat.add_zero, pad, List.append_nil]
  | k + 1, b, h => by
    have h1 : b / 10 < 10 ^ k := by rw [Nat.div_lt_iff_lt_mul (by decide)]; rw [Nat.pow_succ] at h; exact h
    have h2 : b % 10 < 10 := Nat.mod_lt _ (by decide)
    have e : a * 10 ^ (k + 1) + b = 10 * (a * 10 ^ k + b / 10) + b % 10 := by
      rw [Nat.pow_succ, Nat.mul_add, ← Nat.mul_assoc]
      have := Nat.div_add_mod b 10
      have c : 10 * (a * 10 ^ k) = a * 10 ^ k * 10 := Nat.mul_comm _ _
      omega
    have pos : 0 < a * 10 ^ k := Nat.mul_pos ha (Nat.pow_pos (by decide))
    rw [e, ds_step (by omega) h2, ds_pad ha k _ h1, pad, List.append_assoc]
theorem pad_zero : ∀ k, pad k 0 = List.replicate k 48
  | 0 => rfl
  | k + 1 => by rw [pad, Nat.zero_div, pad_zero k, Nat.zero_mod, List.replicate_succ']
theorem pad_eq : ∀ (k b : Nat), 1 ≤ k → b < 10 ^ k → (ds b).length ≤ k ∧ pad k b = List.replicate (k - (ds b).length) 48 ++ ds b
  | 0, _, h, _ => by omega
  | k + 1, b, _, h => by
    by_cases hb : b < 10
    · rw [ds_small hb, pad, Nat.div_eq_of_lt hb, pad_zero, Nat.mod_eq_of_lt hb]
      exact ⟨by simp, rfl⟩
    · have k1 : 1 ≤ k := by
        cases k with
        | zero => rw [Nat.pow_succ, Nat.pow_zero] at h; omega
        | succ k => omega
      have h1 : b / 10 < 10 ^ k := by rw [Nat.div_lt_iff_lt_mul (by decide)]; rw [Nat.pow_succ] at h; exact h
      have e : ds b = ds (b / 10) ++ [48 + b % 10] := by
        have z := ds_step (n := b / 10) (d := b % 10) (by omega) (Nat.mod_lt _ (by decide))
        rw [Nat.div_add_mod] at z
        exact z
      obtain ⟨l1, l2⟩ := pad_eq k (b / 10) k1 h1
      rw [pad, l2, e, List.length_append, List.length_singleton, List.append_assoc]
      refine ⟨by omega, ?_⟩
      rw [show k + 1 - ((ds (b / 10)).length + 1) = k - (ds (b / 10)).length by omega]
theorem tl_num (n : Nat) : TL.tl (num (n : Int)) = ds n := signs_num n
theorem pad_len : ∀ k b, (pad k b).length = k
  | 0, _ => rfl
  | k + 1, b => by rw [pad, List.length_append, pad_len k]; rfl
theorem pad_digits : ∀ k b, AllDigits (pad k b)
  | 0, _ => fun c h => by cases h
  | k + 1, b => fun c h => by
    rw [pad, List.mem_append, List.mem_singleton] at h
    rcases h with h | h
    · exact pad_digits k _ c h
    · have := Nat.mod_lt b (show 0 < 10 by decide); omega
theorem ds_ne (n : Nat) : ds n ≠ [] := by
  unfold ds
  intro e
  have := List.map_eq_nil_iff.mp e
  have l := PyProof.Rows.tDigits_len_ge 10 n
  rw [this] at l
  simp at l
theorem ds_digits (n : Nat) : AllDigits (ds n) := by
  induction n using Nat.strongRecOn with
  | _ n ih =>
    by_cases h : n < 10
    · rw [ds_small h]; intro c hc; rw [List.mem_singleton] at hc; omega
    · have z := ds_step (n := n / 10) (d := n % 10) (by omega) (Nat.mod_lt _ (by decide))
      rw [Nat.div_add_mod] at z
      rw [z]
      intro c hc
      rw [List.mem_append, List.mem_singleton] at hc
      rcases hc with hc | hc
      · exact ih (n / 10) (by omega) c hc
      · have := Nat.mod_lt n (show 0 < 10 by decide); omega
theorem val_ds (n : Nat) : digitsVal (ds n) = n := val_back n
theorem val_app (xs ys : List Nat) : digitsVal (xs ++ ys) = digitsVal xs * 10 ^ ys.length + digitsVal ys := by
  have g : ∀ (n : Nat) (ys : List Nat), ys.length = n → digitsVal (xs ++ ys) = digitsVal xs * 10 ^ ys.length + digitsVal ys := fun n => by
    induction n with
    | zero =>
      intro ys h
      obtain rfl := List.length_eq_zero_iff.mp h
      simp [digitsVal]
    | succ n ih =>
      intro ys h
      have ne : ys ≠ [] := fun e => by subst e; cases h
      have e := List.dropLast_concat_getLast ne
      rw [← e]
      have l : ys.dropLast.length = n := by rw [List.length_dropLast, h]; rfl
      rw [← List.append_assoc, digitsVal_snoc, ih _ l, digitsVal_snoc, List.length_append, List.length_singleton, Nat.pow_succ, Nat.add_mul, Nat.mul_assoc]
      omega
  exact g _ ys rfl
theorem ds_head {n : Nat} (h : 0 < n) : ∃ c cs, ds n = c :: cs ∧ 49 ≤ c := by
  induction n using Nat.strongRecOn with
  | _ n ih =>
    by_cases q : n < 10
    · rw [ds_small q]; exact ⟨_, _, rfl, by omega⟩
    · have z := ds_step (n := n / 10) (d := n % 10) (by omega) (Nat.mod_lt _ (by decide))
      rw [Nat.div_add_mod] at z
      obtain ⟨c, cs, e, l⟩ := ih (n / 10) (by omega) (by omega)
      rw [z, e]
      exact ⟨c, _, rfl, l⟩
end Dec
namespace Q
open PySem L2 U UX
/-! the walk by the head of the question -/
local macro_rules | `(tactic| walk_at "at") => `(tactic| first | with_reducible exact V.At.here | ((with_reducible apply V.At.there); walk_at "at"))
local macro_rules | `(tactic| walk_at "up") => `(tactic| first | with_reducible exact V.Up.here | ((with_reducible apply V.Up.there); walk_at "up"))
local macro_rules | `(tactic| walk_at "get") => `(tactic| first
  | ((with_reducible refine' V.Hw.get ?w ?h); (case w => assumption); (case h => walk_at "at"))
  | assumption
  | ((with_reducible refine' V.Hw.fro ?w ?h); (case w => assumption); (case h => assumption)))
local macro_rules | `(tactic| walk_at "sql") => `(tactic| first
  | ((with_reducible refine' SqL.of ?g); case g => walk_at "get")
  | assumption
  | ((with_reducible refine' Same.seq (V.Hw.fr ?w) ?h); (case w => assumption); (case h => assumption)))
local macro_rules | `(tactic| walk_at "sqt") => `(tactic| first
  | ((with_reducible refine' SqT.of ?g); case g => walk_at "get")
  | assumption
  | ((with_reducible refine' V.seqT (V.Hw.fr ?w) ?h); (case w => assumption); (case h => assumption)))
local macro_rules | `(tactic| walk_at "sa") => `(tactic| first | exact V.SetAt.z | (apply V.SetAt.s; walk_at "sa"))
local macro_rules | `(tactic| walk_at "sub") => `(tactic| first | with_reducible exact V.Sub.nil | ((with_reducible refine' V.Sub.cons ?_); walk_at "sub") | ((with_reducible refine' V.Sub.skip ?_); walk_at "sub"))
local macro_rules | `(tactic| walk_at "wi") => `(tactic| repeat (first | exact V.Wi.nil | apply V.Wi.cons))
local macro_rules | `(tactic| walk_at "sz") => `(tactic| first | exact Nat.le_of_ble_eq_true rfl | assumption | (refine' U.sz ?_ (m := 1000) (Nat.le_refl _); (first | omega | (simp only [List.length_map, List.length_take, List.length_append, List.length_range, List.length_cons, List.length_nil]; omega))))
local macro_rules | `(tactic| walk_at "szl") => `(tactic| first | assumption | (refine' small1000 ?_; (first | omega | (simp only [List.length_map, List.length_take, List.length_append, List.length_range, List.length_cons, List.length_nil]; omega))))
local macro_rules | `(tactic| walk_at "num") => `(tactic| first | assumption | omega | (show (0 : Int) < _; omega) | exact ⟨by omega, by omega⟩ | exact .inl ⟨by omega, by omega⟩ | exact .inr ⟨by omega, by omega⟩ | exact ⟨by decide, by decide⟩ | exact .inr ⟨by decide, by decide⟩ | decide)
local macro_rules | `(tactic| walk_at "atI") => `(tactic| first | assumption | exact at_of (Int.zero_add _) (by assumption) | exact at_of rfl (by assumption) | rfl)
local macro_rules | `(tactic| walk_at "w") => `(tactic| first
  | ((with_reducible refine' V.w_var ?h ?_); case h => rfl)
  | with_reducible refine' V.w_op ?_
  | with_reducible refine' V.w_c ?_
  | with_reducible refine' V.w_seq ?_
  | with_reducible refine' V.w_asg ?_
  | ((with_reducible refine' V.w_name ?h ?_); case h => walk_at "sa")
  | ((with_reducible show Ends.nx _ _ _); dsimp only)
  | ((with_reducible show Ends.rt _ _ _); dsimp only)
  | with_reducible refine' V.w_ri0 ?_
  | ((with_reducible refine' V.w_ri ?h ?_); case h => walk_at "num")
  | with_reducible refine' V.w_ru ?_
  | with_reducible refine' V.w_bl ?_
  | with_reducible refine' V.w_test ?_
  | with_reducible refine' V.w_b ?_
  | with_reducible refine' V.w_eqI ?_
  | with_reducible refine' V.w_eqS ?_
  | with_reducible refine' V.w_neI ?_
  | with_reducible refine' V.w_neS ?_
  | with_reducible refine' V.w_ifS ?_
  | with_reducible refine' V.w_and ?_
  | with_reducible refine' V.w_or ?_
  | with_reducible refine' V.w_not ?_
  | with_reducible refine' V.w_andV ?_
  | with_reducible refine' V.w_orV ?_
  | with_reducible refine' V.w_notV ?_
  | with_reducible refine' V.w_if ?_
  | with_reducible refine' V.w_isN ?_
  | with_reducible refine' V.w_yes ?_
  | with_reducible refine' V.w_isn ?_
  | with_reducible refine' V.w_next ?_
  | with_reducible refine' V.w_drop ?_
  | with_reducible refine' V.w_ret ?_
  | with_reducible refine' V.w_retN ?_
  | with_reducible refine' V.w_un ?_
  | with_reducible refine' V.w_nil ?_
  | with_reducible refine' V.w_cons ?_
  | with_reducible refine' V.w_call ?_
  | with_reducible refine' V.w_cf ?_
  | with_reducible refine' V.w_cb ?_
  | with_reducible refine' V.w_meth ?_
  | with_reducible refine' V.w_mk ?_
  | with_reducible refine' V.w_mkK ?_
  | ((with_reducible refine' V.w_meth2 ?h ?n ?_); (case h => walk_at "get"); (case n => first | assumption | rfl))
  | with_reducible refine' V.w_fld ?_
  | ((with_reducible refine' V.w_fld2 ?h ?c ?n ?l ?_); (case h => walk_at "get"); (case c => assumption); (case n => assumption); (case l => first | assumption | rfl))
  | with_reducible refine' V.w_bm ?_
  | with_reducible refine' V.w_bm0 ?_
  | with_reducible refine' V.w_bmS ?_
  | with_reducible refine' V.w_bm0S ?_
  | ((with_reducible refine' V.w_bmL ?h ?_); case h => walk_at "sql")
  | ((with_reducible refine' V.w_bm0L ?h ?_); case h => walk_at "sql")
  | ((with_reducible refine' V.w_bmD ?h ?_); case h => walk_at "get")
  | with_reducible refine' V.w_tup ?_
  | with_reducible refine' V.w_lst ?_
  | ((with_reducible refine' V.w_tup2 ?w ?l ?_); (case w => assumption); (case l => walk_at "sz"))
  | ((with_reducible refine' V.w_lst2 ?w ?l ?_); (case w => assumption); (case l => walk_at "sz"))
  | ((with_reducible refine' V.w_ixL ?h ?l ?_); (case h => walk_at "sql"); (case l => walk_at "atI"))
  | ((with_reducible refine' V.w_ixT ?h ?l ?_); (case h => walk_at "sqt"); (case l => walk_at "atI"))
  | ((with_reducible refine' V.w_ixLs ?h ?l ?_); (case h => walk_at "sql"); (case l => walk_at "atI"))
  | ((with_reducible refine' V.w_ixTs ?h ?l ?_); (case h => walk_at "sqt"); (case l => walk_at "atI"))
  | ((with_reducible refine' V.w_append ?w ?h ?u ?l ?_); (case w => assumption); (case h => walk_at "at"); (case u => walk_at "up"); (case l => walk_at "szl"))
  | with_reducible refine' V.w_gsub ?_
  | ((with_reducible refine' V.w_gtup ?h ?l ?_); (case h => walk_at "sqt"); (case l => rfl))
  | with_reducible refine' V.w_gcons ?_
  | with_reducible refine' V.w_gnil ?_
  | ((with_reducible refine' V.w_setL ?w ?h ?u ?l ?_); (case w => assumption); (case h => walk_at "at"); (case u => walk_at "up"); (case l => assumption))
  | with_reducible refine' V.w_sfld ?_
  | ((with_reducible refine' V.w_sfld2 ?w ?h ?c ?n ?l ?e ?u ?_); (case w => assumption); (case h => walk_at "at"); (case c => assumption); (case n => assumption); (case l => first | omega | decide | ((repeat with_reducible apply V.putLt); first | decide | omega)); (case e => rfl); (case u => walk_at "up"))
  | with_reducible refine' V.w_dget ?_
  | with_reducible refine' V.w_din ?_
  | with_reducible refine' V.w_dnin ?_
  | ((with_reducible refine' V.w_dgetS ?h ?l ?_); (case h => walk_at "get"); (case l => assumption))
  | ((with_reducible refine' V.w_dnin1 ?h ?l ?_); (case h => walk_at "get"); (case l => assumption))
  | ((with_reducible refine' V.w_dnin0 ?h ?l ?_); (case h => walk_at "get"); (case l => assumption))
  | ((with_reducible refine' V.w_din1 ?h ?l ?_); (case h => walk_at "get"); (case l => assumption))
  | ((with_reducible refine' V.w_din0 ?h ?l ?_); (case h => walk_at "get"); (case l => assumption))
  | with_reducible refine' V.w_dput ?_
  | with_reducible refine' V.w_fmt ?_
  | ((with_reducible refine' V.w_fmtS ?l ?_); case l => first | assumption | (refine Nat.le_trans ?_ (show 1000000 ≤ sizeLine by decide); (try simp only [U.len_app]); omega))
  | ((with_reducible refine' V.w_slL ?w ?h ?_); (case w => assumption); (case h => walk_at "sql"))
  | ((with_reducible refine' V.w_listL ?w ?h ?_); (case w => assumption); (case h => walk_at "sql"))
  | with_reducible refine' V.w_sl ?_
  | with_reducible refine' V.w_nopart ?_
  | with_reducible refine' V.w_part ?_
  | with_reducible refine' V.w_part2 ?_
  | with_reducible refine' V.w_for ?_
  | with_reducible refine' V.w_lc ?_
  | with_reducible refine' V.w_dc ?_
  | with_reducible refine' V.w_il ?_
  | ((with_reducible refine' V.w_il2 ?h ?_); case h => walk_at "sql")
  | with_reducible refine' V.w_ir ?_
  | ((with_reducible refine' V.w_ir1 ?e ?b ?_); (case e => rfl); (case b => omega))
  | with_reducible refine' V.w_int1 ?_
  | with_reducible refine' V.w_bool1 ?_
  | with_reducible refine' V.w_int1b ?_
  | ((with_reducible refine' V.w_lenL ?h ?_); case h => walk_at "sql")
  | ((with_reducible refine' V.w_lenT ?h ?_); case h => walk_at "sqt")
  | with_reducible refine' V.iTT ?_
  | with_reducible refine' V.iTF ?_
  | with_reducible refine' V.iNT ?_
  | with_reducible refine' V.iNF ?_
  | ((with_reducible refine' U.ifY ?h ?_); case h => first | assumption | rfl | omega)
  | ((with_reducible refine' U.ifN ?h ?_); case h => first | assumption | omega | (intro z; cases z; done) | decide)
  | ((with_reducible refine' U.nifY ?h ?_); case h => first | assumption | rfl | omega)
  | ((with_reducible refine' U.nifN ?h ?_); case h => first | assumption | omega | (intro z; cases z; done) | decide)
  | ((with_reducible refine' V.w_addS ?l ?_); (case l => first | assumption | (refine Nat.le_trans ?_ (show 100000 ≤ sizeLine by decide); (try simp only [U.len_app]); omega)))
  | ((with_reducible refine' V.w_cat ?w ?h ?h2 ?l ?_); (case w => assumption); (case h => walk_at "get"); (case h2 => walk_at "get"); (case l => walk_at "sz"))
  | with_reducible refine' V.w_js0 ?_
  | with_reducible refine' V.w_js1 ?_
  | ((with_reducible refine' V.w_js2 ?l ?_); (case l => first | assumption | (refine Nat.le_trans ?_ (show 1000000 ≤ sizeLine by decide); (try simp only [U.len_app]); omega)))
  | with_reducible refine' V.w_m1 ?_
  | with_reducible refine' V.w_m1s ?_
  | ((with_reducible refine' V.w_ixS ?l ?h ?_); (case l => first | decide +kernel | assumption); (case h => walk_at "atI"))
  | with_reducible refine' V.w_break ?_
  | with_reducible refine' V.w_cont ?_
  | ((with_reducible show Ends.bk _ _ _); dsimp only)
  | ((with_reducible show Ends.ct _ _ _); dsimp only))
/-! ### the law's draws -/
def top (i : Nat) : Stmt := PySem.Challenge.pw_usescale_k05_tallies.main.body.getD i (.Pass ⟨0, 0, 0, 0⟩)

/-- the state of the draws: a list at S, the cells at L -/
def StA (H : Hp) (S L : Addr) : Prop := S ≠ L ∧ ∃ (ns : List Int) (a b c : Int), ns.length ≤ 63 ∧ H S = some (.lst [.ref L, .int a, .int b, .int c]) ∧ H L = some (.lst (ns.map V.int))
/-- what is not of the state stands -/
def Keeps (S L : Addr) (H H' : Hp) : Prop := ∀ b o, H b = some o → b ≠ S → b ≠ L → H' b = some o
theorem Keeps.trans {S L : Addr} {H H1 H2 : Hp} (a : Keeps S L H H1) (b : Keeps S L H1 H2) : Keeps S L H H2 := fun c o h n1 n2 => b c o (a c o h n1 n2) n1 n2
def spDraws (K : PySem.W.Frag) : Sp := fun vs H Q _ => ∃ (a : Addr) (ns : List Int), vs = [.ref a] ∧ SqL K H a (ns.map V.int) ∧ ns.length ≤ 63 ∧
  ∀ S L H', H S = none → H L = none → StA H' S L → Same H H' → Q (.ref S) H'
def spDraw : Sp := fun vs H Q _ => ∃ (S L : Addr) (m : Int), vs = [.ref S, .int m] ∧ StA H S L ∧ m.natAbs < 1606938044258990275541962092341162602522202993782792835301376 ∧
  ∀ r H', 0 ≤ r → (0 < m → r < m) → StA H' S L → Keeps S L H H' → Q (.int r) H'
structure TxL (K : PySem.W.Frag) (mg : Str → Option Value) : Prop where
  int : mg "int" = none
  len : mg "len" = none
  range : mg "range" = none
  isinstance : mg "isinstance" = none
  bool : mg "bool" = none
  str : mg "str" = none
  tuple : mg "tuple" = none
  list : mg "list" = none

section
variable {P : Program} {w : World} {K : PySem.W.Frag} {mg : Str → Option Value} {base : Heap}
theorem sc__law_draws : FnScope ["_law_script", "_law_seed", "_law_cell"] ["_law_script"] (defScope (top 24)) := ⟨rfl, rfl, rfl, by decide +kernel, rfl, by decide +kernel, by decide +kernel⟩
theorem ok_draws {f : Addr} {fd : FuncData} (F : Fun K "_law_draws" "_law_draws" (top 24) f fd) (T : TxL K mg) : FnOk P w K mg base CX0 1 f fd ["_law_script"] (spDraws K) := by
  refine F.ok sc__law_draws (fun vs H Q E h => ?_) (fun cdv A outer s H vs Q E hr h => ?_)
  · obtain ⟨a, ns, rfl, _⟩ := h
    rfl
  · obtain ⟨a, ns, rfl, hS, hlen, k⟩ := h
    refine ⟨_, (pss_cons (ps_set (i := 1) sc__law_draws.nd rfl (Or.inl rfl) pe_int)
      (pss_cons (ps_for PassesOwn.never rfl (pi_list (pv 0)) (pg_name (i := 2) sc__law_draws.nd rfl (Or.inl rfl)) (pss_one (ps_set (i := 1) sc__law_draws.nd rfl (Or.inl rfl) (pe_op op_mod (pe_callTy call_int1 (by rfl) T.int (by decide +kernel) (pa_cons (pe_op op_add (pe_op op_add (pe_op op_mul (pv 1) pe_int) (pe_op op_mul (pv 2) pe_int)) pe_int) pa_nil)) pe_int))))
      (pss_one (ps_ret (pe_lst (pa_cons (pe_lc (own := [("_law_cell", 2)]) (g := (gName 2)) (by rfl) sc__law_draws.nd (pi_list (pv 0)) (blkOk_by (own := [("_law_cell", 2)]) (N := ["_law_script", "_law_seed", "_law_cell"]) (sc := defScope (top 24)) (by decide +kernel)) (fun _ _ _ _ _ => (pg_name (i := 2) sc__law_draws.nd rfl (Or.inl rfl))) (fun _ _ _ _ _ => pts_nil) (fun _ _ _ _ _ => (pe_callTy call_int1 (by rfl) T.int (by decide +kernel) (pa_cons (pv 2) pa_nil)))) (pa_cons pe_int (pa_cons (pv 1) (pa_cons pe_int pa_nil))))))))), ?_⟩
    refine ⟨_, rfl, a, rfl, ⟨_, hS⟩, for_list (K := K) (a := a) (xs := ns.map V.int) (fun i σ H2 => ∃ (z : Int) (v : Option V), σ = [some (.ref a), some (.int z), v] ∧ H2 = H)
      ⟨7, none, rfl, rfl⟩ (fun i σ H2 _ ⟨_, _, _, e⟩ => by rw [e]; exact hS) ?_ ?_⟩
    · rintro i y σ H2 hi ⟨z, v, rfl, rfl⟩
      obtain ⟨n, rfl, hn⟩ := at_map hi
      refine ⟨_, rfl, _, _, rfl, rfl, .inr ⟨by decide, by decide⟩, _, rfl, _, _, rfl, rfl, .inr ⟨by decide, by decide⟩, _, _, rfl, rfl, _, _, rfl, rfl, .inl ⟨_, rfl, ?_⟩⟩
      refine ⟨_, _, rfl, rfl, (by show (0 : Int) < 998244353; decide), ?_⟩
      exact ⟨_, _, rfl, rfl⟩
    · rintro σ H2 ⟨z, v, rfl, rfl⟩
      refine ⟨_, rfl, a, rfl, ⟨_, hS⟩, fun D hD => lc_list (K := K) (a := a) (xs := ns.map V.int) (fun i H3 => H3 = upd H2 D (.lst ((ns.take i).map V.int))) ?_ ?_ ?_ ?_⟩
      · simp
      · rintro i H3 _ rfl
        exact (sameNew hD).seq hS
      · rintro i y H3 hi rfl
        obtain ⟨n, rfl, hn⟩ := at_map hi
        refine ⟨rfl, ?_⟩
        refine tYesI (iteT ?_)
        refine ⟨_, rfl, .inl ⟨_, rfl, _, upd_same, ?_, ?_⟩⟩
        · rw [List.length_map, List.length_take]
          exact small1000 (by omega)
        · rw [upd_upd, take_snoc hn, List.map_append]
          rfl
      · rintro H3 rfl
        refine ⟨_, rfl, (by show 4 ≤ sizeLine; decide), fun S hS' => ?_⟩
        have hDS : D ≠ S := ne_of_none upd_same hS'
        refine k S D _ ((sameNew hD).free hS') hD ⟨hDS.symm, ns, 0, z, 0, hlen, upd_same, ?_⟩ ((sameNew hD).trans (sameNew hS'))
        rw [upd_ne hDS, upd_same]
        simp [List.take_of_length_le]
theorem sc__law_draw : FnScope ["_law_state", "_law_many", "_law_cell", "_law_digit", "_law_value"] ["_law_state", "_law_many"] (defScope (top 25)) := ⟨rfl, rfl, rfl, by decide +kernel, rfl, by decide +kernel, by decide +kernel⟩
theorem ok_draw {f : Addr} {fd : FuncData} (F : Fun K "_law_draw" "_law_draw" (top 25) f fd) (T : TxL K mg) : FnOk P w K mg base CX0 1 f fd ["_law_state", "_law_many"] spDraw := by
  refine F.ok sc__law_draw (fun vs H Q E h => ?_) (fun cdv A outer s H vs Q E hr h => ?_)
  · obtain ⟨S, L, m, rfl, _⟩ := h
    rfl
  · obtain ⟨S, L, m, rfl, hst, hm, k⟩ := h
    refine ⟨_, (pss_cons (ps_if (pt_cmpR op_lt (pv 1) pe_int (nomark _)) (pss_one (ps_ret pe_int)) pss_nil)
      (pss_cons (ps_while PassesOwn.never (PW.pt (pw_and (pt_cmpR op_lt (pe_ix ix_list (pv 0) pe_int (fun _ _ => rfl)) pe_int (nomark _)) (pw_and1 (pt_cmpR op_gt (pe_callB call_len_seq (by rfl) T.len (by decide +kernel) (pa_cons (pe_ix ix_list (pv 0) pe_int (fun _ _ => rfl)) pa_nil)) pe_int (nomark _))))) (pss_cons (ps_set (i := 2) sc__law_draw.nd rfl (Or.inl rfl) (pe_bm PySem.F.plainAttrs_list PySem.F.slot_list_pop PySem.F.type_list_pop mt_popAt (pe_ix ix_list (pv 0) pe_int (fun _ _ => rfl)) (pa_cons pe_int pa_nil)))
      (pss_one (ps_asg (pe_ifExp (pt_cmpR op_gt (pv 2) pe_int (nomark _)) (pv 2) (pe_un un_neg (pv 2))) (pg_sub (pv 0) pe_int set_list)))))
      (pss_cons (ps_if (pt_cmpR op_gt (pe_ix ix_list (pv 0) pe_int (fun _ _ => rfl)) pe_int (nomark _)) (pss_cons (ps_set (i := 3) sc__law_draw.nd rfl (Or.inl rfl) (pe_op op_mod (pe_callTy call_int1 (by rfl) T.int (by decide +kernel) (pa_cons (pe_ix ix_list (pv 0) pe_int (fun _ _ => rfl)) pa_nil)) (pv 1)))
      (pss_cons (ps_asg (pe_op op_fdivW (pe_ix ix_list (pv 0) pe_int (fun _ _ => rfl)) (pv 1)) (pg_sub (pv 0) pe_int set_list))
      (pss_one (ps_ret (pv 3))))) pss_nil)
      (pss_cons (ps_augS (pv 0) pe_int get_list pe_int ip_add set_list)
      (pss_cons (ps_set (i := 4) sc__law_draw.nd rfl (Or.inl rfl) (pe_op op_mod (pe_callTy call_int1 (by rfl) T.int (by decide +kernel) (pa_cons (pe_op op_add (pe_ix ix_list (pv 0) pe_int (fun _ _ => rfl)) (pe_op op_mul (pe_ix ix_list (pv 0) pe_int (fun _ _ => rfl)) pe_int)) pa_nil)) pe_int))
      (pss_cons (ps_set (i := 4) sc__law_draw.nd rfl (Or.inl rfl) (pe_op op_mod (pe_callTy call_int1 (by rfl) T.int (by decide +kernel) (pa_cons (pe_op op_mul (pv 4) (pv 4)) pa_nil)) pe_int))
      (pss_cons (ps_set (i := 4) sc__law_draw.nd rfl (Or.inl rfl) (pe_op op_mod (pe_callTy call_int1 (by rfl) T.int (by decide +kernel) (pa_cons (pe_op op_add (pe_op op_mul (pv 4) pe_int) (pe_op op_mul (pe_ix ix_list (pv 0) pe_int (fun _ _ => rfl)) pe_int)) pa_nil)) pe_int))
      (pss_one (ps_ret (pe_op op_mod (pe_callTy call_int1 (by rfl) T.int (by decide +kernel) (pa_cons (pe_op op_fdiv (pv 4) pe_int) pa_nil)) (pv 1))))))))))), ?_⟩
    obtain ⟨nSL, ns, a, b, c, hl, h1, h2⟩ := hst
    refine ⟨_, rfl, _, _, rfl, rfl, _, rfl, ?_⟩
    refine ifD (fun hm2 => ?_) (fun hm2 => ?_)
    · exact k 0 H (Int.le_refl 0) id ⟨nSL, ns, a, b, c, hl, h1, h2⟩ (fun _ _ e _ _ => e)
    refine whileX (fun M σ H2 => ∃ (v : Option V) (ns : List Int) (a : Int), M = ns.length ∧ σ = [some (.ref S), some (.int m), v, none, none] ∧ ns.length ≤ 63 ∧ H2 S = some (.lst [.ref L, .int a, .int b, .int c]) ∧ H2 L = some (.lst (ns.map V.int)) ∧ Keeps S L H H2)
      (fun σ H2 => ∃ (v : Option V) (ns : List Int) (a : Int), σ = [some (.ref S), some (.int m), v, none, none] ∧ ns.length ≤ 63 ∧ H2 S = some (.lst [.ref L, .int a, .int b, .int c]) ∧ H2 L = some (.lst (ns.map V.int)) ∧ Keeps S L H H2)
      _ ⟨none, ns, a, rfl, rfl, hl, h1, h2, fun _ _ e _ _ => e⟩ ?_ ?_
    · rintro σ H2 ⟨v, ns, a, rfl, hl, h1, h2, kp⟩
      refine ⟨_, rfl, S, _, _, _, rfl, rfl, SqL.of h1, rfl, _, _, rfl, rfl, _, rfl, ?_⟩
      refine ifD (fun ha => ?_) (fun ha => ?_)
      · refine ⟨_, rfl, S, _, _, _, rfl, rfl, SqL.of h1, rfl, .inl ⟨_, rfl, ?_⟩⟩
        refine ⟨_, rfl, _, _, rfl, rfl, (by show (0 : Int) < m; omega), ?_⟩
        refine ⟨_, rfl, S, _, _, _, rfl, rfl, SqL.of h1, rfl, ?_⟩
        refine ⟨_, rfl, _, _, rfl, rfl, wide_div (b := 200) (by omega) hm (by decide) (by decide), ?_⟩
        refine ⟨_, rfl, S, _, _, _, rfl, rfl, h1, rfl, ?_⟩
        refine ⟨_, rfl, ?_⟩
        refine k _ _ (Int.emod_nonneg _ (by omega)) (fun h0 => Int.emod_lt_of_pos _ h0) ⟨nSL, ns, _, b, c, hl, upd_same, (by rw [upd_ne nSL.symm]; exact h2)⟩ ?_
        intro d o e n1 n2
        rw [upd_ne n1]
        exact kp d o e n1 n2
      · refine ⟨_, rfl, S, _, _, _, rfl, rfl, SqL.of h1, by decide, rfl, ?_⟩
        refine ⟨_, _, rfl, rfl, ?_⟩
        refine ⟨S, _, _, _, rfl, rfl, h1, rfl, ?_⟩
        have g1 : ∀ o, (upd H2 S o) L = some (.lst (ns.map V.int)) := fun o => by rw [upd_ne nSL.symm]; exact h2
        refine ⟨_, rfl, S, _, _, _, rfl, rfl, SqL.of upd_same, rfl, ?_⟩
        refine ⟨_, rfl, S, _, _, _, rfl, rfl, SqL.of upd_same, rfl, ?_⟩
        refine ⟨_, _, rfl, rfl, .inr ⟨by decide, by decide⟩, _, _, rfl, rfl, .inl ⟨_, rfl, ?_⟩⟩
        refine ⟨_, _, rfl, rfl, (by show (0 : Int) < 998244353; decide), ?_⟩
        have e1 : 0 ≤ (b + (c + 1) * 7919) % 998244353 := Int.emod_nonneg _ (by decide)
        have e2 : (b + (c + 1) * 7919) % 998244353 < 998244353 := Int.emod_lt_of_pos _ (by decide)
        refine ⟨_, rfl, _, rfl, _, _, rfl, rfl, .inl ⟨by show -(2 ^ 64) < (b + (c + 1) * 7919) % 998244353; omega, by show (b + (c + 1) * 7919) % 998244353 < 2 ^ 64; omega⟩, .inl ⟨_, rfl, ?_⟩⟩
        refine ⟨_, _, rfl, rfl, (by show (0 : Int) < 1000000007; decide), ?_⟩
        refine ⟨_, rfl, _, _, rfl, rfl, .inr ⟨by decide, by decide⟩, ?_⟩
        refine ⟨_, rfl, S, _, _, _, rfl, rfl, SqL.of upd_same, rfl, _, _, rfl, rfl, .inr ⟨by decide, by decide⟩, _, _, rfl, rfl, .inl ⟨_, rfl, ?_⟩⟩
        refine ⟨_, _, rfl, rfl, (by show (0 : Int) < 2147483647; decide), ?_⟩
        refine ⟨_, rfl, _, _, rfl, rfl, ⟨by decide, by decide⟩, .inl ⟨_, rfl, ?_⟩⟩
        refine ⟨_, rfl, _, _, rfl, rfl, (by show (0 : Int) < m; omega), ?_⟩
        refine k _ _ (Int.emod_nonneg _ (by omega)) (fun h0 => Int.emod_lt_of_pos _ h0) ⟨nSL, ns, a, b, _, hl, upd_same, g1 _⟩ ?_
        intro d o e n1 n2
        rw [upd_ne n1]
        exact kp d o e n1 n2
    · intro nx hnx M σ H2
      rintro ⟨v, ns, a, rfl, rfl, hl, h1, h2, kp⟩
      refine ⟨_, rfl, S, _, _, _, rfl, rfl, SqL.of h1, rfl, _, _, rfl, rfl, _, rfl, ?_⟩
      refine ifD (fun ha => ?_) (fun ha => ?_)
      · refine ⟨_, rfl, S, _, _, _, rfl, rfl, SqL.of h1, rfl, ?_⟩
        refine ⟨_, _, rfl, .inl (SqL.of h2), _, _, rfl, rfl, _, rfl, ?_⟩
        refine ifD (fun hn => ?_) (fun hn => ?_)
        · refine ⟨_, fun _ _ h => h, ?_⟩
          refine ⟨_, rfl, S, _, _, _, rfl, rfl, SqL.of h1, rfl, .inl ⟨rfl, _, SqL.of h2⟩, ?_⟩
          obtain ⟨n, ns, rfl⟩ : ∃ n ns', ns = n :: ns' := by
            cases ns with
            | nil => exact absurd hn (by decide)
            | cons n ns' => exact ⟨n, ns', rfl⟩
          have hl' : ns.length + 1 ≤ 63 := hl
          refine ⟨L, _, _, 0, _, rfl, rfl, h2, by decide, by decide, ?_, rfl, ?_⟩
          · exact seqIndex_of (k := 0) (n := ((n :: ns).map V.int).length) (by decide) (by rw [List.length_map, List.length_cons]; omega)
          have g1 : ∀ o, (upd H2 L o) S = some (.lst [.ref L, .int a, .int b, .int c]) := fun o => by rw [upd_ne nSL]; exact h1
          have fin : ∀ z : Int, ∃ m', m' < (n :: ns).length ∧ ∃ (v : Option V) (ns_1 : List Int) (a : Int), m' = ns_1.length ∧ [some (V.ref S), some (V.int m), some (V.int n), none, none] = [some (.ref S), some (.int m), v, none, none] ∧ ns_1.length ≤ 63 ∧
              (upd (upd H2 L (.lst (ns.map V.int))) S (.lst [.ref L, .int z, .int b, .int c])) S = some (.lst [.ref L, .int a, .int b, .int c]) ∧ (upd (upd H2 L (.lst (ns.map V.int))) S (.lst [.ref L, .int z, .int b, .int c])) L = some (.lst (ns_1.map V.int)) ∧
              Keeps S L H (upd (upd H2 L (.lst (ns.map V.int))) S (.lst [.ref L, .int z, .int b, .int c])) := fun z =>
            ⟨ns.length, Nat.lt_succ_self _, _, ns, z, rfl, rfl, by omega, upd_same, by rw [upd_ne nSL.symm, upd_same], fun d o e n1 n2 => by rw [upd_ne n1, upd_ne n2]; exact kp d o e n1 n2⟩
          refine ⟨_, rfl, _, _, rfl, rfl, _, rfl, ?_⟩
          refine ifD (fun hc => ?_) (fun hc => ?_)
          · refine ⟨_, rfl, _, rfl, S, _, _, _, rfl, rfl, g1 _, rfl, ?_⟩
            exact fin n
          · refine ⟨_, rfl, _, rfl, _, rfl, S, _, _, _, rfl, rfl, g1 _, rfl, ?_⟩
            exact fin (-n)
        · exact hnx _ _ ⟨v, ns, a, rfl, hl, h1, h2, kp⟩
      · exact hnx _ _ ⟨v, ns, a, rfl, hl, h1, h2, kp⟩
end
/-! ### the law's same: the same data on both sides gives True -/
inductive Da (H : Hp) : Nat → V → V → Prop
  | non {n : Nat} : Da H n .non .non
  | bl {n : Nat} (b : Bool) : Da H n (.bl b) (.bl b)
  | int {n : Nat} (i : Int) : Da H n (.int i) (.int i)
  | str {n : Nat} (x : Str) : Da H n (.str x) (.str x)
  | lst {n : Nat} {a b : Addr} {xs ys : List V} (ha : H a = some (.lst xs)) (hb : H b = some (.lst ys)) (hl : xs.length = ys.length) (hz : ys.length ≤ 1000) (hi : ∀ (i : Nat) (x y : V), xs[i]? = some x → ys[i]? = some y → Da H n x y) : Da H (n + 1) (.ref a) (.ref b)
  | tup {n : Nat} {a b : Addr} {xs ys : List V} (ha : H a = some (.tup xs)) (hb : H b = some (.tup ys)) (hl : xs.length = ys.length) (hz : ys.length ≤ 1000) (hi : ∀ (i : Nat) (x y : V), xs[i]? = some x → ys[i]? = some y → Da H n x y) : Da H (n + 1) (.ref a) (.ref b)
def spSame (n : Nat) : Sp := fun vs H Q _ => ∃ x y, vs = [x, y] ∧ Da H n x y ∧ Q (.bl true) H
/-- what its own calls ask -/
def spSameR : Nat → Sp
  | 0 => fun _ _ _ _ => False
  | n + 1 => spSame n
section
variable {P : Program} {w : World} {K : PySem.W.Frag} {mg : Str → Option Value} {base : Heap}
theorem sc__law_same : FnScope ["_law_found", "_law_due", "_law_k"] ["_law_found", "_law_due"] (defScope (top 26)) := ⟨rfl, rfl, rfl, by decide +kernel, rfl, by decide +kernel, by decide +kernel⟩
theorem ok_same1 {f : Addr} {fd : FuncData} (F : Fun K "_law_same" "_law_same" (top 26) f fd) (T : TxL K mg) (n : Nat) (c__law_same : Cal P w K mg base CX0 n "_law_same" (spSameR n)) : FnOk P w K mg base CX0 (n + 1) f fd ["_law_found", "_law_due"] (spSame n) := by
  refine F.ok sc__law_same (fun vs H Q E h => ?_) (fun cdv A outer s H vs Q E hr h => ?_)
  · obtain ⟨x, y, rfl, _⟩ := h
    rfl
  · obtain ⟨x, y, rfl, hd, k⟩ := h
    refine ⟨_, (pss_cons (ps_if (pt_cmpR op_isN (pv 1) pe_non (nomark _)) (pss_one (ps_ret (pe_cmpR op_isN (pv 0) pe_non (nomark _)))) pss_nil)
      (pss_cons (ps_if (pt_cmpR op_isBA (pv 1) pe_bl (nomark _)) (pss_one (ps_ret (pe_cmpR op_isBA (pv 0) pe_bl (nomark _)))) pss_nil)
      (pss_cons (ps_if (pt_cmpR op_isBA (pv 1) pe_bl (nomark _)) (pss_one (ps_ret (pe_cmpR op_isBA (pv 0) pe_bl (nomark _)))) pss_nil)
      (pss_cons (ps_if (pt_val (pe_callB call_isi (by rfl) T.isinstance (by decide +kernel) (pa_cons (pv 1) (pa_cons (pe_bltn (v := .ty "int") (by rfl) T.int (by decide +kernel) rfl) pa_nil)))) (pss_one (ps_ret (pe_and (pe_callB call_isi (by rfl) T.isinstance (by decide +kernel) (pa_cons (pv 0) (pa_cons (pe_bltn (v := .ty "int") (by rfl) T.int (by decide +kernel) rfl) pa_nil))) (pe_and (pe_not (pe_callB call_isi (by rfl) T.isinstance (by decide +kernel) (pa_cons (pv 0) (pa_cons (pe_bltn (v := .ty "bool") (by rfl) T.bool (by decide +kernel) rfl) pa_nil)))) (pe_one (pe_cmpR op_eq (pv 0) (pv 1) (nomark _))))))) pss_nil)
      (pss_cons (ps_if (pt_val (pe_callB call_isi (by rfl) T.isinstance (by decide +kernel) (pa_cons (pv 1) (pa_cons (pe_bltn (v := .ty "str") (by rfl) T.str (by decide +kernel) rfl) pa_nil)))) (pss_one (ps_ret (pe_and (pe_callB call_isi (by rfl) T.isinstance (by decide +kernel) (pa_cons (pv 0) (pa_cons (pe_bltn (v := .ty "str") (by rfl) T.str (by decide +kernel) rfl) pa_nil))) (pe_one (pe_cmpR op_eq (pv 0) (pv 1) (nomark _)))))) pss_nil)
      (pss_cons (ps_if (PW.pt (pw_and (pt_val (pe_callB call_isi (by rfl) T.isinstance (by decide +kernel) (pa_cons (pv 1) (pa_cons (pe_bltn (v := .ty "tuple") (by rfl) T.tuple (by decide +kernel) rfl) pa_nil)))) (pw_and1 (pt_not (pt_val (pe_callB call_isi (by rfl) T.isinstance (by decide +kernel) (pa_cons (pv 0) (pa_cons (pe_bltn (v := .ty "tuple") (by rfl) T.tuple (by decide +kernel) rfl) pa_nil)))))))) (pss_one (ps_ret pe_bl)) pss_nil)
      (pss_cons (ps_if (PW.pt (pw_and (pt_val (pe_callB call_isi (by rfl) T.isinstance (by decide +kernel) (pa_cons (pv 1) (pa_cons (pe_bltn (v := .ty "list") (by rfl) T.list (by decide +kernel) rfl) pa_nil)))) (pw_and1 (pt_not (pt_val (pe_callB call_isi (by rfl) T.isinstance (by decide +kernel) (pa_cons (pv 0) (pa_cons (pe_bltn (v := .ty "list") (by rfl) T.list (by decide +kernel) rfl) pa_nil)))))))) (pss_one (ps_ret pe_bl)) pss_nil)
      (pss_cons (ps_if (pt_cmpR op_ne (pe_callB call_len_seq (by rfl) T.len (by decide +kernel) (pa_cons (pv 0) pa_nil)) (pe_callB call_len_seq (by rfl) T.len (by decide +kernel) (pa_cons (pv 1) pa_nil)) (nomark _)) (pss_one (ps_ret pe_bl)) pss_nil)
      (pss_cons (ps_for PassesOwn.never rfl (pi_range1 (by rfl) T.range (pa_cons (pe_callB call_len_seq (by rfl) T.len (by decide +kernel) (pa_cons (pv 1) pa_nil)) pa_nil)) (pg_name (i := 2) sc__law_same.nd rfl (Or.inl rfl)) (pss_one (ps_if (pt_not (pt_val (pe_c c__law_same hr (Nat.le_refl n) (by rfl) (pa_cons (pe_ix ix_ls (pv 0) (pv 2) (fun _ _ => rfl)) (pa_cons (pe_ix ix_ls (pv 1) (pv 2) (fun _ _ => rfl)) pa_nil))))) (pss_one (ps_ret pe_bl)) pss_nil)))
      (pss_one (ps_ret pe_bl))))))))))), ?_⟩
    cases hd with
    | non =>
      refine ⟨_, rfl, rfl, _, rfl, ?_⟩
      refine ifY rfl ?_
      exact ⟨_, rfl, rfl, k⟩
    | bl b =>
      refine ⟨_, rfl, rfl, _, rfl, ?_⟩
      refine ifN (fun z => nomatch z) ?_
      refine ⟨_, rfl, _, rfl, _, rfl, ?_⟩
      cases b with
      | true =>
        refine ifY rfl ?_
        exact ⟨_, rfl, _, rfl, k⟩
      | false =>
        refine ifN (by decide) ?_
        refine ⟨_, rfl, _, rfl, _, rfl, ?_⟩
        refine ifY rfl ?_
        exact ⟨_, rfl, _, rfl, k⟩
    | int i =>
      refine ⟨_, rfl, rfl, _, rfl, ?_⟩
      refine ifN (fun z => nomatch z) ?_
      refine ⟨_, rfl, _, rfl, _, rfl, ?_⟩
      refine ifN (fun z => nomatch z) ?_
      refine ⟨_, rfl, _, rfl, _, rfl, ?_⟩
      refine ifN (fun z => nomatch z) ?_
      refine ⟨_, rfl, _, _, _, _, true, rfl, .ty _, .base (.int i), kit_ty (by decide +kernel), _, rfl, ?_⟩
      refine iteT ?_
      refine ⟨_, rfl, _, _, _, _, true, rfl, .ty _, .base (.int i), kit_ty (by decide +kernel), _, rfl, ?_⟩
      refine iteT ?_
      refine ⟨_, rfl, _, _, _, _, false, rfl, .ty _, .base (.int i), kit_ty (by decide +kernel), _, rfl, _, rfl, ?_⟩
      refine iteT ?_
      refine ⟨_, rfl, _, rfl, rfl, ?_⟩
      rw [decide_eq_true rfl]
      exact k
    | str i =>
      refine ⟨_, rfl, rfl, _, rfl, ?_⟩
      refine ifN (fun z => nomatch z) ?_
      refine ⟨_, rfl, _, rfl, _, rfl, ?_⟩
      refine ifN (fun z => nomatch z) ?_
      refine ⟨_, rfl, _, rfl, _, rfl, ?_⟩
      refine ifN (fun z => nomatch z) ?_
      refine ⟨_, rfl, _, _, _, _, false, rfl, .ty _, .base (.str i), kit_ty (by decide +kernel), _, rfl, ?_⟩
      refine iteF ?_
      refine ⟨_, rfl, _, _, _, _, true, rfl, .ty _, .base (.str i), kit_ty (by decide +kernel), _, rfl, ?_⟩
      refine iteT ?_
      refine ⟨_, rfl, _, _, _, _, true, rfl, .ty _, .base (.str i), kit_ty (by decide +kernel), _, rfl, ?_⟩
      refine iteT ?_
      refine ⟨_, rfl, _, rfl, rfl, ?_⟩
      rw [decide_eq_true rfl]
      exact k
    | @lst n a b xs ys ha hb hl hz hi =>
      refine ⟨_, rfl, rfl, _, rfl, ?_⟩
      refine ifN (fun z => nomatch z) ?_
      refine ⟨_, rfl, _, rfl, _, rfl, ?_⟩
      refine ifN (fun z => nomatch z) ?_
      refine ⟨_, rfl, _, rfl, _, rfl, ?_⟩
      refine ifN (fun z => nomatch z) ?_
      refine ⟨_, rfl, _, _, _, _, false, rfl, .ty _, .base (.lst hb), kit_ty (by decide +kernel), _, rfl, ?_⟩
      refine iteF ?_
      refine ⟨_, rfl, _, _, _, _, false, rfl, .ty _, .base (.lst hb), kit_ty (by decide +kernel), _, rfl, ?_⟩
      refine iteF ?_
      refine ⟨_, rfl, _, _, _, _, false, rfl, .ty _, .base (.lst hb), kit_ty (by decide +kernel), _, rfl, ?_⟩
      refine iteF (iteF ?_)
      refine ⟨_, rfl, _, _, _, _, true, rfl, .ty _, .base (.lst hb), kit_ty (by decide +kernel), _, rfl, ?_⟩
      refine iteT ?_
      refine ⟨_, rfl, _, _, _, _, true, rfl, .ty _, .base (.lst ha), kit_ty (by decide +kernel), _, rfl, ?_⟩
      refine iteF ?_
      refine ⟨_, rfl, _, _, rfl, .inl (SqL.of ha), _, rfl, _, _, rfl, .inl (SqL.of hb), rfl, _, rfl, ?_⟩
      refine nifY (by rw [hl]) ?_
      refine ⟨_, rfl, _, _, rfl, .inl (SqL.of hb), _, rfl, by omega, by omega, for_range (lo := 0) (n := ys.length) (fun i σ H2 => ∃ v, σ = [some (.ref a), some (.ref b), v] ∧ H2 = H) ⟨none, rfl, rfl⟩ ?_ ?_⟩
      · rintro i σ H2 hin ⟨v, rfl, rfl⟩
        have hx : xs[i]? = some xs[i] := List.getElem?_eq_getElem (by omega)
        have hy : ys[i]? = some ys[i] := List.getElem?_eq_getElem hin
        refine ⟨_, rfl, _, rfl, .inl ⟨_, _, _, _, rfl, rfl, SqL.of ha, at_of (Int.zero_add _) hx, ?_⟩⟩
        refine ⟨_, rfl, _, rfl, .inl ⟨_, _, _, _, rfl, rfl, SqL.of hb, at_of (Int.zero_add _) hy, ?_⟩⟩
        refine ⟨_, _, rfl, hi i _ _ hx hy, _, rfl, ?_⟩
        refine iteF ?_
        exact ⟨_, rfl, rfl⟩
      · rintro σ H2 ⟨v, rfl, rfl⟩
        exact k
    | @tup n a b xs ys ha hb hl hz hi =>
      refine ⟨_, rfl, rfl, _, rfl, ?_⟩
      refine ifN (fun z => nomatch z) ?_
      refine ⟨_, rfl, _, rfl, _, rfl, ?_⟩
      refine ifN (fun z => nomatch z) ?_
      refine ⟨_, rfl, _, rfl, _, rfl, ?_⟩
      refine ifN (fun z => nomatch z) ?_
      refine ⟨_, rfl, _, _, _, _, false, rfl, .ty _, .base (.tup hb), kit_ty (by decide +kernel), _, rfl, ?_⟩
      refine iteF ?_
      refine ⟨_, rfl, _, _, _, _, false, rfl, .ty _, .base (.tup hb), kit_ty (by decide +kernel), _, rfl, ?_⟩
      refine iteF ?_
      refine ⟨_, rfl, _, _, _, _, true, rfl, .ty _, .base (.tup hb), kit_ty (by decide +kernel), _, rfl, ?_⟩
      refine iteT ?_
      refine ⟨_, rfl, _, _, _, _, true, rfl, .ty _, .base (.tup ha), kit_ty (by decide +kernel), _, rfl, ?_⟩
      refine iteF ?_
      refine ⟨_, rfl, _, _, _, _, false, rfl, .ty _, .base (.tup hb), kit_ty (by decide +kernel), _, rfl, ?_⟩
      refine iteF (iteF ?_)
      refine ⟨_, rfl, _, _, rfl, .inr (SqT.of ha), _, rfl, _, _, rfl, .inr (SqT.of hb), rfl, _, rfl, ?_⟩
      refine nifY (by rw [hl]) ?_
      refine ⟨_, rfl, _, _, rfl, .inr (SqT.of hb), _, rfl, by omega, by omega, for_range (lo := 0) (n := ys.length) (fun i σ H2 => ∃ v, σ = [some (.ref a), some (.ref b), v] ∧ H2 = H) ⟨none, rfl, rfl⟩ ?_ ?_⟩
      · rintro i σ H2 hin ⟨v, rfl, rfl⟩
        have hx : xs[i]? = some xs[i] := List.getElem?_eq_getElem (by omega)
        have hy : ys[i]? = some ys[i] := List.getElem?_eq_getElem hin
        refine ⟨_, rfl, _, rfl, .inr ⟨_, _, _, _, rfl, rfl, SqT.of ha, at_of (Int.zero_add _) hx, ?_⟩⟩
        refine ⟨_, rfl, _, rfl, .inr ⟨_, _, _, _, rfl, rfl, SqT.of hb, at_of (Int.zero_add _) hy, ?_⟩⟩
        refine ⟨_, _, rfl, hi i _ _ hx hy, _, rfl, ?_⟩
        refine iteF ?_
        exact ⟨_, rfl, rfl⟩
      · rintro σ H2 ⟨v, rfl, rfl⟩
        exact k
/-- what it keeps at every depth -/
theorem ok_same {f : Addr} {fd : FuncData} (F : Fun K "_law_same" "_law_same" (top 26) f fd) (T : TxL K mg) (hm : mg "_law_same" = some (.ref f)) (b : Binds K fd ["_law_found", "_law_due"] []) : ∀ n, FnOk P w K mg base CX0 (n + 1) f fd ["_law_found", "_law_due"] (spSame n)
  | 0 => ok_same1 F T 0 (cal_false hm F.kp b)
  | n + 1 => ok_same1 F T (n + 1) ⟨f, fd, _, ok_same F T hm b n, hm, F.kp, b⟩
end
/-! ### the scales of integers brought back -/
structure TxC (K : PySem.W.Frag) (mg : Str → Option Value) : Prop extends TxL K mg where
  g_MOST_DEPTH : ∃ u, mg "MOST_DEPTH" = some u ∧ RelV (.int 20) u
/-- a class of scales: its objects' attributes may be stored and read -/
structure SCls (K : PySem.W.Frag) (C : Addr) : Prop where
  cl : Cls K C
  label : NoAttr K C "label"
  size : NoAttr K C "size"
  zero_at : NoAttr K C "zero_at"
  one_at : NoAttr K C "one_at"
  depth : NoAttr K C "depth"
def spScaleInit (K : PySem.W.Frag) : Sp := fun vs H Q _ => ∃ (p C dx : Addr) (fs : List (Str × V)) (lb : Str) (sz z o : V) (d : Int), vs = [.ref p, .str lb, sz, z, o, .int d] ∧ d ≤ 20 ∧ SCls K C ∧ H p = some (.ins C dx fs) ∧ fs.length ≤ 900 ∧
  Q .non (upd H p (.ins C dx (putF "depth" (.int d) (putF "one_at" o (putF "zero_at" z (putF "size" sz (putF "label" (.str lb) fs)))))))
section
variable {P : Program} {w : World} {K : PySem.W.Frag} {mg : Str → Option Value} {base : Heap}
theorem sc_Scale___init__ : FnScope ["self", "label", "size", "zero_at", "one_at", "depth"] ["self", "label", "size", "zero_at", "one_at", "depth"] (defScope (inClass (top 17) 0)) := ⟨rfl, rfl, rfl, by decide +kernel, rfl, by decide +kernel, by decide +kernel⟩
theorem ok_scale_init {f : Addr} {fd : FuncData} (F : Fun K "__init__" "Scale.__init__" (inClass (top 17) 0) f fd) (T : TxC K mg) : FnOk P w K mg base CX0 1 f fd ["self", "label", "size", "zero_at", "one_at", "depth"] (spScaleInit K) := by
  refine F.ok sc_Scale___init__ (fun vs H Q E h => ?_) (fun cdv A outer s H vs Q E hr h => ?_)
  · obtain ⟨p, C, dx, fs, lb, sz, z, o, d, rfl, _⟩ := h
    rfl
  · obtain ⟨p, C, dx, fs, lb, sz, z, o, d, rfl, hd, SC, hp, hk, k⟩ := h
    refine ⟨_, (pss_cons (ps_if (pt_cmpR op_gt (pv 5) (pe_gx (by rfl) T.g_MOST_DEPTH) (nomark _)) (pss_one ps_never) pss_nil)
      (pss_cons (ps_fld (pv 0) (pv 1) rfl)
      (pss_cons (ps_fld (pv 0) (pv 2) rfl)
      (pss_cons (ps_fld (pv 0) (pv 3) rfl)
      (pss_cons (ps_fld (pv 0) (pv 4) rfl)
      (pss_one (ps_fld (pv 0) (pv 5) rfl))))))), ?_⟩
    refine ⟨_, rfl, _, _, rfl, rfl, _, rfl, ?_⟩
    refine ifN (by omega) ?_
    have l1 := putF_n (f := "label") (v := .str lb) hk
    have l2 := putF_n (f := "size") (v := sz) l1
    have l3 := putF_n (f := "zero_at") (v := z) l2
    have l4 := putF_n (f := "one_at") (v := o) l3
    refine ⟨_, rfl, _, rfl, p, C, dx, _, rfl, hp, SC.cl, SC.label, by omega, ?_⟩
    refine ⟨_, rfl, _, rfl, p, C, dx, _, rfl, upd_same, SC.cl, SC.size, by omega, ?_⟩
    refine ⟨_, rfl, _, rfl, p, C, dx, _, rfl, upd_same, SC.cl, SC.zero_at, by omega, ?_⟩
    refine ⟨_, rfl, _, rfl, p, C, dx, _, rfl, upd_same, SC.cl, SC.one_at, by omega, ?_⟩
    refine ⟨_, rfl, _, rfl, p, C, dx, _, rfl, upd_same, SC.cl, SC.depth, by omega, ?_⟩
    rw [upd_upd, upd_upd, upd_upd, upd_upd]
    exact k
end
structure LCls (K : PySem.W.Frag) (C : Addr) : Prop extends SCls K C where
  _names : NoAttr K C "_names"
  _found : NoAttr K C "_found"
/-- the attributes that a listed scale gets, behind those that it has -/
def listedFs (fs : List (Str × V)) (lb : Str) (n : Nat) (z o : V) (l d : Addr) : List (Str × V) :=
  putF "_found" (.ref d) (putF "_names" (.ref l) (putF "depth" (.int 1) (putF "one_at" o (putF "zero_at" z (putF "size" (.int (n : Int)) (putF "label" (.str lb) fs))))))
def spListedInit (K : PySem.W.Frag) : Sp := fun vs H Q _ => ∃ (p C dx a : Addr) (fs : List (Str × V)) (lb : Str) (zs : List Str) (z o : V), vs = [.ref p, .str lb, .ref a, z, o] ∧ LCls K C ∧ H p = some (.ins C dx fs) ∧ fs.length ≤ 800 ∧
  H a = some (.lst (zs.map V.str)) ∧ zs.length ≤ 1000 ∧
  ∀ l d H', H l = none → H d = none → But p H H' → H' l = some (.lst (zs.map V.str)) → H' d = some (.dK (foundTo zs zs.length)) → H' p = some (.ins C dx (listedFs fs lb zs.length z o l d)) → Q .non H'
section
variable {P : Program} {w : World} {K : PySem.W.Frag} {mg : Str → Option Value} {base : Heap}
end
/-! ### at_name, and what is no name -/
/-- UnknownGrade.__init__ on a new error -/
def spUgInit (K : PySem.W.Frag) (CU : Addr) : Sp := fun vs H Q _ => ∃ (a : Addr) (nm : Str), vs = [.ref a, .str nm] ∧ H a = some (exo a CU none) ∧ nm.length ≤ 100000 ∧
  ∀ dx, H dx = none → dx ≠ a → Q .non (upd (upd H dx (exd dx [("name", .str nm)])) a (exo a CU (some dx)))
/-- a scale at p that finds its names in the dict at d -/
def FindOb (C : Addr) (H : Hp) (p d : Addr) (kvs : List (Key × V)) : Prop := ∃ dx fs, H p = some (.ins C dx fs) ∧ fld fs "_found" = some (.ref d) ∧ fld fs "find_at" = none ∧ fld fs "at_name" = none ∧ H d = some (.dK kvs)
def spFindAt (C : Addr) : Sp := fun vs H Q _ => ∃ (p d : Addr) (kvs : List (Key × V)) (nm : Str), vs = [.ref p, .str nm] ∧ FindOb C H p d kvs ∧ Q ((valV kvs (Sum.inr nm)).getD .non) H
def spAtName (C CU : Addr) : Sp := fun vs H Q E => ∃ (p d : Addr) (kvs : List (Key × V)) (nm : Str), vs = [.ref p, .str nm] ∧ FindOb C H p d kvs ∧ nm.length ≤ 100000 ∧
  ((∃ i, valV kvs (Sum.inr nm) = some (.int i) ∧ Q (.int i) H) ∨ (valV kvs (Sum.inr nm) = none ∧ ∀ d', H d' = none → E (.ref CU) (some d') (upd H d' (.xd [("name", .str nm)]))))
section
variable {P : Program} {w : World} {K : PySem.W.Frag} {mg : Str → Option Value} {base : Heap} {C CU CN CE : Addr}
theorem sc_UnknownGrade___init__ : FnScope ["self", "name"] ["self", "name"] (defScope (inClass (top 14) 0)) := ⟨rfl, rfl, rfl, by decide +kernel, rfl, by decide +kernel, by decide +kernel⟩
theorem ok_ug_init {f : Addr} {fd : FuncData} {B newId initId : String} {bt : List Value} (F : Fun K "__init__" "UnknownGrade.__init__" (inClass (top 14) 0) f fd) (T : OexB K CU B newId initId bt) (hn : NoAttr K CU "name") (b_NameMissing : BInit K mg "NameMissing" initId) : FnOk P w K mg base CX0 1 f fd ["self", "name"] (spUgInit K CU) := by
  refine F.ok sc_UnknownGrade___init__ (fun vs H Q E h => ?_) (fun cdv A outer s H vs Q E hr h => ?_)
  · obtain ⟨a, nm, rfl, _⟩ := h
    rfl
  · obtain ⟨a, nm, rfl, ha, hl, k⟩ := h
    refine ⟨_, (pss_cons (ps_expr (pe_binit (B := B) (newId := newId) (bt := bt) b_NameMissing (by rfl) (pa_cons (pv 0) (pa_cons (pe_joined (PJ.cons pe_str (PJ.cons (pe_fmt (pv 1)) PJ.nil))) pa_nil))))
      (pss_one (ps_ostB (B := B) (newId := newId) (initId := initId) (bt := bt) (pv 0) (pv 1)))), ?_⟩
    have z1 : (Str.empty ++ ("no grade is called " : Str)).length ≤ 19 := by decide +kernel
    have z2 := app_le z1 hl
    have z3 : 19 + 100000 ≤ sizeLine := by decide
    refine ⟨_, rfl, ?_⟩
    refine ⟨_, rfl, Nat.le_trans z1 (by decide), ?_⟩
    refine ⟨_, rfl, .inl ⟨_, rfl, Nat.le_trans hl (by decide), _, rfl, Nat.le_trans z2 z3, ?_⟩⟩
    refine ⟨a, CU, _, rfl, (by show 1 ≤ 1000; decide), T, ha, ?_⟩
    refine ⟨_, rfl, _, rfl, a, CU, rfl, T, hn, .inl ⟨ha, fun dx n1 n2 => ?_⟩⟩
    exact k dx n1 n2
theorem sc_Scale_at_name : FnScope ["self", "name", "place"] ["self", "name"] (defScope (inClass (top 17) 9)) := ⟨rfl, rfl, rfl, by decide +kernel, rfl, by decide +kernel, by decide +kernel⟩
theorem ok_at_name {f : Addr} {fd : FuncData} (F : Fun K "at_name" "Scale.at_name" (inClass (top 17) 9) f fd) (m_find_at : Met P w K mg base CX0 1 C "find_at" (spFindAt C)) (xm_UnknownGrade : ExM P w K mg base 1 "UnknownGrade" CU (spUgInit K CU)) :
    FnOk P w K mg base (L2.CX P w) 3 f fd ["self", "name"] (spAtName C CU) := by
  refine F.okX sc_Scale_at_name (fun vs H Q E h => ?_) (fun cdv A outer s H vs Q E hr h => ?_)
  · obtain ⟨p, d, kvs, nm, rfl, _⟩ := h
    rfl
  · obtain ⟨p, d, kvs, nm, rfl, fo, hl, k⟩ := h
    obtain ⟨dx, fs, hp, h1, h2, h3, hd⟩ := id fo
    refine ⟨_, (pss_cons (ps_set (i := 2) sc_Scale_at_name.nd rfl (Or.inl rfl) (pe_mt m_find_at hr (by decide) (pv 0) (pa_cons (pv 1) pa_nil)))
      (pss_cons (ps_if (pt_cmpR op_isN (pv 2) pe_non (nomark _)) (pss_one (ps_raise rfl (takes_of rfl rfl rfl rfl) (pmk_B xm_UnknownGrade hr (by decide) (by rfl) (pa_cons (pv 1) pa_nil)))) pss_nil)
      (pss_one (ps_ret (pv 2))))), ?_⟩
    refine ⟨_, rfl, p, dx, fs, rfl, hp, h2, _, rfl, p, d, kvs, nm, rfl, fo, ?_⟩
    rcases k with ⟨i, e, k⟩ | ⟨e, k⟩
    · rw [e]
      refine ⟨_, rfl, rfl, _, rfl, ?_⟩
      refine ifN (fun z => nomatch z) ?_
      exact ⟨_, rfl, k⟩
    · rw [e]
      refine ⟨_, rfl, rfl, _, rfl, ?_⟩
      refine ifY rfl ?_
      refine ⟨_, rfl, (by show 1 ≤ 1000; decide), fun a ha => ?_⟩
      refine ⟨a, nm, rfl, upd_same, hl, fun dx' n1 n2 => ⟨rfl, dx', [("name", .str nm)], upd_same, ?_, ?_, ?_⟩⟩
      · rw [upd_ne n2, upd_same]
      · rw [upd_ne n2] at n1; exact n1
      · rw [upd_ne n2] at n1
        have z : upd (del (upd (upd (upd H a (exo a CU none)) dx' (exd dx' [("name", V.str nm)])) a (exo a CU (some dx'))) a) dx' (HO.xd [("name", V.str nm)]) = upd H dx' (.xd [("name", .str nm)]) := by
          funext b
          by_cases h1 : b = dx'
          · subst h1; rw [upd_same, upd_same]
          · rw [upd_ne h1, upd_ne h1]
            by_cases h2 : b = a
            · subst h2; rw [del_same, ha]
            · rw [del_ne h2, upd_ne h2, upd_ne h1, upd_ne h2]
        rw [z]
        exact k dx' n1
end
/-- the index of an endless run that comes back -/
def runIx (n : Nat) (b i : Int) : Nat := if i < (n : Int) then i.toNat else (b + (i - b) % ((n : Int) - b)).toNat
def spItem (K : PySem.W.Frag) : Sp := fun vs H Q _ => ∃ (a : Addr) (xs : List V) (b i : Int) (v : V), vs = [.ref a, .int b, .int i] ∧ SqL K H a xs ∧ 0 ≤ b ∧ b < (xs.length : Int) ∧ 0 ≤ i ∧ xs[runIx xs.length b i]? = some v ∧ Q v H
section
variable {P : Program} {w : World} {K : PySem.W.Frag} {mg : Str → Option Value} {base : Heap}
theorem sc_item_of_run : FnScope ["trail", "back", "index"] ["trail", "back", "index"] (defScope (top 6)) := ⟨rfl, rfl, rfl, by decide +kernel, rfl, by decide +kernel, by decide +kernel⟩
theorem ok_item {f : Addr} {fd : FuncData} (F : Fun K "item_of_run" "item_of_run" (top 6) f fd) (T : TxC K mg) : FnOk P w K mg base CX0 1 f fd ["trail", "back", "index"] (spItem K) := by
  refine F.ok sc_item_of_run (fun vs H Q E h => ?_) (fun cdv A outer s H vs Q E hr h => ?_)
  · obtain ⟨a, xs, b, i, v, rfl, _⟩ := h
    rfl
  · obtain ⟨a, xs, b, i, v, rfl, hS, hb, hbl, hi, hv, k⟩ := h
    refine ⟨_, (pss_cons (ps_if (pt_cmpR op_lt (pv 2) (pe_callB call_len_seq (by rfl) T.len (by decide +kernel) (pa_cons (pv 0) pa_nil)) (nomark _)) (pss_one (ps_ret (pe_ix ix_list (pv 0) (pv 2) (fun _ _ => rfl)))) pss_nil)
      (pss_one (ps_ret (pe_ix ix_list (pv 0) (pe_op op_add (pv 1) (pe_op op_mod (pe_op op_sub (pv 2) (pv 1)) (pe_op op_sub (pe_callB call_len_seq (by rfl) T.len (by decide +kernel) (pa_cons (pv 0) pa_nil)) (pv 1)))) (fun _ _ => rfl))))), ?_⟩
    refine ⟨_, rfl, _, rfl, a, _, rfl, .inl hS, _, _, rfl, rfl, _, rfl, ?_⟩
    unfold runIx at hv
    refine ifD (fun hlt => ?_) (fun hlt => ?_)
    · rw [if_pos hlt] at hv
      exact ⟨_, rfl, _, rfl, a, _, _, _, rfl, rfl, hS, at_of (Int.toNat_of_nonneg hi).symm hv, k⟩
    · rw [if_neg hlt] at hv
      refine ⟨_, rfl, _, rfl, _, rfl, _, rfl, _, _, rfl, rfl, _, rfl, a, _, rfl, .inl hS, _, rfl, _, _, rfl, rfl, _, _, rfl, rfl, (by show 0 < (xs.length : Int) - b; omega), _, _, rfl, rfl, ?_⟩
      have e0 : 0 ≤ (i - b) % ((xs.length : Int) - b) := Int.emod_nonneg _ (by omega)
      exact ⟨a, _, _, _, rfl, rfl, hS, at_of (Int.toNat_of_nonneg (by omega)).symm hv, k⟩
end
/-! ## scales of every kind: what they are (SD), how they stand in the heap (ScAt), what their methods give -/
inductive Kn | cut | lev | sub | span | rel | tab | ex | most | least | pair | turn
  deriving DecidableEq
/-- a place: a number or a pair of places -/
inductive Pl | n (i : Int) | p (a b : Pl)
  deriving DecidableEq
/-- a scale of its own, with finitely many grades, whose places are numbers -/
structure Prim where
  size : Nat
  zero : Int
  one : Int
  sum : Int → Int → Int
  prod : Int → Int → Int
  within : Int → Int → Bool
  names : List Str
  label : Str
structure PrimOk (m : Prim) : Prop where
  pos : 1 ≤ m.size
  most : m.size ≤ 64
  names : m.names.length = m.size
  inj : ∀ i < m.size, ∀ j < m.size, m.names.getD i Str.empty = m.names.getD j Str.empty → i = j
  short : ∀ z ∈ m.names, z.length ≤ 100
  zero : 0 ≤ m.zero ∧ m.zero < (m.size : Int)
  one : 0 ≤ m.one ∧ m.one < (m.size : Int)
  sum : ∀ a b, 0 ≤ a → a < (m.size : Int) → 0 ≤ b → b < (m.size : Int) → 0 ≤ m.sum a b ∧ m.sum a b < (m.size : Int)
  prod : ∀ a b, 0 ≤ a → a < (m.size : Int) → 0 ≤ b → b < (m.size : Int) → 0 ≤ m.prod a b ∧ m.prod a b < (m.size : Int)
  label : m.label.length ≤ 90002
inductive SD
  | leaf (k : Kn) (m : Prim)
  | tally (k : Kn)
  | pair (l r : SD)
  | turned (i : SD)
namespace SD
def kn : SD → Kn
  | leaf k _ => k
  | tally k => k
  | pair _ _ => .pair
  | turned _ => .turn
def size : SD → Option Nat
  | leaf _ m => some m.size
  | tally _ => none
  | pair l r => match l.size, r.size with
    | some a, some b => some (a * b)
    | _, _ => none
  | turned i => i.size
def depth : SD → Nat
  | leaf _ _ => 1
  | tally _ => 1
  | pair l r => max l.depth r.depth + 1
  | turned i => i.depth + 1
def label : SD → Str
  | leaf _ m => m.label
  | tally k => if k = .ex then "(tally same)" else if k = .most then "(tally up)" else "(tally down)"
  | pair l r => Str.empty ++ "(pair " ++ l.label ++ " " ++ r.label ++ ")"
  | turned i => Str.empty ++ "(turned " ++ i.label ++ ")"
def zero : SD → Pl
  | leaf _ m => .n m.zero
  | tally _ => .n 0
  | pair l r => .p l.zero r.zero
  | turned i => i.zero
def one : SD → Pl
  | leaf _ m => .n m.one
  | tally _ => .n 1
  | pair l r => .p l.one r.one
  | turned i => i.one
def sum : SD → Pl → Pl → Pl
  | leaf _ m, .n a, .n b => .n (m.sum a b)
  | tally _, .n a, .n b => .n (a + b)
  | pair l r, .p a b, .p c d => .p (l.sum a c) (r.sum b d)
  | turned i, a, b => i.sum a b
  | _, a, _ => a
def prod : SD → Pl → Pl → Pl
  | leaf _ m, .n a, .n b => .n (m.prod a b)
  | tally _, .n a, .n b => .n (a * b)
  | pair l r, .p a b, .p c d => .p (l.prod a c) (r.prod b d)
  | turned i, a, b => i.prod a b
  | _, a, _ => a
def within : SD → Pl → Pl → Bool
  | leaf _ m, .n a, .n b => m.within a b
  | tally k, .n a, .n b => if k = .ex then decide (a = b) else if k = .most then decide (a ≤ b) else decide (b ≤ a)
  | pair l r, .p a b, .p c d => l.within a c && r.within b d
  | turned i, a, b => i.within b a
  | _, _, _ => false
/-- the places of a scale -/
def okp : SD → Pl → Prop
  | leaf _ m, .n a => 0 ≤ a ∧ a < (m.size : Int)
  | tally _, .n a => 0 ≤ a
  | pair l r, .p a b => l.okp a ∧ r.okp b
  | turned i, a => i.okp a
  | _, _ => False
def places : SD → List Pl
  | leaf _ m => (List.range m.size).map fun (i : Nat) => Pl.n (i : Int)
  | tally _ => []
  | pair l r => l.places.flatMap fun a => r.places.map fun b => Pl.p a b
  | turned i => i.places
def nm : SD → Pl → Str
  | leaf _ m, .n a => m.names.getD a.toNat Str.empty
  | tally _, .n a => num a
  | pair l r, .p a b => Str.empty ++ "<" ++ l.nm a ++ "/" ++ r.nm b ++ ">"
  | turned i, a => i.nm a
  | _, _ => Str.empty
end SD
/-- the least bound by its definition, over the places -/
def boundP (ps : List Pl) (W : Pl → Pl → Bool) (a b : Pl) : Option Pl :=
  (ps.filter fun u => W a u && W b u).find? fun u => (ps.filter fun u => W a u && W b u).all fun x => W u x
/-- a scale's own laws of being a scale -/
def lkn : Kn → Bool
  | .ex | .most | .least | .pair | .turn => false
  | _ => true
def SD.Ok : SD → Prop
  | .leaf k m => lkn k = true ∧ PrimOk m
  | .tally k => k = .ex ∨ k = .most ∨ k = .least
  | .pair l r => l.Ok ∧ r.Ok ∧ ∀ a b, l.size = some a → r.size = some b → a * b ≤ 64
  | .turned i => i.Ok ∧ ∃ n, i.size = some n
def PlAt (H : Hp) : Pl → V → Prop
  | .n i, v => v = .int i
  | .p a b, v => ∃ q x y, v = .ref q ∧ H q = some (.tup [x, y]) ∧ PlAt H a x ∧ PlAt H b y
theorem PlAt.same {H H' : Hp} (e : Same H H') : ∀ {a : Pl} {v : V}, PlAt H a v → PlAt H' a v
  | .n _, _, h => h
  | .p _ _, _, ⟨q, x, y, h1, h2, h3, h4⟩ => ⟨q, x, y, h1, e _ _ h2, h3.same e, h4.same e⟩
def mnames : List Str := ["places", "sum_at", "product_at", "within_at", "bound_at", "within_all", "name_at", "find_at", "at_name", "times_at", "ones", "power_at", "tails_at", "turns_at"]
def NoM (fs : List (Str × V)) : Prop := ∀ m ∈ mnames, fld fs m = none
def sizeV : Option Nat → V
  | none => .non
  | some n => .int (n : Int)
structure ScHd (H : Hp) (fs : List (Str × V)) (d : SD) : Prop where
  label : fld fs "label" = some (.str d.label)
  size : fld fs "size" = some (sizeV d.size)
  zero : ∃ v, fld fs "zero_at" = some v ∧ PlAt H d.zero v
  one : ∃ v, fld fs "one_at" = some v ∧ PlAt H d.one v
  depth : fld fs "depth" = some (.int (d.depth : Int))
  nom : NoM fs
theorem ScHd.same {H H' : Hp} {fs : List (Str × V)} {d : SD} (h : ScHd H fs d) (e : Same H H') : ScHd H' fs d := by
  obtain ⟨h1, h2, ⟨z, h3, h4⟩, ⟨o, h5, h6⟩, h7, h8⟩ := h
  exact ⟨h1, h2, ⟨z, h3, h4.same e⟩, ⟨o, h5, h6.same e⟩, h7, h8⟩
/-- which classes there are, and what the scales of their own hold -/
structure SE where
  cls : Kn → Addr
  pr : Kn → Bool
  Lf : Kn → Prim → Hp → List (Str × V) → Prop
  LfS : ∀ {k m H H' fs}, Same H H' → Lf k m H fs → Lf k m H' fs
  LfN : ∀ {k m H fs}, Lf k m H fs → (∃ l, fld fs "_names" = some (.ref l) ∧ H l = some (.lst (m.names.map V.str))) ∧ ∃ d, fld fs "_found" = some (.ref d) ∧ H d = some (.dK (foundTo m.names m.names.length))
def ScAt (S : SE) (H : Hp) : SD → Addr → Prop
  | .leaf k m, p => ∃ dx fs, H p = some (.ins (S.cls k) dx fs) ∧ S.pr k = true ∧ ScHd H fs (.leaf k m) ∧ S.Lf k m H fs
  | .tally k, p => ∃ dx fs, H p = some (.ins (S.cls k) dx fs) ∧ S.pr k = true ∧ ScHd H fs (.tally k)
  | .pair l r, p => ∃ dx fs, H p = some (.ins (S.cls .pair) dx fs) ∧ S.pr .pair = true ∧ ScHd H fs (.pair l r) ∧ ∃ ql qr, fld fs "left" = some (.ref ql) ∧ fld fs "right" = some (.ref qr) ∧ ScAt S H l ql ∧ ScAt S H r qr
  | .turned i, p => ∃ dx fs, H p = some (.ins (S.cls .turn) dx fs) ∧ S.pr .turn = true ∧ ScHd H fs (.turned i) ∧ ∃ q, fld fs "inner" = some (.ref q) ∧ ScAt S H i q
theorem ScAt.same {S : SE} {H H' : Hp} (e : Same H H') : ∀ {d : SD} {p : Addr}, ScAt S H d p → ScAt S H' d p
  | .leaf _ _, _, ⟨dx, fs, h1, h2, h3, h4⟩ => ⟨dx, fs, e _ _ h1, h2, h3.same e, S.LfS e h4⟩
  | .tally _, _, ⟨dx, fs, h1, h2, h3⟩ => ⟨dx, fs, e _ _ h1, h2, h3.same e⟩
  | .pair _ _, _, ⟨dx, fs, h1, h2, h3, ql, qr, h4, h5, h6, h7⟩ => ⟨dx, fs, e _ _ h1, h2, h3.same e, ql, qr, h4, h5, h6.same e, h7.same e⟩
  | .turned _, _, ⟨dx, fs, h1, h2, h3, q, h4, h5⟩ => ⟨dx, fs, e _ _ h1, h2, h3.same e, q, h4, h5.same e⟩
theorem ScAt.hd {S : SE} {H : Hp} : ∀ {d : SD} {p : Addr}, ScAt S H d p → ∃ dx fs, H p = some (.ins (S.cls d.kn) dx fs) ∧ S.pr d.kn = true ∧ ScHd H fs d
  | .leaf _ _, _, ⟨dx, fs, h1, h2, h3, _⟩ => ⟨dx, fs, h1, h2, h3⟩
  | .tally _, _, ⟨dx, fs, h1, h2, h3⟩ => ⟨dx, fs, h1, h2, h3⟩
  | .pair _ _, _, ⟨dx, fs, h1, h2, h3, _⟩ => ⟨dx, fs, h1, h2, h3⟩
  | .turned _, _, ⟨dx, fs, h1, h2, h3, _⟩ => ⟨dx, fs, h1, h2, h3⟩
abbrev Pk (S : SE) := {k : Kn // S.pr k = true}
/-! ### what the methods promise, for the scales of kind k whose depth is at most n -/
section
variable (S : SE) (k : Kn) (n : Nat)
def spSum : Sp := fun vs H Q _ => ∃ (p : Addr) (d : SD) (a b : Pl) (x y : V), vs = [.ref p, x, y] ∧ ScAt S H d p ∧ d.kn = k ∧ d.depth ≤ n ∧ d.Ok ∧ PlAt H a x ∧ PlAt H b y ∧ d.okp a ∧ d.okp b ∧ ∀ v H', Same H H' → PlAt H' (d.sum a b) v → Q v H'
def spProd : Sp := fun vs H Q _ => ∃ (p : Addr) (d : SD) (a b : Pl) (x y : V), vs = [.ref p, x, y] ∧ ScAt S H d p ∧ d.kn = k ∧ d.depth ≤ n ∧ d.Ok ∧ PlAt H a x ∧ PlAt H b y ∧ d.okp a ∧ d.okp b ∧ ∀ v H', Same H H' → PlAt H' (d.prod a b) v → Q v H'
def spWith : Sp := fun vs H Q _ => ∃ (p : Addr) (d : SD) (a b : Pl) (x y : V), vs = [.ref p, x, y] ∧ ScAt S H d p ∧ d.kn = k ∧ d.depth ≤ n ∧ d.Ok ∧ PlAt H a x ∧ PlAt H b y ∧ d.okp a ∧ d.okp b ∧ ∀ H', Same H H' → Q (.bl (d.within a b)) H'
def spPls : Sp := fun vs H Q _ => ∃ (p : Addr) (d : SD) (m : Nat), vs = [.ref p] ∧ ScAt S H d p ∧ d.kn = k ∧ d.depth ≤ n ∧ d.Ok ∧ d.size = some m ∧ ∀ l xs H', H l = none → Same H H' → H' l = some (.lst xs) → xs.length = d.places.length → (∀ (i : Nat) x u, xs[i]? = some x → d.places[i]? = some u → PlAt H' u x) → Q (.ref l) H'
def spNm : Sp := fun vs H Q _ => ∃ (p : Addr) (d : SD) (a : Pl) (x : V), vs = [.ref p, x] ∧ ScAt S H d p ∧ d.kn = k ∧ d.depth ≤ n ∧ d.Ok ∧ PlAt H a x ∧ d.okp a ∧ ∀ H', Same H H' → Q (.str (d.nm a)) H'
end
/-- a name's place -/
def SD.find : SD → Str → Option Pl
  | .leaf _ m, z => match valV (foundTo m.names m.names.length) (Sum.inr z : Key) with
    | some (.int i) => some (.n i)
    | _ => none
  | .turned i, z => i.find z
  | _, _ => none
def OptAt (H : Hp) : Option Pl → V → Prop
  | none, v => v = .non
  | some a, v => PlAt H a v
theorem OptAt.same {H H' : Hp} (e : Same H H') : ∀ {a : Option Pl} {v : V}, OptAt H a v → OptAt H' a v
  | none, _, h => h
  | some _, _, h => PlAt.same e h
section
variable (S : SE) (k : Kn) (n : Nat)
def spFind : Sp := fun vs H Q _ => ∃ (p : Addr) (d : SD) (z : Str), vs = [.ref p, .str z] ∧ ScAt S H d p ∧ d.kn = k ∧ d.depth ≤ n ∧ d.Ok ∧ z.length ≤ 100000 ∧ ∀ v H', Same H H' → OptAt H' (d.find z) v → Q v H'
end
/-- the facts of the classes of scales -/
structure ScCls (K : PySem.W.Frag) (S : SE) : Prop where
  cls : ∀ k, S.pr k = true → SCls K (S.cls k)
structure TuCls (K : PySem.W.Frag) (S : SE) : Prop where
  sc : SCls K (S.cls .turn)
  inner : NoAttr K (S.cls .turn) "inner"
theorem nom_mem {m : Str} {fs : List (Str × V)} (h : NoM fs) (e : mnames.contains m = true) : fs.lookup m = none := h m (by simpa using e)
/-- the count-th sum of ones -/
def SD.tm (d : SD) (c : Nat) : Pl := if c = 0 then d.zero else Nat.repeat (fun x => d.sum x d.one) (c - 1) d.one
section
variable (S : SE) (k : Kn) (n : Nat)
def spTm : Sp := fun vs H Q _ => ∃ (p : Addr) (d : SD) (c : Nat), vs = [.ref p, .int (c : Int)] ∧ ScAt S H d p ∧ d.kn = k ∧ d.depth ≤ n ∧ d.Ok ∧ ∀ v H', Same H H' → PlAt H' (d.tm c) v → Q v H'
def spBd : Sp := fun vs H Q _ => ∃ (p : Addr) (d : SD) (m : Nat) (a b : Pl) (x y : V), vs = [.ref p, x, y] ∧ ScAt S H d p ∧ d.kn = k ∧ d.depth ≤ n ∧ d.Ok ∧ d.size = some m ∧ PlAt H a x ∧ PlAt H b y ∧ d.okp a ∧ d.okp b ∧ ∀ v H', Same H H' → OptAt H' (boundP d.places d.within a b) v → Q v H'
def spAll' : Sp := fun vs H Q _ => ∃ (p l : Addr) (d : SD) (u : Pl) (x : V) (us : List Pl) (xs : List V), vs = [.ref p, x, .ref l] ∧ ScAt S H d p ∧ d.kn = k ∧ d.depth ≤ n ∧ d.Ok ∧ PlAt H u x ∧ d.okp u ∧ H l = some (.lst xs) ∧ xs.length = us.length ∧ (∀ (i : Nat) y q, xs[i]? = some y → us[i]? = some q → PlAt H q y ∧ d.okp q) ∧ ∀ H', Same H H' → Q (.bl (us.all fun q => d.within u q)) H'
end
theorem SD.places_len : ∀ {d : SD} {m : Nat}, d.Ok → d.size = some m → d.places.length = m ∧ m ≤ 64
  | .leaf _ q, m, o, h => by
    obtain rfl : q.size = m := Option.some.inj h
    exact ⟨by simp [SD.places], o.2.most⟩
  | .tally _, m, _, h => by cases h
  | .turned i, m, o, h => SD.places_len (d := i) o.1 h
  | .pair l r, m, o, h => by
    cases hl : l.size with
    | none => simp [SD.size, hl] at h
    | some a =>
      cases hr : r.size with
      | none => simp [SD.size, hl, hr] at h
      | some b =>
        have e : a * b = m := by simpa [SD.size, hl, hr] using h
        have l1 := SD.places_len o.1 hl
        have r1 := SD.places_len o.2.1 hr
        have z : ∀ xs : List Pl, (xs.flatMap fun a => r.places.map fun b => Pl.p a b).length = xs.length * b := fun xs => by
          induction xs with
          | nil => simp
          | cons x xs ih => rw [List.flatMap_cons, List.length_append, ih, List.length_map, r1.1, List.length_cons, Nat.succ_mul, Nat.add_comm]
        exact ⟨by show (l.places.flatMap _).length = m; rw [z, l1.1]; exact e, by rw [← e]; exact o.2.2 a b hl hr⟩
theorem SD.places_ok : ∀ {d : SD} {u : Pl}, u ∈ d.places → d.okp u
  | .leaf _ q, u, h => by
    obtain ⟨i, hi, rfl⟩ := List.mem_map.mp h
    have := List.mem_range.mp hi
    exact ⟨by omega, by omega⟩
  | .tally _, u, h => by cases h
  | .turned i, u, h => SD.places_ok (d := i) h
  | .pair l r, u, h => by
    obtain ⟨a, ha, h2⟩ := List.mem_flatMap.mp h
    obtain ⟨b, hb, rfl⟩ := List.mem_map.mp h2
    exact ⟨SD.places_ok ha, SD.places_ok hb⟩
theorem leaf_of {S : SE} {H : Hp} {d : SD} {p : Addr} (h : ScAt S H d p) {kd : Kn} (hk : d.kn = kd) (lk : lkn kd = true) (o : d.Ok) : ∃ m, d = .leaf kd m := by
  subst hk
  cases d with
  | leaf k m => exact ⟨m, rfl⟩
  | turned i => exact absurd lk (show ¬ lkn Kn.turn = true by decide)
  | pair l r => exact absurd lk (show ¬ lkn Kn.pair = true by decide)
  | tally q => rcases o with o | o | o <;> (subst o; exact absurd lk (show ¬ _ = true by decide))
section
variable (S : SE) (CU : Addr) (k : Kn) (n : Nat)
def spAtNm : Sp := fun vs H Q E => ∃ (p : Addr) (d : SD) (z : Str), vs = [.ref p, .str z] ∧ ScAt S H d p ∧ d.kn = k ∧ d.depth ≤ n ∧ d.Ok ∧ z.length ≤ 100000 ∧
  ((∃ a, d.find z = some a ∧ ∀ v H', Same H H' → PlAt H' a v → Q v H') ∨ (d.find z = none ∧ ∀ d' H', Same H H' → H' d' = none → E (.ref CU) (some d') (upd H' d' (.xd [("name", .str z)]))))
end
/-- what every class of own, finite scales needs -/
structure LeCls (K : PySem.W.Frag) (S : SE) (kd : Kn) : Prop where
  sc : SCls K (S.cls kd)
  lk : lkn kd = true
  names : NoAttr K (S.cls kd) "_names"
  found : NoAttr K (S.cls kd) "_found"
/-! ### tallies -/
theorem pe_mk0 {X : Cx} {k j : Nat} {C : Addr} {x : Str} {sp : Sp} {p pos : Pos} (c : Mak X.prog X.w X.K X.mg X.base CX0 k x C sp) (hr : Room j X.A) (hk : k + 1 ≤ j) (hg : Gl X x) (hdb : (x == ("__debug__" : Str)) = false := by decide) : PE X (.Call (.Name x p) [] [] pos) (tMake C sp [] E0 tNil) := by
  obtain ⟨f, fd, ps, M, F, hm, b⟩ := c.ex
  exact pe_make0 M F (hr.mono hk) hg hm b .nil pass0 hdb
structure TaCls (K : PySem.W.Frag) (S : SE) (kd : Kn) : Prop where
  sc : SCls K (S.cls kd)
def talW (o : Str) : Str := Str.empty ++ "(tally " ++ o ++ ")"
def talFs (o : Str) : List (Str × V) := putF "depth" (.int 1) (putF "one_at" (.int 1) (putF "zero_at" (.int 0) (putF "size" .non (putF "label" (.str (talW o)) []))))
def spTalInit (K : PySem.W.Frag) : Sp := fun vs H Q _ => ∃ (p C dx : Addr) (o : Str), vs = [.ref p, .str o] ∧ o.length ≤ 100 ∧ SCls K C ∧ H p = some (.ins C dx []) ∧ Q .non (upd H p (.ins C dx (talFs o)))
def spExInit (K : PySem.W.Frag) (C : Addr) (o : Str) : Sp := fun vs H Q _ => ∃ (p dx : Addr), vs = [.ref p] ∧ H p = some (.ins C dx []) ∧ Q .non (upd H p (.ins C dx (talFs o)))
theorem tm_tally (k : Kn) (c : Nat) : (SD.tally k).tm c = .n (c : Int) := by
  unfold SD.tm
  have g : ∀ i : Nat, Nat.repeat (fun x => (SD.tally k).sum x (SD.tally k).one) i (SD.tally k).one = .n ((i : Int) + 1) := fun i => by
    induction i with
    | zero => rfl
    | succ i ih =>
      rw [Nat.repeat, ih]
      show Pl.n ((i : Int) + 1 + 1) = Pl.n (((i + 1 : Nat) : Int) + 1)
      rw [Int.natCast_add]; rfl
  by_cases h : c = 0
  · subst h; rfl
  · rw [if_neg h, g]; congr 1; omega
theorem tal_none {m o : Str} (h : ["label", "size", "zero_at", "one_at", "depth"].all (fun f => decide (m ≠ Str.ofString f)) = true) : fld (talFs o) m = none := by
  simp only [List.all_cons, List.all_nil, Bool.and_true, Bool.and_eq_true, decide_eq_true_eq] at h
  obtain ⟨h2, h3, h4, h5, h6⟩ := h
  unfold talFs
  rw [fld_put, if_neg h6, fld_put, if_neg h5, fld_put, if_neg h4, fld_put, if_neg h3, fld_put, if_neg h2]
  rfl
theorem tal_m : ∀ m ∈ mnames, (["label", "size", "zero_at", "one_at", "depth"].all (fun f => decide (m ≠ Str.ofString f)) = true) := by decide +kernel
theorem tal_hd {H : Hp} {k : Kn} {o : Str} (e : (SD.tally k).label = talW o) : ScHd H (talFs o) (.tally k) := by
  refine ⟨?_, ?_, ⟨.int 0, ?_, rfl⟩, ⟨.int 1, ?_, rfl⟩, ?_, fun m hm => tal_none (tal_m m hm)⟩
  all_goals
    unfold talFs
    repeat (first | rw [fld_put, if_pos rfl] | rw [fld_put, if_neg (by decide +kernel)])
  · rw [e]
  · rfl
  · rfl
section
variable {P : Program} {w : World} {K : PySem.W.Frag} {mg : Str → Option Value} {base : Heap} {S : SE} {n : Nat} {C : Addr}
theorem sc_Tally___init__ : FnScope ["self", "order"] ["self", "order"] (defScope (inClass (top 19) 0)) := ⟨rfl, rfl, rfl, by decide +kernel, rfl, by decide +kernel, by decide +kernel⟩
theorem st_Tally___init__ (v0 v1 : V) : L2.start ["self", "order"] [v0, v1] = [some v0, some v1] := rfl
theorem ok_tal_init {f : Addr} {fd : FuncData} (F : Fun K "__init__" "Tally.__init__" (inClass (top 19) 0) f fd) (cf_Scale___init__ : CFB P w K mg base CX0 1 "Scale" "__init__" (spScaleInit K)) : FnOk P w K mg base CX0 2 f fd ["self", "order"] (spTalInit K) := by
  refine F.ok sc_Tally___init__ (fun vs H Q E h => ?_) (fun cdv A outer s H vs Q E hr h => ?_)
  · obtain ⟨p, C, dx, o, rfl, _⟩ := h
    rfl
  · obtain ⟨p, C, dx, o, rfl, lo, SC, hp, k⟩ := h
    refine ⟨_, (pss_one (ps_expr (pe_cf cf_Scale___init__ hr (by decide) (by rfl) (pa_cons (pv 0) (pa_cons (pe_joined (PJ.cons pe_str (PJ.cons (pe_fmt (pv 1)) (PJ.cons pe_str PJ.nil)))) (pa_cons pe_non (pa_cons pe_int (pa_cons pe_int (pa_cons pe_int pa_nil))))))))), ?_⟩
    rw [st_Tally___init__]
    have w0 := V.Hw.start (H := H)
    have z1 : ("(tally " : Str).length = 7 := by decide +kernel
    have z0 : (Str.empty : Str).length = 0 := by decide +kernel
    have z2 : (")" : Str).length = 1 := by decide +kernel
    repeat walk_at "w"
    exact ⟨p, C, dx, [], _, .non, .int 0, .int 1, 1, rfl, by decide, SC, hp, by decide, k⟩
theorem sc_ExactTally___init__ : FnScope ["self"] ["self"] (defScope (inClass (top 20) 0)) := ⟨rfl, rfl, rfl, by decide +kernel, rfl, by decide +kernel, by decide +kernel⟩
theorem st_ExactTally___init__ (v0 : V) : L2.start ["self"] [v0] = [some v0] := rfl
theorem ok_ex_init {f : Addr} {fd : FuncData} (F : Fun K "__init__" "ExactTally.__init__" (inClass (top 20) 0) f fd) (SC : SCls K C) (cf_Tally___init__ : CFB P w K mg base CX0 2 "Tally" "__init__" (spTalInit K)) : FnOk P w K mg base CX0 3 f fd ["self"] (spExInit K C "same") := by
  refine F.ok sc_ExactTally___init__ (fun vs H Q E h => ?_) (fun cdv A outer s H vs Q E hr h => ?_)
  · obtain ⟨p, dx, rfl, _⟩ := h
    rfl
  · obtain ⟨p, dx, rfl, hp, k⟩ := h
    refine ⟨_, (pss_one (ps_expr (pe_cf cf_Tally___init__ hr (by decide) (by rfl) (pa_cons (pv 0) (pa_cons pe_str pa_nil))))), ?_⟩
    rw [st_ExactTally___init__]
    have w0 := V.Hw.start (H := H)
    repeat walk_at "w"
    refine ⟨p, C, dx, "same", rfl, by decide +kernel, SC, hp, ?_⟩
    repeat walk_at "w"
    exact k
theorem sc_Tally_times_at : FnScope ["self", "count"] ["self", "count"] (defScope (inClass (top 19) 6)) := ⟨rfl, rfl, rfl, by decide +kernel, rfl, by decide +kernel, by decide +kernel⟩
theorem st_Tally_times_at (v0 v1 : V) : L2.start ["self", "count"] [v0, v1] = [some v0, some v1] := rfl
theorem ok_tal_times {f : Addr} {fd : FuncData} {kd : Kn} (F : Fun K "times_at" "Tally.times_at" (inClass (top 19) 6) f fd) (hk : kd = .ex ∨ kd = .most ∨ kd = .least) : FnOk P w K mg base CX0 1 f fd ["self", "count"] (spTm S kd n) := by
  refine F.ok sc_Tally_times_at (fun vs H Q E h => ?_) (fun cdv A outer s H vs Q E hr h => ?_)
  · obtain ⟨p, d, c, rfl, _⟩ := h
    rfl
  · obtain ⟨p, d, c, rfl, hs, e, hd, ho, k⟩ := h
    obtain ⟨q, rfl⟩ : ∃ q, d = .tally q := by
      cases d with
      | tally q => exact ⟨q, rfl⟩
      | leaf q m => have l : lkn q = true := ho.1; have e : q = kd := e; subst e; rcases hk with r | r | r <;> (subst r; exact absurd l (by decide))
      | pair l r => have e : Kn.pair = kd := e; subst e; rcases hk with r | r | r <;> cases r
      | turned i => have e : Kn.turn = kd := e; subst e; rcases hk with r | r | r <;> cases r
    refine ⟨_, (pss_one (ps_ret (pv 1))), ?_⟩
    rw [st_Tally_times_at]
    have w0 := V.Hw.start (H := H)
    repeat walk_at "w"
    exact k _ H w0.fr (by rw [tm_tally]; rfl)
end
section
variable {S : SE} {K : PySem.W.Frag} {Z H : Hp} {so : Option (Addr × Addr)} {L : V.Cells} {Q : VK} {E : XK} {kd : Kn} {o : Str}
theorem w_tal (w : V.Hw Z so H L) (e : (SD.tally kd).label = talW o) (pU : S.pr kd = true) (k : ∀ p Z' H', V.Hw Z' so H' L → Same Z Z' → ScAt S Z' (.tally kd) p → H p = none → Q (.ref p) H') : V.gMk (S.cls kd) (spExInit K (S.cls kd) o) [] E Q [] H := by
  intro x dx nx ndx ne
  refine ⟨x, dx, rfl, upd_same, rfl, ?_⟩
  rw [upd_upd]
  have sC : Same H (upd (upd H dx (.own x)) x (.ins (S.cls kd) dx (talFs o))) := fun b o e => by rw [upd_ne (ne_of_none e nx), upd_ne (ne_of_none e ndx)]; exact e
  obtain ⟨Z', w', e', new'⟩ := w.callNew sC
  exact k x Z' _ w' e' ⟨dx, talFs o, new' _ _ nx upd_same, pU, tal_hd e⟩ nx
end
open Dec
/-! ### numbers in decimal, by blocks -/
structure TxD (K : PySem.W.Frag) (mg : Str → Option Value) : Prop extends TxL K mg where
  g_BLOCK : ∃ u, mg "BLOCK" = some u ∧ RelV (.int 1000000000000000000000000000000000000000000000000000000000000) u
  g_FIGURES : ∃ u, mg "FIGURES" = some u ∧ RelV (.int 60) u
  divmod : mg "divmod" = none
/-- ten to the sixtieth -/
def bk : Nat := 1000000000000000000000000000000000000000000000000000000000000
theorem bk_eq : bk = 10 ^ 60 := by decide +kernel
theorem log_small {n : Nat} (h : n < bk) : ((n : Int)).natAbs.log2 < 1920 := by
  have h2 : n < 2 ^ 200 := Nat.lt_trans h (by decide +kernel)
  by_cases z : n = 0
  · subst z; decide
  · exact Nat.lt_trans ((Nat.log2_lt z).mpr h2) (by decide)
theorem len_tl (x : Str) : (TL.tl x).length = x.length := by
  show x.cps.toList.length = x.cps.size
  simp
theorem len_num (n : Nat) : (num (n : Int)).length = (ds n).length := by rw [← len_tl, tl_num]
theorem tl_zfill {b : Nat} (h : b < bk) : TL.tl (Txt.zfill (num (b : Int)) 60) = pad 60 b := by
  rw [bk_eq] at h
  obtain ⟨l, e⟩ := pad_eq 60 b (by decide) h
  have ln := len_num b
  have hd : ∀ c ∈ ds b, c ≠ 43 ∧ c ≠ 45 := fun c hc => by have := ds_digits b c hc; omega
  unfold Txt.zfill
  rw [e]
  by_cases q : (60 : Int) ≤ (num (b : Int)).length
  · rw [if_pos q, tl_num, show 60 - (ds b).length = 0 by omega]; rfl
  · rw [if_neg q]
    have z : ∀ n, zfilled (num (b : Int)) n = Builtin.Str.padded (num (b : Int)) n 0 48 := fun n => by
      unfold zfilled
      split
      · rename_i h; exact absurd rfl (hd 43 (by rw [← tl_num]; exact Array.mem_toList_iff.mpr (Array.mem_of_getElem? h))).1
      · rename_i h; exact absurd rfl (hd 45 (by rw [← tl_num]; exact Array.mem_toList_iff.mpr (Array.mem_of_getElem? h))).2
      · rfl
    rw [z]
    show (Array.replicate _ 48 ++ (num (b : Int)).cps ++ Array.replicate 0 48).toList = _
    rw [Array.toList_append, Array.toList_append, Array.toList_replicate, Array.toList_replicate]
    show List.replicate _ 48 ++ TL.tl (num (b : Int)) ++ [] = _
    rw [tl_num, List.append_nil, ln]; rfl
theorem joinL_nil : ∀ ys : List (List Nat), TL.joinL [] ys = ys.flatten
  | [] => rfl
  | [p] => by simp [TL.joinL]
  | p :: q :: r => by rw [TL.joinL, joinL_nil (q :: r), List.nil_append]; rfl
theorem tl_cat (ys : List Str) : TL.tl (Txt.join ("" : Str) ys) = (ys.map TL.tl).flatten := by
  rw [TL.join_eq, TL.tl_join]
  exact joinL_nil _
theorem tl_inj2 {a b : Str} (h : TL.tl a = TL.tl b) : a = b := by
  cases a with | mk x => cases b with | mk y =>
  have := congrArg List.toArray h
  have z : x = y := by simpa using this
  rw [z]
def spInDec : Sp := fun vs H Q _ => ∃ n : Nat, vs = [.int (n : Int)] ∧ n < bk ^ 100 ∧ ∀ H', Same H H' → Q (.str (num (n : Int))) H'
section
variable {P : Program} {w : World} {K : PySem.W.Frag} {mg : Str → Option Value} {base : Heap}
theorem sc_in_decimal : FnScope ["number", "rest", "blocks", "block"] ["number"] (defScope (top 7)) := ⟨rfl, rfl, rfl, by decide +kernel, rfl, by decide +kernel, by decide +kernel⟩
theorem st_in_decimal (v0 : V) : L2.start ["number", "rest", "blocks", "block"] [v0] = [some v0, none, none, none] := rfl
theorem ok_in_dec {f : Addr} {fd : FuncData} (F : Fun K "in_decimal" "in_decimal" (top 7) f fd) (T : TxD K mg) : FnOk P w K mg base CX0 1 f fd ["number"] spInDec := by
  refine F.ok sc_in_decimal (fun vs H Q E h => ?_) (fun cdv A outer s H vs Q E hr h => ?_)
  · obtain ⟨n, rfl, _⟩ := h
    rfl
  · obtain ⟨n, rfl, hn, k⟩ := h
    refine ⟨_, (pss_cons (ps_set (i := 1) sc_in_decimal.nd rfl (Or.inl rfl) (pv 0))
      (pss_cons (ps_set (i := 2) sc_in_decimal.nd rfl (Or.inl rfl) (pe_lst pa_nil))
      (pss_cons (ps_while PassesOwn.never (pt_cmpR op_ge (pv 1) (pe_gx (by rfl) T.g_BLOCK) (nomark _)) (pss_cons (ps_asg (pe_callB call_divmodW (by rfl) T.divmod (by decide +kernel) (pa_cons (pv 1) (pa_cons (pe_gx (by rfl) T.g_BLOCK) pa_nil))) (pg_tup rfl (pgs_cons (pg_name (i := 1) sc_in_decimal.nd rfl (Or.inl rfl)) (pgs_cons (pg_name (i := 3) sc_in_decimal.nd rfl (Or.inl rfl)) pgs_nil))))
      (pss_one (ps_expr (pe_bm PySem.F.plainAttrs_list PySem.F.slot_list_append PySem.F.type_list_append mt_append (pv 2) (pa_cons (pe_bm PySem.F.plainAttrs_str PySem.F.slot_str_zfill PySem.F.type_str_zfill mt_zfill (pe_callTy V.call_str (by rfl) T.str (by decide +kernel) (pa_cons (pv 3) pa_nil)) (pa_cons (pe_gx (by rfl) T.g_FIGURES) pa_nil)) pa_nil))))))
      (pss_cons (ps_expr (pe_bm PySem.F.plainAttrs_list PySem.F.slot_list_append PySem.F.type_list_append mt_append (pv 2) (pa_cons (pe_callTy V.call_str (by rfl) T.str (by decide +kernel) (pa_cons (pv 1) pa_nil)) pa_nil)))
      (pss_one (ps_ret (V.pe_join K rfl pe_str (pe_revL (pv 2))))))))), ?_⟩
    rw [st_in_decimal]
    have w0 := V.Hw.start (H := H)
    repeat walk_at "w"
    intro bl H1 _ w1
    repeat walk_at "w"
    have big : (1000000000000000000000000000000000000000000000000000000000000 : Int) = (bk : Int) := rfl
    have bk1 : 1 < bk := by decide
    rw [big]
    have fin : ∀ (r : Nat) (bs : List Str), r * bk ^ bs.length ≤ n → 1 ≤ r ∨ bs = [] → bs.length < 100 := fun r bs l o => by
      rcases o with o | rfl
      · have l2 : bk ^ bs.length ≤ n := Nat.le_trans (Nat.le_mul_of_pos_left _ o) l
        exact (Nat.pow_lt_pow_iff_right bk1).mp (Nat.lt_of_le_of_lt l2 hn)
      · decide
    refine whileX (fun M σ H' => ∃ (r : Nat) (bs : List Str) (x : Option V), M = r ∧ σ = [some (.int (n : Int)), some (.int (r : Int)), some (.ref bl), x] ∧ V.Hw H none H' [(true, bl, .lst (bs.map V.str))] ∧ ds n = ds r ++ (bs.reverse.map TL.tl).flatten ∧ r * bk ^ bs.length ≤ n ∧ (1 ≤ r ∨ bs = []) ∧ ∀ z ∈ bs, z.length = 60)
      (fun σ H' => ∃ (r : Nat) (bs : List Str) (x : Option V), r < bk ∧ σ = [some (.int (n : Int)), some (.int (r : Int)), some (.ref bl), x] ∧ V.Hw H none H' [(true, bl, .lst (bs.map V.str))] ∧ ds n = ds r ++ (bs.reverse.map TL.tl).flatten ∧ bs.length < 100 ∧ ∀ z ∈ bs, z.length = 60)
      n ⟨n, [], none, rfl, rfl, w1, by simp, by simp, .inr rfl, by simp⟩ ?_ ?_
    · rintro σ H2 ⟨r, bs, x, hr1, rfl, w2, e, l, a⟩
      repeat walk_at "w"
      refine V.w_str (log_small hr1) ?_
      repeat walk_at "w"
      have lm : (bs.map V.str).length < sizeLine := by rw [List.length_map]; exact small1000 (by omega)
      repeat walk_at "w"
      intro H3 w3
      repeat walk_at "w"
      refine ⟨_, rfl, bl, _, rfl, SqL.of (w3.get .here), fun p np => ?_⟩
      have er : (bs.map V.str ++ [V.str (num (r : Int))]).reverse = (num (r : Int) :: bs.reverse).map V.str := by simp [List.map_reverse]
      rw [er]
      have w4 := w3.new (o := .lst ((num (r : Int) :: bs.reverse).map V.str)) np
      have l1 : (num (r : Int)).length ≤ 60 := by
        rw [len_num]
        have z := (pad_eq 60 r (by decide) (by rw [← bk_eq]; exact hr1)).1
        exact z
      have sm : ∀ ys : List Str, (∀ z ∈ ys, z.length = 60) → (ys.map (·.length)).sum = 60 * ys.length := fun ys => by
        induction ys with
        | nil => intro _; rfl
        | cons y ys ih => intro h; rw [List.map_cons, List.sum_cons, h y List.mem_cons_self, ih fun z hz => h z (List.mem_cons_of_mem _ hz), List.length_cons]; omega
      have s1 := sm bs.reverse fun z hz => a z (List.mem_reverse.mp hz)
      refine V.w_join (SqL.of (w4.get .here)) ?_ ?_
      · rw [List.map_cons, List.sum_cons, s1, List.length_cons, List.length_reverse, show ("" : Str).length = 0 by decide +kernel]; omega
      have ej : Txt.join ("" : Str) (num (r : Int) :: bs.reverse) = num (n : Int) := by
        refine tl_inj2 ?_
        rw [tl_cat, List.map_cons, List.flatten_cons, tl_num, tl_num, e]
      rw [ej]
      exact k _ w4.fr
    · rintro nx hnx M σ H2 ⟨r, bs, x, hM, rfl, w2, e, l, o, a⟩
      repeat walk_at "w"
      refine ifD (fun q => ?_) (fun q => ?_)
      · refine ⟨_, fun _ _ h => h, ?_⟩
        repeat walk_at "w"
        refine ⟨_, _, rfl, ⟨by decide, rfl⟩, fun p np => ?_⟩
        have e1 : (r : Int) / (bk : Int) = ((r / bk : Nat) : Int) := (Int.natCast_ediv r bk).symm
        have e2 : (r : Int) % (bk : Int) = ((r % bk : Nat) : Int) := (Int.natCast_emod r bk).symm
        rw [e1, e2]
        have w3 := w2.new (o := .tup [.int ((r / bk : Nat) : Int), .int ((r % bk : Nat) : Int)]) np
        generalize upd H2 p _ = H3 at w3
        have qr : bk ≤ r := by omega
        have r1 : 1 ≤ r / bk := Nat.div_pos qr (by decide)
        have b1 : r % bk < bk := Nat.mod_lt _ (by decide)
        have dm : r / bk * bk + r % bk = r := by rw [Nat.mul_comm]; exact Nat.div_add_mod r bk
        have lm : (bs.map V.str).length < sizeLine := by rw [List.length_map]; exact small1000 (by have := fin r bs l o; omega)
        repeat walk_at "w"
        refine V.w_str (log_small b1) ?_
        repeat walk_at "w"
        refine ⟨_, _, rfl, rfl, by decide, ?_⟩
        obtain ⟨zt, hzt⟩ : ∃ zt : Str, zt = Txt.zfill (num ((r % bk : Nat) : Int)) 60 := ⟨_, rfl⟩
        obtain ⟨pd, hpd⟩ : ∃ pd : List Nat, pd = pad 60 (r % bk) := ⟨_, rfl⟩
        have tz : TL.tl zt = pd := by rw [hzt, hpd]; exact tl_zfill b1
        have lz : zt.length = 60 := by rw [← len_tl, tz, hpd, pad_len]
        have eds : ds r = ds (r / bk) ++ pd := by
          have z := ds_pad r1 60 (r % bk) (by rw [← bk_eq]; exact b1)
          rw [← bk_eq, dm, ← hpd] at z
          exact z
        have ltr : r / bk < M := by rw [hM]; exact Nat.div_lt_self (by omega) bk1
        have lel : r / bk * bk ^ (bs.length + 1) ≤ n := by
          rw [Nat.pow_succ, Nat.mul_comm (bk ^ _) bk, ← Nat.mul_assoc]
          exact Nat.le_trans (Nat.mul_le_mul_right _ (Nat.div_mul_le_self r bk)) l
        rw [← hzt]
        clear hpd
        repeat walk_at "w"
        intro H4 w4
        repeat walk_at "w"
        refine ⟨r / bk, ltr, r / bk, bs ++ [zt], _, rfl, rfl, by rw [List.map_append]; exact w4.sub (.skip (.refl _)), ?_, by rw [List.length_append]; exact lel, .inl r1, ?_⟩
        · rw [e, eds, List.reverse_append, List.map_append, List.flatten_append, List.append_assoc]
          show _ = ds (r / bk) ++ ([TL.tl zt].flatten ++ _)
          rw [tz, List.flatten_singleton]
        · intro z hz
          rw [List.mem_append, List.mem_singleton] at hz
          rcases hz with hz | hz
          · exact a z hz
          · rw [hz]; exact lz
      · exact hnx _ _ ⟨r, bs, x, by omega, rfl, w2, e, fin r bs l o, a⟩
theorem dig_ascii : ∀ c < 128, Unicode.isDigit c = (decide (48 ≤ c) && decide (c ≤ 57)) := by decide +kernel
open PySem.NumText in
theorem all_digits {z : Str} (h1 : Txt.isascii z = true) (h2 : Txt.isdigit z = true) : AllDigits (TL.tl z) ∧ TL.tl z ≠ [] := by
  unfold Txt.isascii at h1
  unfold Txt.isdigit at h2
  rw [Bool.and_eq_true] at h2
  rw [Array.all_eq_true_iff_forall_mem] at h1
  have h3 := h2.2
  rw [Array.all_eq_true_iff_forall_mem] at h3
  refine ⟨fun c hc => ?_, fun e => ?_⟩
  · have m : c ∈ z.cps := Array.mem_toList_iff.mp hc
    have a := h1 c m
    have b := h3 c m
    rw [dig_ascii c (by simpa using a), Bool.and_eq_true, decide_eq_true_eq, decide_eq_true_eq] at b
    exact b
  · have l := len_tl z
    rw [e] at l
    have q := h2.1
    simp only [decide_eq_true_eq] at q
    simp only [List.length_nil] at l
    omega
open PySem.NumText in
theorem val_lt : ∀ {cs : List Nat}, AllDigits cs → digitsVal cs < 10 ^ cs.length := fun {cs} => by
  have g : ∀ (n : Nat) (cs : List Nat), cs.length = n → AllDigits cs → digitsVal cs < 10 ^ cs.length := fun n => by
    induction n with
    | zero =>
      intro cs h _
      obtain rfl := List.length_eq_zero_iff.mp h
      decide
    | succ n ih =>
      intro cs h a
      have ne : cs ≠ [] := fun e => by subst e; cases h
      have e := List.dropLast_concat_getLast ne
      have l : cs.dropLast.length = n := by rw [List.length_dropLast, h]; rfl
      have i := ih _ l fun c hc => a c (List.dropLast_subset cs hc)
      have d := a _ (List.getLast_mem ne)
      rw [← e, digitsVal_snoc, List.length_append, List.length_singleton, Nat.pow_succ]
      omega
  exact g _ cs rfl
open PySem.NumText in
theorem val_zero (xs : List Nat) : digitsVal (48 :: xs) = digitsVal xs := by
  unfold digitsVal
  rw [List.foldl_cons]
theorem cut_tl (z : Str) (lo hi : Option Int) : TL.tl (cutS z lo hi) = ((TL.tl z).drop (HT.sIx z.length 0 lo)).take (HT.sIx z.length z.length hi - HT.sIx z.length 0 lo) := by
  unfold cutS
  exact List.toList_toArray
theorem rg60 {m q : Nat} (hm : m < 60) (hq : q ≤ 100000) : RgC (m : Int) ((m + 60 * q : Nat) : Int) 60 q := by
  have e : Builtin.Range.rangeSize (m : Int) ((m + 60 * q : Nat) : Int) 60 = (q : Int) := by
    unfold Builtin.Range.rangeSize
    rw [if_pos (by decide)]
    by_cases h : (m : Int) < ((m + 60 * q : Nat) : Int)
    · rw [if_pos h]; omega
    · rw [if_neg h]; omega
  refine ⟨by decide, by decide, ?_, e⟩
  have fl : ∀ x : Int, -1000000000 < x → x < 1000000000 → Builtin.Range.rangeFitsLong x = true := fun x h1 h2 => by
    unfold Builtin.Range.rangeFitsLong
    simp only [Bool.and_eq_true, decide_eq_true_eq]
    omega
  unfold Builtin.Range.small
  rw [e, fl _ (by omega) (by omega), fl _ (by omega) (by omega), fl _ (by omega) (by omega), fl _ (by omega) (by omega)]
  rw [if_pos (show (60 : Int) > 0 by decide), fl _ (by omega) (by omega)]
  simp
open PySem.NumText in
/-- what a text in decimal says -/
def decV (z : Str) : Option Nat := if Txt.isascii z && Txt.isdigit z && !(Txt.startswith z "0" && !decide (z = "0")) then some (digitsVal (TL.tl z)) else none
def spFrD : Sp := fun vs H Q _ => ∃ z : Str, vs = [.str z] ∧ z.length ≤ 100000 ∧ ∀ H', Same H H' → Q (match decV z with | some n => .int (n : Int) | none => .non) H'
theorem sc_from_decimal : FnScope ["text", "first", "number", "at"] ["text"] (defScope (top 8)) := ⟨rfl, rfl, rfl, by decide +kernel, rfl, by decide +kernel, by decide +kernel⟩
theorem st_from_decimal (v0 : V) : L2.start ["text", "first", "number", "at"] [v0] = [some v0, none, none, none] := rfl
theorem ok_fr_dec {f : Addr} {fd : FuncData} (F : Fun K "from_decimal" "from_decimal" (top 8) f fd) (T : TxD K mg) : FnOk P w K mg base CX0 1 f fd ["text"] spFrD := by
  refine F.ok sc_from_decimal (fun vs H Q E h => ?_) (fun cdv A outer s H vs Q E hr h => ?_)
  · obtain ⟨z, rfl, _⟩ := h
    rfl
  · obtain ⟨z, rfl, lz, k⟩ := h
    refine ⟨_, (pss_cons (ps_if (PW.pt (pw_or (pt_not (pt_val (pe_bm0 PySem.F.plainAttrs_str PySem.F.slot_str_isascii PySem.F.type_str_isascii mt_isascii (pv 0)))) (pw_or (pt_not (pt_val (pe_bm0 PySem.F.plainAttrs_str PySem.F.slot_str_isdigit PySem.F.type_str_isdigit mt_isdigit (pv 0)))) (pw_or1 (PW.pt (pw_and (pt_val (pe_bm PySem.F.plainAttrs_str PySem.F.slot_str_startswith PySem.F.type_str_startswith mt_startswith (pv 0) (pa_cons pe_str pa_nil))) (pw_and1 (pt_cmpR op_ne (pv 0) pe_str (nomark _))))))))) (pss_one (ps_ret pe_non)) pss_nil)
      (pss_cons (ps_set (i := 1) sc_from_decimal.nd rfl (Or.inl rfl) (pe_op op_mod (pe_callB call_len_str (by rfl) T.len (by decide +kernel) (pa_cons (pv 0) pa_nil)) (pe_gx (by rfl) T.g_FIGURES)))
      (pss_cons (ps_set (i := 2) sc_from_decimal.nd rfl (Or.inl rfl) (pe_callTy call_int_str (by rfl) T.int (by decide +kernel) (pa_cons (pe_op V.op_addS pe_str (pe_slice sl_str (pv 0) po_none (po_some (pv 1)))) pa_nil)))
      (pss_cons (ps_for PassesOwn.never rfl (pi_range3 (by rfl) T.range (pa_cons (pv 1) (pa_cons (pe_callB call_len_str (by rfl) T.len (by decide +kernel) (pa_cons (pv 0) pa_nil)) (pa_cons (pe_gx (by rfl) T.g_FIGURES) pa_nil)))) (pg_name (i := 3) sc_from_decimal.nd rfl (Or.inl rfl)) (pss_one (ps_set (i := 2) sc_from_decimal.nd rfl (Or.inl rfl) (pe_op op_add (pe_op op_mulW (pv 2) (pe_gx (by rfl) T.g_BLOCK)) (pe_callTy call_int_str (by rfl) T.int (by decide +kernel) (pa_cons (pe_slice sl_str (pv 0) (po_some (pv 3)) (po_some (pe_op op_add (pv 3) (pe_gx (by rfl) T.g_FIGURES)))) pa_nil))))))
      (pss_one (ps_ret (pv 2))))))), ?_⟩
    rw [st_from_decimal]
    have w0 := V.Hw.start (H := H)
    repeat walk_at "w"
    refine ⟨_, rfl, rfl, trivial, ?_⟩
    have dn : decV z = none → ∀ H', Same H H' → Q .non H' := fun h H' s => by have := k H' s; rw [h] at this; exact this
    cases ha : Txt.isascii z with
    | false =>
      repeat walk_at "w"
      exact dn (by unfold decV; rw [ha]; rfl) _ w0.fr
    | true =>
      repeat walk_at "w"
      refine ⟨_, rfl, rfl, trivial, ?_⟩
      cases hd : Txt.isdigit z with
      | false =>
        repeat walk_at "w"
        exact dn (by unfold decV; rw [ha, hd]; rfl) _ w0.fr
      | true =>
        repeat walk_at "w"
        refine ⟨_, _, rfl, rfl, ?_⟩
        refine V.w_bl ?_
        by_cases hn : Txt.startswith z "0" = true ∧ z ≠ "0"
        · rw [hn.1]
          repeat walk_at "w"
          rw [decide_eq_false hn.2]
          repeat walk_at "w"
          exact dn (by unfold decV; rw [ha, hd, hn.1, decide_eq_false hn.2]; rfl) _ w0.fr
        obtain ⟨all, ne⟩ := all_digits ha hd
        have sp : Txt.startswith z "0" = false ∨ (Txt.startswith z "0" = true ∧ z = "0") := by
          cases hs : Txt.startswith z "0" with
          | false => exact .inl rfl
          | true => exact .inr ⟨rfl, Decidable.byContradiction fun e => hn ⟨hs, e⟩⟩
        have dv : decV z = some (PySem.NumText.digitsVal (TL.tl z)) := by
          unfold decV
          rw [ha, hd]
          rcases sp with hs | ⟨hs, ez⟩
          · rw [hs]; rfl
          · rw [hs, decide_eq_true ez]; rfl
        have kk : ∀ H', Same H H' → Q (.int ((PySem.NumText.digitsVal (TL.tl z) : Nat) : Int)) H' := fun H' s => by have := k H' s; rw [dv] at this; exact this
        have lt := len_tl z
        clear k dn dv hn
        obtain ⟨m, hm⟩ : ∃ m, m = z.length % 60 := ⟨_, rfl⟩
        obtain ⟨q, hq⟩ : ∃ q, q = z.length / 60 := ⟨_, rfl⟩
        have m60 : m < 60 := by omega
        have mq : m + 60 * q = z.length := by omega
        have em : (z.length : Int) % 60 = (m : Int) := by omega
        have lzs : z.length ≤ sizeLine := Nat.le_trans lz (by decide)
        rcases sp with hs | ⟨hs, ez⟩
        all_goals
          rw [hs]
          repeat walk_at "w"
          refine ⟨z, rfl, lzs, ?_⟩
          repeat walk_at "w"
          rw [em]
          repeat walk_at "w"
          refine ⟨z, rfl, lzs, ?_⟩
          have c0 : TL.tl (cutS z none (some (m : Int))) = (TL.tl z).take m := by rw [cut_tl, HT.sIx_none, HT.sIx_nat, List.drop_zero, Nat.sub_zero, Nat.min_eq_left (by omega)]
          have l0 : (cutS z none (some (m : Int))).length = m := by rw [← len_tl, c0, List.length_take, lt]; omega
          have l1 : ("0" : Str).length = 1 := by decide +kernel
          generalize cutS z none (some (m : Int)) = z0 at c0 l0
          repeat walk_at "w"
          have t0 : TL.tl ("0" ++ z0) = 48 :: (TL.tl z).take m := by
            rw [← c0]
            show (("0" : Str).cps ++ z0.cps).toList = _
            rw [Array.toList_append]; rfl
          have lz0 : ("0" ++ z0).length = m + 1 := by rw [← len_tl, t0, List.length_cons, List.length_take, lt]; omega
          have dg : ∀ j, PySem.NumText.AllDigits ((TL.tl z).take j) := fun j c hc => all c (List.mem_of_mem_take hc)
          have it0 : PySem.intText? ("0" ++ z0) = some ((PySem.NumText.digitsVal ((TL.tl z).take m) : Nat) : Int) := by
            have y := intText_digits (x := "0" ++ z0) (by show PySem.NumText.AllDigits (TL.tl ("0" ++ z0)); rw [t0]; intro c hc; rcases List.mem_cons.mp hc with e | e; (subst e; decide); exact dg m c e) (by show TL.tl ("0" ++ z0) ≠ []; rw [t0]; simp) (by omega)
            rw [y]
            show some ((PySem.NumText.digitsVal (TL.tl ("0" ++ z0)) : Nat) : Int) = _
            rw [t0, val_zero]
          refine ⟨_, _, rfl, it0, by omega, ?_⟩
          repeat walk_at "w"
          refine ⟨_, rfl, _, rfl, z, rfl, lzs, ?_⟩
          repeat walk_at "w"
          have elz : (z.length : Int) = ((m + 60 * q : Nat) : Int) := by omega
          rw [elz]
          refine ⟨_, _, _, q, rfl, rg60 m60 (by omega), ?_⟩
          refine for_rangeC (n := q) (fun i σ H' => ∃ x, σ = [some (.str z), some (.int (m : Int)), some (.int ((PySem.NumText.digitsVal ((TL.tl z).take (m + 60 * i)) : Nat) : Int)), x] ∧ V.Hw H none H' []) ⟨_, rfl, w0⟩ ?_ ?_
          · rintro i σ H2 hi ⟨x, rfl, w2⟩
            have ea : (m : Int) + (i : Int) * 60 = ((m + 60 * i : Nat) : Int) := by omega
            have eb : ((m + 60 * i : Nat) : Int) + 60 = ((m + 60 * i + 60 : Nat) : Int) := by omega
            rw [ea]
            have lc : m + 60 * i + 60 ≤ z.length := by omega
            obtain ⟨y, hy⟩ : ∃ y, y = PySem.NumText.digitsVal ((TL.tl z).take (m + 60 * i)) := ⟨_, rfl⟩
            have yl : y < 2 ^ 400000 := by
              have v := val_lt (dg (m + 60 * i))
              rw [← hy, List.length_take, lt, Nat.min_eq_left (by omega)] at v
              refine Nat.lt_of_lt_of_le v (Nat.le_trans (Nat.pow_le_pow_left (show 10 ≤ 2 ^ 4 by decide) _) ?_)
              rw [← Nat.pow_mul]
              exact Nat.pow_le_pow_right (by decide) (by omega)
            have cm : CMulW (y : Int) 1000000000000000000000000000000000000000000000000000000000000 := wide_mul (a := 400000) (b := 200) yl (by decide +kernel) (by decide) (by decide) (by decide)
            clear yl
            have c1 : TL.tl (cutS z (some ((m + 60 * i : Nat) : Int)) (some ((m + 60 * i + 60 : Nat) : Int))) = ((TL.tl z).drop (m + 60 * i)).take 60 := by
              rw [cut_tl, HT.sIx_nat, HT.sIx_nat, Nat.min_eq_left (by omega), Nat.min_eq_left (by omega)]
              congr 1; omega
            have tk : (TL.tl z).take (m + 60 * (i + 1)) = (TL.tl z).take (m + 60 * i) ++ ((TL.tl z).drop (m + 60 * i)).take 60 := by
              rw [show m + 60 * (i + 1) = m + 60 * i + 60 by omega, List.take_add]
            have l2 : (((TL.tl z).drop (m + 60 * i)).take 60).length = 60 := by rw [List.length_take, List.length_drop, lt]; omega
            have vv : PySem.NumText.digitsVal ((TL.tl z).take (m + 60 * (i + 1))) = y * bk + PySem.NumText.digitsVal (((TL.tl z).drop (m + 60 * i)).take 60) := by rw [tk, val_app, l2, ← hy, bk_eq]
            have dg2 : PySem.NumText.AllDigits (((TL.tl z).drop (m + 60 * i)).take 60) := fun c hc => all c (List.mem_of_mem_drop (List.mem_of_mem_take hc))
            rw [vv, ← hy]
            repeat walk_at "w"
            rw [eb]
            repeat walk_at "w"
            refine ⟨z, rfl, lzs, ?_⟩
            have lcut : (cutS z (some ((m + 60 * i : Nat) : Int)) (some ((m + 60 * i + 60 : Nat) : Int))).length = 60 := by rw [← len_tl, c1, l2]
            generalize cutS z (some ((m + 60 * i : Nat) : Int)) (some ((m + 60 * i + 60 : Nat) : Int)) = zc at c1 lcut
            have it1 : PySem.intText? zc = some ((PySem.NumText.digitsVal (((TL.tl z).drop (m + 60 * i)).take 60) : Nat) : Int) := by
              have y := intText_digits (x := zc) (by show PySem.NumText.AllDigits (TL.tl zc); rw [c1]; exact dg2) (by show TL.tl zc ≠ []; rw [c1]; intro e; rw [e] at l2; cases l2) (by omega)
              rw [y]
              show some ((PySem.NumText.digitsVal (TL.tl zc) : Nat) : Int) = _
              rw [c1]
            repeat walk_at "w"
            refine ⟨_, _, rfl, it1, by omega, ?_⟩
            repeat walk_at "w"
            refine ⟨some (.int ((m + 60 * i : Nat) : Int)), ?_, w2⟩
            rw [Int.natCast_add, Int.natCast_mul]; rfl
          · rintro σ H2 ⟨x, rfl, w2⟩
            repeat walk_at "w"
            have e : (TL.tl z).take (m + 60 * q) = TL.tl z := List.take_of_length_le (by rw [lt]; omega)
            rw [e]
            exact kk _ w2.fr
end
def mxI (a b : Int) : Int := if b ≤ a then a else b
def spI2 (g : Int → Int → Int) : Sp := fun vs H Q _ => ∃ a b : Int, vs = [.int a, .int b] ∧ Q (.int (g a b)) H
section
variable {P : Program} {w : World} {K : PySem.W.Frag} {mg : Str → Option Value} {base : Heap} {C : Addr}
theorem sc_greater : FnScope ["first", "second"] ["first", "second"] (defScope (top 4)) := ⟨rfl, rfl, rfl, by decide +kernel, rfl, by decide +kernel, by decide +kernel⟩
theorem ok_greater {f : Addr} {fd : FuncData} (F : Fun K "greater" "greater" (top 4) f fd) : FnOk P w K mg base CX0 1 f fd ["first", "second"] (spI2 mxI) := by
  refine F.ok sc_greater (fun vs H Q E h => ?_) (fun cdv A outer s H vs Q E hr h => ?_)
  · obtain ⟨a, b, rfl, _⟩ := h
    rfl
  · obtain ⟨a, b, rfl, k⟩ := h
    refine ⟨_, (pss_one (ps_ret (pe_ifExp (pt_cmpR op_ge (pv 0) (pv 1) (nomark _)) (pv 0) (pv 1)))), ?_⟩
    refine ⟨_, rfl, _, rfl, _, _, rfl, rfl, _, rfl, ?_⟩
    unfold mxI at k
    refine ifD (fun e => ?_) (fun e => ?_)
    · rw [if_pos e] at k; exact ⟨_, rfl, k⟩
    · rw [if_neg e] at k; exact ⟨_, rfl, k⟩
end
/-! ### pairs: their sums, products, order, bounds -/
theorem pair_of {d : SD} (hk : d.kn = .pair) (ho : d.Ok) : ∃ l r, d = .pair l r := by
  cases d with
  | pair l r => exact ⟨l, r, rfl⟩
  | leaf k m => have hk : k = .pair := hk; subst hk; exact absurd ho.1 (by decide)
  | tally c => have hk : c = .pair := hk; subst hk; rcases ho with o | o | o <;> cases o
  | turned i => cases hk
def mnI (a b : Int) : Int := if a ≤ b then a else b
/-- the least bound as the scale finds it -/
def SD.bnd : SD → Pl → Pl → Option Pl
  | .leaf k m, a, b => boundP (SD.leaf k m).places (SD.leaf k m).within a b
  | .tally k, .n a, .n b => if k = .ex then (if a = b then some (.n a) else none) else if k = .most then some (.n (mxI a b)) else some (.n (mnI a b))
  | .pair l r, .p a b, .p c d => match l.bnd a c, r.bnd b d with
    | some x, some y => some (.p x y)
    | _, _ => none
  | .turned i, a, b => boundP i.places (fun x y => i.within y x) a b
  | _, _, _ => none
section
variable (S : SE) (k : Kn) (n : Nat)
def spBnd : Sp := fun vs H Q _ => ∃ (p : Addr) (d : SD) (a b : Pl) (x y : V), vs = [.ref p, x, y] ∧ ScAt S H d p ∧ d.kn = k ∧ d.depth ≤ n ∧ d.Ok ∧ PlAt H a x ∧ PlAt H b y ∧ d.okp a ∧ d.okp b ∧ ∀ v H', Same H H' → OptAt H' (d.bnd a b) v → Q v H'
end
def bothP : Option Pl → Option Pl → Option Pl
  | some x, some y => some (.p x y)
  | _, _ => none
def spBoth : Sp := fun vs H Q _ => ∃ (a b : Option Pl) (x y : V), vs = [x, y] ∧ OptAt H a x ∧ OptAt H b y ∧ ∀ v H', Same H H' → OptAt H' (bothP a b) v → Q v H'
theorem PlAt.ne {H : Hp} {a : Pl} {v : V} (h : PlAt H a v) : v ≠ .non := by
  cases a with
  | n i => have h : v = .int i := h; subst h; intro e; cases e
  | p a b => obtain ⟨q, x, y, rfl, _⟩ := h; intro e; cases e
section
variable {P : Program} {w : World} {K : PySem.W.Frag} {mg : Str → Option Value} {base : Heap} {S : SE} {n j : Nat}
end
/-! ### tallies: sums, products, order, bounds, names -/
theorem tally_of {d : SD} {kd : Kn} (hk : d.kn = kd) (ho : d.Ok) (h : kd = .ex ∨ kd = .most ∨ kd = .least) : d = .tally kd := by
  cases d with
  | tally q => have e : q = kd := hk; rw [e]
  | leaf q m => have l : lkn q = true := ho.1; have e : q = kd := hk; subst e; rcases h with r | r | r <;> (subst r; exact absurd l (by decide))
  | pair l r => have e : Kn.pair = kd := hk; subst e; rcases h with r | r | r <;> cases r
  | turned i => have e : Kn.turn = kd := hk; subst e; rcases h with r | r | r <;> cases r
/-- every number of a place lies below two to the power of n -/
def Pl.bits (n : Nat) : Pl → Prop
  | .n i => i.natAbs < 2 ^ n
  | .p a b => a.bits n ∧ b.bits n
section
variable (S : SE) (k : Kn) (n : Nat)
/-- products, of numbers that are not too great -/
def spProdB : Sp := fun vs H Q _ => ∃ (p : Addr) (d : SD) (a b : Pl) (x y : V), vs = [.ref p, x, y] ∧ ScAt S H d p ∧ d.kn = k ∧ d.depth ≤ n ∧ d.Ok ∧ PlAt H a x ∧ PlAt H b y ∧ d.okp a ∧ d.okp b ∧ a.bits 400000 ∧ b.bits 400000 ∧ ∀ v H', Same H H' → PlAt H' (d.prod a b) v → Q v H'
/-- names, of numbers that are not too great -/
def spNmB : Sp := fun vs H Q _ => ∃ (p : Addr) (d : SD) (a : Pl) (x : V), vs = [.ref p, x] ∧ ScAt S H d p ∧ d.kn = k ∧ d.depth ≤ n ∧ d.Ok ∧ PlAt H a x ∧ d.okp a ∧ a.bits 19000 ∧ ∀ H', Same H H' → Q (.str (d.nm a)) H'
end
theorem bits_bk {a : Nat} (h : (a : Int).natAbs < 2 ^ 19000) : a < bk ^ 100 := by
  have e : (2 : Nat) ^ 19000 ≤ bk ^ 100 := by
    rw [show (19000 : Nat) = 190 * 100 by decide, Nat.pow_mul]
    exact Nat.pow_le_pow_left (by decide +kernel) _
  exact Nat.lt_of_lt_of_le h e
section
variable {P : Program} {w : World} {K : PySem.W.Frag} {mg : Str → Option Value} {base : Heap} {S : SE} {n : Nat} {C : Addr} {kd : Kn}
theorem sc_MostTally___init__ : FnScope ["self"] ["self"] (defScope (inClass (top 21) 0)) := ⟨rfl, rfl, rfl, by decide +kernel, rfl, by decide +kernel, by decide +kernel⟩
theorem st_MostTally___init__ (v0 : V) : L2.start ["self"] [v0] = [some v0] := rfl
theorem ok_most_init {f : Addr} {fd : FuncData} (F : Fun K "__init__" "MostTally.__init__" (inClass (top 21) 0) f fd) (SC : SCls K C) (cf_Tally___init__ : CFB P w K mg base CX0 2 "Tally" "__init__" (spTalInit K)) : FnOk P w K mg base CX0 3 f fd ["self"] (spExInit K C "up") := by
  refine F.ok sc_MostTally___init__ (fun vs H Q E h => ?_) (fun cdv A outer s H vs Q E hr h => ?_)
  · obtain ⟨p, dx, rfl, _⟩ := h
    rfl
  · obtain ⟨p, dx, rfl, hp, k⟩ := h
    refine ⟨_, (pss_one (ps_expr (pe_cf cf_Tally___init__ hr (by decide) (by rfl) (pa_cons (pv 0) (pa_cons pe_str pa_nil))))), ?_⟩
    rw [st_MostTally___init__]
    have w0 := V.Hw.start (H := H)
    repeat walk_at "w"
    refine ⟨p, C, dx, "up", rfl, by decide +kernel, SC, hp, ?_⟩
    repeat walk_at "w"
    exact k
theorem sc_LeastTally___init__ : FnScope ["self"] ["self"] (defScope (inClass (top 22) 0)) := ⟨rfl, rfl, rfl, by decide +kernel, rfl, by decide +kernel, by decide +kernel⟩
theorem st_LeastTally___init__ (v0 : V) : L2.start ["self"] [v0] = [some v0] := rfl
theorem ok_least_init {f : Addr} {fd : FuncData} (F : Fun K "__init__" "LeastTally.__init__" (inClass (top 22) 0) f fd) (SC : SCls K C) (cf_Tally___init__ : CFB P w K mg base CX0 2 "Tally" "__init__" (spTalInit K)) : FnOk P w K mg base CX0 3 f fd ["self"] (spExInit K C "down") := by
  refine F.ok sc_LeastTally___init__ (fun vs H Q E h => ?_) (fun cdv A outer s H vs Q E hr h => ?_)
  · obtain ⟨p, dx, rfl, _⟩ := h
    rfl
  · obtain ⟨p, dx, rfl, hp, k⟩ := h
    refine ⟨_, (pss_one (ps_expr (pe_cf cf_Tally___init__ hr (by decide) (by rfl) (pa_cons (pv 0) (pa_cons pe_str pa_nil))))), ?_⟩
    rw [st_LeastTally___init__]
    have w0 := V.Hw.start (H := H)
    repeat walk_at "w"
    refine ⟨p, C, dx, "down", rfl, by decide +kernel, SC, hp, ?_⟩
    repeat walk_at "w"
    exact k
theorem sc_Tally_sum_at : FnScope ["self", "first", "second"] ["self", "first", "second"] (defScope (inClass (top 19) 2)) := ⟨rfl, rfl, rfl, by decide +kernel, rfl, by decide +kernel, by decide +kernel⟩
theorem st_Tally_sum_at (v0 v1 v2 : V) : L2.start ["self", "first", "second"] [v0, v1, v2] = [some v0, some v1, some v2] := rfl
theorem ok_tal_sum {f : Addr} {fd : FuncData} (F : Fun K "sum_at" "Tally.sum_at" (inClass (top 19) 2) f fd) (hk : kd = .ex ∨ kd = .most ∨ kd = .least) : FnOk P w K mg base CX0 1 f fd ["self", "first", "second"] (spSum S kd n) := by
  refine F.ok sc_Tally_sum_at (fun vs H Q E h => ?_) (fun cdv A outer s H vs Q E hr h => ?_)
  · obtain ⟨p, d, a, b, x, y, rfl, _⟩ := h
    rfl
  · obtain ⟨p, d, a, b, x, y, rfl, hs, e, hd, ho, ha, hb, oa, ob, k⟩ := h
    obtain rfl := tally_of e ho hk
    obtain ⟨i, rfl⟩ : ∃ i, a = .n i := by cases a with | n i => exact ⟨i, rfl⟩ | p a b => exact oa.elim
    obtain ⟨j, rfl⟩ : ∃ j, b = .n j := by cases b with | n i => exact ⟨i, rfl⟩ | p a b => exact ob.elim
    obtain rfl : x = .int i := ha
    obtain rfl : y = .int j := hb
    refine ⟨_, (pss_one (ps_ret (pe_op op_add (pv 1) (pv 2)))), ?_⟩
    rw [st_Tally_sum_at]
    have w0 := V.Hw.start (H := H)
    repeat walk_at "w"
    exact k _ H w0.fr rfl
theorem sc_Tally_product_at : FnScope ["self", "first", "second"] ["self", "first", "second"] (defScope (inClass (top 19) 3)) := ⟨rfl, rfl, rfl, by decide +kernel, rfl, by decide +kernel, by decide +kernel⟩
theorem st_Tally_product_at (v0 v1 v2 : V) : L2.start ["self", "first", "second"] [v0, v1, v2] = [some v0, some v1, some v2] := rfl
theorem ok_tal_prod {f : Addr} {fd : FuncData} (F : Fun K "product_at" "Tally.product_at" (inClass (top 19) 3) f fd) (hk : kd = .ex ∨ kd = .most ∨ kd = .least) : FnOk P w K mg base CX0 1 f fd ["self", "first", "second"] (spProdB S kd n) := by
  refine F.ok sc_Tally_product_at (fun vs H Q E h => ?_) (fun cdv A outer s H vs Q E hr h => ?_)
  · obtain ⟨p, d, a, b, x, y, rfl, _⟩ := h
    rfl
  · obtain ⟨p, d, a, b, x, y, rfl, hs, e, hd, ho, ha, hb, oa, ob, ba, bb, k⟩ := h
    obtain rfl := tally_of e ho hk
    obtain ⟨i, rfl⟩ : ∃ i, a = .n i := by cases a with | n i => exact ⟨i, rfl⟩ | p a b => exact oa.elim
    obtain ⟨j, rfl⟩ : ∃ j, b = .n j := by cases b with | n i => exact ⟨i, rfl⟩ | p a b => exact ob.elim
    obtain rfl : x = .int i := ha
    obtain rfl : y = .int j := hb
    have cm : CMulW i j := wide_mul (a := 400000) (b := 400000) ba bb (by decide) (by decide) (by decide)
    clear ba bb
    refine ⟨_, (pss_one (ps_ret (pe_op op_mulW (pv 1) (pv 2)))), ?_⟩
    rw [st_Tally_product_at]
    have w0 := V.Hw.start (H := H)
    repeat walk_at "w"
    exact k _ H w0.fr rfl
theorem sc_Tally_name_at : FnScope ["self", "place"] ["self", "place"] (defScope (inClass (top 19) 4)) := ⟨rfl, rfl, rfl, by decide +kernel, rfl, by decide +kernel, by decide +kernel⟩
theorem st_Tally_name_at (v0 v1 : V) : L2.start ["self", "place"] [v0, v1] = [some v0, some v1] := rfl
theorem ok_tal_name {f : Addr} {fd : FuncData} (F : Fun K "name_at" "Tally.name_at" (inClass (top 19) 4) f fd) (hk : kd = .ex ∨ kd = .most ∨ kd = .least) (c_in_decimal : Cal P w K mg base CX0 1 "in_decimal" spInDec) : FnOk P w K mg base CX0 2 f fd ["self", "place"] (spNmB S kd n) := by
  refine F.ok sc_Tally_name_at (fun vs H Q E h => ?_) (fun cdv A outer s H vs Q E hr h => ?_)
  · obtain ⟨p, d, a, x, rfl, _⟩ := h
    rfl
  · obtain ⟨p, d, a, x, rfl, hs, e, hd, ho, ha, oa, ba, k⟩ := h
    obtain rfl := tally_of e ho hk
    obtain ⟨i, rfl⟩ : ∃ i, a = .n i := by cases a with | n i => exact ⟨i, rfl⟩ | p a b => exact oa.elim
    obtain rfl : x = .int i := ha
    obtain ⟨j, rfl⟩ := Int.eq_ofNat_of_zero_le (show 0 ≤ i from oa)
    have bj := bits_bk (a := j) ba
    clear ba
    refine ⟨_, (pss_one (ps_ret (pe_c c_in_decimal hr (by decide) (by rfl) (pa_cons (pv 1) pa_nil)))), ?_⟩
    rw [st_Tally_name_at]
    have w0 := V.Hw.start (H := H)
    repeat walk_at "w"
    exact ⟨j, rfl, bj, fun H1 s1 => k H1 s1⟩
theorem sc_ExactTally_within_at : FnScope ["self", "first", "second"] ["self", "first", "second"] (defScope (inClass (top 20) 1)) := ⟨rfl, rfl, rfl, by decide +kernel, rfl, by decide +kernel, by decide +kernel⟩
theorem st_ExactTally_within_at (v0 v1 v2 : V) : L2.start ["self", "first", "second"] [v0, v1, v2] = [some v0, some v1, some v2] := rfl
theorem ok_ex_with {f : Addr} {fd : FuncData} (F : Fun K "within_at" "ExactTally.within_at" (inClass (top 20) 1) f fd) : FnOk P w K mg base CX0 1 f fd ["self", "first", "second"] (spWith S .ex n) := by
  refine F.ok sc_ExactTally_within_at (fun vs H Q E h => ?_) (fun cdv A outer s H vs Q E hr h => ?_)
  · obtain ⟨p, d, a, b, x, y, rfl, _⟩ := h
    rfl
  · obtain ⟨p, d, a, b, x, y, rfl, hs, e, hd, ho, ha, hb, oa, ob, k⟩ := h
    obtain rfl := tally_of e ho (by simp)
    obtain ⟨i, rfl⟩ : ∃ i, a = .n i := by cases a with | n i => exact ⟨i, rfl⟩ | p a b => exact oa.elim
    obtain ⟨j, rfl⟩ : ∃ j, b = .n j := by cases b with | n i => exact ⟨i, rfl⟩ | p a b => exact ob.elim
    obtain rfl : x = .int i := ha
    obtain rfl : y = .int j := hb
    refine ⟨_, (pss_one (ps_ret (pe_cmpR op_eq (pv 1) (pv 2) (nomark _)))), ?_⟩
    rw [st_ExactTally_within_at]
    have w0 := V.Hw.start (H := H)
    repeat walk_at "w"
    exact k H w0.fr
theorem sc_MostTally_within_at : FnScope ["self", "first", "second"] ["self", "first", "second"] (defScope (inClass (top 21) 1)) := ⟨rfl, rfl, rfl, by decide +kernel, rfl, by decide +kernel, by decide +kernel⟩
theorem st_MostTally_within_at (v0 v1 v2 : V) : L2.start ["self", "first", "second"] [v0, v1, v2] = [some v0, some v1, some v2] := rfl
theorem ok_most_with {f : Addr} {fd : FuncData} (F : Fun K "within_at" "MostTally.within_at" (inClass (top 21) 1) f fd) : FnOk P w K mg base CX0 1 f fd ["self", "first", "second"] (spWith S .most n) := by
  refine F.ok sc_MostTally_within_at (fun vs H Q E h => ?_) (fun cdv A outer s H vs Q E hr h => ?_)
  · obtain ⟨p, d, a, b, x, y, rfl, _⟩ := h
    rfl
  · obtain ⟨p, d, a, b, x, y, rfl, hs, e, hd, ho, ha, hb, oa, ob, k⟩ := h
    obtain rfl := tally_of e ho (by simp)
    obtain ⟨i, rfl⟩ : ∃ i, a = .n i := by cases a with | n i => exact ⟨i, rfl⟩ | p a b => exact oa.elim
    obtain ⟨j, rfl⟩ : ∃ j, b = .n j := by cases b with | n i => exact ⟨i, rfl⟩ | p a b => exact ob.elim
    obtain rfl : x = .int i := ha
    obtain rfl : y = .int j := hb
    refine ⟨_, (pss_one (ps_ret (pe_cmpR op_le (pv 1) (pv 2) (nomark _)))), ?_⟩
    rw [st_MostTally_within_at]
    have w0 := V.Hw.start (H := H)
    repeat walk_at "w"
    exact k H w0.fr
theorem sc_LeastTally_within_at : FnScope ["self", "first", "second"] ["self", "first", "second"] (defScope (inClass (top 22) 1)) := ⟨rfl, rfl, rfl, by decide +kernel, rfl, by decide +kernel, by decide +kernel⟩
theorem st_LeastTally_within_at (v0 v1 v2 : V) : L2.start ["self", "first", "second"] [v0, v1, v2] = [some v0, some v1, some v2] := rfl
theorem ok_least_with {f : Addr} {fd : FuncData} (F : Fun K "within_at" "LeastTally.within_at" (inClass (top 22) 1) f fd) : FnOk P w K mg base CX0 1 f fd ["self", "first", "second"] (spWith S .least n) := by
  refine F.ok sc_LeastTally_within_at (fun vs H Q E h => ?_) (fun cdv A outer s H vs Q E hr h => ?_)
  · obtain ⟨p, d, a, b, x, y, rfl, _⟩ := h
    rfl
  · obtain ⟨p, d, a, b, x, y, rfl, hs, e, hd, ho, ha, hb, oa, ob, k⟩ := h
    obtain rfl := tally_of e ho (by simp)
    obtain ⟨i, rfl⟩ : ∃ i, a = .n i := by cases a with | n i => exact ⟨i, rfl⟩ | p a b => exact oa.elim
    obtain ⟨j, rfl⟩ : ∃ j, b = .n j := by cases b with | n i => exact ⟨i, rfl⟩ | p a b => exact ob.elim
    obtain rfl : x = .int i := ha
    obtain rfl : y = .int j := hb
    refine ⟨_, (pss_one (ps_ret (pe_cmpR op_ge (pv 1) (pv 2) (nomark _)))), ?_⟩
    rw [st_LeastTally_within_at]
    have w0 := V.Hw.start (H := H)
    repeat walk_at "w"
    exact k H w0.fr
theorem sc_ExactTally_bound_at : FnScope ["self", "first", "second"] ["self", "first", "second"] (defScope (inClass (top 20) 2)) := ⟨rfl, rfl, rfl, by decide +kernel, rfl, by decide +kernel, by decide +kernel⟩
theorem st_ExactTally_bound_at (v0 v1 v2 : V) : L2.start ["self", "first", "second"] [v0, v1, v2] = [some v0, some v1, some v2] := rfl
theorem ok_ex_bnd {f : Addr} {fd : FuncData} (F : Fun K "bound_at" "ExactTally.bound_at" (inClass (top 20) 2) f fd) : FnOk P w K mg base CX0 2 f fd ["self", "first", "second"] (spBnd S .ex n) := by
  refine F.ok sc_ExactTally_bound_at (fun vs H Q E h => ?_) (fun cdv A outer s H vs Q E hr h => ?_)
  · obtain ⟨p, d, a, b, x, y, rfl, _⟩ := h
    rfl
  · obtain ⟨p, d, a, b, x, y, rfl, hs, e, hd, ho, ha, hb, oa, ob, k⟩ := h
    obtain rfl := tally_of e ho (by simp)
    obtain ⟨i, rfl⟩ : ∃ i, a = .n i := by cases a with | n i => exact ⟨i, rfl⟩ | p a b => exact oa.elim
    obtain ⟨j, rfl⟩ : ∃ j, b = .n j := by cases b with | n i => exact ⟨i, rfl⟩ | p a b => exact ob.elim
    obtain rfl : x = .int i := ha
    obtain rfl : y = .int j := hb
    refine ⟨_, (pss_one (ps_ret (pe_ifExp (pt_cmpR op_eq (pv 1) (pv 2) (nomark _)) (pv 1) pe_non))), ?_⟩
    rw [st_ExactTally_bound_at]
    have w0 := V.Hw.start (H := H)
    repeat walk_at "w"
    refine ifD (fun q => ?_) (fun q => ?_)
    · repeat walk_at "w"
      exact k _ H w0.fr (by show OptAt H (if i = j then some (Pl.n i) else none) _; rw [if_pos q]; rfl)
    · repeat walk_at "w"
      exact k _ H w0.fr (by show OptAt H (if i = j then some (Pl.n i) else none) _; rw [if_neg q]; rfl)
theorem sc_MostTally_bound_at : FnScope ["self", "first", "second"] ["self", "first", "second"] (defScope (inClass (top 21) 2)) := ⟨rfl, rfl, rfl, by decide +kernel, rfl, by decide +kernel, by decide +kernel⟩
theorem st_MostTally_bound_at (v0 v1 v2 : V) : L2.start ["self", "first", "second"] [v0, v1, v2] = [some v0, some v1, some v2] := rfl
theorem ok_most_bnd {f : Addr} {fd : FuncData} (F : Fun K "bound_at" "MostTally.bound_at" (inClass (top 21) 2) f fd) (c_greater : Cal P w K mg base CX0 1 "greater" (spI2 mxI)) : FnOk P w K mg base CX0 2 f fd ["self", "first", "second"] (spBnd S .most n) := by
  refine F.ok sc_MostTally_bound_at (fun vs H Q E h => ?_) (fun cdv A outer s H vs Q E hr h => ?_)
  · obtain ⟨p, d, a, b, x, y, rfl, _⟩ := h
    rfl
  · obtain ⟨p, d, a, b, x, y, rfl, hs, e, hd, ho, ha, hb, oa, ob, k⟩ := h
    obtain rfl := tally_of e ho (by simp)
    obtain ⟨i, rfl⟩ : ∃ i, a = .n i := by cases a with | n i => exact ⟨i, rfl⟩ | p a b => exact oa.elim
    obtain ⟨j, rfl⟩ : ∃ j, b = .n j := by cases b with | n i => exact ⟨i, rfl⟩ | p a b => exact ob.elim
    obtain rfl : x = .int i := ha
    obtain rfl : y = .int j := hb
    refine ⟨_, (pss_one (ps_ret (pe_c c_greater hr (by decide) (by rfl) (pa_cons (pv 1) (pa_cons (pv 2) pa_nil))))), ?_⟩
    rw [st_MostTally_bound_at]
    have w0 := V.Hw.start (H := H)
    repeat walk_at "w"
    exact ⟨i, j, rfl, k _ H w0.fr rfl⟩
theorem sc_LeastTally_bound_at : FnScope ["self", "first", "second"] ["self", "first", "second"] (defScope (inClass (top 22) 2)) := ⟨rfl, rfl, rfl, by decide +kernel, rfl, by decide +kernel, by decide +kernel⟩
theorem st_LeastTally_bound_at (v0 v1 v2 : V) : L2.start ["self", "first", "second"] [v0, v1, v2] = [some v0, some v1, some v2] := rfl
theorem ok_least_bnd {f : Addr} {fd : FuncData} (F : Fun K "bound_at" "LeastTally.bound_at" (inClass (top 22) 2) f fd) (c_lesser : Cal P w K mg base CX0 1 "lesser" (spI2 mnI)) : FnOk P w K mg base CX0 2 f fd ["self", "first", "second"] (spBnd S .least n) := by
  refine F.ok sc_LeastTally_bound_at (fun vs H Q E h => ?_) (fun cdv A outer s H vs Q E hr h => ?_)
  · obtain ⟨p, d, a, b, x, y, rfl, _⟩ := h
    rfl
  · obtain ⟨p, d, a, b, x, y, rfl, hs, e, hd, ho, ha, hb, oa, ob, k⟩ := h
    obtain rfl := tally_of e ho (by simp)
    obtain ⟨i, rfl⟩ : ∃ i, a = .n i := by cases a with | n i => exact ⟨i, rfl⟩ | p a b => exact oa.elim
    obtain ⟨j, rfl⟩ : ∃ j, b = .n j := by cases b with | n i => exact ⟨i, rfl⟩ | p a b => exact ob.elim
    obtain rfl : x = .int i := ha
    obtain rfl : y = .int j := hb
    refine ⟨_, (pss_one (ps_ret (pe_c c_lesser hr (by decide) (by rfl) (pa_cons (pv 1) (pa_cons (pv 2) pa_nil))))), ?_⟩
    rw [st_LeastTally_bound_at]
    have w0 := V.Hw.start (H := H)
    repeat walk_at "w"
    exact ⟨i, j, rfl, k _ H w0.fr rfl⟩
theorem sc_lesser : FnScope ["first", "second"] ["first", "second"] (defScope (top 5)) := ⟨rfl, rfl, rfl, by decide +kernel, rfl, by decide +kernel, by decide +kernel⟩
theorem st_lesser (v0 v1 : V) : L2.start ["first", "second"] [v0, v1] = [some v0, some v1] := rfl
theorem ok_lesser {f : Addr} {fd : FuncData} (F : Fun K "lesser" "lesser" (top 5) f fd) : FnOk P w K mg base CX0 1 f fd ["first", "second"] (spI2 mnI) := by
  refine F.ok sc_lesser (fun vs H Q E h => ?_) (fun cdv A outer s H vs Q E hr h => ?_)
  · obtain ⟨a, b, rfl, _⟩ := h
    rfl
  · obtain ⟨a, b, rfl, k⟩ := h
    refine ⟨_, (pss_one (ps_ret (pe_ifExp (pt_cmpR op_le (pv 0) (pv 1) (nomark _)) (pv 0) (pv 1)))), ?_⟩
    rw [st_lesser]
    have w0 := V.Hw.start (H := H)
    repeat walk_at "w"
    unfold mnI at k
    refine ifD (fun e => ?_) (fun e => ?_)
    · rw [if_pos e] at k
      repeat walk_at "w"
      exact k
    · rw [if_neg e] at k
      repeat walk_at "w"
      exact k
end
/-! ### tallies: names' places, no list of places -/
open Dec
def btV : List Value := [.type "ValueError", .type "Exception", .type "BaseException", .type "object"]
structure Ex0 (K : PySem.W.Frag) (mg : Str → Option Value) (x : Str) (C : Addr) : Prop where
  g : mg x = some (.ref C)
  xi : PySem.W.excIn K C btV "ValueError.__new__" = true
  kp : PySem.W.keepIn K (.ref C) = true
  exC : PySem.W.subIn K (.ref C) (.type "BaseException") = some true
  tyC : PySem.W.typeIn K (.ref C) = some (.type "type")
def decO (z : Str) : V := match decV z with | some n => .int (n : Int) | none => .non
open PySem.NumText in
theorem dec_of {z : Str} (a1 : AllDigits (TL.tl z)) (ne : TL.tl z ≠ []) (h : (TL.tl z).head? ≠ some 48 ∨ z = "0") : decV z = some (digitsVal (TL.tl z)) := by
  have l := len_tl z
  have l0 : 0 < z.length := by rw [← l]; exact List.length_pos_iff.mpr ne
  have hA : Txt.isascii z = true := by
    unfold Txt.isascii
    rw [Array.all_eq_true_iff_forall_mem]
    intro c hc
    have := a1 c (Array.mem_toList_iff.mpr hc)
    simp; omega
  have hD : Txt.isdigit z = true := by
    unfold Txt.isdigit
    rw [decide_eq_true l0, Bool.true_and, Array.all_eq_true_iff_forall_mem]
    intro c hc
    have b := a1 c (Array.mem_toList_iff.mpr hc)
    rw [dig_ascii c (by omega), decide_eq_true b.1, decide_eq_true b.2]; rfl
  have hS : (Txt.startswith z "0" && !decide (z = "0")) = false := by
    rcases h with h | h
    · have : Txt.startswith z "0" = false := by
        cases q : Txt.startswith z "0" with
        | false => rfl
        | true =>
          exfalso
          unfold Txt.startswith at q
          rw [Bool.and_eq_true] at q
          have q2 := q.2
          unfold Builtin.Str.subAt at q2
          have e1 := congrArg Array.toList (eq_of_beq q2)
          have l1 : ("0" : Str).length = 1 := by decide +kernel
          have l2 : ("0" : Str).cps.toList = [48] := by decide +kernel
          rw [Array.toList_extract, l1, l2] at e1
          have e2 : (TL.tl z).take 1 = [48] := e1
          apply h
          cases hz : TL.tl z with
          | nil => exact absurd hz ne
          | cons c cs =>
            rw [hz] at e2
            rw [List.take_succ_cons, List.take_zero] at e2
            rw [(List.cons.inj e2).1]; rfl
      rw [this]; rfl
    · rw [decide_eq_true h]; exact Bool.and_false _
  unfold decV
  rw [hA, hD, hS]; rfl
theorem dec_num (n : Nat) : decV (num (n : Int)) = some n := by
  have td := tl_num n
  rw [dec_of (z := num (n : Int)) (by rw [td]; exact ds_digits n) (by rw [td]; exact ds_ne n) ?_, td, val_ds]
  by_cases h : n = 0
  · subst h; exact .inr (by decide +kernel)
  · obtain ⟨c, cs, e, hc⟩ := ds_head (Nat.pos_of_ne_zero h)
    refine .inl ?_
    rw [td, e]
    intro q
    have : c = 48 := Option.some.inj q
    omega
section
variable (S : SE) (CU CE : Addr) (k : Kn)
def spFindT : Sp := fun vs H Q _ => ∃ (p : Addr) (z : Str), vs = [.ref p, .str z] ∧ ScAt S H (.tally k) p ∧ z.length ≤ 100000 ∧ ∀ H', Same H H' → Q (decO z) H'
def spAtNmT : Sp := fun vs H Q E => ∃ (p : Addr) (z : Str), vs = [.ref p, .str z] ∧ ScAt S H (.tally k) p ∧ z.length ≤ 100000 ∧
  ((∃ n, decV z = some n ∧ ∀ H', Same H H' → Q (.int (n : Int)) H') ∨ (decV z = none ∧ ∀ d' H', Same H H' → H' d' = none → E (.ref CU) (some d') (upd H' d' (.xd [("name", .str z)]))))
def spPlsX : Sp := fun vs H _ E => ∃ p : Addr, vs = [.ref p] ∧ ScAt S H (.tally k) p ∧ E (.ref CE) none H
end
section
variable {P : Program} {w : World} {K : PySem.W.Frag} {mg : Str → Option Value} {base : Heap} {S : SE} {CU CE : Addr} {kd : Kn} {j : Nat}
theorem sc_Tally_find_at : FnScope ["self", "name"] ["self", "name"] (defScope (inClass (top 19) 5)) := ⟨rfl, rfl, rfl, by decide +kernel, rfl, by decide +kernel, by decide +kernel⟩
theorem st_Tally_find_at (v0 v1 : V) : L2.start ["self", "name"] [v0, v1] = [some v0, some v1] := rfl
theorem ok_tal_find {f : Addr} {fd : FuncData} (F : Fun K "find_at" "Tally.find_at" (inClass (top 19) 5) f fd) (c_from_decimal : Cal P w K mg base CX0 1 "from_decimal" spFrD) : FnOk P w K mg base CX0 2 f fd ["self", "name"] (spFindT S kd) := by
  refine F.ok sc_Tally_find_at (fun vs H Q E h => ?_) (fun cdv A outer s H vs Q E hr h => ?_)
  · obtain ⟨p, z, rfl, _⟩ := h
    rfl
  · obtain ⟨p, z, rfl, hs, hz, k⟩ := h
    refine ⟨_, (pss_one (ps_ret (pe_c c_from_decimal hr (by decide) (by rfl) (pa_cons (pv 1) pa_nil)))), ?_⟩
    rw [st_Tally_find_at]
    have w0 := V.Hw.start (H := H)
    repeat walk_at "w"
    exact ⟨z, rfl, hz, fun H1 s1 => k H1 s1⟩
theorem st_Scale_at_name (v0 v1 : V) : L2.start ["self", "name", "place"] [v0, v1] = [some v0, some v1, none] := rfl
theorem ok_tal_at {f : Addr} {fd : FuncData} (F : Fun K "at_name" "Scale.at_name" (inClass (top 17) 9) f fd) (m_find_at : Met P w K mg base CX0 j (S.cls kd) "find_at" (spFindT S kd)) (hj : 1 ≤ j) (xm_UnknownGrade : ExM P w K mg base 1 "UnknownGrade" CU (spUgInit K CU)) :
    FnOk P w K mg base (L2.CX P w) (j + 2) f fd ["self", "name"] (spAtNmT S CU kd) := by
  refine F.okX sc_Scale_at_name (fun vs H Q E h => ?_) (fun cdv A outer s H vs Q E hr h => ?_)
  · obtain ⟨p, z, rfl, _⟩ := h
    rfl
  · obtain ⟨p, z, rfl, hs, hz, k⟩ := h
    obtain ⟨dx, fs, hp, pk, hh⟩ := id hs
    refine ⟨_, (pss_cons (ps_set (i := 2) sc_Scale_at_name.nd rfl (Or.inl rfl) (pe_mt m_find_at hr (by omega) (pv 0) (pa_cons (pv 1) pa_nil)))
      (pss_cons (ps_if (pt_cmpR op_isN (pv 2) pe_non (nomark _)) (pss_one (ps_raise rfl (takes_of rfl rfl rfl rfl) (pmk_B xm_UnknownGrade hr (by omega) (by rfl) (pa_cons (pv 1) pa_nil)))) pss_nil)
      (pss_one (ps_ret (pv 2))))), ?_⟩
    rw [st_Scale_at_name]
    have w0 := V.Hw.start (H := H)
    have m1 := nom_mem hh.nom (show mnames.contains "find_at" = true by decide +kernel)
    repeat walk_at "w"
    refine ⟨p, z, rfl, hs, hz, fun H1 s1 => ?_⟩
    have w1 := V.Hw.start (H := H1)
    rcases k with ⟨n, e, k⟩ | ⟨e, k⟩
    · have ev : decO z = .int (n : Int) := by unfold decO; rw [e]
      rw [ev]
      have nn : V.int (n : Int) ≠ .non := fun q => nomatch q
      repeat walk_at "w"
      exact k H1 s1
    · have ev : decO z = .non := by unfold decO; rw [e]
      rw [ev]
      repeat walk_at "w"
      refine ⟨_, rfl, (by show 1 ≤ 1000; decide), fun a ha => ?_⟩
      refine ⟨a, z, rfl, upd_same, hz, fun dx' n1 n2 => ⟨rfl, dx', [("name", .str z)], upd_same, ?_, ?_, ?_⟩⟩
      · rw [upd_ne n2, upd_same]
      · rw [upd_ne n2] at n1; exact n1
      · rw [upd_ne n2] at n1
        have z2 : upd (del (upd (upd (upd H1 a (exo a CU none)) dx' (exd dx' [("name", V.str z)])) a (exo a CU (some dx'))) a) dx' (HO.xd [("name", V.str z)]) = upd H1 dx' (.xd [("name", .str z)]) := by
          funext b
          by_cases h1 : b = dx'
          · subst h1; rw [upd_same, upd_same]
          · rw [upd_ne h1, upd_ne h1]
            by_cases h2 : b = a
            · subst h2; rw [del_same, ha]
            · rw [del_ne h2, upd_ne h2, upd_ne h1, upd_ne h2]
        rw [z2]
        exact k dx' H1 s1 n1
theorem sc_Tally_places : FnScope ["self"] ["self"] (defScope (inClass (top 19) 1)) := ⟨rfl, rfl, rfl, by decide +kernel, rfl, by decide +kernel, by decide +kernel⟩
theorem st_Tally_places (v0 : V) : L2.start ["self"] [v0] = [some v0] := rfl
theorem ok_tal_pls {f : Addr} {fd : FuncData} (F : Fun K "places" "Tally.places" (inClass (top 19) 1) f fd) (X0 : Ex0 K mg "EndlessScale" CE) : FnOk P w K mg base (L2.CX P w) 1 f fd ["self"] (spPlsX S CE kd) := by
  refine F.okX sc_Tally_places (fun vs H Q E h => ?_) (fun cdv A outer s H vs Q E hr h => ?_)
  · obtain ⟨p, rfl, _⟩ := h
    rfl
  · obtain ⟨p, rfl, hs, k⟩ := h
    refine ⟨_, (pss_one (ps_raise rfl (takes_of rfl rfl rfl rfl) (UG.pmk_exc0 PySem.F.excBase_ValueError X0.xi X0.g X0.kp (raises_own X0.exC X0.tyC) (by rfl)))), ?_⟩
    exact k
end
/-! ### draws, in the walk -/
section
variable {Z H : Hp} {S T : Addr} {L : V.Cells} {Q : VK} {E : XK} {m : Int}
theorem w_draw (w : V.Hw Z (some (S, T)) H L) (p : 0 < m) (b : m < 1606938044258990275541962092341162602522202993782792835301376) (k : ∀ i H', 0 ≤ i → i < m → V.Hw Z (some (S, T)) H' L → Q (.int i) H') : spDraw [.ref S, .int m] H Q E :=
  ⟨S, T, m, rfl, w.std, by omega, fun r H' h0 h1 st kp => k r H' h0 (h1 p) (w.callD st kp)⟩
theorem w_draw0 (w : V.Hw Z (some (S, T)) H L) (p : 0 ≤ m) (b : m < 1606938044258990275541962092341162602522202993782792835301376) (k : ∀ i H', 0 ≤ i → (0 < m → i < m) → V.Hw Z (some (S, T)) H' L → Q (.int i) H') : spDraw [.ref S, .int m] H Q E :=
  ⟨S, T, m, rfl, w.std, by omega, fun r H' h0 h1 st kp => k r H' h0 h1 (w.callD st kp)⟩
end
local macro_rules | `(tactic| walk_at "w") => `(tactic| ((with_reducible refine' w_draw ?w ?p ?b ?_); (case w => assumption); (case p => first | omega | decide); (case b => first | omega | decide)))
/-! ### k05: the law's own defs -/
abbrev TK := {k : Kn // k = .ex ∨ k = .most ∨ k = .least}
def lW (s a b : Int) : Bool := if s = 1 then decide (a ≤ b) else if s = 2 then decide (b ≤ a) else decide (a = b)
def lB (s a b : Int) : V := if lW s a b = true then .int b else if lW s b a = true then .int a else .non
def spLWith : Sp := fun vs H Q _ => ∃ s a b : Int, vs = [.int s, .int a, .int b] ∧ Q (.bl (lW s a b)) H
def spLBnd : Sp := fun vs H Q _ => ∃ s a b : Int, vs = [.int s, .int a, .int b] ∧ ∀ H', Same H H' → Q (lB s a b) H'
def lim : Nat := 10 ^ 60 * (10 ^ 50) ^ 38
def ten5 : Nat := 10 ^ 50
theorem ten5_lt : ten5 < 2 ^ 200 := by decide +kernel
theorem lim_bits : lim < 2 ^ 7000 := by decide +kernel
theorem sixty_lt : 10 ^ 60 ≤ lim := by decide +kernel
def spNumber : Sp := fun vs H Q _ => ∃ (Z : Hp) (S0 T : Addr) (L : V.Cells), vs = [.ref S0] ∧ V.Hw Z (some (S0, T)) H L ∧ ∀ (n : Nat) H', n < lim → V.Hw Z (some (S0, T)) H' L → Q (.int (n : Int)) H'
theorem lim_le {n j : Nat} (h : n < 10 ^ 60) (hj : j ≤ 38) : n * ten5 ^ j < lim := by
  have a : ten5 ^ j ≤ ten5 ^ 38 := Nat.pow_le_pow_right (by decide) hj
  have p : 0 < ten5 ^ 38 := Nat.pow_pos (by decide)
  exact Nat.lt_of_le_of_lt (Nat.mul_le_mul_left n a) (Nat.mul_lt_mul_of_pos_right h p)
theorem w_drawL {Z H : Hp} {S T : Addr} {L : V.Cells} {Q : VK} {E : XK} {m : Int} (w : V.Hw Z (some (S, T)) H L) (p : 0 < m) (b : m.natAbs < 1606938044258990275541962092341162602522202993782792835301376) (k : ∀ i H', 0 ≤ i → i < m → V.Hw Z (some (S, T)) H' L → Q (.int i) H') : spDraw [.ref S, .int m] H Q E :=
  ⟨S, T, m, rfl, w.std, b, fun r H' h0 h1 st kp => k r H' h0 (h1 p) (w.callD st kp)⟩
section
variable {P : Program} {w : World} {K : PySem.W.Frag} {mg : Str → Option Value} {base : Heap}
theorem sc__law_within : FnScope ["_law_sort", "_law_a", "_law_b"] ["_law_sort", "_law_a", "_law_b"] (defScope (top 28)) := ⟨rfl, rfl, rfl, by decide +kernel, rfl, by decide +kernel, by decide +kernel⟩
theorem st__law_within (v0 v1 v2 : V) : L2.start ["_law_sort", "_law_a", "_law_b"] [v0, v1, v2] = [some v0, some v1, some v2] := rfl
theorem ok_lwith {f : Addr} {fd : FuncData} (F : Fun K "_law_within" "_law_within" (top 28) f fd) : FnOk P w K mg base CX0 1 f fd ["_law_sort", "_law_a", "_law_b"] spLWith := by
  refine F.ok sc__law_within (fun vs H Q E h => ?_) (fun cdv A outer s H vs Q E hr h => ?_)
  · obtain ⟨s, a, b, rfl, _⟩ := h
    rfl
  · obtain ⟨so, a, b, rfl, k⟩ := h
    refine ⟨_, (pss_cons (ps_if (pt_cmpR op_eq (pv 0) pe_int (nomark _)) (pss_one (ps_ret (pe_cmpR op_le (pv 1) (pv 2) (nomark _)))) pss_nil)
      (pss_cons (ps_if (pt_cmpR op_eq (pv 0) pe_int (nomark _)) (pss_one (ps_ret (pe_cmpR op_ge (pv 1) (pv 2) (nomark _)))) pss_nil)
      (pss_one (ps_ret (pe_cmpR op_eq (pv 1) (pv 2) (nomark _)))))), ?_⟩
    rw [st__law_within]
    have w0 := V.Hw.start (H := H)
    unfold lW at k
    repeat walk_at "w"
    refine ifD (fun e => ?_) (fun e => ?_)
    · rw [if_pos e] at k
      repeat walk_at "w"
      exact k
    · rw [if_neg e] at k
      repeat walk_at "w"
      refine ifD (fun e => ?_) (fun e => ?_)
      · rw [if_pos e] at k
        repeat walk_at "w"
        exact k
      · rw [if_neg e] at k
        repeat walk_at "w"
        exact k
theorem sc__law_bound : FnScope ["_law_sort", "_law_a", "_law_b"] ["_law_sort", "_law_a", "_law_b"] (defScope (top 29)) := ⟨rfl, rfl, rfl, by decide +kernel, rfl, by decide +kernel, by decide +kernel⟩
theorem st__law_bound (v0 v1 v2 : V) : L2.start ["_law_sort", "_law_a", "_law_b"] [v0, v1, v2] = [some v0, some v1, some v2] := rfl
theorem ok_lbnd {f : Addr} {fd : FuncData} (F : Fun K "_law_bound" "_law_bound" (top 29) f fd) (c__law_within : Cal P w K mg base CX0 1 "_law_within" spLWith) : FnOk P w K mg base CX0 2 f fd ["_law_sort", "_law_a", "_law_b"] spLBnd := by
  refine F.ok sc__law_bound (fun vs H Q E h => ?_) (fun cdv A outer s H vs Q E hr h => ?_)
  · obtain ⟨s, a, b, rfl, _⟩ := h
    rfl
  · obtain ⟨so, a, b, rfl, k⟩ := h
    refine ⟨_, (pss_cons (ps_if (pt_val (pe_c c__law_within hr (by decide) (by rfl) (pa_cons (pv 0) (pa_cons (pv 1) (pa_cons (pv 2) pa_nil))))) (pss_one (ps_ret (pv 2))) pss_nil)
      (pss_cons (ps_if (pt_val (pe_c c__law_within hr (by decide) (by rfl) (pa_cons (pv 0) (pa_cons (pv 2) (pa_cons (pv 1) pa_nil))))) (pss_one (ps_ret (pv 1))) pss_nil)
      (pss_one (ps_ret pe_non)))), ?_⟩
    rw [st__law_bound]
    have w0 := V.Hw.start (H := H)
    have k := k H w0.fr
    unfold lB at k
    repeat walk_at "w"
    refine ⟨so, a, b, rfl, ?_⟩
    cases q : lW so a b with
    | true =>
      rw [q, if_pos rfl] at k
      repeat walk_at "w"
      exact k
    | false =>
      rw [q, if_neg (by decide)] at k
      repeat walk_at "w"
      refine ⟨so, b, a, rfl, ?_⟩
      cases q2 : lW so b a with
      | true =>
        rw [q2, if_pos rfl] at k
        repeat walk_at "w"
        exact k
      | false =>
        rw [q2, if_neg (by decide)] at k
        repeat walk_at "w"
        exact k
theorem sc__law_number : FnScope ["_law_state", "_law_way", "_law_number_here", "_law_k"] ["_law_state"] (defScope (top 27)) := ⟨rfl, rfl, rfl, by decide +kernel, rfl, by decide +kernel, by decide +kernel⟩
theorem st__law_number (v0 : V) : L2.start ["_law_state", "_law_way", "_law_number_here", "_law_k"] [v0] = [some v0, none, none, none] := rfl
theorem ok_lnum {f : Addr} {fd : FuncData} (F : Fun K "_law_number" "_law_number" (top 27) f fd) (T : TxL K mg) (c__law_draw : Cal P w K mg base CX0 1 "_law_draw" spDraw) : FnOk P w K mg base CX0 2 f fd ["_law_state"] spNumber := by
  refine F.ok sc__law_number (fun vs H Q E h => ?_) (fun cdv A outer s H vs Q E hr h => ?_)
  · obtain ⟨Z, S0, T, L, rfl, _⟩ := h
    rfl
  · obtain ⟨Z, S0, T2, L, rfl, w0, k⟩ := h
    refine ⟨_, (pss_cons (ps_set (i := 1) sc__law_number.nd rfl (Or.inl rfl) (pe_c c__law_draw hr (by decide) (by rfl) (pa_cons (pv 0) (pa_cons pe_int pa_nil))))
      (pss_cons (ps_if (pt_cmpR op_lt (pv 1) pe_int (nomark _)) (pss_one (ps_ret (pe_c c__law_draw hr (by decide) (by rfl) (pa_cons (pv 0) (pa_cons pe_int pa_nil))))) pss_nil)
      (pss_cons (ps_set (i := 2) sc__law_number.nd rfl (Or.inl rfl) (pe_c c__law_draw hr (by decide) (by rfl) (pa_cons (pv 0) (pa_cons (pe_op op_pow pe_int pe_int) pa_nil))))
      (pss_cons (ps_if (pt_cmpR op_eq (pv 1) pe_int (nomark _)) (pss_one (ps_for PassesOwn.never rfl (pi_range1 (by rfl) T.range (pa_cons pe_int pa_nil)) (pg_name (i := 3) sc__law_number.nd rfl (Or.inl rfl)) (pss_one (ps_set (i := 2) sc__law_number.nd rfl (Or.inl rfl) (pe_op op_mulW (pv 2) (pe_op op_pow pe_int pe_int)))))) pss_nil)
      (pss_one (ps_ret (pv 2))))))), ?_⟩
    rw [st__law_number]
    repeat walk_at "w"
    intro way H1 y0 y1 w1
    repeat walk_at "w"
    refine ifD (fun e => ?_) (fun e => ?_)
    · repeat walk_at "w"
      intro i H2 i0 i1 w2
      obtain ⟨n, rfl⟩ := Int.eq_ofNat_of_zero_le i0
      repeat walk_at "w"
      exact k n _ (Nat.lt_of_lt_of_le (show n < 10 ^ 60 by omega) sixty_lt) w2
    · repeat walk_at "w"
      intro i H2 i0 i1 w2
      obtain ⟨n0, rfl⟩ := Int.eq_ofNat_of_zero_le i0
      have n60 : n0 < 10 ^ 60 := by
        have e6 : (10 : Int) ^ Int.toNat 60 = ((10 ^ 60 : Nat) : Int) := by decide +kernel
        rw [e6] at i1
        exact Int.ofNat_lt.mp i1
      have e50 : (10 : Int) ^ Int.toNat 50 = ((ten5 : Nat) : Int) := by decide +kernel
      clear i0 i1
      repeat walk_at "w"
      refine ifD (fun e5 => ?_) (fun e5 => ?_)
      · repeat walk_at "w"
        refine V.w_ir1 (n := 38) rfl (by decide) ?_
        refine for_range (n := 38) (fun j σ H' => ∃ x, σ = [some (.ref S0), some (.int way), some (.int ((n0 * ten5 ^ j : Nat) : Int)), x] ∧ V.Hw Z (some (S0, T2)) H' L) ⟨none, by rw [Nat.pow_zero, Nat.mul_one], w2⟩ ?_ ?_
        · rintro j σ H3 hj ⟨x, rfl, w3⟩
          have b1 : n0 * ten5 ^ j < 2 ^ 7000 := Nat.lt_trans (lim_le n60 (by omega)) lim_bits
          have cm : CMulW ((n0 * ten5 ^ j : Nat) : Int) ((10 : Int) ^ Int.toNat 50) := by
            rw [e50]
            exact wide_mul (a := 7000) (b := 200) b1 ten5_lt (by decide) (by decide) (by decide)
          clear b1
          repeat walk_at "w"
          have es : ((n0 * ten5 ^ j : Nat) : Int) * (10 : Int) ^ Int.toNat 50 = ((n0 * ten5 ^ (j + 1) : Nat) : Int) := by
            rw [e50, Nat.pow_succ, ← Nat.mul_assoc, Int.natCast_mul (n0 * ten5 ^ j)]
          rw [es]
          exact ⟨_, rfl, w3⟩
        · rintro σ H3 ⟨x, rfl, w3⟩
          repeat walk_at "w"
          exact k _ _ (lim_le n60 (Nat.le_refl _)) w3
      · repeat walk_at "w"
        exact k n0 _ (Nat.lt_of_lt_of_le n60 sixty_lt) w2
end
/-! ### k05: what raises -/
structure TxU (K : PySem.W.Frag) (mg : Str → Option Value) (CU CS CE : Addr) : Prop extends TxL K mg where
  gx_UnknownGrade : mg "UnknownGrade" = some (.ref CU)
  gx_EndlessScale : mg "EndlessScale" = some (.ref CE)
  g_UsescaleError : ∃ u, mg "UsescaleError" = some u ∧ RelV (.ref CS) u
  ValueError : mg "ValueError" = none
  te : PySem.W.exmOne K (.ref CU) (.ref CU) = some true
  ee : PySem.W.exmOne K (.ref CE) (.ref CE) = some true
  xf : XfC K CU
  nn : PySem.W.findIn K (.ref CU) "name" = some none
  ei : ExcI K CU
  ec : ExcC K CE
  isU : PySem.W.kitOne K (.ref CU) (.ref CS) = some false
  isS : PySem.W.kitOne K (.ref CE) (.ref CS) = some true
  isV : PySem.W.kitOne K (.ref CE) (.type "ValueError") = some true
theorem at_same2 {P2 : V → V → Prop} {x0 x1 y0 y1 : V} (h0 : P2 x0 y0) (h1 : P2 x1 y1) : ∀ (i : Nat) (x y : V), [x0, x1][i]? = some x → [y0, y1][i]? = some y → P2 x y
  | 0, _, _, rfl, rfl => h0
  | 1, _, _, rfl, rfl => h1
section
variable (S : SE)
def spLUnk : Sp := fun vs H Q _ => ∃ (k : TK) (p : Addr) (z : Str), vs = [.ref p, .str z] ∧ ScAt S H (.tally k.1) p ∧ z.length ≤ 100000 ∧ decV z = none ∧ ∀ H', Same H H' → Q (.bl true) H'
def spLEnd : Sp := fun vs H Q _ => ∃ (k : TK) (p : Addr), vs = [.ref p] ∧ ScAt S H (.tally k.1) p ∧ ∀ H', Same H H' → Q (.bl true) H'
end
section
variable {P : Program} {w : World} {K : PySem.W.Frag} {mg : Str → Option Value} {base : Heap} {S : SE} {CU CS CE : Addr}
theorem sc__law_unknown : FnScope ["_law_scale", "_law_word", "_law_caught", "e"] ["_law_scale", "_law_word"] (defScope (top 31)) := ⟨rfl, rfl, rfl, by decide +kernel, rfl, by decide +kernel, by decide +kernel⟩
theorem ok_lunk {f : Addr} {fd : FuncData} (F : Fun K "_law_unknown" "_law_unknown" (top 31) f fd) (T : TxU K mg CU CS CE) (m_at_name : ∀ k : TK, Met P w K mg base (L2.CX P w) 4 (S.cls k.1) "at_name" (spAtNmT S CU k.1)) (c__law_same : Cal P w K mg base CX0 2 "_law_same" (spSame 1)) :
    FnOk P w K mg base (L2.CX P w) 5 f fd ["_law_scale", "_law_word"] (spLUnk S) := by
  refine F.okX sc__law_unknown (fun vs H Q E h => ?_) (fun cdv A outer s H vs Q E hr h => ?_)
  · obtain ⟨k, p, z, rfl, _⟩ := h
    rfl
  · obtain ⟨kk, p, z, rfl, hs, hl, hv, k⟩ := h
    obtain ⟨dx, fs, hp, pk, hh⟩ := id hs
    have h3 := nom_mem hh.nom (show mnames.contains "at_name" = true by decide +kernel)
    refine ⟨_, (pss_cons (ps_set (i := 2) sc__law_unknown.nd rfl (Or.inl rfl) (pe_lst pa_nil))
      (pss_cons (ps_try_as (i := 3) rfl rfl sc__law_unknown.nd rfl rfl ⟨rfl, by decide, (.inl T.gx_UnknownGrade)⟩ takes0 (fun W pn xe tk _ => (pss_one (ps_expr (UF.pe_ex fun k => pe_mtS (m_at_name k) hr (by decide) (fun σ => passAt tk σ) (pv 0) (pa_cons (pv 1) pa_nil))))) (fun a oe cls d pn hz hf => (pss_one (ps_set (i := 2) sc__law_unknown.nd rfl (Or.inl rfl) (pe_lst (pa_cons (pe_xf T.xf T.nn hz hf (pv 3)) (pa_cons (pe_callB (call_isD T.ei hz hf) (by rfl) T.isinstance (by decide +kernel) (pa_cons (pv 3) (pa_cons (pe_gx (by rfl) T.g_UsescaleError) pa_nil))) pa_nil)))))))
      (pss_one (ps_ret (pe_c c__law_same hr (by decide) (by rfl) (pa_cons (pv 2) (pa_cons (pe_lst (pa_cons (pv 1) (pa_cons pe_bl pa_nil))) pa_nil))))))), ?_⟩
    refine ⟨(by show 0 ≤ sizeLine; decide), fun c0 hc0 => ?_⟩
    have s0 : Same H (upd H c0 (.lst [])) := sameNew hc0
    refine ⟨kk, _, rfl, p, dx, fs, rfl, s0 _ _ hp, h3, _, rfl, p, z, rfl, hs.same s0, hl, .inr ⟨hv, fun d' H' sH hd' => ?_⟩⟩
    have s1 := (s0.trans sH).trans (sameNew (o := .xd [("name", .str z)]) hd')
    refine ⟨true, T.te, fun _ a ha => ?_, fun q => nomatch q⟩
    refine ⟨_, rfl, rfl, rfl, d', _, _, rfl, upd_same, rfl, ?_⟩
    refine ⟨_, rfl, _, _, _, _, _, rfl, .own _, rfl, rfl, upd_same, T.isU, ?_⟩
    refine ⟨(by show 2 ≤ sizeLine; decide), fun c1 hc1 => ?_⟩
    refine ⟨_, rfl, _, rfl, (by show 2 ≤ sizeLine; decide), fun c2 hc2 => ?_⟩
    have n12 : c1 ≠ c2 := ne_of_none upd_same hc2
    refine ⟨_, _, rfl, .lst (by rw [upd_ne n12]; exact upd_same) upd_same rfl (by show 2 ≤ 1000; decide) (at_same2 (.str _) (.bl _)), ?_⟩
    exact k _ ((s1.trans (sameNew hc1)).trans (sameNew hc2))
theorem sc__law_endless : FnScope ["_law_scale", "_law_caught", "e"] ["_law_scale"] (defScope (top 30)) := ⟨rfl, rfl, rfl, by decide +kernel, rfl, by decide +kernel, by decide +kernel⟩
theorem ok_lend {f : Addr} {fd : FuncData} (F : Fun K "_law_endless" "_law_endless" (top 30) f fd) (T : TxU K mg CU CS CE) (m_places : ∀ k : TK, Met P w K mg base (L2.CX P w) 4 (S.cls k.1) "places" (spPlsX S CE k.1)) (c__law_same : Cal P w K mg base CX0 2 "_law_same" (spSame 1)) :
    FnOk P w K mg base (L2.CX P w) 5 f fd ["_law_scale"] (spLEnd S) := by
  refine F.okX sc__law_endless (fun vs H Q E h => ?_) (fun cdv A outer s H vs Q E hr h => ?_)
  · obtain ⟨k, p, rfl, _⟩ := h
    rfl
  · obtain ⟨kk, p, rfl, hs, k⟩ := h
    obtain ⟨dx, fs, hp, pk, hh⟩ := id hs
    have h3 := nom_mem hh.nom (show mnames.contains "places" = true by decide +kernel)
    refine ⟨_, (pss_cons (ps_set (i := 1) sc__law_endless.nd rfl (Or.inl rfl) (pe_lst pa_nil))
      (pss_cons (ps_try_as (i := 2) rfl rfl sc__law_endless.nd rfl rfl ⟨rfl, by decide, (.inl T.gx_EndlessScale)⟩ takes0 (fun W pn xe tk _ => (pss_one (ps_expr (UF.pe_ex fun k => UG.pe_mtS0 (m_places k) hr (by decide) (fun σ => passAt tk σ) (pv 0))))) (fun a oe cls d pn hz hf => (pss_one (ps_set (i := 1) sc__law_endless.nd rfl (Or.inl rfl) (pe_lst (pa_cons (pe_callB (UG.call_isN T.ec hz hf) (by rfl) T.isinstance (by decide +kernel) (pa_cons (pv 2) (pa_cons (pe_gx (by rfl) T.g_UsescaleError) pa_nil))) (pa_cons (pe_callB (UG.call_isN T.ec hz hf) (by rfl) T.isinstance (by decide +kernel) (pa_cons (pv 2) (pa_cons (pe_bltn (v := .ty "ValueError") (by rfl) T.ValueError (by decide +kernel) rfl) pa_nil))) pa_nil)))))))
      (pss_one (ps_ret (pe_c c__law_same hr (by decide) (by rfl) (pa_cons (pv 1) (pa_cons (pe_lst (pa_cons pe_bl (pa_cons pe_bl pa_nil))) pa_nil))))))), ?_⟩
    refine ⟨(by show 0 ≤ sizeLine; decide), fun c0 hc0 => ?_⟩
    have s0 : Same H (upd H c0 (.lst [])) := sameNew hc0
    refine ⟨kk, _, rfl, p, dx, fs, rfl, s0 _ _ hp, h3, p, rfl, hs.same s0, ?_⟩
    refine ⟨true, T.ee, fun _ a ha => ?_, fun q => nomatch q⟩
    refine ⟨_, rfl, _, _, _, rfl, .own _, rfl, rfl, T.isS, ?_⟩
    refine ⟨_, rfl, _, _, _, rfl, .ty _, rfl, rfl, T.isV, ?_⟩
    refine ⟨(by show 2 ≤ sizeLine; decide), fun c1 hc1 => ?_⟩
    refine ⟨_, rfl, (by show 2 ≤ sizeLine; decide), fun c2 hc2 => ?_⟩
    have n12 : c1 ≠ c2 := ne_of_none upd_same hc2
    refine ⟨_, _, rfl, .lst (by rw [upd_ne n12]; exact upd_same) upd_same rfl (by show 2 ≤ 1000; decide) (at_same2 (.bl _) (.bl _)), ?_⟩
    exact k _ ((s0.trans (sameNew hc1)).trans (sameNew hc2))
end
/-! ### k05: far to the right -/
def far0 : Nat := 10 ^ 50
theorem far_lt {n j : Nat} (h : n < 10 ^ 50) (hj : j ≤ 78) : n * ten5 ^ j < 10 ^ 3950 := by
  have a : ten5 ^ j ≤ ten5 ^ 78 := Nat.pow_le_pow_right (by decide) hj
  have p : 0 < ten5 ^ 78 := Nat.pow_pos (by decide)
  have e : 10 ^ 50 * ten5 ^ 78 = 10 ^ 3950 := by decide +kernel
  rw [← e]
  exact Nat.lt_of_le_of_lt (Nat.mul_le_mul_left n a) (Nat.mul_lt_mul_of_pos_right h p)
theorem figs {n : Nat} (h : n < 10 ^ 3950) : n < 2 ^ 19000 ∧ n < 10 ^ 4300 ∧ (num (n : Int)).length ≤ 3950 := by
  refine ⟨Nat.lt_of_lt_of_le h (by decide +kernel), Nat.lt_of_lt_of_le h (by decide +kernel), ?_⟩
  rw [len_num]
  exact (Dec.pad_eq 3950 n (by decide) h).1
section
variable (S : SE)
def spFar : Sp := fun vs H Q _ => ∃ (Z : Hp) (S0 T : Addr) (L : V.Cells) (k : TK) (p : Addr), vs = [.ref S0, .ref p] ∧ V.Hw Z (some (S0, T)) H L ∧ ScAt S Z (.tally k.1) p ∧ ∀ H', V.Hw Z (some (S0, T)) H' L → Q (.bl true) H'
end
theorem tk_ok (k : TK) : (SD.tally k.1).Ok := k.2
section
variable {P : Program} {w : World} {K : PySem.W.Frag} {mg : Str → Option Value} {base : Heap} {S : SE} {CU : Addr}
theorem sc__law_far_right : FnScope ["_law_state", "_law_scale", "_law_far", "_law_k"] ["_law_state", "_law_scale"] (defScope (top 32)) := ⟨rfl, rfl, rfl, by decide +kernel, rfl, by decide +kernel, by decide +kernel⟩
theorem st__law_far_right (v0 v1 : V) : L2.start ["_law_state", "_law_scale", "_law_far", "_law_k"] [v0, v1] = [some v0, some v1, none, none] := rfl
theorem ok_lfar {f : Addr} {fd : FuncData} (F : Fun K "_law_far_right" "_law_far_right" (top 32) f fd) (T : TxL K mg) (hd : PySem.W.nsIn K cStatics "sys.int_max_str_digits" = some none) (c__law_draw : Cal P w K mg base CX0 1 "_law_draw" spDraw)
    (m_name_at : ∀ k : TK, Met P w K mg base CX0 2 (S.cls k.1) "name_at" (spNmB S k.1 1)) (m_at_name : ∀ k : TK, Met P w K mg base (L2.CX P w) 4 (S.cls k.1) "at_name" (spAtNmT S CU k.1)) (c__law_same : Cal P w K mg base CX0 2 "_law_same" (spSame 1)) :
    FnOk P w K mg base (L2.CX P w) 5 f fd ["_law_state", "_law_scale"] (spFar S) := by
  refine okN F sc__law_far_right (fun vs H Q E h => ?_) (fun cdv A outer s H vs Q E hr h => ?_)
  · obtain ⟨Z, S0, T, L, k, p, rfl, _⟩ := h
    rfl
  · obtain ⟨Z, S0, T2, L, kk, p, rfl, w0, hs, k⟩ := h
    obtain ⟨dx, fs, hp, pk, hh⟩ := id hs
    have m1 := nom_mem hh.nom (show mnames.contains "at_name" = true by decide +kernel)
    have m2 := nom_mem hh.nom (show mnames.contains "name_at" = true by decide +kernel)
    refine ⟨_, (pss_cons (ps_set (i := 2) sc__law_far_right.nd rfl (Or.inl rfl) (pe_op op_add (pe_op op_pow pe_int pe_int) (pe_c c__law_draw hr (by decide) (by rfl) (pa_cons (pv 0) (pa_cons (pe_op op_pow pe_int pe_int) pa_nil)))))
      (pss_cons (ps_for PassesOwn.never rfl (pi_range1 (by rfl) T.range (pa_cons (pe_op op_add pe_int (pe_c c__law_draw hr (by decide) (by rfl) (pa_cons (pv 0) (pa_cons pe_int pa_nil)))) pa_nil)) (pg_name (i := 3) sc__law_far_right.nd rfl (Or.inl rfl)) (pss_one (ps_set (i := 2) sc__law_far_right.nd rfl (Or.inl rfl) (pe_op op_mulW (pv 2) (pe_op op_pow pe_int pe_int)))))
      (pss_one (ps_ret (pe_c c__law_same hr (by decide) (by rfl) (pa_cons (pe_lst (pa_cons (UF.pe_ex fun k => pe_mt (m_name_at k) hr (by decide) (pv 1) (pa_cons (pv 2) pa_nil)) (pa_cons (UF.pe_ex fun k => pe_mtL (m_at_name k) hr (by decide) (pv 1) (pa_cons (pe_callTy (UG.call_str_intW K rfl rfl hd) (by rfl) T.str (by decide +kernel) (pa_cons (pv 2) pa_nil)) pa_nil)) pa_nil))) (pa_cons (pe_lst (pa_cons (pe_callTy (UG.call_str_intW K rfl rfl hd) (by rfl) T.str (by decide +kernel) (pa_cons (pv 2) pa_nil)) (pa_cons (pv 2) pa_nil))) pa_nil))))))), ?_⟩
    rw [st__law_far_right]
    repeat walk_at "w"
    intro d H1 d0 d1 w1
    have p49 : (0 : Int) ≤ 10 ^ Int.toNat 49 := by decide +kernel
    obtain ⟨n0, hn0⟩ : ∃ n0 : Nat, (10 : Int) ^ Int.toNat 49 + d = (n0 : Int) := Int.eq_ofNat_of_zero_le (by omega)
    have n50 : n0 < 10 ^ 50 := by
      have e1 : (10 : Int) ^ Int.toNat 49 + 10 ^ Int.toNat 40 ≤ ((10 ^ 50 : Nat) : Int) := by decide +kernel
      have e2 : (n0 : Int) < ((10 ^ 50 : Nat) : Int) := by rw [← hn0]; omega
      exact Int.ofNat_lt.mp e2
    have e50 : (10 : Int) ^ Int.toNat 50 = ((ten5 : Nat) : Int) := by decide +kernel
    repeat walk_at "w"
    rw [hn0]
    clear d0 d1 hn0
    repeat walk_at "w"
    intro r0 H2 r1 r2 w2
    obtain ⟨r, rfl⟩ := Int.eq_ofNat_of_zero_le r1
    have er : 40 + (r : Int) = ((40 + r : Nat) : Int) := by omega
    refine V.w_ri0 ?_
    rw [er]
    have r78 : 40 + r ≤ 78 := by omega
    generalize 40 + r = m at r78
    repeat walk_at "w"
    refine for_range (n := m) (fun j σ H' => ∃ x, σ = [some (.ref S0), some (.ref p), some (.int ((n0 * ten5 ^ j : Nat) : Int)), x] ∧ V.Hw Z (some (S0, T2)) H' L) ⟨none, by rw [Nat.pow_zero, Nat.mul_one], w2⟩ ?_ ?_
    · rintro j σ H3 hj ⟨x, rfl, w3⟩
      have b1 : n0 * ten5 ^ j < 2 ^ 19000 := (figs (far_lt n50 (by omega))).1
      have cm : CMulW ((n0 * ten5 ^ j : Nat) : Int) ((10 : Int) ^ Int.toNat 50) := by
        rw [e50]
        exact wide_mul (a := 19000) (b := 200) b1 ten5_lt (by decide) (by decide) (by decide)
      clear b1
      repeat walk_at "w"
      have es : ((n0 * ten5 ^ j : Nat) : Int) * (10 : Int) ^ Int.toNat 50 = ((n0 * ten5 ^ (j + 1) : Nat) : Int) := by
        rw [e50, Nat.pow_succ, ← Nat.mul_assoc, Int.natCast_mul (n0 * ten5 ^ j)]
      rw [es]
      exact ⟨_, rfl, w3⟩
    · rintro σ H3 ⟨x, rfl, w3⟩
      obtain ⟨fb, fs4, fl⟩ := figs (far_lt n50 r78)
      generalize n0 * ten5 ^ m = far at fb fs4 fl
      repeat walk_at "w"
      refine ⟨kk, ?_⟩
      repeat walk_at "w"
      refine ⟨p, .tally kk.1, .n (far : Int), _, rfl, hs.same w3.fr, rfl, Nat.le_refl _, tk_ok kk, rfl, Int.natCast_nonneg _, fb, fun H4 s4 => ?_⟩
      have w4 := w3.call s4
      repeat walk_at "w"
      refine ⟨kk, ?_⟩
      repeat walk_at "w"
      refine UG.w_strW fs4 ?_
      repeat walk_at "w"
      refine ⟨p, _, rfl, hs.same w4.fr, Nat.le_trans fl (by decide), .inl ⟨far, dec_num far, fun H5 s5 => ?_⟩⟩
      have w5 := w4.call s5
      repeat walk_at "w"
      intro f1 H6 _ w6
      repeat walk_at "w"
      refine UG.w_strW fs4 ?_
      repeat walk_at "w"
      intro f2 H7 _ w7
      repeat walk_at "w"
      refine ⟨_, _, rfl, .lst (w7.get (.there .here)) (w7.get .here) rfl (Nat.le_of_ble_eq_true rfl) (at_same2 (.str _) (.int _)), ?_⟩
      repeat walk_at "w"
      exact k _ (w7.sub (.skip (.skip (.refl _))))
end
def spLaw (K : PySem.W.Frag) : Sp := fun vs H Q _ => ∃ (a : Addr) (ns : List Int), vs = [.ref a] ∧ SqL K H a (ns.map V.int) ∧ ns.length ≤ 63 ∧ ∀ H', Q (.bl true) H'
/-! ### k05: the law -/
open Dec
theorem lim_bits2 : lim + 1 ≤ 2 ^ 7000 := by decide +kernel
theorem meetS {t : TS} {D : Ends} {σ : L2.St} {H : Hp} (B : L2.St → Hp → Prop) (h : ∀ D' : Ends, (∀ σ H, B σ H → D'.nx σ H) → t D' σ H) (k : ∀ σ H, B σ H → D.nx σ H) : t D σ H := h D k
theorem bits4 {n : Nat} (h : n < 2 ^ 7000) : (Pl.n (n : Int)).bits 400000 := Nat.lt_of_lt_of_le h (Nat.pow_le_pow_right (by decide) (by decide))
theorem bits1 {n : Nat} (h : n < 2 ^ 7000) : (Pl.n (n : Int)).bits 19000 := Nat.lt_of_lt_of_le h (Nat.pow_le_pow_right (by decide) (by decide))
theorem lim_figs {n : Nat} (h : n < lim) : n < 10 ^ 3950 := Nat.lt_of_lt_of_le h (by decide +kernel)
theorem da_lB {H : Hp} {n : Nat} {s a b : Int} : Da H n (lB s a b) (lB s a b) := by
  unfold lB
  split
  · exact .int _
  · split
    · exact .int _
    · exact .non
theorem bits_0 : (Pl.n 0).bits 19000 := show (0 : Nat) < 2 ^ 19000 from Nat.pow_pos (by decide)
theorem dec_0 : decV "0" = some 0 := by decide +kernel
theorem mod_60 (n : Nat) : (n : Int) % (10 : Int) ^ Int.toNat 60 = ((n % 10 ^ 60 : Nat) : Int) := by
  have e6 : (10 : Int) ^ Int.toNat 60 = ((10 ^ 60 : Nat) : Int) := by decide +kernel
  rw [e6]
  exact (Int.natCast_emod n (10 ^ 60)).symm
theorem num_0 : num ((0 : Nat) : Int) = "0" := by decide +kernel
theorem zero_no (n : Nat) : decV ("0" ++ num (n : Int)) = none := by
  have tl : TL.tl ("0" ++ num (n : Int)) = 48 :: ds n := by
    rw [← tl_num]
    show (("0" : Str).cps ++ (num (n : Int)).cps).toList = _
    rw [Array.toList_append]; rfl
  have nn : ds n ≠ [] := ds_ne n
  have ln : ("0" ++ num (n : Int)).length = (ds n).length + 1 := by rw [← len_tl, tl]; rfl
  have l1 : ("0" : Str).length = 1 := by decide +kernel
  have hs : Txt.startswith ("0" ++ num (n : Int)) "0" = true := by
    unfold Txt.startswith
    rw [Bool.and_eq_true]
    refine ⟨by rw [ln, l1]; exact decide_eq_true (by omega), ?_⟩
    unfold Builtin.Str.subAt
    rw [l1]
    refine beq_iff_eq.mpr ?_
    apply Array.toList_inj.mp
    rw [Array.toList_extract]
    show ((TL.tl ("0" ++ num (n : Int))).drop 0).take (0 + 1 - 0) = _
    rw [tl]; rfl
  have hz : decide (("0" ++ num (n : Int)) = ("0" : Str)) = false := by
    refine decide_eq_false fun e => ?_
    have := congrArg Str.length e
    rw [ln, l1] at this
    have : (ds n).length = 0 := by omega
    exact nn (List.length_eq_zero_iff.mp this)
  unfold decV
  rw [hs, hz]
  have : (true && !false) = true := rfl
  rw [this, Bool.not_true, Bool.and_false]
  rfl
theorem words_at {d : Nat} {i : Int} (h0 : 0 ≤ i) (h1 : i < 10) (hd : d < 10 ^ 31) : ∃ z : Str, atI [V.str "", V.str "00", V.str "-1", V.str "+1", V.str "1_0", V.str " 1", V.str "1 ", V.str "many", V.str ("0" ++ num (d : Int)), V.str "1/1"] i = some (.str z) ∧ z.length ≤ 100000 ∧ decV z = none := by
  have : i = 0 ∨ i = 1 ∨ i = 2 ∨ i = 3 ∨ i = 4 ∨ i = 5 ∨ i = 6 ∨ i = 7 ∨ i = 8 ∨ i = 9 := by omega
  rcases this with rfl | rfl | rfl | rfl | rfl | rfl | rfl | rfl | rfl | rfl
  · exact ⟨_, rfl, by decide +kernel, by decide +kernel⟩
  · exact ⟨_, rfl, by decide +kernel, by decide +kernel⟩
  · exact ⟨_, rfl, by decide +kernel, by decide +kernel⟩
  · exact ⟨_, rfl, by decide +kernel, by decide +kernel⟩
  · exact ⟨_, rfl, by decide +kernel, by decide +kernel⟩
  · exact ⟨_, rfl, by decide +kernel, by decide +kernel⟩
  · exact ⟨_, rfl, by decide +kernel, by decide +kernel⟩
  · exact ⟨_, rfl, by decide +kernel, by decide +kernel⟩
  · refine ⟨_, rfl, ?_, zero_no d⟩
    have l := (Dec.pad_eq 31 d (by decide) hd).1
    rw [← len_num] at l
    have l1 : ("0" : Str).length = 1 := by decide +kernel
    rw [U.len_app, l1]; omega
  · exact ⟨_, rfl, by decide +kernel, by decide +kernel⟩
theorem kd_wit {s : Int} (h0 : 0 ≤ s) (h1 : s < 3) : ∃ k : TK, atI [V.str "(tally same)", V.str "(tally up)", V.str "(tally down)"] s = some (.str (SD.tally k.1).label) ∧ (∀ a b : Int, (SD.tally k.1).within (.n a) (.n b) = lW s a b) ∧ (k.1 = if s = 1 then Kn.most else if s = 2 then Kn.least else Kn.ex) ∧
    ∀ (H : Hp) (a b : Int) (v : V), OptAt H ((SD.tally k.1).bnd (.n a) (.n b)) v → v = lB s a b := by
  have : s = 0 ∨ s = 1 ∨ s = 2 := by omega
  rcases this with rfl | rfl | rfl
  · refine ⟨⟨.ex, .inl rfl⟩, rfl, fun a b => rfl, rfl, fun H a b v h => ?_⟩
    have e1 : lW 0 a b = decide (a = b) := rfl
    have e2 : lW 0 b a = decide (b = a) := rfl
    have eb : (SD.tally Kn.ex).bnd (.n a) (.n b) = if a = b then some (.n a) else none := rfl
    rw [eb] at h
    unfold lB
    rw [e1, e2]
    by_cases q : a = b
    · rw [if_pos q] at h
      rw [decide_eq_true q, if_pos (show true = true from rfl), ← q]; exact h
    · rw [if_neg q] at h
      rw [decide_eq_false q, decide_eq_false (fun e => q e.symm), if_neg (show ¬ (false = true) by decide), if_neg (show ¬ (false = true) by decide)]; exact h
  · refine ⟨⟨.most, .inr (.inl rfl)⟩, rfl, fun a b => rfl, rfl, fun H a b v h => ?_⟩
    have e1 : lW 1 a b = decide (a ≤ b) := rfl
    have e2 : lW 1 b a = decide (b ≤ a) := rfl
    have hv : v = .int (mxI a b) := h
    rw [hv]
    unfold lB mxI
    rw [e1, e2]
    by_cases q : a ≤ b
    · rw [decide_eq_true q, if_pos (show true = true from rfl)]
      split
      · exact congrArg V.int (by omega)
      · first | rfl | exact congrArg V.int (by omega)
    · rw [decide_eq_false q, if_neg (show ¬ (false = true) by decide), decide_eq_true (show b ≤ a by omega), if_pos (show true = true from rfl)]
      split
      · first | rfl | exact congrArg V.int (by omega)
      · exact congrArg V.int (by omega)
  · refine ⟨⟨.least, .inr (.inr rfl)⟩, rfl, fun a b => rfl, rfl, fun H a b v h => ?_⟩
    have e1 : lW 2 a b = decide (b ≤ a) := rfl
    have e2 : lW 2 b a = decide (a ≤ b) := rfl
    have hv : v = .int (mnI a b) := h
    rw [hv]
    unfold lB mnI
    rw [e1, e2]
    by_cases q : b ≤ a
    · rw [decide_eq_true q, if_pos (show true = true from rfl)]
      split
      · exact congrArg V.int (by omega)
      · first | rfl | exact congrArg V.int (by omega)
    · rw [decide_eq_false q, if_neg (show ¬ (false = true) by decide), decide_eq_true (show a ≤ b by omega), if_pos (show true = true from rfl)]
      split
      · first | rfl | exact congrArg V.int (by omega)
      · exact congrArg V.int (by omega)
section
variable {P : Program} {w : World} {K : PySem.W.Frag} {mg : Str → Option Value} {base : Heap} {S : SE} {CU : Addr}
theorem sc_law : FnScope ["_law_script", "_law_state", "_law_sort", "_law_scale", "_law_ends", "_law_k", "_law_step", "_law_a", "_law_b", "_law_found", "_law_due", "_law_count", "_law_words"] ["_law_script"] (defScope (top 33)) := ⟨rfl, rfl, rfl, by decide +kernel, rfl, by decide +kernel, by decide +kernel⟩
theorem st_law (v0 : V) : L2.start ["_law_script", "_law_state", "_law_sort", "_law_scale", "_law_ends", "_law_k", "_law_step", "_law_a", "_law_b", "_law_found", "_law_due", "_law_count", "_law_words"] [v0] = [some v0, none, none, none, none, none, none, none, none, none, none, none, none] := rfl
theorem ok_law {f : Addr} {fd : FuncData} (F : Fun K "law" "law" (top 33) f fd) (T : TxL K mg) (hd : PySem.W.nsIn K cStatics "sys.int_max_str_digits" = some none) (pE : S.pr .ex = true) (pM : S.pr .most = true) (pL : S.pr .least = true)
    (c__law_draws : Cal P w K mg base CX0 1 "_law_draws" (spDraws K)) (c__law_draw : Cal P w K mg base CX0 1 "_law_draw" spDraw) (c__law_number : Cal P w K mg base CX0 2 "_law_number" spNumber) (c__law_within : Cal P w K mg base CX0 1 "_law_within" spLWith) (c__law_bound : Cal P w K mg base CX0 2 "_law_bound" spLBnd)
    (c__law_same : Cal P w K mg base CX0 2 "_law_same" (spSame 1)) (c__law_endless : Cal P w K mg base (L2.CX P w) 5 "_law_endless" (spLEnd S)) (c__law_unknown : Cal P w K mg base (L2.CX P w) 5 "_law_unknown" (spLUnk S)) (c__law_far_right : Cal P w K mg base (L2.CX P w) 5 "_law_far_right" (spFar S))
    (mk_ExactTally : Mak P w K mg base CX0 3 "ExactTally" (S.cls .ex) (spExInit K (S.cls .ex) "same")) (mk_MostTally : Mak P w K mg base CX0 3 "MostTally" (S.cls .most) (spExInit K (S.cls .most) "up")) (mk_LeastTally : Mak P w K mg base CX0 3 "LeastTally" (S.cls .least) (spExInit K (S.cls .least) "down"))
    (NA : ∀ k : TK, SCls K (S.cls k.1))
    (m_sum_at : ∀ k : TK, Met P w K mg base CX0 1 (S.cls k.1) "sum_at" (spSum S k.1 1)) (m_product_at : ∀ k : TK, Met P w K mg base CX0 1 (S.cls k.1) "product_at" (spProdB S k.1 1)) (m_within_at : ∀ k : TK, Met P w K mg base CX0 1 (S.cls k.1) "within_at" (spWith S k.1 1)) (m_bound_at : ∀ k : TK, Met P w K mg base CX0 2 (S.cls k.1) "bound_at" (spBnd S k.1 1))
    (m_name_at : ∀ k : TK, Met P w K mg base CX0 2 (S.cls k.1) "name_at" (spNmB S k.1 1)) (m_at_name : ∀ k : TK, Met P w K mg base (L2.CX P w) 4 (S.cls k.1) "at_name" (spAtNmT S CU k.1)) (m_times_at : ∀ k : TK, Met P w K mg base CX0 1 (S.cls k.1) "times_at" (spTm S k.1 1)) :
    FnOk P w K mg base (L2.CX P w) 8 f fd ["_law_script"] (spLaw K) := by
  refine okN F sc_law (fun vs H Q E h => ?_) (fun cdv A outer s H vs Q E hr h => ?_)
  · obtain ⟨a, ns, rfl, _⟩ := h
    rfl
  · obtain ⟨a, ns, rfl, hS, hlen, k⟩ := h
    refine ⟨_, (pss_cons (ps_set (i := 1) sc_law.nd rfl (Or.inl rfl) (pe_c c__law_draws hr (by decide) (by rfl) (pa_cons (pv 0) pa_nil)))
      (pss_cons (ps_set (i := 2) sc_law.nd rfl (Or.inl rfl) (pe_c c__law_draw hr (by decide) (by rfl) (pa_cons (pv 1) (pa_cons pe_int pa_nil))))
      (pss_cons (ps_set (i := 3) sc_law.nd rfl (Or.inl rfl) (pe_mk0 mk_ExactTally hr (by decide) (by rfl)))
      (pss_cons (ps_if (pt_cmpR op_eq (pv 2) pe_int (nomark _)) (pss_one (ps_set (i := 3) sc_law.nd rfl (Or.inl rfl) (pe_mk0 mk_MostTally hr (by decide) (by rfl)))) pss_nil)
      (pss_cons (ps_if (pt_cmpR op_eq (pv 2) pe_int (nomark _)) (pss_one (ps_set (i := 3) sc_law.nd rfl (Or.inl rfl) (pe_mk0 mk_LeastTally hr (by decide) (by rfl)))) pss_nil)
      (pss_cons (ps_set (i := 4) sc_law.nd rfl (Or.inl rfl) (pe_lst (pa_cons (pe_fld (pv 3) rfl) (pa_cons (pe_fld (pv 3) rfl) (pa_cons (pe_fld (pv 3) rfl) (pa_cons (pe_fld (pv 3) rfl) pa_nil))))))
      (pss_cons (ps_if (pt_not (pt_val (pe_c c__law_same hr (by decide) (by rfl) (pa_cons (pv 4) (pa_cons (pe_lst (pa_cons pe_non (pa_cons pe_int (pa_cons pe_int (pa_cons (pe_ix ix_list (pe_lst (pa_cons pe_str (pa_cons pe_str (pa_cons pe_str pa_nil)))) (pv 2) (fun _ _ => rfl)) pa_nil))))) pa_nil))))) (pss_one (ps_ret pe_bl)) pss_nil)
      (pss_cons (ps_for PassesOwn.never rfl (pi_range1 (by rfl) T.range (pa_cons (pe_op op_add pe_int (pe_c c__law_draw hr (by decide) (by rfl) (pa_cons (pv 1) (pa_cons pe_int pa_nil)))) pa_nil)) (pg_name (i := 5) sc_law.nd rfl (Or.inl rfl)) (pss_cons (ps_set (i := 6) sc_law.nd rfl (Or.inl rfl) (pe_c c__law_draw hr (by decide) (by rfl) (pa_cons (pv 1) (pa_cons pe_int pa_nil))))
      (pss_cons (ps_set (i := 7) sc_law.nd rfl (Or.inl rfl) (pe_c c__law_number hr (by decide) (by rfl) (pa_cons (pv 1) pa_nil)))
      (pss_cons (ps_set (i := 8) sc_law.nd rfl (Or.inl rfl) (pe_c c__law_number hr (by decide) (by rfl) (pa_cons (pv 1) pa_nil)))
      (pss_cons (ps_if (PW.pt (pw_and (pt_cmpR op_lt (pv 6) pe_int (nomark _)) (pw_and1 (pt_cmpR op_gt (pe_op op_add (pv 7) (pv 6)) pe_int (nomark _))))) (pss_one (ps_set (i := 8) sc_law.nd rfl (Or.inl rfl) (pe_op op_sub (pe_op op_add (pv 7) (pv 6)) pe_int))) pss_nil)
      (pss_cons (ps_set (i := 9) sc_law.nd rfl (Or.inl rfl) (pe_lst (pa_cons (UF.pe_ex fun k => pe_mt (m_sum_at k) hr (by decide) (pv 3) (pa_cons (pv 7) (pa_cons (pv 8) pa_nil))) (pa_cons (UF.pe_ex fun k => pe_mt (m_product_at k) hr (by decide) (pv 3) (pa_cons (pv 7) (pa_cons (pv 8) pa_nil))) (pa_cons (UF.pe_ex fun k => pe_mt (m_within_at k) hr (by decide) (pv 3) (pa_cons (pv 7) (pa_cons (pv 8) pa_nil))) (pa_cons (UF.pe_ex fun k => pe_mt (m_within_at k) hr (by decide) (pv 3) (pa_cons (pv 8) (pa_cons (pv 7) pa_nil))) pa_nil))))))
      (pss_cons (ps_set (i := 10) sc_law.nd rfl (Or.inl rfl) (pe_lst (pa_cons (pe_op op_add (pv 7) (pv 8)) (pa_cons (pe_op op_mulW (pv 7) (pv 8)) (pa_cons (pe_c c__law_within hr (by decide) (by rfl) (pa_cons (pv 2) (pa_cons (pv 7) (pa_cons (pv 8) pa_nil)))) (pa_cons (pe_c c__law_within hr (by decide) (by rfl) (pa_cons (pv 2) (pa_cons (pv 8) (pa_cons (pv 7) pa_nil)))) pa_nil))))))
      (pss_cons (ps_set (i := 9) sc_law.nd rfl (Or.inl rfl) (pe_op op_cat (pv 9) (pe_lst (pa_cons (UF.pe_ex fun k => pe_mt (m_bound_at k) hr (by decide) (pv 3) (pa_cons (pv 7) (pa_cons (pv 8) pa_nil))) (pa_cons (UF.pe_ex fun k => pe_mt (m_name_at k) hr (by decide) (pv 3) (pa_cons (pv 7) pa_nil)) (pa_cons (UF.pe_ex fun k => pe_mtL (m_at_name k) hr (by decide) (pv 3) (pa_cons (pe_callTy (UG.call_str_intW K rfl rfl hd) (by rfl) T.str (by decide +kernel) (pa_cons (pv 7) pa_nil)) pa_nil)) pa_nil))))))
      (pss_cons (ps_set (i := 10) sc_law.nd rfl (Or.inl rfl) (pe_op op_cat (pv 10) (pe_lst (pa_cons (pe_c c__law_bound hr (by decide) (by rfl) (pa_cons (pv 2) (pa_cons (pv 7) (pa_cons (pv 8) pa_nil)))) (pa_cons (pe_callTy (UG.call_str_intW K rfl rfl hd) (by rfl) T.str (by decide +kernel) (pa_cons (pv 7) pa_nil)) (pa_cons (pv 7) pa_nil))))))
      (pss_cons (ps_set (i := 11) sc_law.nd rfl (Or.inl rfl) (pe_op op_mod (pe_callTy V.call_int1 (by rfl) T.int (by decide +kernel) (pa_cons (pv 7) pa_nil)) (pe_op op_pow pe_int pe_int)))
      (pss_cons (ps_if (pt_not (pt_val (pe_c c__law_same hr (by decide) (by rfl) (pa_cons (UF.pe_ex fun k => pe_mt (m_times_at k) hr (by decide) (pv 3) (pa_cons (pv 11) pa_nil)) (pa_cons (pv 11) pa_nil))))) (pss_one (ps_ret pe_bl)) pss_nil)
      (pss_one (ps_if (pt_not (pt_val (pe_c c__law_same hr (by decide) (by rfl) (pa_cons (pv 9) (pa_cons (pv 10) pa_nil))))) (pss_one (ps_ret pe_bl)) pss_nil)))))))))))))
      (pss_cons (ps_if (pt_not (pt_val (pe_c c__law_same hr (by decide) (by rfl) (pa_cons (pe_lst (pa_cons (UF.pe_ex fun k => pe_mt (m_name_at k) hr (by decide) (pv 3) (pa_cons pe_int pa_nil)) (pa_cons (UF.pe_ex fun k => pe_mtL (m_at_name k) hr (by decide) (pv 3) (pa_cons pe_str pa_nil)) (pa_cons (UF.pe_ex fun k => pe_mt (m_times_at k) hr (by decide) (pv 3) (pa_cons pe_int pa_nil)) pa_nil)))) (pa_cons (pe_lst (pa_cons pe_str (pa_cons pe_int (pa_cons pe_int pa_nil)))) pa_nil))))) (pss_one (ps_ret pe_bl)) pss_nil)
      (pss_cons (ps_if (pt_not (pt_val (pe_cL c__law_endless hr (by decide) (by rfl) (pa_cons (pv 3) pa_nil)))) (pss_one (ps_ret pe_bl)) pss_nil)
      (pss_cons (ps_if (pt_not (pt_val (pe_cL c__law_far_right hr (by decide) (by rfl) (pa_cons (pv 1) (pa_cons (pv 3) pa_nil))))) (pss_one (ps_ret pe_bl)) pss_nil)
      (pss_cons (ps_set (i := 12) sc_law.nd rfl (Or.inl rfl) (pe_lst (pa_cons pe_str (pa_cons pe_str (pa_cons pe_str (pa_cons pe_str (pa_cons pe_str (pa_cons pe_str (pa_cons pe_str (pa_cons pe_str (pa_cons (pe_op V.op_addS pe_str (pe_callTy V.call_str (by rfl) T.str (by decide +kernel) (pa_cons (pe_op op_add pe_int (pe_c c__law_draw hr (by decide) (by rfl) (pa_cons (pv 1) (pa_cons (pe_op op_pow pe_int pe_int) pa_nil)))) pa_nil))) (pa_cons pe_str pa_nil))))))))))))
      (pss_cons (ps_if (pt_not (pt_val (pe_cL c__law_unknown hr (by decide) (by rfl) (pa_cons (pv 3) (pa_cons (pe_ix ix_list (pv 12) (pe_c c__law_draw hr (by decide) (by rfl) (pa_cons (pv 1) (pa_cons pe_int pa_nil))) (fun _ _ => rfl)) pa_nil))))) (pss_one (ps_ret pe_bl)) pss_nil)
      (pss_one (ps_ret (pe_cL c__law_unknown hr (by decide) (by rfl) (pa_cons (pv 3) (pa_cons (pe_ix ix_list (pv 12) (pe_c c__law_draw hr (by decide) (by rfl) (pa_cons (pv 1) (pa_cons pe_int pa_nil))) (fun _ _ => rfl)) pa_nil)))))))))))))))))), ?_⟩
    rw [st_law]
    have w00 := V.Hw.start (H := H)
    repeat walk_at "w"
    refine ⟨a, ns, rfl, hS, hlen, fun S0 T2 H0 _ _ st0 _ => ?_⟩
    have w0 := V.Hw.startD st0
    repeat walk_at "w"
    intro so H1 s0 s1 w1
    repeat walk_at "w"
    refine w_tal w1 (kd := .ex) (o := "same") (by decide +kernel) pE fun xE ZE HE wE eE scE _ => ?_
    repeat walk_at "w"
    refine V.meetIf (fun σ' H' => ∃ (Z : Hp) (p : Addr) (kd : Kn), kd = (if so = 1 then Kn.most else Kn.ex) ∧ σ' = [some (.ref a), some (.ref S0), some (.int so), some (.ref p), none, none, none, none, none, none, none, none, none] ∧ V.Hw Z (some (S0, T2)) H' [] ∧ ScAt S Z (.tally kd) p) (fun D' hD _ _ _ => ?_) ?_
    · refine ifD (fun q => ?_) (fun q => ?_)
      · repeat walk_at "w"
        refine w_tal wE (kd := .most) (o := "up") (by decide +kernel) pM fun xM ZM HM wM eM scM _ => ?_
        repeat walk_at "w"
        exact hD _ _ ⟨ZM, xM, .most, by rw [if_pos q], rfl, wM, scM⟩
      · repeat walk_at "w"
        exact hD _ _ ⟨ZE, xE, .ex, by rw [if_neg q], rfl, wE, scE⟩
    rintro σ1 HF ⟨ZF, xF, kd, hkd, rfl, wF, scF⟩
    clear wE eE scE w1 w0 w00
    repeat walk_at "w"
    refine V.meetIf (fun σ' H' => ∃ (Z : Hp) (p : Addr) (kd : Kn), kd = (if so = 1 then Kn.most else if so = 2 then Kn.least else Kn.ex) ∧ σ' = [some (.ref a), some (.ref S0), some (.int so), some (.ref p), none, none, none, none, none, none, none, none, none] ∧ V.Hw Z (some (S0, T2)) H' [] ∧ ScAt S Z (.tally kd) p) (fun D' hD _ _ _ => ?_) ?_
    · refine ifD (fun q => ?_) (fun q => ?_)
      · repeat walk_at "w"
        refine w_tal wF (kd := .least) (o := "down") (by decide +kernel) pL fun xM ZM HM wM eM scM _ => ?_
        repeat walk_at "w"
        exact hD _ _ ⟨ZM, xM, .least, by rw [if_neg (by omega), if_pos q], rfl, wM, scM⟩
      · repeat walk_at "w"
        exact hD _ _ ⟨ZF, xF, kd, by rw [hkd, if_neg q], rfl, wF, scF⟩
    rintro σ2 HG ⟨Z, p, kd2, hkd2, rfl, wG, hs⟩
    clear wF scF hkd
    obtain ⟨kk, lab, wit, ek, bnd⟩ := kd_wit s0 s1
    obtain rfl : kd2 = kk.1 := by rw [hkd2, ek]
    clear hkd2
    obtain ⟨dx, fs, hp, pk, hh⟩ := id hs
    have sc := NA kk
    have cl := sc.cl
    have na1 := sc.size
    have na2 := sc.zero_at
    have na3 := sc.one_at
    have na4 := sc.label
    have l1 : fld fs (Str.ofString "size") = some V.non := hh.size
    have l2 : fld fs (Str.ofString "zero_at") = some (V.int 0) := by
      obtain ⟨v, e, h⟩ := hh.zero
      rw [e]
      exact congrArg some h
    have l3 : fld fs (Str.ofString "one_at") = some (V.int 1) := by
      obtain ⟨v, e, h⟩ := hh.one
      rw [e]
      exact congrArg some h
    have l4 : fld fs (Str.ofString "label") = some (V.str (SD.tally kk.1).label) := hh.label
    repeat walk_at "w"
    intro e1 HH _ wH
    repeat walk_at "w"
    intro e2 HI _ wI
    repeat walk_at "w"
    intro e3 HJ _ wJ
    repeat walk_at "w"
    refine ⟨_, _, rfl, .lst (wJ.get (.there (.there .here))) (wJ.get .here) rfl (Nat.le_of_ble_eq_true rfl) (fun i x y hx hy => ?_), ?_⟩
    · match i, hx, hy with
      | 0, hx, hy => cases hx; cases hy; exact .non
      | 1, hx, hy => cases hx; cases hy; exact .int _
      | 2, hx, hy => cases hx; cases hy; exact .int _
      | 3, hx, hy => cases hx; cases hy; exact .str _
      | i + 4, hx, hy => simp at hx
    have wK := wJ.sub (L := []) .nil
    clear wG wH wI wJ
    repeat walk_at "w"
    intro r0 HL r1 r2 wL
    obtain ⟨r, rfl⟩ := Int.eq_ofNat_of_zero_le r1
    have er : 1 + (r : Int) = ((1 + r : Nat) : Int) := by omega
    refine V.w_ri0 ?_
    rw [er]
    have hm : 1 + r ≤ 12 := by omega
    clear er r1 r2 wK
    generalize 1 + r = m at hm
    have mv : fld fs (Str.ofString "sum_at") = none := nom_mem hh.nom (by decide +kernel)
    have mv2 : fld fs (Str.ofString "product_at") = none := nom_mem hh.nom (by decide +kernel)
    have mv3 : fld fs (Str.ofString "within_at") = none := nom_mem hh.nom (by decide +kernel)
    have mv4 : fld fs (Str.ofString "bound_at") = none := nom_mem hh.nom (by decide +kernel)
    have mv5 : fld fs (Str.ofString "name_at") = none := nom_mem hh.nom (by decide +kernel)
    have mv6 : fld fs (Str.ofString "at_name") = none := nom_mem hh.nom (by decide +kernel)
    have mv7 : fld fs (Str.ofString "times_at") = none := nom_mem hh.nom (by decide +kernel)
    repeat walk_at "w"
    refine for_range (n := m) (fun j σ H' => ∃ x4 x5 x6 x7 x8 x9 x10 x11 x12, σ = [some (V.ref a), some (V.ref S0), some (V.int so), some (V.ref p), x4, x5, x6, x7, x8, x9, x10, x11, x12] ∧ V.Hw Z (some (S0, T2)) H' []) ⟨_, _, _, _, _, _, _, _, _, rfl, wL⟩ ?_ ?_
    · rintro j σ HA hj ⟨y4, y5, y6, y7, y8, y9, y10, y11, y12, rfl, u0⟩
      repeat walk_at "w"
      intro step HB t0 t1 u1
      repeat walk_at "w"
      refine ⟨Z, S0, T2, [], rfl, u1, fun na HC la u2 => ?_⟩
      repeat walk_at "w"
      refine ⟨Z, S0, T2, [], rfl, u2, fun nb0 HD lb0 u3 => ?_⟩
      walk_at "w"
      walk_at "w"
      refine meetS (fun σ' H' => ∃ nb : Nat, nb < 2 ^ 7000 ∧ σ' = [some (V.ref a), some (V.ref S0), some (V.int so), some (V.ref p), y4, some (V.int (0 + (j : Int))), some (V.int step), some (V.int (na : Int)), some (V.int (nb : Int)), y9, y10, y11, y12] ∧ H' = HD) (fun D' hD => ?_) ?_
      · have lb1 : nb0 < 2 ^ 7000 := Nat.lt_trans lb0 lim_bits
        repeat walk_at "w"
        refine ifD (fun q => ?_) (fun q => ?_)
        · repeat walk_at "w"
          refine ifD (fun q2 => ?_) (fun q2 => ?_)
          · repeat walk_at "w"
            obtain ⟨nb, hnb⟩ := Int.eq_ofNat_of_zero_le (show 0 ≤ (na : Int) + step - 1 by omega)
            rw [hnb]
            refine hD _ _ ⟨nb, ?_, rfl, rfl⟩
            have l2 : nb ≤ na + 1 := by omega
            exact Nat.lt_of_le_of_lt l2 (Nat.lt_of_lt_of_le (Nat.add_lt_add_right la 1) lim_bits2)
          · repeat walk_at "w"
            exact hD _ _ ⟨nb0, lb1, rfl, rfl⟩
        · repeat walk_at "w"
          exact hD _ _ ⟨nb0, lb1, rfl, rfl⟩
      rintro σ1 HX ⟨nb, lb, rfl, rfl⟩
      clear lb0 u0 u1 u2
      have nn1 : (0 : Int) ≤ (na : Int) := Int.natCast_nonneg _
      have nn2 : (0 : Int) ≤ (nb : Int) := Int.natCast_nonneg _
      have la7 : na < 2 ^ 7000 := Nat.lt_trans la lim_bits
      have ba4 := bits4 la7
      have bb4 := bits4 lb
      have ba1 := bits1 la7
      obtain ⟨_, af, al⟩ := figs (lim_figs la)
      have cm : CMulW (na : Int) (nb : Int) := wide_mul (a := 7000) (b := 7000) la7 lb (by decide) (by decide) (by decide)
      have p60 : (0 : Int) < 10 ^ Int.toNat 60 := by decide +kernel
      clear la7 lb la
      repeat walk_at "w"
      refine ⟨kk, ?_⟩
      repeat walk_at "w"
      refine ⟨p, .tally kk.1, .n na, .n nb, _, _, rfl, hs.same u3.fr, rfl, Nat.le_refl _, tk_ok kk, rfl, rfl, nn1, nn2, fun v1 J1 g1 h1 => ?_⟩
      obtain rfl : v1 = .int ((na : Int) + (nb : Int)) := h1
      have u4 := u3.call g1
      repeat walk_at "w"
      refine ⟨kk, ?_⟩
      repeat walk_at "w"
      refine ⟨p, .tally kk.1, .n na, .n nb, _, _, rfl, hs.same u4.fr, rfl, Nat.le_refl _, tk_ok kk, rfl, rfl, nn1, nn2, ba4, bb4, fun v2 J2 g2 h2 => ?_⟩
      obtain rfl : v2 = .int ((na : Int) * (nb : Int)) := h2
      have u5 := u4.call g2
      repeat walk_at "w"
      refine ⟨kk, ?_⟩
      repeat walk_at "w"
      refine ⟨p, .tally kk.1, .n na, .n nb, _, _, rfl, hs.same u5.fr, rfl, Nat.le_refl _, tk_ok kk, rfl, rfl, nn1, nn2, fun J3 g3 => ?_⟩
      rw [wit]
      have u6 := u5.call g3
      repeat walk_at "w"
      refine ⟨kk, ?_⟩
      repeat walk_at "w"
      refine ⟨p, .tally kk.1, .n nb, .n na, _, _, rfl, hs.same u6.fr, rfl, Nat.le_refl _, tk_ok kk, rfl, rfl, nn2, nn1, fun J4 g4 => ?_⟩
      rw [wit]
      have u7 := u6.call g4
      clear u3 u4 u5 u6
      repeat walk_at "w"
      intro fo J5 _ u8
      repeat walk_at "w"
      refine ⟨so, na, nb, rfl, ?_⟩
      repeat walk_at "w"
      refine ⟨so, nb, na, rfl, ?_⟩
      repeat walk_at "w"
      intro du J6 _ u9
      repeat walk_at "w"
      refine ⟨kk, ?_⟩
      repeat walk_at "w"
      refine ⟨p, .tally kk.1, .n na, .n nb, _, _, rfl, hs.same u9.fr, rfl, Nat.le_refl _, tk_ok kk, rfl, rfl, nn1, nn2, fun v3 J7 g7 h7 => ?_⟩
      obtain rfl := bnd _ _ _ _ h7
      have u10 := u9.call g7
      repeat walk_at "w"
      refine ⟨kk, ?_⟩
      repeat walk_at "w"
      refine ⟨p, .tally kk.1, .n na, _, rfl, hs.same u10.fr, rfl, Nat.le_refl _, tk_ok kk, rfl, nn1, ba1, fun J8 g8 => ?_⟩
      have en : (SD.tally kk.1).nm (.n (na : Int)) = num (na : Int) := rfl
      rw [en]
      have u11 := u10.call g8
      repeat walk_at "w"
      refine ⟨kk, ?_⟩
      repeat walk_at "w"
      refine UG.w_strW af ?_
      repeat walk_at "w"
      refine ⟨p, _, rfl, hs.same u11.fr, Nat.le_trans al (by decide), .inl ⟨na, dec_num na, fun J9 g9 => ?_⟩⟩
      have u12 := u11.call g9
      clear u7 u8 u9 u10 u11
      repeat walk_at "w"
      intro l3 J10 _ u13
      repeat walk_at "w"
      intro f2 J11 _ u14
      repeat walk_at "w"
      refine ⟨so, na, nb, rfl, fun J12 g12 => ?_⟩
      have u15 := u14.call g12
      repeat walk_at "w"
      refine UG.w_strW af ?_
      repeat walk_at "w"
      intro l4 J13 _ u16
      repeat walk_at "w"
      intro d2 J14 _ u17
      repeat walk_at "w"
      rw [mod_60]
      generalize na % 10 ^ 60 = c
      refine ⟨kk, ?_⟩
      repeat walk_at "w"
      refine ⟨p, .tally kk.1, c, rfl, hs.same u17.fr, rfl, Nat.le_refl _, tk_ok kk, fun v4 J15 g15 h15 => ?_⟩
      rw [tm_tally] at h15
      obtain rfl : v4 = .int (c : Int) := h15
      have u18 := u17.call g15
      repeat walk_at "w"
      refine ⟨_, _, rfl, .int _, ?_⟩
      repeat walk_at "w"
      refine ⟨_, _, rfl, .lst (u18.get (.there (.there .here))) (u18.get .here) rfl (Nat.le_of_ble_eq_true rfl) (fun i x y hx hy => ?_), ?_⟩
      · match i, hx, hy with
        | 0, hx, hy => cases hx; cases hy; exact .int _
        | 1, hx, hy => cases hx; cases hy; exact .int _
        | 2, hx, hy => cases hx; cases hy; exact .bl _
        | 3, hx, hy => cases hx; cases hy; exact .bl _
        | 4, hx, hy => cases hx; cases hy; exact da_lB
        | 5, hx, hy => cases hx; cases hy; exact .str _
        | 6, hx, hy => cases hx; cases hy; exact .int _
        | i + 7, hx, hy => simp at hx
      have u19 := u18.sub (L := []) .nil
      repeat walk_at "w"
      exact ⟨_, _, _, _, _, _, _, _, _, rfl, u19⟩
    · rintro σ HA ⟨y4, y5, y6, y7, y8, y9, y10, y11, y12, rfl, u0⟩
      repeat walk_at "w"
      refine ⟨kk, ?_⟩
      repeat walk_at "w"
      refine ⟨p, .tally kk.1, .n 0, _, rfl, hs.same u0.fr, rfl, Nat.le_refl _, tk_ok kk, rfl, Int.le_refl _, bits_0, fun J1 g1 => ?_⟩
      have en : (SD.tally kk.1).nm (.n 0) = "0" := num_0
      rw [en]
      have v1 := u0.call g1
      repeat walk_at "w"
      refine ⟨kk, ?_⟩
      repeat walk_at "w"
      refine ⟨p, _, rfl, hs.same v1.fr, by decide +kernel, .inl ⟨0, dec_0, fun J2 g2 => ?_⟩⟩
      have v2 := v1.call g2
      repeat walk_at "w"
      refine ⟨kk, ?_⟩
      repeat walk_at "w"
      refine ⟨p, .tally kk.1, 0, rfl, hs.same v2.fr, rfl, Nat.le_refl _, tk_ok kk, fun v4 J3 g3 h3 => ?_⟩
      rw [tm_tally] at h3
      obtain rfl : v4 = .int ((0 : Nat) : Int) := h3
      have v3 := v2.call g3
      repeat walk_at "w"
      intro l1' J4 _ v4
      repeat walk_at "w"
      intro l2' J5 _ v5
      repeat walk_at "w"
      refine ⟨_, _, rfl, .lst (v5.get (.there .here)) (v5.get .here) rfl (Nat.le_of_ble_eq_true rfl) (fun i x y hx hy => ?_), ?_⟩
      · match i, hx, hy with
        | 0, hx, hy => cases hx; cases hy; exact .str _
        | 1, hx, hy => cases hx; cases hy; exact .int _
        | 2, hx, hy => cases hx; cases hy; exact .int _
        | i + 3, hx, hy => simp at hx
      have v6 := v5.sub (L := []) .nil
      clear v1 v2 v3 v4 v5 u0 wL
      repeat walk_at "w"
      refine ⟨kk, p, rfl, hs.same v6.fr, fun J6 g6 => ?_⟩
      have v7 := v6.call g6
      repeat walk_at "w"
      refine ⟨Z, S0, T2, [], kk, p, rfl, v7, hs, fun J7 v8 => ?_⟩
      clear v6 v7
      repeat walk_at "w"
      intro d J8 d0 d1 v9
      obtain ⟨dn, hdn⟩ := Int.eq_ofNat_of_zero_le (show 0 ≤ 1 + d by omega)
      have d31 : dn < 10 ^ 31 := by
        have e1 : (1 : Int) + 10 ^ Int.toNat 30 ≤ ((10 ^ 31 : Nat) : Int) := by decide +kernel
        have e2 : (dn : Int) < ((10 ^ 31 : Nat) : Int) := by rw [← hdn]; omega
        exact Int.ofNat_lt.mp e2
      have ln : (num (dn : Int)).length ≤ 31 := by
        rw [len_num]
        exact (Dec.pad_eq 31 dn (by decide) d31).1
      have lz0 : ("0" : Str).length = 1 := by decide +kernel
      have dk : (dn : Int).natAbs.log2 < 1920 := log_small (Nat.lt_of_lt_of_le d31 (by decide +kernel))
      repeat walk_at "w"
      rw [hdn]
      refine V.w_str dk ?_
      repeat walk_at "w"
      intro wl J9 _ v10
      repeat walk_at "w"
      intro i1 J10 i10 i11 v11
      obtain ⟨z1, az1, lz1, nz1⟩ := words_at i10 i11 d31
      repeat walk_at "w"
      refine ⟨kk, p, z1, rfl, hs.same v11.fr, lz1, nz1, fun J11 g11 => ?_⟩
      have v12 := v11.call g11
      repeat walk_at "w"
      intro i2 J12 i20 i21 v13
      obtain ⟨z2, az2, lz2, nz2⟩ := words_at i20 i21 d31
      repeat walk_at "w"
      refine ⟨kk, p, z2, rfl, hs.same v13.fr, lz2, nz2, fun J13 _ => ?_⟩
      repeat walk_at "w"
      exact k _
end
/-! ### k05: the end -/
theorem met_mono {P : Program} {w : World} {K : PySem.W.Frag} {mg : Str → Option Value} {base : Heap} {CX : CXT} {i j : Nat} {C : Addr} {m : Str} {sp : Sp} (h : Met P w K mg base CX i C m sp) (l : i ≤ j) : Met P w K mg base CX j C m sp := by
  obtain ⟨f, fd, ps, c, me, F, b⟩ := h.ex
  exact ⟨f, fd, ps, c, me, F.mono l, b⟩
theorem and2 {a b : Bool} (h : (a && b) = true) : a = true ∧ b = true := by
  cases a <;> cases b <;> first | exact ⟨rfl, rfl⟩ | exact absurd h (by decide)
def kTabX0 (K : PySem.W.Frag) (C : Addr) : Bool := PySem.W.excIn K C btV "ValueError.__new__" && PySem.W.keepIn K (.ref C)
theorem tk3 {p : Kn → Prop} (a : p .ex) (b : p .most) (c : p .least) : ∀ k : TK, p k.1
  | ⟨_, .inl rfl⟩ => a
  | ⟨_, .inr (.inl rfl)⟩ => b
  | ⟨_, .inr (.inr rfl)⟩ => c
def S05 (cx cm cl : Addr) : SE where
  cls := fun k => match k with | .ex => cx | .most => cm | .least => cl | _ => cx
  pr := fun k => match k with | .ex => true | .most => true | .least => true | _ => false
  Lf := fun _ _ _ _ => False
  LfS := fun _ h => h.elim
  LfN := fun h => h.elim
theorem all_mk {l : PySem.W.OpenLaw} {w : World} {K : PySem.W.Frag} {h : Heap} {mg : Str → Option Value} {fa : Addr} (X : K.In h) (G : h.Ns mainGlobals mg) (hfa : mg "law" = some (.ref fa))
    {C_ExactTally : Addr}
    {C_MostTally : Addr}
    {C_LeastTally : Addr}
    {C_Scale : Addr}
    {C_Tally : Addr}
    {C_NameMissing : Addr}
    {C_UsescaleError : Addr}
    {C_EndlessScale : Addr}
    {C_UnknownGrade : Addr}
    {f_ei_UnknownGrade_init : Addr} {oc_ei_UnknownGrade_init kV_ei_UnknownGrade_init dc_ei_UnknownGrade_init pm_ei_UnknownGrade_init cd_ei_UnknownGrade_init ct_ei_UnknownGrade_init : Value} {od_ei_UnknownGrade_init an_ei_UnknownGrade_init : Option Addr} {sl_ei_UnknownGrade_init : Array (Option Value)}
    {f_in_decimal : Addr} {oc_in_decimal kV_in_decimal dc_in_decimal pm_in_decimal cd_in_decimal ct_in_decimal : Value} {od_in_decimal an_in_decimal : Option Addr} {sl_in_decimal : Array (Option Value)}
    {f_from_decimal : Addr} {oc_from_decimal kV_from_decimal dc_from_decimal pm_from_decimal cd_from_decimal ct_from_decimal : Value} {od_from_decimal an_from_decimal : Option Addr} {sl_from_decimal : Array (Option Value)}
    {f_greater : Addr} {oc_greater kV_greater dc_greater pm_greater cd_greater ct_greater : Value} {od_greater an_greater : Option Addr} {sl_greater : Array (Option Value)}
    {f_lesser : Addr} {oc_lesser kV_lesser dc_lesser pm_lesser cd_lesser ct_lesser : Value} {od_lesser an_lesser : Option Addr} {sl_lesser : Array (Option Value)}
    {f__law_draws : Addr} {oc__law_draws kV__law_draws dc__law_draws pm__law_draws cd__law_draws ct__law_draws : Value} {od__law_draws an__law_draws : Option Addr} {sl__law_draws : Array (Option Value)}
    {f__law_draw : Addr} {oc__law_draw kV__law_draw dc__law_draw pm__law_draw cd__law_draw ct__law_draw : Value} {od__law_draw an__law_draw : Option Addr} {sl__law_draw : Array (Option Value)}
    {f__law_same : Addr} {oc__law_same kV__law_same dc__law_same pm__law_same cd__law_same ct__law_same : Value} {od__law_same an__law_same : Option Addr} {sl__law_same : Array (Option Value)}
    {f__law_number : Addr} {oc__law_number kV__law_number dc__law_number pm__law_number cd__law_number ct__law_number : Value} {od__law_number an__law_number : Option Addr} {sl__law_number : Array (Option Value)}
    {f__law_within : Addr} {oc__law_within kV__law_within dc__law_within pm__law_within cd__law_within ct__law_within : Value} {od__law_within an__law_within : Option Addr} {sl__law_within : Array (Option Value)}
    {f__law_bound : Addr} {oc__law_bound kV__law_bound dc__law_bound pm__law_bound cd__law_bound ct__law_bound : Value} {od__law_bound an__law_bound : Option Addr} {sl__law_bound : Array (Option Value)}
    {f__law_endless : Addr} {oc__law_endless kV__law_endless dc__law_endless pm__law_endless cd__law_endless ct__law_endless : Value} {od__law_endless an__law_endless : Option Addr} {sl__law_endless : Array (Option Value)}
    {f__law_unknown : Addr} {oc__law_unknown kV__law_unknown dc__law_unknown pm__law_unknown cd__law_unknown ct__law_unknown : Value} {od__law_unknown an__law_unknown : Option Addr} {sl__law_unknown : Array (Option Value)}
    {f__law_far_right : Addr} {oc__law_far_right kV__law_far_right dc__law_far_right pm__law_far_right cd__law_far_right ct__law_far_right : Value} {od__law_far_right an__law_far_right : Option Addr} {sl__law_far_right : Array (Option Value)}
    {f_law : Addr} {oc_law kV_law dc_law pm_law cd_law ct_law : Value} {od_law an_law : Option Addr} {sl_law : Array (Option Value)}
    {f_ExactTally___init__ : Addr} {oc_ExactTally___init__ kV_ExactTally___init__ dc_ExactTally___init__ pm_ExactTally___init__ cd_ExactTally___init__ ct_ExactTally___init__ : Value} {od_ExactTally___init__ an_ExactTally___init__ : Option Addr} {sl_ExactTally___init__ : Array (Option Value)}
    {f_ExactTally_sum_at : Addr} {oc_ExactTally_sum_at kV_ExactTally_sum_at dc_ExactTally_sum_at pm_ExactTally_sum_at cd_ExactTally_sum_at ct_ExactTally_sum_at : Value} {od_ExactTally_sum_at an_ExactTally_sum_at : Option Addr} {sl_ExactTally_sum_at : Array (Option Value)}
    {f_ExactTally_product_at : Addr} {oc_ExactTally_product_at kV_ExactTally_product_at dc_ExactTally_product_at pm_ExactTally_product_at cd_ExactTally_product_at ct_ExactTally_product_at : Value} {od_ExactTally_product_at an_ExactTally_product_at : Option Addr} {sl_ExactTally_product_at : Array (Option Value)}
    {f_ExactTally_within_at : Addr} {oc_ExactTally_within_at kV_ExactTally_within_at dc_ExactTally_within_at pm_ExactTally_within_at cd_ExactTally_within_at ct_ExactTally_within_at : Value} {od_ExactTally_within_at an_ExactTally_within_at : Option Addr} {sl_ExactTally_within_at : Array (Option Value)}
    {f_ExactTally_bound_at : Addr} {oc_ExactTally_bound_at kV_ExactTally_bound_at dc_ExactTally_bound_at pm_ExactTally_bound_at cd_ExactTally_bound_at ct_ExactTally_bound_at : Value} {od_ExactTally_bound_at an_ExactTally_bound_at : Option Addr} {sl_ExactTally_bound_at : Array (Option Value)}
    {f_ExactTally_name_at : Addr} {oc_ExactTally_name_at kV_ExactTally_name_at dc_ExactTally_name_at pm_ExactTally_name_at cd_ExactTally_name_at ct_ExactTally_name_at : Value} {od_ExactTally_name_at an_ExactTally_name_at : Option Addr} {sl_ExactTally_name_at : Array (Option Value)}
    {f_ExactTally_find_at : Addr} {oc_ExactTally_find_at kV_ExactTally_find_at dc_ExactTally_find_at pm_ExactTally_find_at cd_ExactTally_find_at ct_ExactTally_find_at : Value} {od_ExactTally_find_at an_ExactTally_find_at : Option Addr} {sl_ExactTally_find_at : Array (Option Value)}
    {f_ExactTally_at_name : Addr} {oc_ExactTally_at_name kV_ExactTally_at_name dc_ExactTally_at_name pm_ExactTally_at_name cd_ExactTally_at_name ct_ExactTally_at_name : Value} {od_ExactTally_at_name an_ExactTally_at_name : Option Addr} {sl_ExactTally_at_name : Array (Option Value)}
    {f_ExactTally_times_at : Addr} {oc_ExactTally_times_at kV_ExactTally_times_at dc_ExactTally_times_at pm_ExactTally_times_at cd_ExactTally_times_at ct_ExactTally_times_at : Value} {od_ExactTally_times_at an_ExactTally_times_at : Option Addr} {sl_ExactTally_times_at : Array (Option Value)}
    {f_ExactTally_places : Addr} {oc_ExactTally_places kV_ExactTally_places dc_ExactTally_places pm_ExactTally_places cd_ExactTally_places ct_ExactTally_places : Value} {od_ExactTally_places an_ExactTally_places : Option Addr} {sl_ExactTally_places : Array (Option Value)}
    {f_MostTally___init__ : Addr} {oc_MostTally___init__ kV_MostTally___init__ dc_MostTally___init__ pm_MostTally___init__ cd_MostTally___init__ ct_MostTally___init__ : Value} {od_MostTally___init__ an_MostTally___init__ : Option Addr} {sl_MostTally___init__ : Array (Option Value)}
    {f_MostTally_sum_at : Addr} {oc_MostTally_sum_at kV_MostTally_sum_at dc_MostTally_sum_at pm_MostTally_sum_at cd_MostTally_sum_at ct_MostTally_sum_at : Value} {od_MostTally_sum_at an_MostTally_sum_at : Option Addr} {sl_MostTally_sum_at : Array (Option Value)}
    {f_MostTally_product_at : Addr} {oc_MostTally_product_at kV_MostTally_product_at dc_MostTally_product_at pm_MostTally_product_at cd_MostTally_product_at ct_MostTally_product_at : Value} {od_MostTally_product_at an_MostTally_product_at : Option Addr} {sl_MostTally_product_at : Array (Option Value)}
    {f_MostTally_within_at : Addr} {oc_MostTally_within_at kV_MostTally_within_at dc_MostTally_within_at pm_MostTally_within_at cd_MostTally_within_at ct_MostTally_within_at : Value} {od_MostTally_within_at an_MostTally_within_at : Option Addr} {sl_MostTally_within_at : Array (Option Value)}
    {f_MostTally_bound_at : Addr} {oc_MostTally_bound_at kV_MostTally_bound_at dc_MostTally_bound_at pm_MostTally_bound_at cd_MostTally_bound_at ct_MostTally_bound_at : Value} {od_MostTally_bound_at an_MostTally_bound_at : Option Addr} {sl_MostTally_bound_at : Array (Option Value)}
    {f_MostTally_name_at : Addr} {oc_MostTally_name_at kV_MostTally_name_at dc_MostTally_name_at pm_MostTally_name_at cd_MostTally_name_at ct_MostTally_name_at : Value} {od_MostTally_name_at an_MostTally_name_at : Option Addr} {sl_MostTally_name_at : Array (Option Value)}
    {f_MostTally_find_at : Addr} {oc_MostTally_find_at kV_MostTally_find_at dc_MostTally_find_at pm_MostTally_find_at cd_MostTally_find_at ct_MostTally_find_at : Value} {od_MostTally_find_at an_MostTally_find_at : Option Addr} {sl_MostTally_find_at : Array (Option Value)}
    {f_MostTally_at_name : Addr} {oc_MostTally_at_name kV_MostTally_at_name dc_MostTally_at_name pm_MostTally_at_name cd_MostTally_at_name ct_MostTally_at_name : Value} {od_MostTally_at_name an_MostTally_at_name : Option Addr} {sl_MostTally_at_name : Array (Option Value)}
    {f_MostTally_times_at : Addr} {oc_MostTally_times_at kV_MostTally_times_at dc_MostTally_times_at pm_MostTally_times_at cd_MostTally_times_at ct_MostTally_times_at : Value} {od_MostTally_times_at an_MostTally_times_at : Option Addr} {sl_MostTally_times_at : Array (Option Value)}
    {f_MostTally_places : Addr} {oc_MostTally_places kV_MostTally_places dc_MostTally_places pm_MostTally_places cd_MostTally_places ct_MostTally_places : Value} {od_MostTally_places an_MostTally_places : Option Addr} {sl_MostTally_places : Array (Option Value)}
    {f_LeastTally___init__ : Addr} {oc_LeastTally___init__ kV_LeastTally___init__ dc_LeastTally___init__ pm_LeastTally___init__ cd_LeastTally___init__ ct_LeastTally___init__ : Value} {od_LeastTally___init__ an_LeastTally___init__ : Option Addr} {sl_LeastTally___init__ : Array (Option Value)}
    {f_LeastTally_sum_at : Addr} {oc_LeastTally_sum_at kV_LeastTally_sum_at dc_LeastTally_sum_at pm_LeastTally_sum_at cd_LeastTally_sum_at ct_LeastTally_sum_at : Value} {od_LeastTally_sum_at an_LeastTally_sum_at : Option Addr} {sl_LeastTally_sum_at : Array (Option Value)}
    {f_LeastTally_product_at : Addr} {oc_LeastTally_product_at kV_LeastTally_product_at dc_LeastTally_product_at pm_LeastTally_product_at cd_LeastTally_product_at ct_LeastTally_product_at : Value} {od_LeastTally_product_at an_LeastTally_product_at : Option Addr} {sl_LeastTally_product_at : Array (Option Value)}
    {f_LeastTally_within_at : Addr} {oc_LeastTally_within_at kV_LeastTally_within_at dc_LeastTally_within_at pm_LeastTally_within_at cd_LeastTally_within_at ct_LeastTally_within_at : Value} {od_LeastTally_within_at an_LeastTally_within_at : Option Addr} {sl_LeastTally_within_at : Array (Option Value)}
    {f_LeastTally_bound_at : Addr} {oc_LeastTally_bound_at kV_LeastTally_bound_at dc_LeastTally_bound_at pm_LeastTally_bound_at cd_LeastTally_bound_at ct_LeastTally_bound_at : Value} {od_LeastTally_bound_at an_LeastTally_bound_at : Option Addr} {sl_LeastTally_bound_at : Array (Option Value)}
    {f_LeastTally_name_at : Addr} {oc_LeastTally_name_at kV_LeastTally_name_at dc_LeastTally_name_at pm_LeastTally_name_at cd_LeastTally_name_at ct_LeastTally_name_at : Value} {od_LeastTally_name_at an_LeastTally_name_at : Option Addr} {sl_LeastTally_name_at : Array (Option Value)}
    {f_LeastTally_find_at : Addr} {oc_LeastTally_find_at kV_LeastTally_find_at dc_LeastTally_find_at pm_LeastTally_find_at cd_LeastTally_find_at ct_LeastTally_find_at : Value} {od_LeastTally_find_at an_LeastTally_find_at : Option Addr} {sl_LeastTally_find_at : Array (Option Value)}
    {f_LeastTally_at_name : Addr} {oc_LeastTally_at_name kV_LeastTally_at_name dc_LeastTally_at_name pm_LeastTally_at_name cd_LeastTally_at_name ct_LeastTally_at_name : Value} {od_LeastTally_at_name an_LeastTally_at_name : Option Addr} {sl_LeastTally_at_name : Array (Option Value)}
    {f_LeastTally_times_at : Addr} {oc_LeastTally_times_at kV_LeastTally_times_at dc_LeastTally_times_at pm_LeastTally_times_at cd_LeastTally_times_at ct_LeastTally_times_at : Value} {od_LeastTally_times_at an_LeastTally_times_at : Option Addr} {sl_LeastTally_times_at : Array (Option Value)}
    {f_LeastTally_places : Addr} {oc_LeastTally_places kV_LeastTally_places dc_LeastTally_places pm_LeastTally_places cd_LeastTally_places ct_LeastTally_places : Value} {od_LeastTally_places an_LeastTally_places : Option Addr} {sl_LeastTally_places : Array (Option Value)}
    {f_cf_Scale___init__ : Addr} {oc_cf_Scale___init__ kV_cf_Scale___init__ dc_cf_Scale___init__ pm_cf_Scale___init__ cd_cf_Scale___init__ ct_cf_Scale___init__ : Value} {od_cf_Scale___init__ an_cf_Scale___init__ : Option Addr} {sl_cf_Scale___init__ : Array (Option Value)}
    {f_cf_Tally___init__ : Addr} {oc_cf_Tally___init__ kV_cf_Tally___init__ dc_cf_Tally___init__ pm_cf_Tally___init__ cd_cf_Tally___init__ ct_cf_Tally___init__ : Value} {od_cf_Tally___init__ an_cf_Tally___init__ : Option Addr} {sl_cf_Tally___init__ : Array (Option Value)}
    {t_MOST_DEPTH : Tok}
    {t_FIGURES : Tok}
    {t_BLOCK : Tok}
    (aC_ExactTally : PySem.W.nsIn K mainGlobals "ExactTally" = some (some (.ref C_ExactTally)))
    (pg_ExactTally : PySem.W.plainGet K C_ExactTally Str.empty = true)
    (hd_ExactTally : PySem.W.hasDictIn K C_ExactTally = true)
    (po_ExactTally : PySem.W.plainOver K C_ExactTally = true)
    (sa_ExactTally : PySem.W.findIn K (.ref C_ExactTally) "__setattr__" = some (some (.builtin "object.__setattr__")))
    (mk_ExactTally : PySem.W.makesIn K C_ExactTally = true)
    (kc_ExactTally : PySem.W.keepIn K (.ref C_ExactTally) = true)
    (aC_MostTally : PySem.W.nsIn K mainGlobals "MostTally" = some (some (.ref C_MostTally)))
    (pg_MostTally : PySem.W.plainGet K C_MostTally Str.empty = true)
    (hd_MostTally : PySem.W.hasDictIn K C_MostTally = true)
    (po_MostTally : PySem.W.plainOver K C_MostTally = true)
    (sa_MostTally : PySem.W.findIn K (.ref C_MostTally) "__setattr__" = some (some (.builtin "object.__setattr__")))
    (mk_MostTally : PySem.W.makesIn K C_MostTally = true)
    (kc_MostTally : PySem.W.keepIn K (.ref C_MostTally) = true)
    (aC_LeastTally : PySem.W.nsIn K mainGlobals "LeastTally" = some (some (.ref C_LeastTally)))
    (pg_LeastTally : PySem.W.plainGet K C_LeastTally Str.empty = true)
    (hd_LeastTally : PySem.W.hasDictIn K C_LeastTally = true)
    (po_LeastTally : PySem.W.plainOver K C_LeastTally = true)
    (sa_LeastTally : PySem.W.findIn K (.ref C_LeastTally) "__setattr__" = some (some (.builtin "object.__setattr__")))
    (mk_LeastTally : PySem.W.makesIn K C_LeastTally = true)
    (kc_LeastTally : PySem.W.keepIn K (.ref C_LeastTally) = true)
    (aC_Scale : PySem.W.nsIn K mainGlobals "Scale" = some (some (.ref C_Scale)))
    (aC_Tally : PySem.W.nsIn K mainGlobals "Tally" = some (some (.ref C_Tally)))
    (aC_NameMissing : PySem.W.nsIn K mainGlobals "NameMissing" = some (some (.ref C_NameMissing)))
    (aC_UsescaleError : PySem.W.nsIn K mainGlobals "UsescaleError" = some (some (.ref C_UsescaleError)))
    (aC_EndlessScale : PySem.W.nsIn K mainGlobals "EndlessScale" = some (some (.ref C_EndlessScale)))
    (x_cg : PySem.W.specialIn K (.builtin "object.__class__") "__get__" = some (some (.builtin "getset_descriptor.__get__")))
    (x_ct : PySem.W.takesIn K (.builtin "object.__class__") = some true)
    (aC_UnknownGrade : PySem.W.nsIn K mainGlobals "UnknownGrade" = some (some (.ref C_UnknownGrade)))
    (xi_UnknownGrade : PySem.W.excInitIn K C_UnknownGrade [.type "LookupError", .type "Exception", .type "BaseException", .type "object"] "LookupError.__new__" = true)
    (xo_UnknownGrade : PySem.W.excOver K C_UnknownGrade [.type "LookupError", .type "Exception", .type "BaseException", .type "object"] = true)
    (xh_UnknownGrade : PySem.W.hasDictIn K C_UnknownGrade = true)
    (xs_UnknownGrade : PySem.W.findIn K (.ref C_UnknownGrade) "__setattr__" = some (some (.builtin "object.__setattr__")))
    (xe_UnknownGrade : PySem.W.subIn K (.ref C_UnknownGrade) (.type "BaseException") = some true)
    (xt_UnknownGrade : PySem.W.typeIn K (.ref C_UnknownGrade) = some (.type "type"))
    (xk_UnknownGrade : PySem.W.keepIn K (.ref C_UnknownGrade) = true)
    (xga_UnknownGrade : PySem.W.findIn K (.ref C_UnknownGrade) "__getattribute__" = some (some (.builtin "BaseException.__getattribute__")))
    (xgg_UnknownGrade : PySem.W.findIn K (.ref C_UnknownGrade) "__getattr__" = some none)
    (xca_UnknownGrade : PySem.W.findIn K (.ref C_UnknownGrade) "__class__" = some (some (.builtin "object.__class__")))
    (xmo_UnknownGrade : PySem.W.mroIn K C_UnknownGrade (.type "object") = some true)
    (a_ei_UnknownGrade_init : PySem.W.findIn K (.ref C_UnknownGrade) "__init__" = some (some (.ref f_ei_UnknownGrade_init)))
    (l_ei_UnknownGrade_init : K.lookup f_ei_UnknownGrade_init = some ⟨oc_ei_UnknownGrade_init, od_ei_UnknownGrade_init, .func (PySem.W.fnOf "__init__" "UnknownGrade.__init__" (defArgs (inClass (top 14) 0)) (defBody (inClass (top 14) 0)) (defScope (inClass (top 14) 0)) .none kV_ei_UnknownGrade_init dc_ei_UnknownGrade_init pm_ei_UnknownGrade_init an_ei_UnknownGrade_init cd_ei_UnknownGrade_init ct_ei_UnknownGrade_init), sl_ei_UnknownGrade_init⟩)
    (c_ei_UnknownGrade_init : PySem.W.codeIn K cd_ei_UnknownGrade_init "UnknownGrade.__init__" = true)
    (k_ei_UnknownGrade_init : PySem.W.keepIn K (.ref f_ei_UnknownGrade_init) = true)
    (ty_ei_UnknownGrade_init : PySem.W.typeIn K (.ref f_ei_UnknownGrade_init) = some (.type "function"))
    (rd_bi_NameMissing : PySem.W.readsIn K C_NameMissing (.type "type") = true)
    (ga_bi_NameMissing : PySem.W.specialIn K (.ref C_NameMissing) "__getattribute__" = some (some (.builtin "type.__getattribute__")))
    (a_bi_NameMissing : PySem.W.findCls K (.ref C_NameMissing) (.type "type") "__init__" = some (.val (.builtin "LookupError.__init__")))
    (a_in_decimal : PySem.W.nsIn K mainGlobals "in_decimal" = some (some (.ref f_in_decimal)))
    (l_in_decimal : K.lookup f_in_decimal = some ⟨oc_in_decimal, od_in_decimal, .func (PySem.W.fnOf "in_decimal" "in_decimal" (defArgs (top 7)) (defBody (top 7)) (defScope (top 7)) .none kV_in_decimal dc_in_decimal pm_in_decimal an_in_decimal cd_in_decimal ct_in_decimal), sl_in_decimal⟩)
    (c_in_decimal : PySem.W.codeIn K cd_in_decimal "in_decimal" = true)
    (k_in_decimal : PySem.W.keepIn K (.ref f_in_decimal) = true)
    (a_from_decimal : PySem.W.nsIn K mainGlobals "from_decimal" = some (some (.ref f_from_decimal)))
    (l_from_decimal : K.lookup f_from_decimal = some ⟨oc_from_decimal, od_from_decimal, .func (PySem.W.fnOf "from_decimal" "from_decimal" (defArgs (top 8)) (defBody (top 8)) (defScope (top 8)) .none kV_from_decimal dc_from_decimal pm_from_decimal an_from_decimal cd_from_decimal ct_from_decimal), sl_from_decimal⟩)
    (c_from_decimal : PySem.W.codeIn K cd_from_decimal "from_decimal" = true)
    (k_from_decimal : PySem.W.keepIn K (.ref f_from_decimal) = true)
    (a_greater : PySem.W.nsIn K mainGlobals "greater" = some (some (.ref f_greater)))
    (l_greater : K.lookup f_greater = some ⟨oc_greater, od_greater, .func (PySem.W.fnOf "greater" "greater" (defArgs (top 4)) (defBody (top 4)) (defScope (top 4)) .none kV_greater dc_greater pm_greater an_greater cd_greater ct_greater), sl_greater⟩)
    (c_greater : PySem.W.codeIn K cd_greater "greater" = true)
    (k_greater : PySem.W.keepIn K (.ref f_greater) = true)
    (a_lesser : PySem.W.nsIn K mainGlobals "lesser" = some (some (.ref f_lesser)))
    (l_lesser : K.lookup f_lesser = some ⟨oc_lesser, od_lesser, .func (PySem.W.fnOf "lesser" "lesser" (defArgs (top 5)) (defBody (top 5)) (defScope (top 5)) .none kV_lesser dc_lesser pm_lesser an_lesser cd_lesser ct_lesser), sl_lesser⟩)
    (c_lesser : PySem.W.codeIn K cd_lesser "lesser" = true)
    (k_lesser : PySem.W.keepIn K (.ref f_lesser) = true)
    (a__law_draws : PySem.W.nsIn K mainGlobals "_law_draws" = some (some (.ref f__law_draws)))
    (l__law_draws : K.lookup f__law_draws = some ⟨oc__law_draws, od__law_draws, .func (PySem.W.fnOf "_law_draws" "_law_draws" (defArgs (top 24)) (defBody (top 24)) (defScope (top 24)) .none kV__law_draws dc__law_draws pm__law_draws an__law_draws cd__law_draws ct__law_draws), sl__law_draws⟩)
    (c__law_draws : PySem.W.codeIn K cd__law_draws "_law_draws" = true)
    (k__law_draws : PySem.W.keepIn K (.ref f__law_draws) = true)
    (a__law_draw : PySem.W.nsIn K mainGlobals "_law_draw" = some (some (.ref f__law_draw)))
    (l__law_draw : K.lookup f__law_draw = some ⟨oc__law_draw, od__law_draw, .func (PySem.W.fnOf "_law_draw" "_law_draw" (defArgs (top 25)) (defBody (top 25)) (defScope (top 25)) .none kV__law_draw dc__law_draw pm__law_draw an__law_draw cd__law_draw ct__law_draw), sl__law_draw⟩)
    (c__law_draw : PySem.W.codeIn K cd__law_draw "_law_draw" = true)
    (k__law_draw : PySem.W.keepIn K (.ref f__law_draw) = true)
    (a__law_same : PySem.W.nsIn K mainGlobals "_law_same" = some (some (.ref f__law_same)))
    (l__law_same : K.lookup f__law_same = some ⟨oc__law_same, od__law_same, .func (PySem.W.fnOf "_law_same" "_law_same" (defArgs (top 26)) (defBody (top 26)) (defScope (top 26)) .none kV__law_same dc__law_same pm__law_same an__law_same cd__law_same ct__law_same), sl__law_same⟩)
    (c__law_same : PySem.W.codeIn K cd__law_same "_law_same" = true)
    (k__law_same : PySem.W.keepIn K (.ref f__law_same) = true)
    (a__law_number : PySem.W.nsIn K mainGlobals "_law_number" = some (some (.ref f__law_number)))
    (l__law_number : K.lookup f__law_number = some ⟨oc__law_number, od__law_number, .func (PySem.W.fnOf "_law_number" "_law_number" (defArgs (top 27)) (defBody (top 27)) (defScope (top 27)) .none kV__law_number dc__law_number pm__law_number an__law_number cd__law_number ct__law_number), sl__law_number⟩)
    (c__law_number : PySem.W.codeIn K cd__law_number "_law_number" = true)
    (k__law_number : PySem.W.keepIn K (.ref f__law_number) = true)
    (a__law_within : PySem.W.nsIn K mainGlobals "_law_within" = some (some (.ref f__law_within)))
    (l__law_within : K.lookup f__law_within = some ⟨oc__law_within, od__law_within, .func (PySem.W.fnOf "_law_within" "_law_within" (defArgs (top 28)) (defBody (top 28)) (defScope (top 28)) .none kV__law_within dc__law_within pm__law_within an__law_within cd__law_within ct__law_within), sl__law_within⟩)
    (c__law_within : PySem.W.codeIn K cd__law_within "_law_within" = true)
    (k__law_within : PySem.W.keepIn K (.ref f__law_within) = true)
    (a__law_bound : PySem.W.nsIn K mainGlobals "_law_bound" = some (some (.ref f__law_bound)))
    (l__law_bound : K.lookup f__law_bound = some ⟨oc__law_bound, od__law_bound, .func (PySem.W.fnOf "_law_bound" "_law_bound" (defArgs (top 29)) (defBody (top 29)) (defScope (top 29)) .none kV__law_bound dc__law_bound pm__law_bound an__law_bound cd__law_bound ct__law_bound), sl__law_bound⟩)
    (c__law_bound : PySem.W.codeIn K cd__law_bound "_law_bound" = true)
    (k__law_bound : PySem.W.keepIn K (.ref f__law_bound) = true)
    (a__law_endless : PySem.W.nsIn K mainGlobals "_law_endless" = some (some (.ref f__law_endless)))
    (l__law_endless : K.lookup f__law_endless = some ⟨oc__law_endless, od__law_endless, .func (PySem.W.fnOf "_law_endless" "_law_endless" (defArgs (top 30)) (defBody (top 30)) (defScope (top 30)) .none kV__law_endless dc__law_endless pm__law_endless an__law_endless cd__law_endless ct__law_endless), sl__law_endless⟩)
    (c__law_endless : PySem.W.codeIn K cd__law_endless "_law_endless" = true)
    (k__law_endless : PySem.W.keepIn K (.ref f__law_endless) = true)
    (a__law_unknown : PySem.W.nsIn K mainGlobals "_law_unknown" = some (some (.ref f__law_unknown)))
    (l__law_unknown : K.lookup f__law_unknown = some ⟨oc__law_unknown, od__law_unknown, .func (PySem.W.fnOf "_law_unknown" "_law_unknown" (defArgs (top 31)) (defBody (top 31)) (defScope (top 31)) .none kV__law_unknown dc__law_unknown pm__law_unknown an__law_unknown cd__law_unknown ct__law_unknown), sl__law_unknown⟩)
    (c__law_unknown : PySem.W.codeIn K cd__law_unknown "_law_unknown" = true)
    (k__law_unknown : PySem.W.keepIn K (.ref f__law_unknown) = true)
    (a__law_far_right : PySem.W.nsIn K mainGlobals "_law_far_right" = some (some (.ref f__law_far_right)))
    (l__law_far_right : K.lookup f__law_far_right = some ⟨oc__law_far_right, od__law_far_right, .func (PySem.W.fnOf "_law_far_right" "_law_far_right" (defArgs (top 32)) (defBody (top 32)) (defScope (top 32)) .none kV__law_far_right dc__law_far_right pm__law_far_right an__law_far_right cd__law_far_right ct__law_far_right), sl__law_far_right⟩)
    (c__law_far_right : PySem.W.codeIn K cd__law_far_right "_law_far_right" = true)
    (k__law_far_right : PySem.W.keepIn K (.ref f__law_far_right) = true)
    (a_law : PySem.W.nsIn K mainGlobals "law" = some (some (.ref f_law)))
    (l_law : K.lookup f_law = some ⟨oc_law, od_law, .func (PySem.W.fnOf "law" "law" (defArgs (top 33)) (defBody (top 33)) (defScope (top 33)) .none kV_law dc_law pm_law an_law cd_law ct_law), sl_law⟩)
    (c_law : PySem.W.codeIn K cd_law "law" = true)
    (k_law : PySem.W.keepIn K (.ref f_law) = true)
    (a_ExactTally___init__ : PySem.W.findIn K (.ref C_ExactTally) "__init__" = some (some (.ref f_ExactTally___init__)))
    (i_ExactTally___init__ : PySem.W.isFn K (.ref f_ExactTally___init__) = true)
    (l_ExactTally___init__ : K.lookup f_ExactTally___init__ = some ⟨oc_ExactTally___init__, od_ExactTally___init__, .func (PySem.W.fnOf "__init__" "ExactTally.__init__" (defArgs (inClass (top 20) 0)) (defBody (inClass (top 20) 0)) (defScope (inClass (top 20) 0)) .none kV_ExactTally___init__ dc_ExactTally___init__ pm_ExactTally___init__ an_ExactTally___init__ cd_ExactTally___init__ ct_ExactTally___init__), sl_ExactTally___init__⟩)
    (c_ExactTally___init__ : PySem.W.codeIn K cd_ExactTally___init__ "ExactTally.__init__" = true)
    (k_ExactTally___init__ : PySem.W.keepIn K (.ref f_ExactTally___init__) = true)
    (a_ExactTally_sum_at : PySem.W.findIn K (.ref C_ExactTally) "sum_at" = some (some (.ref f_ExactTally_sum_at)))
    (i_ExactTally_sum_at : PySem.W.isFn K (.ref f_ExactTally_sum_at) = true)
    (l_ExactTally_sum_at : K.lookup f_ExactTally_sum_at = some ⟨oc_ExactTally_sum_at, od_ExactTally_sum_at, .func (PySem.W.fnOf "sum_at" "Tally.sum_at" (defArgs (inClass (top 19) 2)) (defBody (inClass (top 19) 2)) (defScope (inClass (top 19) 2)) .none kV_ExactTally_sum_at dc_ExactTally_sum_at pm_ExactTally_sum_at an_ExactTally_sum_at cd_ExactTally_sum_at ct_ExactTally_sum_at), sl_ExactTally_sum_at⟩)
    (c_ExactTally_sum_at : PySem.W.codeIn K cd_ExactTally_sum_at "Tally.sum_at" = true)
    (k_ExactTally_sum_at : PySem.W.keepIn K (.ref f_ExactTally_sum_at) = true)
    (a_ExactTally_product_at : PySem.W.findIn K (.ref C_ExactTally) "product_at" = some (some (.ref f_ExactTally_product_at)))
    (i_ExactTally_product_at : PySem.W.isFn K (.ref f_ExactTally_product_at) = true)
    (l_ExactTally_product_at : K.lookup f_ExactTally_product_at = some ⟨oc_ExactTally_product_at, od_ExactTally_product_at, .func (PySem.W.fnOf "product_at" "Tally.product_at" (defArgs (inClass (top 19) 3)) (defBody (inClass (top 19) 3)) (defScope (inClass (top 19) 3)) .none kV_ExactTally_product_at dc_ExactTally_product_at pm_ExactTally_product_at an_ExactTally_product_at cd_ExactTally_product_at ct_ExactTally_product_at), sl_ExactTally_product_at⟩)
    (c_ExactTally_product_at : PySem.W.codeIn K cd_ExactTally_product_at "Tally.product_at" = true)
    (k_ExactTally_product_at : PySem.W.keepIn K (.ref f_ExactTally_product_at) = true)
    (a_ExactTally_within_at : PySem.W.findIn K (.ref C_ExactTally) "within_at" = some (some (.ref f_ExactTally_within_at)))
    (i_ExactTally_within_at : PySem.W.isFn K (.ref f_ExactTally_within_at) = true)
    (l_ExactTally_within_at : K.lookup f_ExactTally_within_at = some ⟨oc_ExactTally_within_at, od_ExactTally_within_at, .func (PySem.W.fnOf "within_at" "ExactTally.within_at" (defArgs (inClass (top 20) 1)) (defBody (inClass (top 20) 1)) (defScope (inClass (top 20) 1)) .none kV_ExactTally_within_at dc_ExactTally_within_at pm_ExactTally_within_at an_ExactTally_within_at cd_ExactTally_within_at ct_ExactTally_within_at), sl_ExactTally_within_at⟩)
    (c_ExactTally_within_at : PySem.W.codeIn K cd_ExactTally_within_at "ExactTally.within_at" = true)
    (k_ExactTally_within_at : PySem.W.keepIn K (.ref f_ExactTally_within_at) = true)
    (a_ExactTally_bound_at : PySem.W.findIn K (.ref C_ExactTally) "bound_at" = some (some (.ref f_ExactTally_bound_at)))
    (i_ExactTally_bound_at : PySem.W.isFn K (.ref f_ExactTally_bound_at) = true)
    (l_ExactTally_bound_at : K.lookup f_ExactTally_bound_at = some ⟨oc_ExactTally_bound_at, od_ExactTally_bound_at, .func (PySem.W.fnOf "bound_at" "ExactTally.bound_at" (defArgs (inClass (top 20) 2)) (defBody (inClass (top 20) 2)) (defScope (inClass (top 20) 2)) .none kV_ExactTally_bound_at dc_ExactTally_bound_at pm_ExactTally_bound_at an_ExactTally_bound_at cd_ExactTally_bound_at ct_ExactTally_bound_at), sl_ExactTally_bound_at⟩)
    (c_ExactTally_bound_at : PySem.W.codeIn K cd_ExactTally_bound_at "ExactTally.bound_at" = true)
    (k_ExactTally_bound_at : PySem.W.keepIn K (.ref f_ExactTally_bound_at) = true)
    (a_ExactTally_name_at : PySem.W.findIn K (.ref C_ExactTally) "name_at" = some (some (.ref f_ExactTally_name_at)))
    (i_ExactTally_name_at : PySem.W.isFn K (.ref f_ExactTally_name_at) = true)
    (l_ExactTally_name_at : K.lookup f_ExactTally_name_at = some ⟨oc_ExactTally_name_at, od_ExactTally_name_at, .func (PySem.W.fnOf "name_at" "Tally.name_at" (defArgs (inClass (top 19) 4)) (defBody (inClass (top 19) 4)) (defScope (inClass (top 19) 4)) .none kV_ExactTally_name_at dc_ExactTally_name_at pm_ExactTally_name_at an_ExactTally_name_at cd_ExactTally_name_at ct_ExactTally_name_at), sl_ExactTally_name_at⟩)
    (c_ExactTally_name_at : PySem.W.codeIn K cd_ExactTally_name_at "Tally.name_at" = true)
    (k_ExactTally_name_at : PySem.W.keepIn K (.ref f_ExactTally_name_at) = true)
    (a_ExactTally_find_at : PySem.W.findIn K (.ref C_ExactTally) "find_at" = some (some (.ref f_ExactTally_find_at)))
    (i_ExactTally_find_at : PySem.W.isFn K (.ref f_ExactTally_find_at) = true)
    (l_ExactTally_find_at : K.lookup f_ExactTally_find_at = some ⟨oc_ExactTally_find_at, od_ExactTally_find_at, .func (PySem.W.fnOf "find_at" "Tally.find_at" (defArgs (inClass (top 19) 5)) (defBody (inClass (top 19) 5)) (defScope (inClass (top 19) 5)) .none kV_ExactTally_find_at dc_ExactTally_find_at pm_ExactTally_find_at an_ExactTally_find_at cd_ExactTally_find_at ct_ExactTally_find_at), sl_ExactTally_find_at⟩)
    (c_ExactTally_find_at : PySem.W.codeIn K cd_ExactTally_find_at "Tally.find_at" = true)
    (k_ExactTally_find_at : PySem.W.keepIn K (.ref f_ExactTally_find_at) = true)
    (a_ExactTally_at_name : PySem.W.findIn K (.ref C_ExactTally) "at_name" = some (some (.ref f_ExactTally_at_name)))
    (i_ExactTally_at_name : PySem.W.isFn K (.ref f_ExactTally_at_name) = true)
    (l_ExactTally_at_name : K.lookup f_ExactTally_at_name = some ⟨oc_ExactTally_at_name, od_ExactTally_at_name, .func (PySem.W.fnOf "at_name" "Scale.at_name" (defArgs (inClass (top 17) 9)) (defBody (inClass (top 17) 9)) (defScope (inClass (top 17) 9)) .none kV_ExactTally_at_name dc_ExactTally_at_name pm_ExactTally_at_name an_ExactTally_at_name cd_ExactTally_at_name ct_ExactTally_at_name), sl_ExactTally_at_name⟩)
    (c_ExactTally_at_name : PySem.W.codeIn K cd_ExactTally_at_name "Scale.at_name" = true)
    (k_ExactTally_at_name : PySem.W.keepIn K (.ref f_ExactTally_at_name) = true)
    (a_ExactTally_times_at : PySem.W.findIn K (.ref C_ExactTally) "times_at" = some (some (.ref f_ExactTally_times_at)))
    (i_ExactTally_times_at : PySem.W.isFn K (.ref f_ExactTally_times_at) = true)
    (l_ExactTally_times_at : K.lookup f_ExactTally_times_at = some ⟨oc_ExactTally_times_at, od_ExactTally_times_at, .func (PySem.W.fnOf "times_at" "Tally.times_at" (defArgs (inClass (top 19) 6)) (defBody (inClass (top 19) 6)) (defScope (inClass (top 19) 6)) .none kV_ExactTally_times_at dc_ExactTally_times_at pm_ExactTally_times_at an_ExactTally_times_at cd_ExactTally_times_at ct_ExactTally_times_at), sl_ExactTally_times_at⟩)
    (c_ExactTally_times_at : PySem.W.codeIn K cd_ExactTally_times_at "Tally.times_at" = true)
    (k_ExactTally_times_at : PySem.W.keepIn K (.ref f_ExactTally_times_at) = true)
    (a_ExactTally_places : PySem.W.findIn K (.ref C_ExactTally) "places" = some (some (.ref f_ExactTally_places)))
    (i_ExactTally_places : PySem.W.isFn K (.ref f_ExactTally_places) = true)
    (l_ExactTally_places : K.lookup f_ExactTally_places = some ⟨oc_ExactTally_places, od_ExactTally_places, .func (PySem.W.fnOf "places" "Tally.places" (defArgs (inClass (top 19) 1)) (defBody (inClass (top 19) 1)) (defScope (inClass (top 19) 1)) .none kV_ExactTally_places dc_ExactTally_places pm_ExactTally_places an_ExactTally_places cd_ExactTally_places ct_ExactTally_places), sl_ExactTally_places⟩)
    (c_ExactTally_places : PySem.W.codeIn K cd_ExactTally_places "Tally.places" = true)
    (k_ExactTally_places : PySem.W.keepIn K (.ref f_ExactTally_places) = true)
    (a_MostTally___init__ : PySem.W.findIn K (.ref C_MostTally) "__init__" = some (some (.ref f_MostTally___init__)))
    (i_MostTally___init__ : PySem.W.isFn K (.ref f_MostTally___init__) = true)
    (l_MostTally___init__ : K.lookup f_MostTally___init__ = some ⟨oc_MostTally___init__, od_MostTally___init__, .func (PySem.W.fnOf "__init__" "MostTally.__init__" (defArgs (inClass (top 21) 0)) (defBody (inClass (top 21) 0)) (defScope (inClass (top 21) 0)) .none kV_MostTally___init__ dc_MostTally___init__ pm_MostTally___init__ an_MostTally___init__ cd_MostTally___init__ ct_MostTally___init__), sl_MostTally___init__⟩)
    (c_MostTally___init__ : PySem.W.codeIn K cd_MostTally___init__ "MostTally.__init__" = true)
    (k_MostTally___init__ : PySem.W.keepIn K (.ref f_MostTally___init__) = true)
    (a_MostTally_sum_at : PySem.W.findIn K (.ref C_MostTally) "sum_at" = some (some (.ref f_MostTally_sum_at)))
    (i_MostTally_sum_at : PySem.W.isFn K (.ref f_MostTally_sum_at) = true)
    (l_MostTally_sum_at : K.lookup f_MostTally_sum_at = some ⟨oc_MostTally_sum_at, od_MostTally_sum_at, .func (PySem.W.fnOf "sum_at" "Tally.sum_at" (defArgs (inClass (top 19) 2)) (defBody (inClass (top 19) 2)) (defScope (inClass (top 19) 2)) .none kV_MostTally_sum_at dc_MostTally_sum_at pm_MostTally_sum_at an_MostTally_sum_at cd_MostTally_sum_at ct_MostTally_sum_at), sl_MostTally_sum_at⟩)
    (c_MostTally_sum_at : PySem.W.codeIn K cd_MostTally_sum_at "Tally.sum_at" = true)
    (k_MostTally_sum_at : PySem.W.keepIn K (.ref f_MostTally_sum_at) = true)
    (a_MostTally_product_at : PySem.W.findIn K (.ref C_MostTally) "product_at" = some (some (.ref f_MostTally_product_at)))
    (i_MostTally_product_at : PySem.W.isFn K (.ref f_MostTally_product_at) = true)
    (l_MostTally_product_at : K.lookup f_MostTally_product_at = some ⟨oc_MostTally_product_at, od_MostTally_product_at, .func (PySem.W.fnOf "product_at" "Tally.product_at" (defArgs (inClass (top 19) 3)) (defBody (inClass (top 19) 3)) (defScope (inClass (top 19) 3)) .none kV_MostTally_product_at dc_MostTally_product_at pm_MostTally_product_at an_MostTally_product_at cd_MostTally_product_at ct_MostTally_product_at), sl_MostTally_product_at⟩)
    (c_MostTally_product_at : PySem.W.codeIn K cd_MostTally_product_at "Tally.product_at" = true)
    (k_MostTally_product_at : PySem.W.keepIn K (.ref f_MostTally_product_at) = true)
    (a_MostTally_within_at : PySem.W.findIn K (.ref C_MostTally) "within_at" = some (some (.ref f_MostTally_within_at)))
    (i_MostTally_within_at : PySem.W.isFn K (.ref f_MostTally_within_at) = true)
    (l_MostTally_within_at : K.lookup f_MostTally_within_at = some ⟨oc_MostTally_within_at, od_MostTally_within_at, .func (PySem.W.fnOf "within_at" "MostTally.within_at" (defArgs (inClass (top 21) 1)) (defBody (inClass (top 21) 1)) (defScope (inClass (top 21) 1)) .none kV_MostTally_within_at dc_MostTally_within_at pm_MostTally_within_at an_MostTally_within_at cd_MostTally_within_at ct_MostTally_within_at), sl_MostTally_within_at⟩)
    (c_MostTally_within_at : PySem.W.codeIn K cd_MostTally_within_at "MostTally.within_at" = true)
    (k_MostTally_within_at : PySem.W.keepIn K (.ref f_MostTally_within_at) = true)
    (a_MostTally_bound_at : PySem.W.findIn K (.ref C_MostTally) "bound_at" = some (some (.ref f_MostTally_bound_at)))
    (i_MostTally_bound_at : PySem.W.isFn K (.ref f_MostTally_bound_at) = true)
    (l_MostTally_bound_at : K.lookup f_MostTally_bound_at = some ⟨oc_MostTally_bound_at, od_MostTally_bound_at, .func (PySem.W.fnOf "bound_at" "MostTally.bound_at" (defArgs (inClass (top 21) 2)) (defBody (inClass (top 21) 2)) (defScope (inClass (top 21) 2)) .none kV_MostTally_bound_at dc_MostTally_bound_at pm_MostTally_bound_at an_MostTally_bound_at cd_MostTally_bound_at ct_MostTally_bound_at), sl_MostTally_bound_at⟩)
    (c_MostTally_bound_at : PySem.W.codeIn K cd_MostTally_bound_at "MostTally.bound_at" = true)
    (k_MostTally_bound_at : PySem.W.keepIn K (.ref f_MostTally_bound_at) = true)
    (a_MostTally_name_at : PySem.W.findIn K (.ref C_MostTally) "name_at" = some (some (.ref f_MostTally_name_at)))
    (i_MostTally_name_at : PySem.W.isFn K (.ref f_MostTally_name_at) = true)
    (l_MostTally_name_at : K.lookup f_MostTally_name_at = some ⟨oc_MostTally_name_at, od_MostTally_name_at, .func (PySem.W.fnOf "name_at" "Tally.name_at" (defArgs (inClass (top 19) 4)) (defBody (inClass (top 19) 4)) (defScope (inClass (top 19) 4)) .none kV_MostTally_name_at dc_MostTally_name_at pm_MostTally_name_at an_MostTally_name_at cd_MostTally_name_at ct_MostTally_name_at), sl_MostTally_name_at⟩)
    (c_MostTally_name_at : PySem.W.codeIn K cd_MostTally_name_at "Tally.name_at" = true)
    (k_MostTally_name_at : PySem.W.keepIn K (.ref f_MostTally_name_at) = true)
    (a_MostTally_find_at : PySem.W.findIn K (.ref C_MostTally) "find_at" = some (some (.ref f_MostTally_find_at)))
    (i_MostTally_find_at : PySem.W.isFn K (.ref f_MostTally_find_at) = true)
    (l_MostTally_find_at : K.lookup f_MostTally_find_at = some ⟨oc_MostTally_find_at, od_MostTally_find_at, .func (PySem.W.fnOf "find_at" "Tally.find_at" (defArgs (inClass (top 19) 5)) (defBody (inClass (top 19) 5)) (defScope (inClass (top 19) 5)) .none kV_MostTally_find_at dc_MostTally_find_at pm_MostTally_find_at an_MostTally_find_at cd_MostTally_find_at ct_MostTally_find_at), sl_MostTally_find_at⟩)
    (c_MostTally_find_at : PySem.W.codeIn K cd_MostTally_find_at "Tally.find_at" = true)
    (k_MostTally_find_at : PySem.W.keepIn K (.ref f_MostTally_find_at) = true)
    (a_MostTally_at_name : PySem.W.findIn K (.ref C_MostTally) "at_name" = some (some (.ref f_MostTally_at_name)))
    (i_MostTally_at_name : PySem.W.isFn K (.ref f_MostTally_at_name) = true)
    (l_MostTally_at_name : K.lookup f_MostTally_at_name = some ⟨oc_MostTally_at_name, od_MostTally_at_name, .func (PySem.W.fnOf "at_name" "Scale.at_name" (defArgs (inClass (top 17) 9)) (defBody (inClass (top 17) 9)) (defScope (inClass (top 17) 9)) .none kV_MostTally_at_name dc_MostTally_at_name pm_MostTally_at_name an_MostTally_at_name cd_MostTally_at_name ct_MostTally_at_name), sl_MostTally_at_name⟩)
    (c_MostTally_at_name : PySem.W.codeIn K cd_MostTally_at_name "Scale.at_name" = true)
    (k_MostTally_at_name : PySem.W.keepIn K (.ref f_MostTally_at_name) = true)
    (a_MostTally_times_at : PySem.W.findIn K (.ref C_MostTally) "times_at" = some (some (.ref f_MostTally_times_at)))
    (i_MostTally_times_at : PySem.W.isFn K (.ref f_MostTally_times_at) = true)
    (l_MostTally_times_at : K.lookup f_MostTally_times_at = some ⟨oc_MostTally_times_at, od_MostTally_times_at, .func (PySem.W.fnOf "times_at" "Tally.times_at" (defArgs (inClass (top 19) 6)) (defBody (inClass (top 19) 6)) (defScope (inClass (top 19) 6)) .none kV_MostTally_times_at dc_MostTally_times_at pm_MostTally_times_at an_MostTally_times_at cd_MostTally_times_at ct_MostTally_times_at), sl_MostTally_times_at⟩)
    (c_MostTally_times_at : PySem.W.codeIn K cd_MostTally_times_at "Tally.times_at" = true)
    (k_MostTally_times_at : PySem.W.keepIn K (.ref f_MostTally_times_at) = true)
    (a_MostTally_places : PySem.W.findIn K (.ref C_MostTally) "places" = some (some (.ref f_MostTally_places)))
    (i_MostTally_places : PySem.W.isFn K (.ref f_MostTally_places) = true)
    (l_MostTally_places : K.lookup f_MostTally_places = some ⟨oc_MostTally_places, od_MostTally_places, .func (PySem.W.fnOf "places" "Tally.places" (defArgs (inClass (top 19) 1)) (defBody (inClass (top 19) 1)) (defScope (inClass (top 19) 1)) .none kV_MostTally_places dc_MostTally_places pm_MostTally_places an_MostTally_places cd_MostTally_places ct_MostTally_places), sl_MostTally_places⟩)
    (c_MostTally_places : PySem.W.codeIn K cd_MostTally_places "Tally.places" = true)
    (k_MostTally_places : PySem.W.keepIn K (.ref f_MostTally_places) = true)
    (a_LeastTally___init__ : PySem.W.findIn K (.ref C_LeastTally) "__init__" = some (some (.ref f_LeastTally___init__)))
    (i_LeastTally___init__ : PySem.W.isFn K (.ref f_LeastTally___init__) = true)
    (l_LeastTally___init__ : K.lookup f_LeastTally___init__ = some ⟨oc_LeastTally___init__, od_LeastTally___init__, .func (PySem.W.fnOf "__init__" "LeastTally.__init__" (defArgs (inClass (top 22) 0)) (defBody (inClass (top 22) 0)) (defScope (inClass (top 22) 0)) .none kV_LeastTally___init__ dc_LeastTally___init__ pm_LeastTally___init__ an_LeastTally___init__ cd_LeastTally___init__ ct_LeastTally___init__), sl_LeastTally___init__⟩)
    (c_LeastTally___init__ : PySem.W.codeIn K cd_LeastTally___init__ "LeastTally.__init__" = true)
    (k_LeastTally___init__ : PySem.W.keepIn K (.ref f_LeastTally___init__) = true)
    (a_LeastTally_sum_at : PySem.W.findIn K (.ref C_LeastTally) "sum_at" = some (some (.ref f_LeastTally_sum_at)))
    (i_LeastTally_sum_at : PySem.W.isFn K (.ref f_LeastTally_sum_at) = true)
    (l_LeastTally_sum_at : K.lookup f_LeastTally_sum_at = some ⟨oc_LeastTally_sum_at, od_LeastTally_sum_at, .func (PySem.W.fnOf "sum_at" "Tally.sum_at" (defArgs (inClass (top 19) 2)) (defBody (inClass (top 19) 2)) (defScope (inClass (top 19) 2)) .none kV_LeastTally_sum_at dc_LeastTally_sum_at pm_LeastTally_sum_at an_LeastTally_sum_at cd_LeastTally_sum_at ct_LeastTally_sum_at), sl_LeastTally_sum_at⟩)
    (c_LeastTally_sum_at : PySem.W.codeIn K cd_LeastTally_sum_at "Tally.sum_at" = true)
    (k_LeastTally_sum_at : PySem.W.keepIn K (.ref f_LeastTally_sum_at) = true)
    (a_LeastTally_product_at : PySem.W.findIn K (.ref C_LeastTally) "product_at" = some (some (.ref f_LeastTally_product_at)))
    (i_LeastTally_product_at : PySem.W.isFn K (.ref f_LeastTally_product_at) = true)
    (l_LeastTally_product_at : K.lookup f_LeastTally_product_at = some ⟨oc_LeastTally_product_at, od_LeastTally_product_at, .func (PySem.W.fnOf "product_at" "Tally.product_at" (defArgs (inClass (top 19) 3)) (defBody (inClass (top 19) 3)) (defScope (inClass (top 19) 3)) .none kV_LeastTally_product_at dc_LeastTally_product_at pm_LeastTally_product_at an_LeastTally_product_at cd_LeastTally_product_at ct_LeastTally_product_at), sl_LeastTally_product_at⟩)
    (c_LeastTally_product_at : PySem.W.codeIn K cd_LeastTally_product_at "Tally.product_at" = true)
    (k_LeastTally_product_at : PySem.W.keepIn K (.ref f_LeastTally_product_at) = true)
    (a_LeastTally_within_at : PySem.W.findIn K (.ref C_LeastTally) "within_at" = some (some (.ref f_LeastTally_within_at)))
    (i_LeastTally_within_at : PySem.W.isFn K (.ref f_LeastTally_within_at) = true)
    (l_LeastTally_within_at : K.lookup f_LeastTally_within_at = some ⟨oc_LeastTally_within_at, od_LeastTally_within_at, .func (PySem.W.fnOf "within_at" "LeastTally.within_at" (defArgs (inClass (top 22) 1)) (defBody (inClass (top 22) 1)) (defScope (inClass (top 22) 1)) .none kV_LeastTally_within_at dc_LeastTally_within_at pm_LeastTally_within_at an_LeastTally_within_at cd_LeastTally_within_at ct_LeastTally_within_at), sl_LeastTally_within_at⟩)
    (c_LeastTally_within_at : PySem.W.codeIn K cd_LeastTally_within_at "LeastTally.within_at" = true)
    (k_LeastTally_within_at : PySem.W.keepIn K (.ref f_LeastTally_within_at) = true)
    (a_LeastTally_bound_at : PySem.W.findIn K (.ref C_LeastTally) "bound_at" = some (some (.ref f_LeastTally_bound_at)))
    (i_LeastTally_bound_at : PySem.W.isFn K (.ref f_LeastTally_bound_at) = true)
    (l_LeastTally_bound_at : K.lookup f_LeastTally_bound_at = some ⟨oc_LeastTally_bound_at, od_LeastTally_bound_at, .func (PySem.W.fnOf "bound_at" "LeastTally.bound_at" (defArgs (inClass (top 22) 2)) (defBody (inClass (top 22) 2)) (defScope (inClass (top 22) 2)) .none kV_LeastTally_bound_at dc_LeastTally_bound_at pm_LeastTally_bound_at an_LeastTally_bound_at cd_LeastTally_bound_at ct_LeastTally_bound_at), sl_LeastTally_bound_at⟩)
    (c_LeastTally_bound_at : PySem.W.codeIn K cd_LeastTally_bound_at "LeastTally.bound_at" = true)
    (k_LeastTally_bound_at : PySem.W.keepIn K (.ref f_LeastTally_bound_at) = true)
    (a_LeastTally_name_at : PySem.W.findIn K (.ref C_LeastTally) "name_at" = some (some (.ref f_LeastTally_name_at)))
    (i_LeastTally_name_at : PySem.W.isFn K (.ref f_LeastTally_name_at) = true)
    (l_LeastTally_name_at : K.lookup f_LeastTally_name_at = some ⟨oc_LeastTally_name_at, od_LeastTally_name_at, .func (PySem.W.fnOf "name_at" "Tally.name_at" (defArgs (inClass (top 19) 4)) (defBody (inClass (top 19) 4)) (defScope (inClass (top 19) 4)) .none kV_LeastTally_name_at dc_LeastTally_name_at pm_LeastTally_name_at an_LeastTally_name_at cd_LeastTally_name_at ct_LeastTally_name_at), sl_LeastTally_name_at⟩)
    (c_LeastTally_name_at : PySem.W.codeIn K cd_LeastTally_name_at "Tally.name_at" = true)
    (k_LeastTally_name_at : PySem.W.keepIn K (.ref f_LeastTally_name_at) = true)
    (a_LeastTally_find_at : PySem.W.findIn K (.ref C_LeastTally) "find_at" = some (some (.ref f_LeastTally_find_at)))
    (i_LeastTally_find_at : PySem.W.isFn K (.ref f_LeastTally_find_at) = true)
    (l_LeastTally_find_at : K.lookup f_LeastTally_find_at = some ⟨oc_LeastTally_find_at, od_LeastTally_find_at, .func (PySem.W.fnOf "find_at" "Tally.find_at" (defArgs (inClass (top 19) 5)) (defBody (inClass (top 19) 5)) (defScope (inClass (top 19) 5)) .none kV_LeastTally_find_at dc_LeastTally_find_at pm_LeastTally_find_at an_LeastTally_find_at cd_LeastTally_find_at ct_LeastTally_find_at), sl_LeastTally_find_at⟩)
    (c_LeastTally_find_at : PySem.W.codeIn K cd_LeastTally_find_at "Tally.find_at" = true)
    (k_LeastTally_find_at : PySem.W.keepIn K (.ref f_LeastTally_find_at) = true)
    (a_LeastTally_at_name : PySem.W.findIn K (.ref C_LeastTally) "at_name" = some (some (.ref f_LeastTally_at_name)))
    (i_LeastTally_at_name : PySem.W.isFn K (.ref f_LeastTally_at_name) = true)
    (l_LeastTally_at_name : K.lookup f_LeastTally_at_name = some ⟨oc_LeastTally_at_name, od_LeastTally_at_name, .func (PySem.W.fnOf "at_name" "Scale.at_name" (defArgs (inClass (top 17) 9)) (defBody (inClass (top 17) 9)) (defScope (inClass (top 17) 9)) .none kV_LeastTally_at_name dc_LeastTally_at_name pm_LeastTally_at_name an_LeastTally_at_name cd_LeastTally_at_name ct_LeastTally_at_name), sl_LeastTally_at_name⟩)
    (c_LeastTally_at_name : PySem.W.codeIn K cd_LeastTally_at_name "Scale.at_name" = true)
    (k_LeastTally_at_name : PySem.W.keepIn K (.ref f_LeastTally_at_name) = true)
    (a_LeastTally_times_at : PySem.W.findIn K (.ref C_LeastTally) "times_at" = some (some (.ref f_LeastTally_times_at)))
    (i_LeastTally_times_at : PySem.W.isFn K (.ref f_LeastTally_times_at) = true)
    (l_LeastTally_times_at : K.lookup f_LeastTally_times_at = some ⟨oc_LeastTally_times_at, od_LeastTally_times_at, .func (PySem.W.fnOf "times_at" "Tally.times_at" (defArgs (inClass (top 19) 6)) (defBody (inClass (top 19) 6)) (defScope (inClass (top 19) 6)) .none kV_LeastTally_times_at dc_LeastTally_times_at pm_LeastTally_times_at an_LeastTally_times_at cd_LeastTally_times_at ct_LeastTally_times_at), sl_LeastTally_times_at⟩)
    (c_LeastTally_times_at : PySem.W.codeIn K cd_LeastTally_times_at "Tally.times_at" = true)
    (k_LeastTally_times_at : PySem.W.keepIn K (.ref f_LeastTally_times_at) = true)
    (a_LeastTally_places : PySem.W.findIn K (.ref C_LeastTally) "places" = some (some (.ref f_LeastTally_places)))
    (i_LeastTally_places : PySem.W.isFn K (.ref f_LeastTally_places) = true)
    (l_LeastTally_places : K.lookup f_LeastTally_places = some ⟨oc_LeastTally_places, od_LeastTally_places, .func (PySem.W.fnOf "places" "Tally.places" (defArgs (inClass (top 19) 1)) (defBody (inClass (top 19) 1)) (defScope (inClass (top 19) 1)) .none kV_LeastTally_places dc_LeastTally_places pm_LeastTally_places an_LeastTally_places cd_LeastTally_places ct_LeastTally_places), sl_LeastTally_places⟩)
    (c_LeastTally_places : PySem.W.codeIn K cd_LeastTally_places "Tally.places" = true)
    (k_LeastTally_places : PySem.W.keepIn K (.ref f_LeastTally_places) = true)
    (a_cf_Scale___init__ : PySem.W.findCls K (.ref C_Scale) (.type "type") "__init__" = some (.val (.ref f_cf_Scale___init__)))
    (l_cf_Scale___init__ : K.lookup f_cf_Scale___init__ = some ⟨oc_cf_Scale___init__, od_cf_Scale___init__, .func (PySem.W.fnOf "__init__" "Scale.__init__" (defArgs (inClass (top 17) 0)) (defBody (inClass (top 17) 0)) (defScope (inClass (top 17) 0)) .none kV_cf_Scale___init__ dc_cf_Scale___init__ pm_cf_Scale___init__ an_cf_Scale___init__ cd_cf_Scale___init__ ct_cf_Scale___init__), sl_cf_Scale___init__⟩)
    (c_cf_Scale___init__ : PySem.W.codeIn K cd_cf_Scale___init__ "Scale.__init__" = true)
    (k_cf_Scale___init__ : PySem.W.keepIn K (.ref f_cf_Scale___init__) = true)
    (rd_cf_Scale___init__ : PySem.W.readsIn K C_Scale (.type "type") = true)
    (ga_cf_Scale___init__ : PySem.W.specialIn K (.ref C_Scale) "__getattribute__" = some (some (.builtin "type.__getattribute__")))
    (a_cf_Tally___init__ : PySem.W.findCls K (.ref C_Tally) (.type "type") "__init__" = some (.val (.ref f_cf_Tally___init__)))
    (l_cf_Tally___init__ : K.lookup f_cf_Tally___init__ = some ⟨oc_cf_Tally___init__, od_cf_Tally___init__, .func (PySem.W.fnOf "__init__" "Tally.__init__" (defArgs (inClass (top 19) 0)) (defBody (inClass (top 19) 0)) (defScope (inClass (top 19) 0)) .none kV_cf_Tally___init__ dc_cf_Tally___init__ pm_cf_Tally___init__ an_cf_Tally___init__ cd_cf_Tally___init__ ct_cf_Tally___init__), sl_cf_Tally___init__⟩)
    (c_cf_Tally___init__ : PySem.W.codeIn K cd_cf_Tally___init__ "Tally.__init__" = true)
    (k_cf_Tally___init__ : PySem.W.keepIn K (.ref f_cf_Tally___init__) = true)
    (rd_cf_Tally___init__ : PySem.W.readsIn K C_Tally (.type "type") = true)
    (ga_cf_Tally___init__ : PySem.W.specialIn K (.ref C_Tally) "__getattribute__" = some (some (.builtin "type.__getattribute__")))
    (n_ExactTally_label : PySem.W.findIn K (.ref C_ExactTally) "label" = some none)
    (n_ExactTally_size : PySem.W.findIn K (.ref C_ExactTally) "size" = some none)
    (n_ExactTally_zero_at : PySem.W.findIn K (.ref C_ExactTally) "zero_at" = some none)
    (n_ExactTally_one_at : PySem.W.findIn K (.ref C_ExactTally) "one_at" = some none)
    (n_ExactTally_depth : PySem.W.findIn K (.ref C_ExactTally) "depth" = some none)
    (n_MostTally_label : PySem.W.findIn K (.ref C_MostTally) "label" = some none)
    (n_MostTally_size : PySem.W.findIn K (.ref C_MostTally) "size" = some none)
    (n_MostTally_zero_at : PySem.W.findIn K (.ref C_MostTally) "zero_at" = some none)
    (n_MostTally_one_at : PySem.W.findIn K (.ref C_MostTally) "one_at" = some none)
    (n_MostTally_depth : PySem.W.findIn K (.ref C_MostTally) "depth" = some none)
    (n_LeastTally_label : PySem.W.findIn K (.ref C_LeastTally) "label" = some none)
    (n_LeastTally_size : PySem.W.findIn K (.ref C_LeastTally) "size" = some none)
    (n_LeastTally_zero_at : PySem.W.findIn K (.ref C_LeastTally) "zero_at" = some none)
    (n_LeastTally_one_at : PySem.W.findIn K (.ref C_LeastTally) "one_at" = some none)
    (n_LeastTally_depth : PySem.W.findIn K (.ref C_LeastTally) "depth" = some none)
    (n_UnknownGrade_name : PySem.W.findIn K (.ref C_UnknownGrade) "name" = some none)
    (te : PySem.W.exmOne K (.ref C_UnknownGrade) (.ref C_UnknownGrade) = some true)
    (ee : PySem.W.exmOne K (.ref C_EndlessScale) (.ref C_EndlessScale) = some true)
    (isU : PySem.W.kitOne K (.ref C_UnknownGrade) (.ref C_UsescaleError) = some false)
    (isS : PySem.W.kitOne K (.ref C_EndlessScale) (.ref C_UsescaleError) = some true)
    (isV : PySem.W.kitOne K (.ref C_EndlessScale) (.type "ValueError") = some true)
    (t_x0 : kTabX0 K C_EndlessScale = true)
    (z_exC : PySem.W.subIn K (.ref C_EndlessScale) (.type "BaseException") = some true)
    (z_tyC : PySem.W.typeIn K (.ref C_EndlessScale) = some (.type "type"))
    (z_hd : PySem.W.hasDictIn K C_EndlessScale = true)
    (z_ga : PySem.W.findIn K (.ref C_EndlessScale) "__getattribute__" = some (some (.builtin "BaseException.__getattribute__")))
    (z_gg : PySem.W.findIn K (.ref C_EndlessScale) "__getattr__" = some none)
    (z_ca : PySem.W.findIn K (.ref C_EndlessScale) "__class__" = some (some (.builtin "object.__class__")))
    (z_mo : PySem.W.mroIn K C_EndlessScale (.type "object") = some true)
    (z_dig : PySem.W.nsIn K cStatics "sys.int_max_str_digits" = some none)
    (z_int : PySem.W.nsIn K mainGlobals "int" = some none)
    (z_len : PySem.W.nsIn K mainGlobals "len" = some none)
    (z_range : PySem.W.nsIn K mainGlobals "range" = some none)
    (z_isinstance : PySem.W.nsIn K mainGlobals "isinstance" = some none)
    (z_bool : PySem.W.nsIn K mainGlobals "bool" = some none)
    (z_str : PySem.W.nsIn K mainGlobals "str" = some none)
    (z_tuple : PySem.W.nsIn K mainGlobals "tuple" = some none)
    (z_list : PySem.W.nsIn K mainGlobals "list" = some none)
    (z_divmod : PySem.W.nsIn K mainGlobals "divmod" = some none)
    (z_ValueError : PySem.W.nsIn K mainGlobals "ValueError" = some none)
    (g_MOST_DEPTH : PySem.W.nsIn K mainGlobals "MOST_DEPTH" = some (some (.int 20 t_MOST_DEPTH)))
    (g_FIGURES : PySem.W.nsIn K mainGlobals "FIGURES" = some (some (.int 60 t_FIGURES)))
    (g_BLOCK : PySem.W.nsIn K mainGlobals "BLOCK" = some (some (.int 1000000000000000000000000000000000000000000000000000000000000 t_BLOCK)))
    : ∃ fd : FuncData, (∀ (s : Shared) (v : Value), BindsTo s fd ⟨[v], []⟩ [("_law_script", v)]) ∧ ∀ base : Heap, K.In base → base.Ns mainGlobals mg → FnOk l.prog w K mg base (L2.CX l.prog w) 8 fa fd ["_law_script"] (spLaw K) := by
  have e := hfa.symm.trans (PySem.W.mg_of X G a_law)
  cases e
  have g_ExactTally := PySem.W.mg_of X G aC_ExactTally
  have cl_ExactTally : Cls K C_ExactTally := ⟨pg_ExactTally, hd_ExactTally, po_ExactTally, sa_ExactTally⟩
  have g_MostTally := PySem.W.mg_of X G aC_MostTally
  have cl_MostTally : Cls K C_MostTally := ⟨pg_MostTally, hd_MostTally, po_MostTally, sa_MostTally⟩
  have g_LeastTally := PySem.W.mg_of X G aC_LeastTally
  have cl_LeastTally : Cls K C_LeastTally := ⟨pg_LeastTally, hd_LeastTally, po_LeastTally, sa_LeastTally⟩
  have g_Scale := PySem.W.mg_of X G aC_Scale
  have g_Tally := PySem.W.mg_of X G aC_Tally
  have g_NameMissing := PySem.W.mg_of X G aC_NameMissing
  have g_UsescaleError := PySem.W.mg_of X G aC_UsescaleError
  have g_EndlessScale := PySem.W.mg_of X G aC_EndlessScale
  have g_UnknownGrade := PySem.W.mg_of X G aC_UnknownGrade
  have ox_UnknownGrade : OexB K C_UnknownGrade "LookupError" "LookupError.__new__" "LookupError.__init__" [.type "LookupError", .type "Exception", .type "BaseException", .type "object"] := ⟨PySem.F.store_LookupError, PySem.F.excBase_LookupError, xi_UnknownGrade, xo_UnknownGrade, xh_UnknownGrade, xs_UnknownGrade, xe_UnknownGrade, xt_UnknownGrade, xk_UnknownGrade⟩
  have ei_UnknownGrade : ExcI K C_UnknownGrade := ⟨(by obtain ⟨cd, hc, _⟩ := PySem.W.any_some xh_UnknownGrade; rw [hc]; rfl), xga_UnknownGrade, xgg_UnknownGrade, xe_UnknownGrade, xca_UnknownGrade, x_cg, x_ct, xmo_UnknownGrade⟩
  have xf_UnknownGrade : XfC K C_UnknownGrade := ⟨xga_UnknownGrade, xgg_UnknownGrade, xe_UnknownGrade, xh_UnknownGrade⟩
  have F_ei_UnknownGrade_init := fun_mk (st := (inClass (top 14) 0)) l_ei_UnknownGrade_init c_ei_UnknownGrade_init k_ei_UnknownGrade_init
  have b_ei_UnknownGrade_init := F_ei_UnknownGrade_init.binds (ps := ["self", "name"]) fun _ _ _ _ _ _ us hl => match us, hl with | [_, _], _ => rfl
  have bi_NameMissing : BInit K mg "NameMissing" "LookupError.__init__" := ⟨_, g_NameMissing, rd_bi_NameMissing, ga_bi_NameMissing, a_bi_NameMissing, by decide +kernel⟩
  have F_in_decimal := fun_mk (st := (top 7)) l_in_decimal c_in_decimal k_in_decimal
  have g_in_decimal := PySem.W.mg_of X G a_in_decimal
  have b_in_decimal := F_in_decimal.binds (ps := ["number"]) fun _ _ _ _ _ _ us hl => match us, hl with | [_], _ => rfl
  have F_from_decimal := fun_mk (st := (top 8)) l_from_decimal c_from_decimal k_from_decimal
  have g_from_decimal := PySem.W.mg_of X G a_from_decimal
  have b_from_decimal := F_from_decimal.binds (ps := ["text"]) fun _ _ _ _ _ _ us hl => match us, hl with | [_], _ => rfl
  have F_greater := fun_mk (st := (top 4)) l_greater c_greater k_greater
  have g_greater := PySem.W.mg_of X G a_greater
  have b_greater := F_greater.binds (ps := ["first", "second"]) fun _ _ _ _ _ _ us hl => match us, hl with | [_, _], _ => rfl
  have F_lesser := fun_mk (st := (top 5)) l_lesser c_lesser k_lesser
  have g_lesser := PySem.W.mg_of X G a_lesser
  have b_lesser := F_lesser.binds (ps := ["first", "second"]) fun _ _ _ _ _ _ us hl => match us, hl with | [_, _], _ => rfl
  have F__law_draws := fun_mk (st := (top 24)) l__law_draws c__law_draws k__law_draws
  have g__law_draws := PySem.W.mg_of X G a__law_draws
  have b__law_draws := F__law_draws.binds (ps := ["_law_script"]) fun _ _ _ _ _ _ us hl => match us, hl with | [_], _ => rfl
  have F__law_draw := fun_mk (st := (top 25)) l__law_draw c__law_draw k__law_draw
  have g__law_draw := PySem.W.mg_of X G a__law_draw
  have b__law_draw := F__law_draw.binds (ps := ["_law_state", "_law_many"]) fun _ _ _ _ _ _ us hl => match us, hl with | [_, _], _ => rfl
  have F__law_same := fun_mk (st := (top 26)) l__law_same c__law_same k__law_same
  have g__law_same := PySem.W.mg_of X G a__law_same
  have b__law_same := F__law_same.binds (ps := ["_law_found", "_law_due"]) fun _ _ _ _ _ _ us hl => match us, hl with | [_, _], _ => rfl
  have F__law_number := fun_mk (st := (top 27)) l__law_number c__law_number k__law_number
  have g__law_number := PySem.W.mg_of X G a__law_number
  have b__law_number := F__law_number.binds (ps := ["_law_state"]) fun _ _ _ _ _ _ us hl => match us, hl with | [_], _ => rfl
  have F__law_within := fun_mk (st := (top 28)) l__law_within c__law_within k__law_within
  have g__law_within := PySem.W.mg_of X G a__law_within
  have b__law_within := F__law_within.binds (ps := ["_law_sort", "_law_a", "_law_b"]) fun _ _ _ _ _ _ us hl => match us, hl with | [_, _, _], _ => rfl
  have F__law_bound := fun_mk (st := (top 29)) l__law_bound c__law_bound k__law_bound
  have g__law_bound := PySem.W.mg_of X G a__law_bound
  have b__law_bound := F__law_bound.binds (ps := ["_law_sort", "_law_a", "_law_b"]) fun _ _ _ _ _ _ us hl => match us, hl with | [_, _, _], _ => rfl
  have F__law_endless := fun_mk (st := (top 30)) l__law_endless c__law_endless k__law_endless
  have g__law_endless := PySem.W.mg_of X G a__law_endless
  have b__law_endless := F__law_endless.binds (ps := ["_law_scale"]) fun _ _ _ _ _ _ us hl => match us, hl with | [_], _ => rfl
  have F__law_unknown := fun_mk (st := (top 31)) l__law_unknown c__law_unknown k__law_unknown
  have g__law_unknown := PySem.W.mg_of X G a__law_unknown
  have b__law_unknown := F__law_unknown.binds (ps := ["_law_scale", "_law_word"]) fun _ _ _ _ _ _ us hl => match us, hl with | [_, _], _ => rfl
  have F__law_far_right := fun_mk (st := (top 32)) l__law_far_right c__law_far_right k__law_far_right
  have g__law_far_right := PySem.W.mg_of X G a__law_far_right
  have b__law_far_right := F__law_far_right.binds (ps := ["_law_state", "_law_scale"]) fun _ _ _ _ _ _ us hl => match us, hl with | [_, _], _ => rfl
  have F_law := fun_mk (st := (top 33)) l_law c_law k_law
  have g_law := PySem.W.mg_of X G a_law
  have F_ExactTally___init__ := fun_mk (st := (inClass (top 20) 0)) l_ExactTally___init__ c_ExactTally___init__ k_ExactTally___init__
  have me_ExactTally___init__ : Meth K C_ExactTally "__init__" f_ExactTally___init__ := ⟨a_ExactTally___init__, i_ExactTally___init__, k_ExactTally___init__⟩
  have b_ExactTally___init__ := F_ExactTally___init__.binds (ps := ["self"]) fun _ _ _ _ _ _ us hl => match us, hl with | [_], _ => rfl
  have F_ExactTally_sum_at := fun_mk (st := (inClass (top 19) 2)) l_ExactTally_sum_at c_ExactTally_sum_at k_ExactTally_sum_at
  have me_ExactTally_sum_at : Meth K C_ExactTally "sum_at" f_ExactTally_sum_at := ⟨a_ExactTally_sum_at, i_ExactTally_sum_at, k_ExactTally_sum_at⟩
  have b_ExactTally_sum_at := F_ExactTally_sum_at.binds (ps := ["self", "first", "second"]) fun _ _ _ _ _ _ us hl => match us, hl with | [_, _, _], _ => rfl
  have F_ExactTally_product_at := fun_mk (st := (inClass (top 19) 3)) l_ExactTally_product_at c_ExactTally_product_at k_ExactTally_product_at
  have me_ExactTally_product_at : Meth K C_ExactTally "product_at" f_ExactTally_product_at := ⟨a_ExactTally_product_at, i_ExactTally_product_at, k_ExactTally_product_at⟩
  have b_ExactTally_product_at := F_ExactTally_product_at.binds (ps := ["self", "first", "second"]) fun _ _ _ _ _ _ us hl => match us, hl with | [_, _, _], _ => rfl
  have F_ExactTally_within_at := fun_mk (st := (inClass (top 20) 1)) l_ExactTally_within_at c_ExactTally_within_at k_ExactTally_within_at
  have me_ExactTally_within_at : Meth K C_ExactTally "within_at" f_ExactTally_within_at := ⟨a_ExactTally_within_at, i_ExactTally_within_at, k_ExactTally_within_at⟩
  have b_ExactTally_within_at := F_ExactTally_within_at.binds (ps := ["self", "first", "second"]) fun _ _ _ _ _ _ us hl => match us, hl with | [_, _, _], _ => rfl
  have F_ExactTally_bound_at := fun_mk (st := (inClass (top 20) 2)) l_ExactTally_bound_at c_ExactTally_bound_at k_ExactTally_bound_at
  have me_ExactTally_bound_at : Meth K C_ExactTally "bound_at" f_ExactTally_bound_at := ⟨a_ExactTally_bound_at, i_ExactTally_bound_at, k_ExactTally_bound_at⟩
  have b_ExactTally_bound_at := F_ExactTally_bound_at.binds (ps := ["self", "first", "second"]) fun _ _ _ _ _ _ us hl => match us, hl with | [_, _, _], _ => rfl
  have F_ExactTally_name_at := fun_mk (st := (inClass (top 19) 4)) l_ExactTally_name_at c_ExactTally_name_at k_ExactTally_name_at
  have me_ExactTally_name_at : Meth K C_ExactTally "name_at" f_ExactTally_name_at := ⟨a_ExactTally_name_at, i_ExactTally_name_at, k_ExactTally_name_at⟩
  have b_ExactTally_name_at := F_ExactTally_name_at.binds (ps := ["self", "place"]) fun _ _ _ _ _ _ us hl => match us, hl with | [_, _], _ => rfl
  have F_ExactTally_find_at := fun_mk (st := (inClass (top 19) 5)) l_ExactTally_find_at c_ExactTally_find_at k_ExactTally_find_at
  have me_ExactTally_find_at : Meth K C_ExactTally "find_at" f_ExactTally_find_at := ⟨a_ExactTally_find_at, i_ExactTally_find_at, k_ExactTally_find_at⟩
  have b_ExactTally_find_at := F_ExactTally_find_at.binds (ps := ["self", "name"]) fun _ _ _ _ _ _ us hl => match us, hl with | [_, _], _ => rfl
  have F_ExactTally_at_name := fun_mk (st := (inClass (top 17) 9)) l_ExactTally_at_name c_ExactTally_at_name k_ExactTally_at_name
  have me_ExactTally_at_name : Meth K C_ExactTally "at_name" f_ExactTally_at_name := ⟨a_ExactTally_at_name, i_ExactTally_at_name, k_ExactTally_at_name⟩
  have b_ExactTally_at_name := F_ExactTally_at_name.binds (ps := ["self", "name"]) fun _ _ _ _ _ _ us hl => match us, hl with | [_, _], _ => rfl
  have F_ExactTally_times_at := fun_mk (st := (inClass (top 19) 6)) l_ExactTally_times_at c_ExactTally_times_at k_ExactTally_times_at
  have me_ExactTally_times_at : Meth K C_ExactTally "times_at" f_ExactTally_times_at := ⟨a_ExactTally_times_at, i_ExactTally_times_at, k_ExactTally_times_at⟩
  have b_ExactTally_times_at := F_ExactTally_times_at.binds (ps := ["self", "count"]) fun _ _ _ _ _ _ us hl => match us, hl with | [_, _], _ => rfl
  have F_ExactTally_places := fun_mk (st := (inClass (top 19) 1)) l_ExactTally_places c_ExactTally_places k_ExactTally_places
  have me_ExactTally_places : Meth K C_ExactTally "places" f_ExactTally_places := ⟨a_ExactTally_places, i_ExactTally_places, k_ExactTally_places⟩
  have b_ExactTally_places := F_ExactTally_places.binds (ps := ["self"]) fun _ _ _ _ _ _ us hl => match us, hl with | [_], _ => rfl
  have F_MostTally___init__ := fun_mk (st := (inClass (top 21) 0)) l_MostTally___init__ c_MostTally___init__ k_MostTally___init__
  have me_MostTally___init__ : Meth K C_MostTally "__init__" f_MostTally___init__ := ⟨a_MostTally___init__, i_MostTally___init__, k_MostTally___init__⟩
  have b_MostTally___init__ := F_MostTally___init__.binds (ps := ["self"]) fun _ _ _ _ _ _ us hl => match us, hl with | [_], _ => rfl
  have F_MostTally_sum_at := fun_mk (st := (inClass (top 19) 2)) l_MostTally_sum_at c_MostTally_sum_at k_MostTally_sum_at
  have me_MostTally_sum_at : Meth K C_MostTally "sum_at" f_MostTally_sum_at := ⟨a_MostTally_sum_at, i_MostTally_sum_at, k_MostTally_sum_at⟩
  have b_MostTally_sum_at := F_MostTally_sum_at.binds (ps := ["self", "first", "second"]) fun _ _ _ _ _ _ us hl => match us, hl with | [_, _, _], _ => rfl
  have F_MostTally_product_at := fun_mk (st := (inClass (top 19) 3)) l_MostTally_product_at c_MostTally_product_at k_MostTally_product_at
  have me_MostTally_product_at : Meth K C_MostTally "product_at" f_MostTally_product_at := ⟨a_MostTally_product_at, i_MostTally_product_at, k_MostTally_product_at⟩
  have b_MostTally_product_at := F_MostTally_product_at.binds (ps := ["self", "first", "second"]) fun _ _ _ _ _ _ us hl => match us, hl with | [_, _, _], _ => rfl
  have F_MostTally_within_at := fun_mk (st := (inClass (top 21) 1)) l_MostTally_within_at c_MostTally_within_at k_MostTally_within_at
  have me_MostTally_within_at : Meth K C_MostTally "within_at" f_MostTally_within_at := ⟨a_MostTally_within_at, i_MostTally_within_at, k_MostTally_within_at⟩
  have b_MostTally_within_at := F_MostTally_within_at.binds (ps := ["self", "first", "second"]) fun _ _ _ _ _ _ us hl => match us, hl with | [_, _, _], _ => rfl
  have F_MostTally_bound_at := fun_mk (st := (inClass (top 21) 2)) l_MostTally_bound_at c_MostTally_bound_at k_MostTally_bound_at
  have me_MostTally_bound_at : Meth K C_MostTally "bound_at" f_MostTally_bound_at := ⟨a_MostTally_bound_at, i_MostTally_bound_at, k_MostTally_bound_at⟩
  have b_MostTally_bound_at := F_MostTally_bound_at.binds (ps := ["self", "first", "second"]) fun _ _ _ _ _ _ us hl => match us, hl with | [_, _, _], _ => rfl
  have F_MostTally_name_at := fun_mk (st := (inClass (top 19) 4)) l_MostTally_name_at c_MostTally_name_at k_MostTally_name_at
  have me_MostTally_name_at : Meth K C_MostTally "name_at" f_MostTally_name_at := ⟨a_MostTally_name_at, i_MostTally_name_at, k_MostTally_name_at⟩
  have b_MostTally_name_at := F_MostTally_name_at.binds (ps := ["self", "place"]) fun _ _ _ _ _ _ us hl => match us, hl with | [_, _], _ => rfl
  have F_MostTally_find_at := fun_mk (st := (inClass (top 19) 5)) l_MostTally_find_at c_MostTally_find_at k_MostTally_find_at
  have me_MostTally_find_at : Meth K C_MostTally "find_at" f_MostTally_find_at := ⟨a_MostTally_find_at, i_MostTally_find_at, k_MostTally_find_at⟩
  have b_MostTally_find_at := F_MostTally_find_at.binds (ps := ["self", "name"]) fun _ _ _ _ _ _ us hl => match us, hl with | [_, _], _ => rfl
  have F_MostTally_at_name := fun_mk (st := (inClass (top 17) 9)) l_MostTally_at_name c_MostTally_at_name k_MostTally_at_name
  have me_MostTally_at_name : Meth K C_MostTally "at_name" f_MostTally_at_name := ⟨a_MostTally_at_name, i_MostTally_at_name, k_MostTally_at_name⟩
  have b_MostTally_at_name := F_MostTally_at_name.binds (ps := ["self", "name"]) fun _ _ _ _ _ _ us hl => match us, hl with | [_, _], _ => rfl
  have F_MostTally_times_at := fun_mk (st := (inClass (top 19) 6)) l_MostTally_times_at c_MostTally_times_at k_MostTally_times_at
  have me_MostTally_times_at : Meth K C_MostTally "times_at" f_MostTally_times_at := ⟨a_MostTally_times_at, i_MostTally_times_at, k_MostTally_times_at⟩
  have b_MostTally_times_at := F_MostTally_times_at.binds (ps := ["self", "count"]) fun _ _ _ _ _ _ us hl => match us, hl with | [_, _], _ => rfl
  have F_MostTally_places := fun_mk (st := (inClass (top 19) 1)) l_MostTally_places c_MostTally_places k_MostTally_places
  have me_MostTally_places : Meth K C_MostTally "places" f_MostTally_places := ⟨a_MostTally_places, i_MostTally_places, k_MostTally_places⟩
  have b_MostTally_places := F_MostTally_places.binds (ps := ["self"]) fun _ _ _ _ _ _ us hl => match us, hl with | [_], _ => rfl
  have F_LeastTally___init__ := fun_mk (st := (inClass (top 22) 0)) l_LeastTally___init__ c_LeastTally___init__ k_LeastTally___init__
  have me_LeastTally___init__ : Meth K C_LeastTally "__init__" f_LeastTally___init__ := ⟨a_LeastTally___init__, i_LeastTally___init__, k_LeastTally___init__⟩
  have b_LeastTally___init__ := F_LeastTally___init__.binds (ps := ["self"]) fun _ _ _ _ _ _ us hl => match us, hl with | [_], _ => rfl
  have F_LeastTally_sum_at := fun_mk (st := (inClass (top 19) 2)) l_LeastTally_sum_at c_LeastTally_sum_at k_LeastTally_sum_at
  have me_LeastTally_sum_at : Meth K C_LeastTally "sum_at" f_LeastTally_sum_at := ⟨a_LeastTally_sum_at, i_LeastTally_sum_at, k_LeastTally_sum_at⟩
  have b_LeastTally_sum_at := F_LeastTally_sum_at.binds (ps := ["self", "first", "second"]) fun _ _ _ _ _ _ us hl => match us, hl with | [_, _, _], _ => rfl
  have F_LeastTally_product_at := fun_mk (st := (inClass (top 19) 3)) l_LeastTally_product_at c_LeastTally_product_at k_LeastTally_product_at
  have me_LeastTally_product_at : Meth K C_LeastTally "product_at" f_LeastTally_product_at := ⟨a_LeastTally_product_at, i_LeastTally_product_at, k_LeastTally_product_at⟩
  have b_LeastTally_product_at := F_LeastTally_product_at.binds (ps := ["self", "first", "second"]) fun _ _ _ _ _ _ us hl => match us, hl with | [_, _, _], _ => rfl
  have F_LeastTally_within_at := fun_mk (st := (inClass (top 22) 1)) l_LeastTally_within_at c_LeastTally_within_at k_LeastTally_within_at
  have me_LeastTally_within_at : Meth K C_LeastTally "within_at" f_LeastTally_within_at := ⟨a_LeastTally_within_at, i_LeastTally_within_at, k_LeastTally_within_at⟩
  have b_LeastTally_within_at := F_LeastTally_within_at.binds (ps := ["self", "first", "second"]) fun _ _ _ _ _ _ us hl => match us, hl with | [_, _, _], _ => rfl
  have F_LeastTally_bound_at := fun_mk (st := (inClass (top 22) 2)) l_LeastTally_bound_at c_LeastTally_bound_at k_LeastTally_bound_at
  have me_LeastTally_bound_at : Meth K C_LeastTally "bound_at" f_LeastTally_bound_at := ⟨a_LeastTally_bound_at, i_LeastTally_bound_at, k_LeastTally_bound_at⟩
  have b_LeastTally_bound_at := F_LeastTally_bound_at.binds (ps := ["self", "first", "second"]) fun _ _ _ _ _ _ us hl => match us, hl with | [_, _, _], _ => rfl
  have F_LeastTally_name_at := fun_mk (st := (inClass (top 19) 4)) l_LeastTally_name_at c_LeastTally_name_at k_LeastTally_name_at
  have me_LeastTally_name_at : Meth K C_LeastTally "name_at" f_LeastTally_name_at := ⟨a_LeastTally_name_at, i_LeastTally_name_at, k_LeastTally_name_at⟩
  have b_LeastTally_name_at := F_LeastTally_name_at.binds (ps := ["self", "place"]) fun _ _ _ _ _ _ us hl => match us, hl with | [_, _], _ => rfl
  have F_LeastTally_find_at := fun_mk (st := (inClass (top 19) 5)) l_LeastTally_find_at c_LeastTally_find_at k_LeastTally_find_at
  have me_LeastTally_find_at : Meth K C_LeastTally "find_at" f_LeastTally_find_at := ⟨a_LeastTally_find_at, i_LeastTally_find_at, k_LeastTally_find_at⟩
  have b_LeastTally_find_at := F_LeastTally_find_at.binds (ps := ["self", "name"]) fun _ _ _ _ _ _ us hl => match us, hl with | [_, _], _ => rfl
  have F_LeastTally_at_name := fun_mk (st := (inClass (top 17) 9)) l_LeastTally_at_name c_LeastTally_at_name k_LeastTally_at_name
  have me_LeastTally_at_name : Meth K C_LeastTally "at_name" f_LeastTally_at_name := ⟨a_LeastTally_at_name, i_LeastTally_at_name, k_LeastTally_at_name⟩
  have b_LeastTally_at_name := F_LeastTally_at_name.binds (ps := ["self", "name"]) fun _ _ _ _ _ _ us hl => match us, hl with | [_, _], _ => rfl
  have F_LeastTally_times_at := fun_mk (st := (inClass (top 19) 6)) l_LeastTally_times_at c_LeastTally_times_at k_LeastTally_times_at
  have me_LeastTally_times_at : Meth K C_LeastTally "times_at" f_LeastTally_times_at := ⟨a_LeastTally_times_at, i_LeastTally_times_at, k_LeastTally_times_at⟩
  have b_LeastTally_times_at := F_LeastTally_times_at.binds (ps := ["self", "count"]) fun _ _ _ _ _ _ us hl => match us, hl with | [_, _], _ => rfl
  have F_LeastTally_places := fun_mk (st := (inClass (top 19) 1)) l_LeastTally_places c_LeastTally_places k_LeastTally_places
  have me_LeastTally_places : Meth K C_LeastTally "places" f_LeastTally_places := ⟨a_LeastTally_places, i_LeastTally_places, k_LeastTally_places⟩
  have b_LeastTally_places := F_LeastTally_places.binds (ps := ["self"]) fun _ _ _ _ _ _ us hl => match us, hl with | [_], _ => rfl
  have F_cf_Scale___init__ := fun_mk (st := (inClass (top 17) 0)) l_cf_Scale___init__ c_cf_Scale___init__ k_cf_Scale___init__
  have cfn_cf_Scale___init__ : CFn K C_Scale (.type "type") "__init__" f_cf_Scale___init__ := ⟨rd_cf_Scale___init__, ga_cf_Scale___init__, a_cf_Scale___init__, k_cf_Scale___init__⟩
  have b_cf_Scale___init__ := F_cf_Scale___init__.binds (ps := ["self", "label", "size", "zero_at", "one_at", "depth"]) fun _ _ _ _ _ _ us hl => match us, hl with | [_, _, _, _, _, _], _ => rfl
  have F_cf_Tally___init__ := fun_mk (st := (inClass (top 19) 0)) l_cf_Tally___init__ c_cf_Tally___init__ k_cf_Tally___init__
  have cfn_cf_Tally___init__ : CFn K C_Tally (.type "type") "__init__" f_cf_Tally___init__ := ⟨rd_cf_Tally___init__, ga_cf_Tally___init__, a_cf_Tally___init__, k_cf_Tally___init__⟩
  have b_cf_Tally___init__ := F_cf_Tally___init__.binds (ps := ["self", "order"]) fun _ _ _ _ _ _ us hl => match us, hl with | [_, _], _ => rfl
  have zn_int := PySem.W.mg_none_of X G z_int
  have zn_len := PySem.W.mg_none_of X G z_len
  have zn_range := PySem.W.mg_none_of X G z_range
  have zn_isinstance := PySem.W.mg_none_of X G z_isinstance
  have zn_bool := PySem.W.mg_none_of X G z_bool
  have zn_str := PySem.W.mg_none_of X G z_str
  have zn_tuple := PySem.W.mg_none_of X G z_tuple
  have zn_list := PySem.W.mg_none_of X G z_list
  have zn_divmod := PySem.W.mg_none_of X G z_divmod
  have zn_ValueError := PySem.W.mg_none_of X G z_ValueError
  have gi_MOST_DEPTH : ∃ u, mg "MOST_DEPTH" = some u ∧ RelV (.int 20) u := ⟨_, PySem.W.mg_of X G g_MOST_DEPTH, ⟨_, rfl⟩⟩
  have gi_FIGURES : ∃ u, mg "FIGURES" = some u ∧ RelV (.int 60) u := ⟨_, PySem.W.mg_of X G g_FIGURES, ⟨_, rfl⟩⟩
  have gi_BLOCK : ∃ u, mg "BLOCK" = some u ∧ RelV (.int 1000000000000000000000000000000000000000000000000000000000000) u := ⟨_, PySem.W.mg_of X G g_BLOCK, ⟨_, rfl⟩⟩
  refine ⟨PySem.W.fnOf "law" "law" (defArgs (top 33)) (defBody (top 33)) (defScope (top 33)) .none kV_law dc_law pm_law an_law cd_law ct_law, fun s v => .of_eq rfl, fun base _ _ => ?_⟩
  have TL : TxL K mg := ⟨zn_int, zn_len, zn_range, zn_isinstance, zn_bool, zn_str, zn_tuple, zn_list⟩
  have TC : TxC K mg := ⟨TL, gi_MOST_DEPTH⟩
  have TD : TxD K mg := ⟨TL, gi_BLOCK, gi_FIGURES, zn_divmod⟩
  have x0 := and2 t_x0
  have EC : ExcC K C_EndlessScale := ⟨z_ga, z_gg, z_exC, z_hd, z_ca, x_cg, x_ct, z_mo⟩
  have X0 : Ex0 K mg "EndlessScale" C_EndlessScale := ⟨g_EndlessScale, x0.1, x0.2, z_exC, z_tyC⟩
  have TU : TxU K mg C_UnknownGrade C_UsescaleError C_EndlessScale := ⟨TL, g_UnknownGrade, g_EndlessScale, ⟨_, g_UsescaleError, rfl⟩, zn_ValueError, te, ee, xf_UnknownGrade, n_UnknownGrade_name, ei_UnknownGrade, EC, isU, isS, isV⟩
  have SX : SCls K C_ExactTally := ⟨cl_ExactTally, n_ExactTally_label, n_ExactTally_size, n_ExactTally_zero_at, n_ExactTally_one_at, n_ExactTally_depth⟩
  have SM : SCls K C_MostTally := ⟨cl_MostTally, n_MostTally_label, n_MostTally_size, n_MostTally_zero_at, n_MostTally_one_at, n_MostTally_depth⟩
  have SL : SCls K C_LeastTally := ⟨cl_LeastTally, n_LeastTally_label, n_LeastTally_size, n_LeastTally_zero_at, n_LeastTally_one_at, n_LeastTally_depth⟩
  obtain ⟨S, hS⟩ : ∃ S, S = S05 C_ExactTally C_MostTally C_LeastTally := ⟨_, rfl⟩
  have sX : S.cls .ex = C_ExactTally := by rw [hS]; rfl
  have sM : S.cls .most = C_MostTally := by rw [hS]; rfl
  have sL : S.cls .least = C_LeastTally := by rw [hS]; rfl
  have pX : S.pr .ex = true := by rw [hS]; rfl
  have pM : S.pr .most = true := by rw [hS]; rfl
  have pL : S.pr .least = true := by rw [hS]; rfl
  clear hS
  subst sX sM sL
  have NA : ∀ k : TK, SCls K (S.cls k.1) := tk3 (p := fun q => SCls K (S.cls q)) SX SM SL
  have f_cf_Scale___init__ : CFB l.prog w K mg base CX0 1 "Scale" "__init__" (spScaleInit K) := ⟨_, _, _, _, _, g_Scale, cfn_cf_Scale___init__, ok_scale_init F_cf_Scale___init__ TC, b_cf_Scale___init__⟩
  have f_cf_Tally___init__ : CFB l.prog w K mg base CX0 2 "Tally" "__init__" (spTalInit K) := ⟨_, _, _, _, _, g_Tally, cfn_cf_Tally___init__, ok_tal_init F_cf_Tally___init__ f_cf_Scale___init__, b_cf_Tally___init__⟩
  have c_greater : Cal l.prog w K mg base CX0 1 "greater" (spI2 mxI) := ⟨_, _, _, ok_greater F_greater, g_greater, k_greater, b_greater⟩
  have c_lesser : Cal l.prog w K mg base CX0 1 "lesser" (spI2 mnI) := ⟨_, _, _, ok_lesser F_lesser, g_lesser, k_lesser, b_lesser⟩
  have c_in_decimal : Cal l.prog w K mg base CX0 1 "in_decimal" spInDec := ⟨_, _, _, ok_in_dec F_in_decimal TD, g_in_decimal, k_in_decimal, b_in_decimal⟩
  have c_from_decimal : Cal l.prog w K mg base CX0 1 "from_decimal" spFrD := ⟨_, _, _, ok_fr_dec F_from_decimal TD, g_from_decimal, k_from_decimal, b_from_decimal⟩
  have FX := ok_ex_init F_ExactTally___init__ SX f_cf_Tally___init__ (P := l.prog) (w := w) (base := base)
  have MX : Mk K (S.cls .ex) f_ExactTally___init__ := ⟨mk_ExactTally, a_ExactTally___init__, i_ExactTally___init__, kc_ExactTally⟩
  have mkX : Mak l.prog w K mg base CX0 3 "ExactTally" (S.cls .ex) (spExInit K (S.cls .ex) "same") := ⟨_, _, _, MX, FX, g_ExactTally, b_ExactTally___init__⟩
  have FM := ok_most_init F_MostTally___init__ SM f_cf_Tally___init__ (P := l.prog) (w := w) (base := base)
  have MM : Mk K (S.cls .most) f_MostTally___init__ := ⟨mk_MostTally, a_MostTally___init__, i_MostTally___init__, kc_MostTally⟩
  have mkM : Mak l.prog w K mg base CX0 3 "MostTally" (S.cls .most) (spExInit K (S.cls .most) "up") := ⟨_, _, _, MM, FM, g_MostTally, b_MostTally___init__⟩
  have FL := ok_least_init F_LeastTally___init__ SL f_cf_Tally___init__ (P := l.prog) (w := w) (base := base)
  have ML : Mk K (S.cls .least) f_LeastTally___init__ := ⟨mk_LeastTally, a_LeastTally___init__, i_LeastTally___init__, kc_LeastTally⟩
  have mkL : Mak l.prog w K mg base CX0 3 "LeastTally" (S.cls .least) (spExInit K (S.cls .least) "down") := ⟨_, _, _, ML, FL, g_LeastTally, b_LeastTally___init__⟩
  have xm : ExM l.prog w K mg base 1 "UnknownGrade" C_UnknownGrade (spUgInit K C_UnknownGrade) := ⟨_, _, _, _, _, _, _, ox_UnknownGrade, g_UnknownGrade, a_ei_UnknownGrade_init, ty_ei_UnknownGrade_init, ok_ug_init F_ei_UnknownGrade_init ox_UnknownGrade n_UnknownGrade_name bi_NameMissing, b_ei_UnknownGrade_init⟩
  have m_sum_at : ∀ k : TK, Met l.prog w K mg base CX0 1 (S.cls k.1) "sum_at" (spSum S k.1 1) := tk3 (p := fun q => Met l.prog w K mg base CX0 1 (S.cls q) "sum_at" (spSum S q 1))
    ⟨_, _, _, cl_ExactTally, me_ExactTally_sum_at, ok_tal_sum F_ExactTally_sum_at (.inl rfl), b_ExactTally_sum_at⟩
    ⟨_, _, _, cl_MostTally, me_MostTally_sum_at, ok_tal_sum F_MostTally_sum_at (.inr (.inl rfl)), b_MostTally_sum_at⟩
    ⟨_, _, _, cl_LeastTally, me_LeastTally_sum_at, ok_tal_sum F_LeastTally_sum_at (.inr (.inr rfl)), b_LeastTally_sum_at⟩
  have m_product_at : ∀ k : TK, Met l.prog w K mg base CX0 1 (S.cls k.1) "product_at" (spProdB S k.1 1) := tk3 (p := fun q => Met l.prog w K mg base CX0 1 (S.cls q) "product_at" (spProdB S q 1))
    ⟨_, _, _, cl_ExactTally, me_ExactTally_product_at, ok_tal_prod F_ExactTally_product_at (.inl rfl), b_ExactTally_product_at⟩
    ⟨_, _, _, cl_MostTally, me_MostTally_product_at, ok_tal_prod F_MostTally_product_at (.inr (.inl rfl)), b_MostTally_product_at⟩
    ⟨_, _, _, cl_LeastTally, me_LeastTally_product_at, ok_tal_prod F_LeastTally_product_at (.inr (.inr rfl)), b_LeastTally_product_at⟩
  have m_within_at : ∀ k : TK, Met l.prog w K mg base CX0 1 (S.cls k.1) "within_at" (spWith S k.1 1) := tk3 (p := fun q => Met l.prog w K mg base CX0 1 (S.cls q) "within_at" (spWith S q 1))
    ⟨_, _, _, cl_ExactTally, me_ExactTally_within_at, ok_ex_with F_ExactTally_within_at, b_ExactTally_within_at⟩
    ⟨_, _, _, cl_MostTally, me_MostTally_within_at, ok_most_with F_MostTally_within_at, b_MostTally_within_at⟩
    ⟨_, _, _, cl_LeastTally, me_LeastTally_within_at, ok_least_with F_LeastTally_within_at, b_LeastTally_within_at⟩
  have m_bound_at : ∀ k : TK, Met l.prog w K mg base CX0 2 (S.cls k.1) "bound_at" (spBnd S k.1 1) := tk3 (p := fun q => Met l.prog w K mg base CX0 2 (S.cls q) "bound_at" (spBnd S q 1))
    ⟨_, _, _, cl_ExactTally, me_ExactTally_bound_at, ok_ex_bnd F_ExactTally_bound_at, b_ExactTally_bound_at⟩
    ⟨_, _, _, cl_MostTally, me_MostTally_bound_at, ok_most_bnd F_MostTally_bound_at c_greater, b_MostTally_bound_at⟩
    ⟨_, _, _, cl_LeastTally, me_LeastTally_bound_at, ok_least_bnd F_LeastTally_bound_at c_lesser, b_LeastTally_bound_at⟩
  have m_name_at : ∀ k : TK, Met l.prog w K mg base CX0 2 (S.cls k.1) "name_at" (spNmB S k.1 1) := tk3 (p := fun q => Met l.prog w K mg base CX0 2 (S.cls q) "name_at" (spNmB S q 1))
    ⟨_, _, _, cl_ExactTally, me_ExactTally_name_at, ok_tal_name F_ExactTally_name_at (.inl rfl) c_in_decimal, b_ExactTally_name_at⟩
    ⟨_, _, _, cl_MostTally, me_MostTally_name_at, ok_tal_name F_MostTally_name_at (.inr (.inl rfl)) c_in_decimal, b_MostTally_name_at⟩
    ⟨_, _, _, cl_LeastTally, me_LeastTally_name_at, ok_tal_name F_LeastTally_name_at (.inr (.inr rfl)) c_in_decimal, b_LeastTally_name_at⟩
  have m_times_at : ∀ k : TK, Met l.prog w K mg base CX0 1 (S.cls k.1) "times_at" (spTm S k.1 1) := tk3 (p := fun q => Met l.prog w K mg base CX0 1 (S.cls q) "times_at" (spTm S q 1))
    ⟨_, _, _, cl_ExactTally, me_ExactTally_times_at, ok_tal_times F_ExactTally_times_at (.inl rfl), b_ExactTally_times_at⟩
    ⟨_, _, _, cl_MostTally, me_MostTally_times_at, ok_tal_times F_MostTally_times_at (.inr (.inl rfl)), b_MostTally_times_at⟩
    ⟨_, _, _, cl_LeastTally, me_LeastTally_times_at, ok_tal_times F_LeastTally_times_at (.inr (.inr rfl)), b_LeastTally_times_at⟩
  have m_find_at : ∀ k : TK, Met l.prog w K mg base CX0 2 (S.cls k.1) "find_at" (spFindT S k.1) := tk3 (p := fun q => Met l.prog w K mg base CX0 2 (S.cls q) "find_at" (spFindT S q))
    ⟨_, _, _, cl_ExactTally, me_ExactTally_find_at, ok_tal_find F_ExactTally_find_at c_from_decimal, b_ExactTally_find_at⟩
    ⟨_, _, _, cl_MostTally, me_MostTally_find_at, ok_tal_find F_MostTally_find_at c_from_decimal, b_MostTally_find_at⟩
    ⟨_, _, _, cl_LeastTally, me_LeastTally_find_at, ok_tal_find F_LeastTally_find_at c_from_decimal, b_LeastTally_find_at⟩
  have m_at_name : ∀ k : TK, Met l.prog w K mg base (L2.CX l.prog w) 4 (S.cls k.1) "at_name" (spAtNmT S C_UnknownGrade k.1) := tk3 (p := fun q => Met l.prog w K mg base (L2.CX l.prog w) 4 (S.cls q) "at_name" (spAtNmT S C_UnknownGrade q))
    ⟨_, _, _, cl_ExactTally, me_ExactTally_at_name, ok_tal_at F_ExactTally_at_name (m_find_at ⟨_, (.inl rfl)⟩) (by decide) xm, b_ExactTally_at_name⟩
    ⟨_, _, _, cl_MostTally, me_MostTally_at_name, ok_tal_at F_MostTally_at_name (m_find_at ⟨_, (.inr (.inl rfl))⟩) (by decide) xm, b_MostTally_at_name⟩
    ⟨_, _, _, cl_LeastTally, me_LeastTally_at_name, ok_tal_at F_LeastTally_at_name (m_find_at ⟨_, (.inr (.inr rfl))⟩) (by decide) xm, b_LeastTally_at_name⟩
  have m_places : ∀ k : TK, Met l.prog w K mg base (L2.CX l.prog w) 1 (S.cls k.1) "places" (spPlsX S C_EndlessScale k.1) := tk3 (p := fun q => Met l.prog w K mg base (L2.CX l.prog w) 1 (S.cls q) "places" (spPlsX S C_EndlessScale q))
    ⟨_, _, _, cl_ExactTally, me_ExactTally_places, ok_tal_pls F_ExactTally_places X0, b_ExactTally_places⟩
    ⟨_, _, _, cl_MostTally, me_MostTally_places, ok_tal_pls F_MostTally_places X0, b_MostTally_places⟩
    ⟨_, _, _, cl_LeastTally, me_LeastTally_places, ok_tal_pls F_LeastTally_places X0, b_LeastTally_places⟩
  have c__law_draws : Cal l.prog w K mg base CX0 1 "_law_draws" (spDraws K) := ⟨_, _, _, ok_draws F__law_draws TL, g__law_draws, k__law_draws, b__law_draws⟩
  have c__law_draw : Cal l.prog w K mg base CX0 1 "_law_draw" spDraw := ⟨_, _, _, ok_draw F__law_draw TL, g__law_draw, k__law_draw, b__law_draw⟩
  have c_same : Cal l.prog w K mg base CX0 2 "_law_same" (spSame 1) := ⟨_, _, _, ok_same F__law_same TL g__law_same b__law_same 1, g__law_same, k__law_same, b__law_same⟩
  have c__law_number : Cal l.prog w K mg base CX0 2 "_law_number" spNumber := ⟨_, _, _, ok_lnum F__law_number TL c__law_draw, g__law_number, k__law_number, b__law_number⟩
  have c__law_within : Cal l.prog w K mg base CX0 1 "_law_within" spLWith := ⟨_, _, _, ok_lwith F__law_within, g__law_within, k__law_within, b__law_within⟩
  have c__law_bound : Cal l.prog w K mg base CX0 2 "_law_bound" spLBnd := ⟨_, _, _, ok_lbnd F__law_bound c__law_within, g__law_bound, k__law_bound, b__law_bound⟩
  have c_end : Cal l.prog w K mg base (L2.CX l.prog w) 5 "_law_endless" (spLEnd S) := ⟨_, _, _, ok_lend F__law_endless TU (fun k => met_mono (m_places k) (by decide)) c_same, g__law_endless, k__law_endless, b__law_endless⟩
  have c_unk : Cal l.prog w K mg base (L2.CX l.prog w) 5 "_law_unknown" (spLUnk S) := ⟨_, _, _, ok_lunk F__law_unknown TU m_at_name c_same, g__law_unknown, k__law_unknown, b__law_unknown⟩
  have c_far : Cal l.prog w K mg base (L2.CX l.prog w) 5 "_law_far_right" (spFar S) := ⟨_, _, _, ok_lfar F__law_far_right TL z_dig c__law_draw m_name_at m_at_name c_same, g__law_far_right, k__law_far_right, b__law_far_right⟩
  exact ok_law F_law TL z_dig pX pM pL c__law_draws c__law_draw c__law_number c__law_within c__law_bound c_same c_end c_unk c_far mkX mkM mkL NA m_sum_at m_product_at m_within_at m_bound_at m_name_at m_at_name m_times_at
theorem walk {l : PySem.W.OpenLaw} {q : Program} {loose : List Str} {XP : (Str → Option Value) → Heap → Prop} {YP : World → Heap → Prop} {d : DefRec} {K : Params → PySem.W.Frag} (hn : l.most = some 63) (hdf : d.params.defaults = [])
    (hY : ∀ (w : World) (h : Heap), YP w h → (K w.params).In h)
    (F : ∀ (w : World) (mg : Str → Option Value) (fa : Addr) (h : Heap), (K w.params).In h → h.Ns mainGlobals mg → mg d.name = some (.ref fa) →
      ∃ fd : FuncData, (∀ (s : Shared) (u : Value), BindsTo s fd ⟨[u], []⟩ [("_law_script", u)]) ∧ ∀ base : Heap, (K w.params).In base → base.Ns mainGlobals mg → FnOk l.prog w (K w.params) mg base (L2.CX l.prog w) 8 fa fd ["_law_script"] (spLaw (K w.params))) :
    PySem.W.WalkO q loose XP YP l.row.toRowW d [] (fun f vs => PySem.call f vs) :=
  L2.walk_of (n := 63) (k := 8) (x := "_law_script") (CX := fun w => (L2.CX l.prog w)) (sp := fun w => spLaw (K w.params)) hn (by decide) hdf ⟨rfl, by decide, by decide⟩ hY F (fun _ _ a ns hl _ hS => ⟨a, ns, rfl, hS, hl, fun _ => rfl⟩) fun _ _ _ _ _ z => UX.cxF z
end Q
open PySem PySem.W PyProof.Rows
set_option maxRecDepth 100000 in
set_option maxHeartbeats 0 in
theorem PySem.Challenge.cw_usescale_k05_tallies_holds : PySem.Challenge.rw_usescale_k05_tallies.Holds := by
  w_on; o_law; k_head; (case hw => w_witness2)
  k_fill
  refine Q.walk (l := PySem.Challenge.rw_usescale_k05_tallies) rfl rfl (fun w h Y => PySem.W.kIn_of Y) ?F
  case F =>
    intro w mg fa h KX G hmg
    refine' Q.all_mk KX G hmg ?aC_ExactTally ?pg_ExactTally ?hd_ExactTally ?po_ExactTally ?sa_ExactTally ?mk_ExactTally ?kc_ExactTally ?aC_MostTally ?pg_MostTally ?hd_MostTally ?po_MostTally ?sa_MostTally ?mk_MostTally ?kc_MostTally ?aC_LeastTally ?pg_LeastTally ?hd_LeastTally ?po_LeastTally ?sa_LeastTally ?mk_LeastTally ?kc_LeastTally ?aC_Scale ?aC_Tally ?aC_NameMissing ?aC_UsescaleError ?aC_EndlessScale ?x_cg ?x_ct ?aC_UnknownGrade ?xi_UnknownGrade ?xo_UnknownGrade ?xh_UnknownGrade ?xs_UnknownGrade ?xe_UnknownGrade ?xt_UnknownGrade ?xk_UnknownGrade ?xga_UnknownGrade ?xgg_UnknownGrade ?xca_UnknownGrade ?xmo_UnknownGrade ?a_ei_UnknownGrade_init ?l_ei_UnknownGrade_init ?c_ei_UnknownGrade_init ?k_ei_UnknownGrade_init ?ty_ei_UnknownGrade_init ?rd_bi_NameMissing ?ga_bi_NameMissing ?a_bi_NameMissing ?a_in_decimal ?l_in_decimal ?c_in_decimal ?k_in_decimal ?a_from_decimal ?l_from_decimal ?c_from_decimal ?k_from_decimal ?a_greater ?l_greater ?c_greater ?k_greater ?a_lesser ?l_lesser ?c_lesser ?k_lesser ?a__law_draws ?l__law_draws ?c__law_draws ?k__law_draws ?a__law_draw ?l__law_draw ?c__law_draw ?k__law_draw ?a__law_same ?l__law_same ?c__law_same ?k__law_same ?a__law_number ?l__law_number ?c__law_number ?k__law_number ?a__law_within ?l__law_within ?c__law_within ?k__law_within ?a__law_bound ?l__law_bound ?c__law_bound ?k__law_bound ?a__law_endless ?l__law_endless ?c__law_endless ?k__law_endless ?a__law_unknown ?l__law_unknown ?c__law_unknown ?k__law_unknown ?a__law_far_right ?l__law_far_right ?c__law_far_right ?k__law_far_right ?a_law ?l_law ?c_law ?k_law ?a_ExactTally___init__ ?i_ExactTally___init__ ?l_ExactTally___init__ ?c_ExactTally___init__ ?k_ExactTally___init__ ?a_ExactTally_sum_at ?i_ExactTally_sum_at ?l_ExactTally_sum_at ?c_ExactTally_sum_at ?k_ExactTally_sum_at ?a_ExactTally_product_at ?i_ExactTally_product_at ?l_ExactTally_product_at ?c_ExactTally_product_at ?k_ExactTally_product_at ?a_ExactTally_within_at ?i_ExactTally_within_at ?l_ExactTally_within_at ?c_ExactTally_within_at ?k_ExactTally_within_at ?a_ExactTally_bound_at ?i_ExactTally_bound_at ?l_ExactTally_bound_at ?c_ExactTally_bound_at ?k_ExactTally_bound_at ?a_ExactTally_name_at ?i_ExactTally_name_at ?l_ExactTally_name_at ?c_ExactTally_name_at ?k_ExactTally_name_at ?a_ExactTally_find_at ?i_ExactTally_find_at ?l_ExactTally_find_at ?c_ExactTally_find_at ?k_ExactTally_find_at ?a_ExactTally_at_name ?i_ExactTally_at_name ?l_ExactTally_at_name ?c_ExactTally_at_name ?k_ExactTally_at_name ?a_ExactTally_times_at ?i_ExactTally_times_at ?l_ExactTally_times_at ?c_ExactTally_times_at ?k_ExactTally_times_at ?a_ExactTally_places ?i_ExactTally_places ?l_ExactTally_places ?c_ExactTally_places ?k_ExactTally_places ?a_MostTally___init__ ?i_MostTally___init__ ?l_MostTally___init__ ?c_MostTally___init__ ?k_MostTally___init__ ?a_MostTally_sum_at ?i_MostTally_sum_at ?l_MostTally_sum_at ?c_MostTally_sum_at ?k_MostTally_sum_at ?a_MostTally_product_at ?i_MostTally_product_at ?l_MostTally_product_at ?c_MostTally_product_at ?k_MostTally_product_at ?a_MostTally_within_at ?i_MostTally_within_at ?l_MostTally_within_at ?c_MostTally_within_at ?k_MostTally_within_at ?a_MostTally_bound_at ?i_MostTally_bound_at ?l_MostTally_bound_at ?c_MostTally_bound_at ?k_MostTally_bound_at ?a_MostTally_name_at ?i_MostTally_name_at ?l_MostTally_name_at ?c_MostTally_name_at ?k_MostTally_name_at ?a_MostTally_find_at ?i_MostTally_find_at ?l_MostTally_find_at ?c_MostTally_find_at ?k_MostTally_find_at ?a_MostTally_at_name ?i_MostTally_at_name ?l_MostTally_at_name ?c_MostTally_at_name ?k_MostTally_at_name ?a_MostTally_times_at ?i_MostTally_times_at ?l_MostTally_times_at ?c_MostTally_times_at ?k_MostTally_times_at ?a_MostTally_places ?i_MostTally_places ?l_MostTally_places ?c_MostTally_places ?k_MostTally_places ?a_LeastTally___init__ ?i_LeastTally___init__ ?l_LeastTally___init__ ?c_LeastTally___init__ ?k_LeastTally___init__ ?a_LeastTally_sum_at ?i_LeastTally_sum_at ?l_LeastTally_sum_at ?c_LeastTally_sum_at ?k_LeastTally_sum_at ?a_LeastTally_product_at ?i_LeastTally_product_at ?l_LeastTally_product_at ?c_LeastTally_product_at ?k_LeastTally_product_at ?a_LeastTally_within_at ?i_LeastTally_within_at ?l_LeastTally_within_at ?c_LeastTally_within_at ?k_LeastTally_within_at ?a_LeastTally_bound_at ?i_LeastTally_bound_at ?l_LeastTally_bound_at ?c_LeastTally_bound_at ?k_LeastTally_bound_at ?a_LeastTally_name_at ?i_LeastTally_name_at ?l_LeastTally_name_at ?c_LeastTally_name_at ?k_LeastTally_name_at ?a_LeastTally_find_at ?i_LeastTally_find_at ?l_LeastTally_find_at ?c_LeastTally_find_at ?k_LeastTally_find_at ?a_LeastTally_at_name ?i_LeastTally_at_name ?l_LeastTally_at_name ?c_LeastTally_at_name ?k_LeastTally_at_name ?a_LeastTally_times_at ?i_LeastTally_times_at ?l_LeastTally_times_at ?c_LeastTally_times_at ?k_LeastTally_times_at ?a_LeastTally_places ?i_LeastTally_places ?l_LeastTally_places ?c_LeastTally_places ?k_LeastTally_places ?a_cf_Scale___init__ ?l_cf_Scale___init__ ?c_cf_Scale___init__ ?k_cf_Scale___init__ ?rd_cf_Scale___init__ ?ga_cf_Scale___init__ ?a_cf_Tally___init__ ?l_cf_Tally___init__ ?c_cf_Tally___init__ ?k_cf_Tally___init__ ?rd_cf_Tally___init__ ?ga_cf_Tally___init__ ?n_ExactTally_label ?n_ExactTally_size ?n_ExactTally_zero_at ?n_ExactTally_one_at ?n_ExactTally_depth ?n_MostTally_label ?n_MostTally_size ?n_MostTally_zero_at ?n_MostTally_one_at ?n_MostTally_depth ?n_LeastTally_label ?n_LeastTally_size ?n_LeastTally_zero_at ?n_LeastTally_one_at ?n_LeastTally_depth ?n_UnknownGrade_name ?te ?ee ?isU ?isS ?isV ?t_x0 ?z_exC ?z_tyC ?z_hd ?z_ga ?z_gg ?z_ca ?z_mo ?z_dig ?z_int ?z_len ?z_range ?z_isinstance ?z_bool ?z_str ?z_tuple ?z_list ?z_divmod ?z_ValueError ?g_MOST_DEPTH ?g_FIGURES ?g_BLOCK
    (case aC_ExactTally => k_is)
    (case pg_ExactTally => k_is)
    (case hd_ExactTally => k_is)
    (case po_ExactTally => k_is)
    (case sa_ExactTally => k_is)
    (case mk_ExactTally => k_is)
    (case kc_ExactTally => k_is)
    (case aC_MostTally => k_is)
    (case pg_MostTally => k_is)
    (case hd_MostTally => k_is)
    (case po_MostTally => k_is)
    (case sa_MostTally => k_is)
    (case mk_MostTally => k_is)
    (case kc_MostTally => k_is)
    (case aC_LeastTally => k_is)
    (case pg_LeastTally => k_is)
    (case hd_LeastTally => k_is)
    (case po_LeastTally => k_is)
    (case sa_LeastTally => k_is)
    (case mk_LeastTally => k_is)
    (case kc_LeastTally => k_is)
    (case aC_Scale => k_is)
    (case aC_Tally => k_is)
    (case aC_NameMissing => k_is)
    (case aC_UsescaleError => k_is)
    (case aC_EndlessScale => k_is)
    (case x_cg => k_is)
    (case x_ct => k_is)
    (case aC_UnknownGrade => k_is)
    (case xi_UnknownGrade => kx_is)
    (case xo_UnknownGrade => kx_is)
    (case xh_UnknownGrade => k_is)
    (case xs_UnknownGrade => k_is)
    (case xe_UnknownGrade => k_is)
    (case xt_UnknownGrade => k_is)
    (case xk_UnknownGrade => k_is)
    (case xga_UnknownGrade => k_is)
    (case xgg_UnknownGrade => k_is)
    (case xca_UnknownGrade => k_is)
    (case xmo_UnknownGrade => k_is)
    (case a_ei_UnknownGrade_init => k_is)
    (case l_ei_UnknownGrade_init => k_is)
    (case c_ei_UnknownGrade_init => k_is)
    (case k_ei_UnknownGrade_init => k_is)
    (case ty_ei_UnknownGrade_init => k_is)
    (case rd_bi_NameMissing => k_is)
    (case ga_bi_NameMissing => k_is)
    (case a_bi_NameMissing => k_is)
    (case a_in_decimal => k_is)
    (case l_in_decimal => k_is)
    (case c_in_decimal => k_is)
    (case k_in_decimal => k_is)
    (case a_from_decimal => k_is)
    (case l_from_decimal => k_is)
    (case c_from_decimal => k_is)
    (case k_from_decimal => k_is)
    (case a_greater => k_is)
    (case l_greater => k_is)
    (case c_greater => k_is)
    (case k_greater => k_is)
    (case a_lesser => k_is)
    (case l_lesser => k_is)
    (case c_lesser => k_is)
    (case k_lesser => k_is)
    (case a__law_draws => k_is)
    (case l__law_draws => k_is)
    (case c__law_draws => k_is)
    (case k__law_draws => k_is)
    (case a__law_draw => k_is)
    (case l__law_draw => k_is)
    (case c__law_draw => k_is)
    (case k__law_draw => k_is)
    (case a__law_same => k_is)
    (case l__law_same => k_is)
    (case c__law_same => k_is)
    (case k__law_same => k_is)
    (case a__law_number => k_is)
    (case l__law_number => k_is)
    (case c__law_number => k_is)
    (case k__law_number => k_is)
    (case a__law_within => k_is)
    (case l__law_within => k_is)
    (case c__law_within => k_is)
    (case k__law_within => k_is)
    (case a__law_bound => k_is)
    (case l__law_bound => k_is)
    (case c__law_bound => k_is)
    (case k__law_bound => k_is)
    (case a__law_endless => k_is)
    (case l__law_endless => k_is)
    (case c__law_endless => k_is)
    (case k__law_endless => k_is)
    (case a__law_unknown => k_is)
    (case l__law_unknown => k_is)
    (case c__law_unknown => k_is)
    (case k__law_unknown => k_is)
    (case a__law_far_right => k_is)
    (case l__law_far_right => k_is)
    (case c__law_far_right => k_is)
    (case k__law_far_right => k_is)
    (case a_law => k_is)
    (case l_law => k_is)
    (case c_law => k_is)
    (case k_law => k_is)
    (case a_ExactTally___init__ => k_is)
    (case i_ExactTally___init__ => k_is)
    (case l_ExactTally___init__ => k_is)
    (case c_ExactTally___init__ => k_is)
    (case k_ExactTally___init__ => k_is)
    (case a_ExactTally_sum_at => k_is)
    (case i_ExactTally_sum_at => k_is)
    (case l_ExactTally_sum_at => k_is)
    (case c_ExactTally_sum_at => k_is)
    (case k_ExactTally_sum_at => k_is)
    (case a_ExactTally_product_at => k_is)
    (case i_ExactTally_product_at => k_is)
    (case l_ExactTally_product_at => k_is)
    (case c_ExactTally_product_at => k_is)
    (case k_ExactTally_product_at => k_is)
    (case a_ExactTally_within_at => k_is)
    (case i_ExactTally_within_at => k_is)
    (case l_ExactTally_within_at => k_is)
    (case c_ExactTally_within_at => k_is)
    (case k_ExactTally_within_at => k_is)
    (case a_ExactTally_bound_at => k_is)
    (case i_ExactTally_bound_at => k_is)
    (case l_ExactTally_bound_at => k_is)
    (case c_ExactTally_bound_at => k_is)
    (case k_ExactTally_bound_at => k_is)
    (case a_ExactTally_name_at => k_is)
    (case i_ExactTally_name_at => k_is)
    (case l_ExactTally_name_at => k_is)
    (case c_ExactTally_name_at => k_is)
    (case k_ExactTally_name_at => k_is)
    (case a_ExactTally_find_at => k_is)
    (case i_ExactTally_find_at => k_is)
    (case l_ExactTally_find_at => k_is)
    (case c_ExactTally_find_at => k_is)
    (case k_ExactTally_find_at => k_is)
    (case a_ExactTally_at_name => k_is)
    (case i_ExactTally_at_name => k_is)
    (case l_ExactTally_at_name => k_is)
    (case c_ExactTally_at_name => k_is)
    (case k_ExactTally_at_name => k_is)
    (case a_ExactTally_times_at => k_is)
    (case i_ExactTally_times_at => k_is)
    (case l_ExactTally_times_at => k_is)
    (case c_ExactTally_times_at => k_is)
    (case k_ExactTally_times_at => k_is)
    (case a_ExactTally_places => k_is)
    (case i_ExactTally_places => k_is)
    (case l_ExactTally_places => k_is)
    (case c_ExactTally_places => k_is)
    (case k_ExactTally_places => k_is)
    (case a_MostTally___init__ => k_is)
    (case i_MostTally___init__ => k_is)
    (case l_MostTally___init__ => k_is)
    (case c_MostTally___init__ => k_is)
    (case k_MostTally___init__ => k_is)
    (case a_MostTally_sum_at => k_is)
    (case i_MostTally_sum_at => k_is)
    (case l_MostTally_sum_at => k_is)
    (case c_MostTally_sum_at => k_is)
    (case k_MostTally_sum_at => k_is)
    (case a_MostTally_product_at => k_is)
    (case i_MostTally_product_at => k_is)
    (case l_MostTally_product_at => k_is)
    (case c_MostTally_product_at => k_is)
    (case k_MostTally_product_at => k_is)
    (case a_MostTally_within_at => k_is)
    (case i_MostTally_within_at => k_is)
    (case l_MostTally_within_at => k_is)
    (case c_MostTally_within_at => k_is)
    (case k_MostTally_within_at => k_is)
    (case a_MostTally_bound_at => k_is)
    (case i_MostTally_bound_at => k_is)
    (case l_MostTally_bound_at => k_is)
    (case c_MostTally_bound_at => k_is)
    (case k_MostTally_bound_at => k_is)
    (case a_MostTally_name_at => k_is)
    (case i_MostTally_name_at => k_is)
    (case l_MostTally_name_at => k_is)
    (case c_MostTally_name_at => k_is)
    (case k_MostTally_name_at => k_is)
    (case a_MostTally_find_at => k_is)
    (case i_MostTally_find_at => k_is)
    (case l_MostTally_find_at => k_is)
    (case c_MostTally_find_at => k_is)
    (case k_MostTally_find_at => k_is)
    (case a_MostTally_at_name => k_is)
    (case i_MostTally_at_name => k_is)
    (case l_MostTally_at_name => k_is)
    (case c_MostTally_at_name => k_is)
    (case k_MostTally_at_name => k_is)
    (case a_MostTally_times_at => k_is)
    (case i_MostTally_times_at => k_is)
    (case l_MostTally_times_at => k_is)
    (case c_MostTally_times_at => k_is)
    (case k_MostTally_times_at => k_is)
    (case a_MostTally_places => k_is)
    (case i_MostTally_places => k_is)
    (case l_MostTally_places => k_is)
    (case c_MostTally_places => k_is)
    (case k_MostTally_places => k_is)
    (case a_LeastTally___init__ => k_is)
    (case i_LeastTally___init__ => k_is)
    (case l_LeastTally___init__ => k_is)
    (case c_LeastTally___init__ => k_is)
    (case k_LeastTally___init__ => k_is)
    (case a_LeastTally_sum_at => k_is)
    (case i_LeastTally_sum_at => k_is)
    (case l_LeastTally_sum_at => k_is)
    (case c_LeastTally_sum_at => k_is)
    (case k_LeastTally_sum_at => k_is)
    (case a_LeastTally_product_at => k_is)
    (case i_LeastTally_product_at => k_is)
    (case l_LeastTally_product_at => k_is)
    (case c_LeastTally_product_at => k_is)
    (case k_LeastTally_product_at => k_is)
    (case a_LeastTally_within_at => k_is)
    (case i_LeastTally_within_at => k_is)
    (case l_LeastTally_within_at => k_is)
    (case c_LeastTally_within_at => k_is)
    (case k_LeastTally_within_at => k_is)
    (case a_LeastTally_bound_at => k_is)
    (case i_LeastTally_bound_at => k_is)
    (case l_LeastTally_bound_at => k_is)
    (case c_LeastTally_bound_at => k_is)
    (case k_LeastTally_bound_at => k_is)
    (case a_LeastTally_name_at => k_is)
    (case i_LeastTally_name_at => k_is)
    (case l_LeastTally_name_at => k_is)
    (case c_LeastTally_name_at => k_is)
    (case k_LeastTally_name_at => k_is)
    (case a_LeastTally_find_at => k_is)
    (case i_LeastTally_find_at => k_is)
    (case l_LeastTally_find_at => k_is)
    (case c_LeastTally_find_at => k_is)
    (case k_LeastTally_find_at => k_is)
    (case a_LeastTally_at_name => k_is)
    (case i_LeastTally_at_name => k_is)
    (case l_LeastTally_at_name => k_is)
    (case c_LeastTally_at_name => k_is)
    (case k_LeastTally_at_name => k_is)
    (case a_LeastTally_times_at => k_is)
    (case i_LeastTally_times_at => k_is)
    (case l_LeastTally_times_at => k_is)
    (case c_LeastTally_times_at => k_is)
    (case k_LeastTally_times_at => k_is)
    (case a_LeastTally_places => k_is)
    (case i_LeastTally_places => k_is)
    (case l_LeastTally_places => k_is)
    (case c_LeastTally_places => k_is)
    (case k_LeastTally_places => k_is)
    (case a_cf_Scale___init__ => k_is)
    (case l_cf_Scale___init__ => k_is)
    (case c_cf_Scale___init__ => k_is)
    (case k_cf_Scale___init__ => k_is)
    (case rd_cf_Scale___init__ => k_is)
    (case ga_cf_Scale___init__ => k_is)
    (case a_cf_Tally___init__ => k_is)
    (case l_cf_Tally___init__ => k_is)
    (case c_cf_Tally___init__ => k_is)
    (case k_cf_Tally___init__ => k_is)
    (case rd_cf_Tally___init__ => k_is)
    (case ga_cf_Tally___init__ => k_is)
    (case n_ExactTally_label => k_is)
    (case n_ExactTally_size => k_is)
    (case n_ExactTally_zero_at => k_is)
    (case n_ExactTally_one_at => k_is)
    (case n_ExactTally_depth => k_is)
    (case n_MostTally_label => k_is)
    (case n_MostTally_size => k_is)
    (case n_MostTally_zero_at => k_is)
    (case n_MostTally_one_at => k_is)
    (case n_MostTally_depth => k_is)
    (case n_LeastTally_label => k_is)
    (case n_LeastTally_size => k_is)
    (case n_LeastTally_zero_at => k_is)
    (case n_LeastTally_one_at => k_is)
    (case n_LeastTally_depth => k_is)
    (case n_UnknownGrade_name => k_is)
    (case te => kts_exm)
    (case ee => kts_exm)
    (case isU => kit_is)
    (case isS => kit_is)
    (case isV => kit_is)
    (case t_x0 => kernel_rfl)
    (case z_exC => k_is)
    (case z_tyC => k_is)
    (case z_hd => k_is)
    (case z_ga => k_is)
    (case z_gg => k_is)
    (case z_ca => k_is)
    (case z_mo => k_is)
    (case z_dig => k_is)
    (case z_int => k_is)
    (case z_len => k_is)
    (case z_range => k_is)
    (case z_isinstance => k_is)
    (case z_bool => k_is)
    (case z_str => k_is)
    (case z_tuple => k_is)
    (case z_list => k_is)
    (case z_divmod => k_is)
    (case z_ValueError => k_is)
    (case g_MOST_DEPTH => k_is)
    (case g_FIGURES => k_is)
    (case g_BLOCK => k_is)
