import PyProof.Rows.All
import Wide.All
import OpenK.AllK
import Wide.FinOn
import HandS.ForMost
import HandS.Defaults
import HandS.MakeKwOnly
import HandS.Conv
import HandS.Style
import HandS.IsInst
import HandS.FStr
import HandS.DictComp
import HandS.ClsMeth
import HandS.Steps
import PySem.Challenge.RW_usescale_k02_cut_orders
set_option Elab.async false
set_option linter.all false
set_option maxRecDepth 100000
set_option maxHeartbeats 4000000
/-! Rules of my own over the hand layer, for every law of this program. -/
namespace U
open PySem PySem.Spec PyProof.Rows L2

/-! ### tests whose answer is known -/
theorem ifY {c A B : Prop} [Decidable c] (hc : c) (h : A) : if decide c = true then A else B := by
  rw [decide_eq_true hc]; exact iteT h
theorem ifN {c A B : Prop} [Decidable c] (hc : ¬ c) (h : B) : if decide c = true then A else B := by
  rw [decide_eq_false hc]; exact iteF h
theorem nifY {c A B : Prop} [Decidable c] (hc : c) (h : B) : if (!decide c) = true then A else B := by
  rw [decide_eq_true hc]; exact iteF h
theorem nifN {c A B : Prop} [Decidable c] (hc : ¬ c) (h : A) : if (!decide c) = true then A else B := by
  rw [decide_eq_false hc]; exact iteT h
theorem ifD {c A B : Prop} [Decidable c] (h1 : c → A) (h2 : ¬ c → B) : if decide c = true then A else B := by
  by_cases h : c
  · exact ifY h (h1 h)
  · exact ifN h (h2 h)
theorem ifB {b : Bool} {A B : Prop} (h1 : b = true → A) (h2 : b = false → B) : if b = true then A else B := by
  cases b
  · exact iteF (h2 rfl)
  · exact iteT (h1 rfl)
theorem ifT {b : Bool} {A B : Prop} (e : b = true) (h : A) : if b = true then A else B := by
  rw [e]; exact iteT h
theorem ifF {b : Bool} {A B : Prop} (e : b = false) (h : B) : if b = true then A else B := by
  rw [e]; exact iteF h

theorem tYesI {σ : L2.St} {H : Hp} {Q : Bool → Hp → Prop} (h : Q true H) : tYes σ H Q := h
theorem sameNew {H : Hp} {p : Addr} {o : HO} (h : H p = none) : Same H (upd H p o) := fun b u e => by
  rw [upd_ne (ne_of_none e h)]; exact e
theorem at_map {ns : List Int} {i : Nat} {y : V} (hi : (ns.map V.int)[i]? = some y) : ∃ n, y = V.int n ∧ ns[i]? = some n := by
  rw [List.getElem?_map] at hi
  cases e : ns[i]? with
  | none => rw [e] at hi; cases hi
  | some n => rw [e] at hi; exact ⟨n, (Option.some.inj hi).symm, rfl⟩
theorem take_snoc {α : Type} {l : List α} {i : Nat} {x : α} (h : l[i]? = some x) : l.take (i + 1) = l.take i ++ [x] := by
  rw [List.take_succ, h]; rfl

/-- a while: W with its measure, B where it ends by its test or a break -/
theorem whileX {c : TT} {tb : TS} {D : Ends} {σ : L2.St} {H : Hp} (W : Nat → L2.St → Hp → Prop) (B : L2.St → Hp → Prop) (n : Nat) (h0 : W n σ H) (hB : ∀ σ H, B σ H → D.nx σ H)
    (hs : ∀ (nx : L2.St → Hp → Prop), (∀ σ H, B σ H → nx σ H) → ∀ m σ H, W m σ H → c σ H fun b H1 => if b = true then ∃ N : L2.St → Hp → Prop, (∀ σ' H', N σ' H' → ∃ m', m' < m ∧ W m' σ' H') ∧ tb { D with nx := N, ct := N, bk := nx } σ H1 else nx σ H1) :
    tWhile c tb D σ H := ⟨W, ⟨n, h0⟩, hs D.nx hB⟩

/-! ### attributes by position -/
theorem lk : ∀ {ks : List Str} {vs : List V} {f : Str} {i : Nat} {v : V}, ks.findIdx? (fun k => k == f) = some i → vs[i]? = some v → (ks.zip vs).lookup f = some v
  | [], vs, f, i, v, h, _ => by simp at h
  | k :: ks, [], f, i, v, _, hv => by simp at hv
  | k :: ks, x :: vs, f, i, v, h, hv => by
    rw [List.findIdx?_cons] at h
    by_cases e : (k == f) = true
    · rw [if_pos e] at h
      obtain rfl : 0 = i := Option.some.inj h
      have e1 : f = k := (beq_iff_eq.mp e).symm
      subst e1
      obtain rfl : x = v := by simpa using hv
      simp [List.lookup]
    · rw [if_neg e] at h
      cases i with
      | zero => simp at h
      | succ i =>
        have h' : ks.findIdx? (fun k => k == f) = some i := by
          cases q : ks.findIdx? (fun k => k == f) with
          | none => rw [q] at h; simp at h
          | some j => rw [q] at h; simp at h; rw [h]
        have e2 : (f == k) = false := by
          rw [Bool.eq_false_iff]; intro z
          exact e (beq_iff_eq.mpr (beq_iff_eq.mp z).symm)
        show (match f == k with | true => some x | false => (ks.zip vs).lookup f) = some v
        rw [e2]
        exact lk h' (by simpa using hv)
theorem lkn : ∀ {ks : List Str} {vs : List V} {f : Str}, ks.findIdx? (fun k => k == f) = none → (ks.zip vs).lookup f = none
  | [], vs, f, h => by simp
  | k :: ks, [], f, _ => by simp
  | k :: ks, x :: vs, f, h => by
    rw [List.findIdx?_cons] at h
    by_cases e : (k == f) = true
    · rw [if_pos e] at h; simp at h
    · rw [if_neg e] at h
      have h' : ks.findIdx? (fun k => k == f) = none := by
        cases q : ks.findIdx? (fun k => k == f) with
        | none => rfl
        | some j => rw [q] at h; simp at h
      have e2 : (f == k) = false := by
        rw [Bool.eq_false_iff]; intro z
        exact e (beq_iff_eq.mpr (beq_iff_eq.mp z).symm)
      show (match f == k with | true => some x | false => (ks.zip vs).lookup f) = none
      rw [e2]
      exact lkn h'
/-- a new attribute -/
theorem pf : ∀ {ks : List Str} {vs : List V} {f : Str} {v : V}, ks.findIdx? (fun k => k == f) = none → ks.length = vs.length → putF f v (ks.zip vs) = (ks ++ [f]).zip (vs ++ [v])
  | [], [], f, v, _, _ => rfl
  | [], x :: vs, f, v, _, h => by simp at h
  | k :: ks, [], f, v, _, h => by simp at h
  | k :: ks, x :: vs, f, v, h, hl => by
    rw [List.findIdx?_cons] at h
    by_cases e : (k == f) = true
    · rw [if_pos e] at h; simp at h
    · rw [if_neg e] at h
      have h' : ks.findIdx? (fun k => k == f) = none := by
        cases q : ks.findIdx? (fun k => k == f) with
        | none => rfl
        | some j => rw [q] at h; simp at h
      have e2 : ¬ k = f := fun z => e (beq_iff_eq.mpr z)
      show (if k = f then (k, v) :: ks.zip vs else (k, x) :: putF f v (ks.zip vs)) = _
      rw [if_neg e2, pf h' (by simpa using hl)]
      rfl

/-! ### o[i] of a list, for o[i] op= e -/
def rGetL (K : PySem.W.Frag) : V → V → Hp → VK → Prop := fun x y H Q => ∃ p xs i v, x = .ref p ∧ y = .int i ∧ SqL K H p xs ∧ 0 ≤ i ∧ xs[i.toNat]? = some v ∧ Q v H
theorem get_list {X : Cx} : PGet X (rGetL X.K) := by
  intro pins s σ H x y v u Q I rx ry h
  obtain ⟨p, xs, i, z, rfl, rfl, hq, h0, he, q⟩ := h
  cases (show v = Value.ref p from rx)
  obtain ⟨t, rfl⟩ := ry
  obtain ⟨its, r, pl, hz⟩ := I.list hq
  obtain ⟨w, ew, rw'⟩ := r.get he
  have hl := r.length
  have hn := line63
  have hb := (List.getElem?_eq_some_iff.mp he).1
  exact wpAny_getItem_list pl.isList h0 (by omega) (by simpa using ew) ⟨z, H, I, rw', q⟩

/-! ### a[i], a a list or a tuple -/
theorem ix_or {X : Cx} {r r' : R2} (h : IxR X r) (h' : IxR X r') : IxR X (fun x y H Q => r x y H Q ∨ r' x y H Q) := by
  intro value slice pins s σ H x y v u Q I rx ry hq hs
  rcases hq with q | q
  · exact h value slice pins s σ H x y v u Q I rx ry q hs
  · exact h' value slice pins s σ H x y v u Q I rx ry q hs
def rIxLT (K : PySem.W.Frag) : R2 := fun x y H Q => rIxL K x y H Q ∨ rIxT K x y H Q
theorem ix_ls {X : Cx} : IxR X (rIxLT X.K) := ix_or ix_list ix_tup

/-! ### x is True, x is False: x anything -/
def rIsBA : R2 := fun x y H Q => ∃ b : Bool, y = .bl b ∧ Q (.bl (decide (x = .bl b))) H
theorem plain_bl {x : V} {v : Value} (b : Bool) (rx : RelV x v) : plainIs v (.bool b) = true := by
  cases x with
  | non => cases (show v = Value.none from rx); rfl
  | bl c => cases (show v = Value.bool c from rx); rfl
  | int i => obtain ⟨t, rfl⟩ := rx; rfl
  | str i => obtain ⟨t, rfl⟩ := rx; rfl
  | byt i => obtain ⟨t, rfl⟩ := rx; rfl
  | flt i => obtain ⟨t, rfl⟩ := rx; rfl
  | ref a => cases (show v = Value.ref a from rx); rfl
  | ty n => cases (show v = Value.type n from rx); rfl
theorem op_isBA {X : Cx} : OpR X (compareOp .Is) rIsBA := by
  intro pins s σ H x y v u Q I rx ry h
  obtain ⟨b, rfl, q⟩ := h
  cases (show u = Value.bool b from ry)
  by_cases e : x = .bl b
  · subst e
    cases (show v = Value.bool b from rx)
    exact wpAny_is_self rfl ⟨.bl true, H, I, rfl, by simpa using q⟩
  · refine wpAny_is_other (plain_bl b rx) (fun z => ?_) ⟨.bl false, H, I, rfl, by simpa [e] using q⟩
    subst z
    exact e (RelV.inj rx (show RelV (.bl b) (.bool b) from rfl))

/-! ### Base.m(self, ..): a def of an own class read off the class -/
structure CFn (K : PySem.W.Frag) (C : Addr) (mc : Value) (m : Str) (f : Addr) : Prop where
  rd : PySem.W.readsIn K C mc = true
  ga : PySem.W.specialIn K (.ref C) "__getattribute__" = some (some (.builtin "type.__getattribute__"))
  at_ : PySem.W.findCls K (.ref C) mc m = some (.val (.ref f))
  kp : PySem.W.keepIn K (.ref f) = true
def tCFn (C : Addr) (sp : Sp) (E : XK) (ta : TE) (t : TA) : TE := fun σ H Q => ta σ H fun x H1 => x = .ref C ∧ t σ H1 fun vs H2 => sp vs H2 Q E
section
variable {X : Cx} {CX : CXT} {k : Nat} {f C : Addr} {mc : Value} {fd : FuncData} {ps : List Str} {sp : Sp} {E : XK} {m : Str} {pos apos : Pos} {e o : Expr} {es : List Expr} {ta : TE} {t : TA}
theorem pe_cfn {pl : Sem Bool} (he : PE X o ta) (c : CFn X.K C mc m f) (F : FnOk X.prog X.w X.K X.mg X.base CX k f fd ps sp) (hr : Room k X.A) (hb : Binds X.K fd ps []) (hx : Passes CX X E) (ha : PA X (e :: es) t)
    (hst : starEach (e :: es) X.env = (false, eval e X.env) :: starEach es X.env := by rfl) (hpl : (backTo pos (starEach es X.env)).any (·.1) = false := by rfl)
    (ht : eval (.Call (.Attribute o m apos) (e :: es) [] pos) X.env = (do
      let ov ← eval o X.env
      standAt apos.atName
      let (f, first) ← holding [ov] (getMethod ov m pl)
      callWith pos f first (backTo pos (starEach (e :: es) X.env)) (backToKw pos (keywordEach [] X.env))) := by rfl) :
    PE X (.Call (.Attribute o m apos) (e :: es) [] pos) (tCFn C sp E ta t) := by
  refine ⟨fun pins s σ H Q I h => ?_⟩
  refine PySem.W.methodCall_KW (pl := pl) (thn (he.run pins s σ H _ I h) fun u s1 ⟨x, H1, I1, rx, ex, q⟩ => ?_) ht
  subst ex
  obtain rfl : u = Value.ref C := rx
  refine PySem.W.method_cls I1.kIn c.ga (PySem.W.cls_value I1.kIn c.rd c.at_ rfl ?_)
  refine PySem.W.callWith_K (first := []) (h₀ := X.base) I.ok.mod.kin c.kp (thn (ha.run pos pins _ σ H1 _ (I1.tok _) q) fun us s2 ⟨vs, H2, I2, r, q2⟩ => ⟨I2.kIn, ?_⟩) hst hpl
  exact run_fn (us := us) (vs := vs) F hr hb .nil hx I2 r (by rw [List.append_nil]; exact q2)
end
end U
namespace U
open PySem PySem.Spec PyProof.Rows L2
/-! ### calls of what has been proved, by name -/
structure Cal (P : Program) (w : World) (K : PySem.W.Frag) (mg : Str → Option Value) (base : Heap) (CX : CXT) (k : Nat) (x : Str) (sp : Sp) : Prop where
  ex : ∃ (f : Addr) (fd : FuncData) (ps : List Str), FnOk P w K mg base CX k f fd ps sp ∧ mg x = some (.ref f) ∧ PySem.W.keepIn K (.ref f) = true ∧ Binds K fd ps []
structure Met (P : Program) (w : World) (K : PySem.W.Frag) (mg : Str → Option Value) (base : Heap) (CX : CXT) (k : Nat) (C : Addr) (m : Str) (sp : Sp) : Prop where
  ex : ∃ (f : Addr) (fd : FuncData) (ps : List Str), Cls K C ∧ Meth K C m f ∧ FnOk P w K mg base CX k f fd ps sp ∧ Binds K fd ps []
structure Mak (P : Program) (w : World) (K : PySem.W.Frag) (mg : Str → Option Value) (base : Heap) (CX : CXT) (k : Nat) (x : Str) (C : Addr) (sp : Sp) : Prop where
  ex : ∃ (f : Addr) (fd : FuncData) (ps : List Str), Mk K C f ∧ FnOk P w K mg base CX k f fd ps sp ∧ mg x = some (.ref C) ∧ Binds K fd ps []
structure CFB (P : Program) (w : World) (K : PySem.W.Frag) (mg : Str → Option Value) (base : Heap) (CX : CXT) (k : Nat) (x m : Str) (sp : Sp) : Prop where
  ex : ∃ (C : Addr) (mc : Value) (f : Addr) (fd : FuncData) (ps : List Str), mg x = some (.ref C) ∧ CFn K C mc m f ∧ FnOk P w K mg base CX k f fd ps sp ∧ Binds K fd ps []
/-- a promise that asks the impossible is kept by any def -/
theorem cal_false {P : Program} {w : World} {K : PySem.W.Frag} {mg : Str → Option Value} {base : Heap} {CX : CXT} {k : Nat} {f : Addr} {fd : FuncData} {ps : List Str} {x : Str} (hm : mg x = some (.ref f)) (kp : PySem.W.keepIn K (.ref f) = true) (b : Binds K fd ps []) :
    Cal P w K mg base CX k x (fun _ _ _ _ => False) := ⟨f, fd, ps, ⟨fun _ _ _ _ h => h.elim, fun _ _ _ _ _ _ _ _ _ _ _ _ _ h => h.elim⟩, hm, kp, b⟩
section
variable {X : Cx} {k j : Nat} {C : Addr} {x m : Str} {sp : Sp} {p pos apos : Pos} {e o : Expr} {es : List Expr} {ta : TE} {t : TA}
theorem pe_c (c : Cal X.prog X.w X.K X.mg X.base CX0 k x sp) (hr : Room j X.A) (hk : k ≤ j) (hg : Gl X x) (ha : PA X (e :: es) t)
    (hdb : (x == ("__debug__" : Str)) = false := by decide) (he : starEach (e :: es) X.env = (false, eval e X.env) :: starEach es X.env := by rfl) (hpl : (backTo pos (starEach es X.env)).any (·.1) = false := by rfl) :
    PE X (.Call (.Name x p) (e :: es) [] pos) (tCall sp [] E0 t) := by
  obtain ⟨f, fd, ps, F, hm, kp, b⟩ := c.ex
  exact pe_call F (hr.mono hk) hg hm kp b .nil pass0 ha hdb he hpl
theorem pe_c0 (c : Cal X.prog X.w X.K X.mg X.base CX0 k x sp) (hr : Room j X.A) (hk : k ≤ j) (hg : Gl X x)
    (hdb : (x == ("__debug__" : Str)) = false := by decide) :
    PE X (.Call (.Name x p) [] [] pos) (tCall sp [] E0 tNil) := by
  obtain ⟨f, fd, ps, F, hm, kp, b⟩ := c.ex
  exact pe_call0 F (hr.mono hk) hg hm kp b .nil pass0 hdb
theorem pe_mk (c : Mak X.prog X.w X.K X.mg X.base CX0 k x C sp) (hr : Room j X.A) (hk : k + 1 ≤ j) (hg : Gl X x) (ha : PA X (e :: es) t)
    (hdb : (x == ("__debug__" : Str)) = false := by decide) (he : starEach (e :: es) X.env = (false, eval e X.env) :: starEach es X.env := by rfl) (hpl : (backTo pos (starEach es X.env)).any (·.1) = false := by rfl) :
    PE X (.Call (.Name x p) (e :: es) [] pos) (tMake C sp [] E0 t) := by
  obtain ⟨f, fd, ps, M, F, hm, b⟩ := c.ex
  exact pe_make M F (hr.mono hk) hg hm b .nil pass0 ha hdb he hpl
theorem pe_mt {pl : Sem Bool} (c : Met X.prog X.w X.K X.mg X.base CX0 k C m sp) (hr : Room j X.A) (hk : k ≤ j) (he : PE X o ta) (ha : PA X (e :: es) t)
    (hst : starEach (e :: es) X.env = (false, eval e X.env) :: starEach es X.env := by rfl) (hpl : (backTo pos (starEach es X.env)).any (·.1) = false := by rfl)
    (ht : eval (.Call (.Attribute o m apos) (e :: es) [] pos) X.env = (do
      let ov ← eval o X.env
      standAt apos.atName
      let (f, first) ← holding [ov] (getMethod ov m pl)
      callWith pos f first (backTo pos (starEach (e :: es) X.env)) (backToKw pos (keywordEach [] X.env))) := by rfl) :
    PE X (.Call (.Attribute o m apos) (e :: es) [] pos) (tMeth C m sp [] E0 ta t) := by
  obtain ⟨f, fd, ps, hc, hm, F, b⟩ := c.ex
  exact pe_meth (pl := pl) he hc hm F (hr.mono hk) b .nil pass0 ha hst hpl ht
theorem pe_mt0 {pl : Sem Bool} (c : Met X.prog X.w X.K X.mg X.base CX0 k C m sp) (hr : Room j X.A) (hk : k ≤ j) (he : PE X o ta)
    (ht : eval (.Call (.Attribute o m apos) [] [] pos) X.env = (do
      let ov ← eval o X.env
      standAt apos.atName
      let (f, first) ← holding [ov] (getMethod ov m pl)
      callWith pos f first (backTo pos (starEach [] X.env)) (backToKw pos (keywordEach [] X.env))) := by rfl) :
    PE X (.Call (.Attribute o m apos) [] [] pos) (tMeth C m sp [] E0 ta tNil) := by
  obtain ⟨f, fd, ps, hc, hm, F, b⟩ := c.ex
  exact pe_meth0 (pl := pl) he hc hm F (hr.mono hk) b .nil pass0 ht
/-- Base.m(self, ..) -/
def tCF (sp : Sp) (t : TA) : TE := fun σ H Q => t σ H fun vs H1 => sp vs H1 Q E0
theorem pe_cf {pl : Sem Bool} (c : CFB X.prog X.w X.K X.mg X.base CX0 k x m sp) (hr : Room j X.A) (hk : k ≤ j) (hg : Gl X x) (ha : PA X (e :: es) t)
    (hdb : (x == ("__debug__" : Str)) = false := by decide)
    (hst : starEach (e :: es) X.env = (false, eval e X.env) :: starEach es X.env := by rfl) (hpl : (backTo pos (starEach es X.env)).any (·.1) = false := by rfl)
    (ht : eval (.Call (.Attribute (.Name x p) m apos) (e :: es) [] pos) X.env = (do
      let ov ← eval (.Name x p) X.env
      standAt apos.atName
      let (f, first) ← holding [ov] (getMethod ov m pl)
      callWith pos f first (backTo pos (starEach (e :: es) X.env)) (backToKw pos (keywordEach [] X.env))) := by rfl) :
    PE X (.Call (.Attribute (.Name x p) m apos) (e :: es) [] pos) (tCF sp t) := by
  obtain ⟨C, mc, f, fd, ps, hm, cf, F, b⟩ := c.ex
  have z : PE X (.Call (.Attribute (.Name x p) m apos) (e :: es) [] pos) (tCFn C sp E0 (tC (.ref C)) t) := pe_cfn (pl := pl) (pe_glob hg hm rfl hdb) cf F (hr.mono hk) b pass0 ha hst hpl ht
  exact ⟨fun pins s σ H Q I h => z.run pins s σ H Q I ⟨rfl, h⟩⟩
end
end U
namespace U
open PySem PySem.Spec PyProof.Rows L2
/-- a module's constant -/
theorem pe_gx {X : Cx} {x : Str} {v : V} {p : Pos} (hg : Gl X x) (h : ∃ u, X.mg x = some u ∧ RelV v u) (hd : (x == ("__debug__" : Str)) = false := by decide) : PE X (.Name x p) (tC v) := by
  obtain ⟨u, hm, r⟩ := h
  exact pe_glob hg hm r hd
/-- a dict comprehension over a range -/
theorem dc_rng {lo : Int} {n : Nat} {g : TG} {tt : TT} {tk tv : TE} {vs : List Nat} {σ : L2.St} {H1 : Hp} {D : Addr} {Qd : Hp → Prop} (Pv : Nat → Hp → Prop) (h0 : Pv 0 (upd H1 D (.dK [])))
    (hs : ∀ (i : Nat) (H : Hp), i < n → Pv i H → g (.int (lo + i)) (wipe σ vs) H fun σ2 H2 => wipe σ2 vs = wipe σ vs ∧ tt σ2 H2 fun b H3 =>
      if b = true then tk σ2 H3 fun y H4 => tv σ2 H4 fun z H5 => ∃ kvs k, y = kV k ∧ H5 D = some (.dK kvs) ∧ kvs.length < sizeLine ∧ Pv (i + 1) (upd H5 D (.dK (putK kvs k z))) else Pv (i + 1) H3) (hd : ∀ H, Pv n H → Qd H) :
    ∃ W : Nat → Nat → Hp → Prop, (∃ m, W 0 m (upd H1 D (.dK []))) ∧ ∀ i m H, W i m H →
      ((Itr lo n).stop i H ∧ Qd H) ∨ ((Itr lo n).go i H ∧ ∃ Nx : Hp → Prop, (∀ H', Nx H' → ∃ m', m' < m ∧ W (i + 1) m' H') ∧ ∀ x H', (Itr lo n).yld i H x H' → g x (wipe σ vs) H' fun σ2 H2 => wipe σ2 vs = wipe σ vs ∧ tt σ2 H2 fun b H3 =>
        if b = true then tk σ2 H3 fun y H4 => tv σ2 H4 fun z H5 => ∃ kvs k, y = kV k ∧ H5 D = some (.dK kvs) ∧ kvs.length < sizeLine ∧ Nx (upd H5 D (.dK (putK kvs k z))) else Nx H3) := by
  refine ⟨fun i m H => m = n - i ∧ i ≤ n ∧ Pv i H, ⟨n, by omega, Nat.zero_le _, h0⟩, ?_⟩
  rintro i m H ⟨rfl, hi, p⟩
  by_cases hlt : i < n
  · refine .inr ⟨hlt, Pv (i + 1), fun H' p' => ⟨n - (i + 1), by omega, rfl, hlt, p'⟩, fun x H' y => ?_⟩
    obtain ⟨e, y⟩ := y
    subst e y
    exact hs i _ hlt p
  · have e : i = n := by omega
    subst e
    exact .inl ⟨Nat.le_refl _, hd H p⟩
theorem range_at {n i : Nat} (h : i < n) : (List.range n)[i]? = some i := by simp [h]
/-- the heap is as it was, but at p -/
def But (p : Addr) (H H' : Hp) : Prop := ∀ b o, H b = some o → b ≠ p → H' b = some o
theorem But.refl {p : Addr} {H : Hp} : But p H H := fun _ _ h _ => h
theorem But.trans {p : Addr} {H H1 H2 : Hp} (a : But p H H1) (b : But p H1 H2) : But p H H2 := fun c o h n => b c o (a c o h n) n
theorem But.upd {p : Addr} {H H1 : Hp} {o : HO} (a : But p H H1) : But p H (upd H1 p o) := fun c u h n => by rw [upd_ne n]; exact a c u h n
theorem But.new {p q : Addr} {H H1 : Hp} {o : HO} (a : But p H H1) (hq : H1 q = none) : But p H (L2.upd H1 q o) := fun c u h n => by
  have z := a c u h n
  rw [upd_ne (ne_of_none z hq)]; exact z
theorem But.of {p : Addr} {H H1 : Hp} (a : Same H H1) : But p H H1 := fun c u h _ => a c u h
end U
namespace U
open PySem PySem.Spec PyProof.Rows L2
theorem putF_le (f : Str) (v : V) : ∀ fs : List (Str × V), (putF f v fs).length ≤ fs.length + 1
  | [] => Nat.le_refl _
  | (g, x) :: r => by
    show (if g = f then (g, v) :: r else (g, x) :: putF f v r).length ≤ r.length + 1 + 1
    split
    · rw [List.length_cons]; omega
    · rw [List.length_cons]; have := putF_le f v r; omega
theorem putF_n {f : Str} {v : V} {fs : List (Str × V)} {n : Nat} (h : fs.length ≤ n) : (putF f v fs).length ≤ n + 1 := Nat.le_trans (putF_le f v fs) (Nat.succ_le_succ h)
end U
namespace U
open PySem PySem.Spec PyProof.Rows L2
theorem putK_le (kvs : List (Key × V)) (k : Key) (v : V) : (putK kvs k v).length ≤ kvs.length + 1 := by
  unfold putK
  split
  · rw [List.length_map]; omega
  · rw [List.length_append]; exact Nat.le_refl _
/-- the dict of the places of names -/
def foundTo (zs : List Str) : Nat → List (Key × V)
  | 0 => []
  | i + 1 => putK (foundTo zs i) (Sum.inr (zs.getD i Str.empty)) (.int (i : Int))
theorem foundTo_le (zs : List Str) : ∀ i, (foundTo zs i).length ≤ i
  | 0 => Nat.le_refl _
  | i + 1 => Nat.le_trans (putK_le _ _ _) (Nat.succ_le_succ (foundTo_le zs i))
theorem at_mapS {ns : List Str} {i : Nat} (h : i < ns.length) : (ns.map V.str)[i]? = some (.str (ns.getD i Str.empty)) := by
  rw [List.getElem?_map, List.getElem?_eq_getElem h, List.getD_eq_getElem?_getD, List.getElem?_eq_getElem h]
  rfl
end U
namespace U
open PySem PySem.Spec PyProof.Rows L2
/-! ### the same rules with the written part named, for the inside of comprehensions -/
theorem ix_listK {X : Cx} (K : PySem.W.Frag) (h : X.K = K) : IxR X (rIxL K) := by subst h; exact ix_list
theorem ix_tupK {X : Cx} (K : PySem.W.Frag) (h : X.K = K) : IxR X (rIxT K) := by subst h; exact ix_tup
theorem ix_lsK {X : Cx} (K : PySem.W.Frag) (h : X.K = K) : IxR X (rIxLT K) := by subst h; exact ix_ls
theorem pe_fldK {X : Cx} (K : PySem.W.Frag) (h : X.K = K) {e : Expr} {ta : TE} {f : Str} {pos : Pos} (he : PE X e ta) (hb : attributeBase e f X.env (eval e X.env) = eval e X.env) : PE X (.Attribute e f pos) (tFld K ta f) := by
  subst h; exact pe_fld he hb
def rLenLT (K : PySem.W.Frag) : List V → Hp → VK → Prop := fun xs H Q => ∃ p ys, xs = [V.ref p] ∧ (SqL K H p ys ∨ SqT K H p ys) ∧ Q (V.int (ys.length : Int)) H
theorem call_lenK {X : Cx} (K : PySem.W.Frag) (h : X.K = K) : CallR X (.builtin "len") (rLenLT K) := by subst h; exact call_len_seq
theorem op_inK {X : Cx} (K : PySem.W.Frag) (h : X.K = K) : OpR X (compareOp .In) (rIn K false) := by subst h; exact op_in_seq
theorem call_isiKn {X : Cx} (K : PySem.W.Frag) (h : X.K = K) : CallR X (.builtin "isinstance") (rIsi K) := by subst h; exact call_isi
end U
namespace U
open PySem PySem.Spec PyProof.Rows L2
/-! ### comprehensions that change nothing but their own new object: F i is what it holds ahead of turn i -/
theorem dcF_range {lo : Int} {n : Nat} {g : TG} {tt : TT} {tk tv : TE} {vs : List Nat} {σ : L2.St} {HB : Hp} {D : Addr} {Qd : Hp → Prop} (F : Nat → List (Key × V)) (h0 : F 0 = [])
    (hs : ∀ (i : Nat), i < n → g (.int (lo + i)) (wipe σ vs) (upd HB D (.dK (F i))) fun σ2 H2 => wipe σ2 vs = wipe σ vs ∧ tt σ2 H2 fun b H3 =>
      if b = true then tk σ2 H3 fun y H4 => tv σ2 H4 fun z H5 => ∃ kvs k, y = kV k ∧ H5 D = some (.dK kvs) ∧ kvs.length < sizeLine ∧ upd H5 D (.dK (putK kvs k z)) = upd HB D (.dK (F (i + 1))) else H3 = upd HB D (.dK (F (i + 1)))) (hd : Qd (upd HB D (.dK (F n)))) :
    ∃ W : Nat → Nat → Hp → Prop, (∃ m, W 0 m (upd HB D (.dK []))) ∧ ∀ i m H, W i m H →
      ((Itr lo n).stop i H ∧ Qd H) ∨ ((Itr lo n).go i H ∧ ∃ Nx : Hp → Prop, (∀ H', Nx H' → ∃ m', m' < m ∧ W (i + 1) m' H') ∧ ∀ x H', (Itr lo n).yld i H x H' → g x (wipe σ vs) H' fun σ2 H2 => wipe σ2 vs = wipe σ vs ∧ tt σ2 H2 fun b H3 =>
        if b = true then tk σ2 H3 fun y H4 => tv σ2 H4 fun z H5 => ∃ kvs k, y = kV k ∧ H5 D = some (.dK kvs) ∧ kvs.length < sizeLine ∧ Nx (upd H5 D (.dK (putK kvs k z))) else Nx H3) :=
  dc_rng (fun i H => H = upd HB D (.dK (F i))) (by rw [h0]) (fun i H hi e => by subst e; exact hs i hi) (fun H e => by subst e; exact hd)
theorem lcF_range {lo : Int} {n : Nat} {g : TG} {tt : TT} {te : TE} {vs : List Nat} {σ : L2.St} {HB : Hp} {D : Addr} {Qd : Hp → Prop} (F : Nat → List V) (h0 : F 0 = [])
    (hs : ∀ (i : Nat), i < n → g (.int (lo + i)) (wipe σ vs) (upd HB D (.lst (F i))) fun σ2 H2 => wipe σ2 vs = wipe σ vs ∧ tt σ2 H2 fun b H3 =>
      if b = true then te σ2 H3 fun y H4 => ∃ acc, H4 D = some (.lst acc) ∧ acc.length < sizeLine ∧ upd H4 D (.lst (acc ++ [y])) = upd HB D (.lst (F (i + 1))) else H3 = upd HB D (.lst (F (i + 1)))) (hd : Qd (upd HB D (.lst (F n)))) :
    ∃ W : Nat → Nat → Hp → Prop, (∃ m, W 0 m (upd HB D (.lst []))) ∧ ∀ i m H, W i m H →
      ((Itr lo n).stop i H ∧ Qd H) ∨ ((Itr lo n).go i H ∧ ∃ Nx : Hp → Prop, (∀ H', Nx H' → ∃ m', m' < m ∧ W (i + 1) m' H') ∧ ∀ x H', (Itr lo n).yld i H x H' → g x (wipe σ vs) H' fun σ2 H2 => wipe σ2 vs = wipe σ vs ∧ tt σ2 H2 fun b H3 =>
        if b = true then te σ2 H3 fun y H4 => ∃ acc, H4 D = some (.lst acc) ∧ acc.length < sizeLine ∧ Nx (upd H4 D (.lst (acc ++ [y]))) else Nx H3) :=
  lc_range (fun i H => H = upd HB D (.lst (F i))) (by rw [h0]) (fun i H hi e => by subst e; exact hs i hi) (fun H e => by subst e; exact hd)
theorem lcF_list {K : PySem.W.Frag} {a : Addr} {xs : List V} {g : TG} {tt : TT} {te : TE} {vs : List Nat} {σ : L2.St} {HB : Hp} {D : Addr} {Qd : Hp → Prop} (F : Nat → List V) (hD : HB D = none) (hl : SqL K HB a xs) (h0 : F 0 = [])
    (hs : ∀ (i : Nat) (x : V), xs[i]? = some x → g x (wipe σ vs) (upd HB D (.lst (F i))) fun σ2 H2 => wipe σ2 vs = wipe σ vs ∧ tt σ2 H2 fun b H3 =>
      if b = true then te σ2 H3 fun y H4 => ∃ acc, H4 D = some (.lst acc) ∧ acc.length < sizeLine ∧ upd H4 D (.lst (acc ++ [y])) = upd HB D (.lst (F (i + 1))) else H3 = upd HB D (.lst (F (i + 1)))) (hd : Qd (upd HB D (.lst (F xs.length)))) :
    ∃ W : Nat → Nat → Hp → Prop, (∃ m, W 0 m (upd HB D (.lst []))) ∧ ∀ i m H, W i m H →
      ((Itl K a).stop i H ∧ Qd H) ∨ ((Itl K a).go i H ∧ ∃ Nx : Hp → Prop, (∀ H', Nx H' → ∃ m', m' < m ∧ W (i + 1) m' H') ∧ ∀ x H', (Itl K a).yld i H x H' → g x (wipe σ vs) H' fun σ2 H2 => wipe σ2 vs = wipe σ vs ∧ tt σ2 H2 fun b H3 =>
        if b = true then te σ2 H3 fun y H4 => ∃ acc, H4 D = some (.lst acc) ∧ acc.length < sizeLine ∧ Nx (upd H4 D (.lst (acc ++ [y]))) else Nx H3) :=
  lc_list (xs := xs) (fun i H => H = upd HB D (.lst (F i))) (by rw [h0]) (fun i H _ e => by subst e; exact (sameNew hD).seq hl) (fun i x H hx e => by subst e; exact hs i x hx) (fun H e => by subst e; exact hd)
end U
namespace U
open PySem PySem.Spec PyProof.Rows L2
/-- a number in decimal -/
abbrev num (i : Int) : Str := Str.ofString (toString i)
theorem num_short (i : Int) (h0 : 0 ≤ i) (h1 : i < 130) : (num i).length ≤ 3 := by
  have z : ∀ n : Nat, n < 130 → (num (n : Int)).length ≤ 3 := by decide +kernel
  obtain ⟨n, rfl⟩ := Int.eq_ofNat_of_zero_le h0
  exact z n (by omega)
theorem num_log (i : Int) (h0 : 0 ≤ i) (h1 : i < 130) : i.natAbs.log2 < 1920 := by
  have e : i.natAbs < 2 ^ 1920 := Nat.lt_of_lt_of_le (show i.natAbs < 130 by omega) (by decide +kernel)
  by_cases hz : i.natAbs = 0
  · rw [hz]; decide
  · exact (Nat.log2_lt hz).mpr e
theorem len_app (a b : Str) : (a ++ b).length = a.length + b.length := by
  show (a.cps ++ b.cps).size = a.cps.size + b.cps.size
  rw [Array.size_append]
theorem rg_at {n : Int} {i : Nat} (h : (i : Int) < n) : (rgV 0 n)[i]? = some (.int (i : Int)) := by
  unfold rgV
  rw [List.getElem?_map, range_at (by omega)]
  simp
end U
namespace U
open PySem PySem.Spec PyProof.Rows L2
abbrev fld (fs : List (Str × V)) (f : Str) : Option V := fs.lookup f
theorem fld_put (f g : Str) (v : V) (fs : List (Str × V)) : fld (putF f v fs) g = if g = f then some v else fld fs g := lookup_putF f g v fs
end U
namespace U
open PySem PySem.Spec PyProof.Rows L2
theorem tNextI {D : Ends} {σ : L2.St} {H : Hp} (h : D.nx σ H) : tNext D σ H := h
end U
namespace U
open PySem PySem.Spec PyProof.Rows L2
/-- the ways of a statement meet in B -/
theorem join {t : TS} {D : Ends} {σ : L2.St} {H : Hp} (B : L2.St → Hp → Prop) (h : ∀ D' : Ends, (∀ σ H, B σ H → D'.nx σ H) → t D' σ H) (k : ∀ σ H, B σ H → D.nx σ H) : t D σ H := h D k
theorem joinR {t : TS} {D : Ends} {σ : L2.St} {H : Hp} (B : L2.St → Hp → Prop) (h : ∀ D' : Ends, D'.rt = D.rt → (∀ σ H, B σ H → D'.nx σ H) → t D' σ H) (k : ∀ σ H, B σ H → D.nx σ H) : t D σ H := h D rfl k
theorem range_map_snoc {β : Type} (f : Nat → β) (i : Nat) : (List.range (i + 1)).map f = (List.range i).map f ++ [f i] := by
  rw [List.range_succ, List.map_append]; rfl
theorem rg_inv {n : Int} {i : Nat} {x : V} (h : (rgV 0 n)[i]? = some x) : x = .int (i : Int) ∧ (i : Int) < n := by
  have hi : i < (rgV 0 n).length := (List.getElem?_eq_some_iff.mp h).1
  rw [rgV_length] at hi
  have hn : (i : Int) < n := by omega
  rw [rg_at hn] at h
  exact ⟨(Option.some.inj h).symm, hn⟩
end U
namespace U
open PySem PySem.Spec PyProof.Rows L2
theorem gNameI {i : Nat} {v : V} {σ : L2.St} {H : Hp} {Q : L2.St → Hp → Prop} (h : Q (σ.set i (some v)) H) : gName i v σ H Q := h
end U
namespace U
open PySem PySem.Spec PyProof.Rows L2
theorem app_le {a b : Str} {m n : Nat} (ha : a.length ≤ m) (hb : b.length ≤ n) : (a ++ b).length ≤ m + n := by rw [len_app]; omega
theorem sz {n m : Nat} (h : n ≤ m) (hm : m ≤ 1000) : n ≤ sizeLine := Nat.le_trans h (Nat.le_trans hm (by decide))
end U
namespace U
open PySem PySem.Spec PyProof.Rows L2
theorem find_at {α : Type} {p : α → Bool} : ∀ {us : List α} {i : Nat} {x : α}, us[i]? = some x → p x = true → (∀ y ∈ us.take i, p y = false) → us.find? p = some x
  | [], i, x, h, _, _ => by simp at h
  | u :: us, 0, x, h, hp, _ => by
    obtain rfl : u = x := by simpa using h
    rw [List.find?_cons, hp]
  | u :: us, i + 1, x, h, hp, ht => by
    rw [List.find?_cons, ht u (by simp)]
    exact find_at (i := i) (by simpa using h) hp (fun y hy => ht y (by simp [hy]))
theorem find_none {α : Type} {p : α → Bool} {us : List α} (h : ∀ y ∈ us, p y = false) : us.find? p = none := by
  rw [List.find?_eq_none]
  intro y hy
  rw [h y hy]; decide
end U
namespace U
open PySem PySem.Spec PyProof.Rows L2
/-- a class made with keywords -/
structure MakK (P : Program) (w : World) (K : PySem.W.Frag) (mg : Str → Option Value) (base : Heap) (CX : CXT) (k : Nat) (x : Str) (C : Addr) (sp : Sp) (n : Nat) (ks : List Str) (gV : List V → List V → List V) : Prop where
  ex : ∃ (f : Addr) (fd : FuncData) (ps : List Str) (g : List Value → List Value → List Value), Mk K C f ∧ FnOk P w K mg base CX k f fd ps sp ∧ mg x = some (.ref C) ∧ KBn K fd ps (n + 1) ks g gV
theorem pe_mkK {X : Cx} {k j n : Nat} {C : Addr} {x : Str} {sp : Sp} {p pos : Pos} {e : Expr} {es : List Expr} {t tk : TA} {ks : List Str} {kws : List Keyword} {gV : List V → List V → List V}
    (c : MakK X.prog X.w X.K X.mg X.base CX0 k x C sp n ks gV) (hr : Room j X.A) (hk : k + 1 ≤ j) (hg : Gl X x) (ha : PA X (e :: es) t) (hkw : PK X kws tk)
    (hall : (backToKw pos (keywordEach kws X.env)).all (·.1.isSome) = true := by rfl) (hks : (backToKw pos (keywordEach kws X.env)).filterMap (·.1) = ks := by rfl) (hdb : (x == ("__debug__" : Str)) = false := by decide)
    (he : starEach (e :: es) X.env = (false, eval e X.env) :: starEach es X.env := by rfl) (hpl : ((backTo pos (starEach (e :: es) X.env)).any (·.1) || (backToKw pos (keywordEach kws X.env)).any (·.1.isNone)) = false := by rfl) :
    PE X (.Call (.Name x p) (e :: es) kws pos) (tMakeK C n ks.length sp gV E0 t tk) := by
  obtain ⟨f, fd, ps, g, M, F, hm, hb⟩ := c.ex
  exact pe_makeK M F (hr.mono hk) hg hm hb pass0 ha hkw hall hks hdb he hpl
end U
namespace U
open PySem PySem.Spec PyProof.Rows L2
theorem tAsgC {i : Nat} {v : V} {D : Ends} {σ : L2.St} {H : Hp} (h : D.nx (σ.set i (some v)) H) : tAsg (tC v) (gName i) D σ H := h
end U
namespace Q
open PySem L2 U
/-! ### the law's draws -/
def top (i : Nat) : Stmt := PySem.Challenge.pw_usescale_k02_cut_orders.main.body.getD i (.Pass ⟨0, 0, 0, 0⟩)

/-- the state of the draws: a list at S, the cells at L -/
def StA (H : Hp) (S L : Addr) : Prop := S ≠ L ∧ ∃ (ns : List Int) (a b c : Int), ns.length ≤ 63 ∧ H S = some (.lst [.ref L, .int a, .int b, .int c]) ∧ H L = some (.lst (ns.map V.int))
/-- what is not of the state stands -/
def Keeps (S L : Addr) (H H' : Hp) : Prop := ∀ b o, H b = some o → b ≠ S → b ≠ L → H' b = some o
theorem Keeps.trans {S L : Addr} {H H1 H2 : Hp} (a : Keeps S L H H1) (b : Keeps S L H1 H2) : Keeps S L H H2 := fun c o h n1 n2 => b c o (a c o h n1 n2) n1 n2
def spDraws (K : PySem.W.Frag) : Sp := fun vs H Q _ => ∃ (a : Addr) (ns : List Int), vs = [.ref a] ∧ SqL K H a (ns.map V.int) ∧ ns.length ≤ 63 ∧
  ∀ S L H', H S = none → H L = none → StA H' S L → Same H H' → Q (.ref S) H'
def spDraw : Sp := fun vs H Q _ => ∃ (S L : Addr) (m : Int), vs = [.ref S, .int m] ∧ StA H S L ∧ m.natAbs < 1073741824 ∧
  ∀ r H', 0 ≤ r → (0 < m → r < m) → StA H' S L → Keeps S L H H' → Q (.int r) H'
structure TxL (K : PySem.W.Frag) (mg : Str → Option Value) : Prop where
  int : mg "int" = none
  len : mg "len" = none
  range : mg "range" = none
  isinstance : mg "isinstance" = none
  bool : mg "bool" = none
  str : mg "str" = none
  tuple : mg "tuple" = none
  list : mg "list" = none

section
variable {P : Program} {w : World} {K : PySem.W.Frag} {mg : Str → Option Value} {base : Heap}
theorem sc__law_draws : FnScope ["_law_script", "_law_seed", "_law_cell"] ["_law_script"] (defScope (top 16)) := ⟨rfl, rfl, rfl, by decide +kernel, rfl, by decide +kernel, by decide +kernel⟩
theorem ok_draws {f : Addr} {fd : FuncData} (F : Fun K "_law_draws" "_law_draws" (top 16) f fd) (T : TxL K mg) : FnOk P w K mg base CX0 1 f fd ["_law_script"] (spDraws K) := by
  refine F.ok sc__law_draws (fun vs H Q E h => ?_) (fun cdv A outer s H vs Q E hr h => ?_)
  · obtain ⟨a, ns, rfl, _⟩ := h
    rfl
  · obtain ⟨a, ns, rfl, hS, hlen, k⟩ := h
    refine ⟨_, (pss_cons (ps_set (i := 1) sc__law_draws.nd rfl (Or.inl rfl) pe_int)
      (pss_cons (ps_for PassesOwn.never rfl (pi_list (pv 0)) (pg_name (i := 2) sc__law_draws.nd rfl (Or.inl rfl)) (pss_one (ps_set (i := 1) sc__law_draws.nd rfl (Or.inl rfl) (pe_op op_mod (pe_callTy call_int1 (by rfl) T.int (by decide +kernel) (pa_cons (pe_op op_add (pe_op op_add (pe_op op_mul (pv 1) pe_int) (pe_op op_mul (pv 2) pe_int)) pe_int) pa_nil)) pe_int))))
      (pss_one (ps_ret (pe_lst (pa_cons (pe_lc (own := [("_law_cell", 2)]) (g := (gName 2)) (by rfl) sc__law_draws.nd (pi_list (pv 0)) (blkOk_by (own := [("_law_cell", 2)]) (N := ["_law_script", "_law_seed", "_law_cell"]) (sc := defScope (top 16)) (by decide +kernel)) (fun _ _ _ _ _ => (pg_name (i := 2) sc__law_draws.nd rfl (Or.inl rfl))) (fun _ _ _ _ _ => pts_nil) (fun _ _ _ _ _ => (pe_callTy call_int1 (by rfl) T.int (by decide +kernel) (pa_cons (pv 2) pa_nil)))) (pa_cons pe_int (pa_cons (pv 1) (pa_cons pe_int pa_nil))))))))), ?_⟩
    refine ⟨_, rfl, a, rfl, ⟨_, hS⟩, for_list (K := K) (a := a) (xs := ns.map V.int) (fun i σ H2 => ∃ (z : Int) (v : Option V), σ = [some (.ref a), some (.int z), v] ∧ H2 = H)
      ⟨7, none, rfl, rfl⟩ (fun i σ H2 _ ⟨_, _, _, e⟩ => by rw [e]; exact hS) ?_ ?_⟩
    · rintro i y σ H2 hi ⟨z, v, rfl, rfl⟩
      obtain ⟨n, rfl, hn⟩ := at_map hi
      refine ⟨_, rfl, _, _, rfl, rfl, .inr ⟨by decide, by decide⟩, _, rfl, _, _, rfl, rfl, .inr ⟨by decide, by decide⟩, _, _, rfl, rfl, _, _, rfl, rfl, .inl ⟨_, rfl, ?_⟩⟩
      refine ⟨_, _, rfl, rfl, (by show (0 : Int) < 998244353; decide), ?_⟩
      exact ⟨_, _, rfl, rfl⟩
    · rintro σ H2 ⟨z, v, rfl, rfl⟩
      refine ⟨_, rfl, a, rfl, ⟨_, hS⟩, fun D hD => lc_list (K := K) (a := a) (xs := ns.map V.int) (fun i H3 => H3 = upd H2 D (.lst ((ns.take i).map V.int))) ?_ ?_ ?_ ?_⟩
      · simp
      · rintro i H3 _ rfl
        exact (sameNew hD).seq hS
      · rintro i y H3 hi rfl
        obtain ⟨n, rfl, hn⟩ := at_map hi
        refine ⟨rfl, ?_⟩
        refine tYesI (iteT ?_)
        refine ⟨_, rfl, .inl ⟨_, rfl, _, upd_same, ?_, ?_⟩⟩
        · rw [List.length_map, List.length_take]
          exact small1000 (by omega)
        · rw [upd_upd, take_snoc hn, List.map_append]
          rfl
      · rintro H3 rfl
        refine ⟨_, rfl, (by show 4 ≤ sizeLine; decide), fun S hS' => ?_⟩
        have hDS : D ≠ S := ne_of_none upd_same hS'
        refine k S D _ ((sameNew hD).free hS') hD ⟨hDS.symm, ns, 0, z, 0, hlen, upd_same, ?_⟩ ((sameNew hD).trans (sameNew hS'))
        rw [upd_ne hDS, upd_same]
        simp [List.take_of_length_le]
theorem sc__law_draw : FnScope ["_law_state", "_law_many", "_law_cell", "_law_digit", "_law_value"] ["_law_state", "_law_many"] (defScope (top 17)) := ⟨rfl, rfl, rfl, by decide +kernel, rfl, by decide +kernel, by decide +kernel⟩
theorem ok_draw {f : Addr} {fd : FuncData} (F : Fun K "_law_draw" "_law_draw" (top 17) f fd) (T : TxL K mg) : FnOk P w K mg base CX0 1 f fd ["_law_state", "_law_many"] spDraw := by
  refine F.ok sc__law_draw (fun vs H Q E h => ?_) (fun cdv A outer s H vs Q E hr h => ?_)
  · obtain ⟨S, L, m, rfl, _⟩ := h
    rfl
  · obtain ⟨S, L, m, rfl, hst, hm, k⟩ := h
    refine ⟨_, (pss_cons (ps_if (pt_cmpR op_lt (pv 1) pe_int (nomark _)) (pss_one (ps_ret pe_int)) pss_nil)
      (pss_cons (ps_while PassesOwn.never (PW.pt (pw_and (pt_cmpR op_lt (pe_ix ix_list (pv 0) pe_int (fun _ _ => rfl)) pe_int (nomark _)) (pw_and1 (pt_cmpR op_gt (pe_callB call_len_seq (by rfl) T.len (by decide +kernel) (pa_cons (pe_ix ix_list (pv 0) pe_int (fun _ _ => rfl)) pa_nil)) pe_int (nomark _))))) (pss_cons (ps_set (i := 2) sc__law_draw.nd rfl (Or.inl rfl) (pe_bm PySem.F.plainAttrs_list PySem.F.slot_list_pop PySem.F.type_list_pop mt_popAt (pe_ix ix_list (pv 0) pe_int (fun _ _ => rfl)) (pa_cons pe_int pa_nil)))
      (pss_one (ps_asg (pe_ifExp (pt_cmpR op_gt (pv 2) pe_int (nomark _)) (pv 2) (pe_un un_neg (pv 2))) (pg_sub (pv 0) pe_int set_list)))))
      (pss_cons (ps_if (pt_cmpR op_gt (pe_ix ix_list (pv 0) pe_int (fun _ _ => rfl)) pe_int (nomark _)) (pss_cons (ps_set (i := 3) sc__law_draw.nd rfl (Or.inl rfl) (pe_op op_mod (pe_callTy call_int1 (by rfl) T.int (by decide +kernel) (pa_cons (pe_ix ix_list (pv 0) pe_int (fun _ _ => rfl)) pa_nil)) (pv 1)))
      (pss_cons (ps_asg (pe_op op_fdivN (pe_ix ix_list (pv 0) pe_int (fun _ _ => rfl)) (pv 1)) (pg_sub (pv 0) pe_int set_list))
      (pss_one (ps_ret (pv 3))))) pss_nil)
      (pss_cons (ps_augS (pv 0) pe_int get_list pe_int ip_add set_list)
      (pss_cons (ps_set (i := 4) sc__law_draw.nd rfl (Or.inl rfl) (pe_op op_mod (pe_callTy call_int1 (by rfl) T.int (by decide +kernel) (pa_cons (pe_op op_add (pe_ix ix_list (pv 0) pe_int (fun _ _ => rfl)) (pe_op op_mul (pe_ix ix_list (pv 0) pe_int (fun _ _ => rfl)) pe_int)) pa_nil)) pe_int))
      (pss_cons (ps_set (i := 4) sc__law_draw.nd rfl (Or.inl rfl) (pe_op op_mod (pe_callTy call_int1 (by rfl) T.int (by decide +kernel) (pa_cons (pe_op op_mul (pv 4) (pv 4)) pa_nil)) pe_int))
      (pss_cons (ps_set (i := 4) sc__law_draw.nd rfl (Or.inl rfl) (pe_op op_mod (pe_callTy call_int1 (by rfl) T.int (by decide +kernel) (pa_cons (pe_op op_add (pe_op op_mul (pv 4) pe_int) (pe_op op_mul (pe_ix ix_list (pv 0) pe_int (fun _ _ => rfl)) pe_int)) pa_nil)) pe_int))
      (pss_one (ps_ret (pe_op op_mod (pe_callTy call_int1 (by rfl) T.int (by decide +kernel) (pa_cons (pe_op op_fdiv (pv 4) pe_int) pa_nil)) (pv 1))))))))))), ?_⟩
    obtain ⟨nSL, ns, a, b, c, hl, h1, h2⟩ := hst
    refine ⟨_, rfl, _, _, rfl, rfl, _, rfl, ?_⟩
    refine ifD (fun hm2 => ?_) (fun hm2 => ?_)
    · exact k 0 H (Int.le_refl 0) id ⟨nSL, ns, a, b, c, hl, h1, h2⟩ (fun _ _ e _ _ => e)
    refine whileX (fun M σ H2 => ∃ (v : Option V) (ns : List Int) (a : Int), M = ns.length ∧ σ = [some (.ref S), some (.int m), v, none, none] ∧ ns.length ≤ 63 ∧ H2 S = some (.lst [.ref L, .int a, .int b, .int c]) ∧ H2 L = some (.lst (ns.map V.int)) ∧ Keeps S L H H2)
      (fun σ H2 => ∃ (v : Option V) (ns : List Int) (a : Int), σ = [some (.ref S), some (.int m), v, none, none] ∧ ns.length ≤ 63 ∧ H2 S = some (.lst [.ref L, .int a, .int b, .int c]) ∧ H2 L = some (.lst (ns.map V.int)) ∧ Keeps S L H H2)
      _ ⟨none, ns, a, rfl, rfl, hl, h1, h2, fun _ _ e _ _ => e⟩ ?_ ?_
    · rintro σ H2 ⟨v, ns, a, rfl, hl, h1, h2, kp⟩
      refine ⟨_, rfl, S, _, _, _, rfl, rfl, SqL.of h1, rfl, _, _, rfl, rfl, _, rfl, ?_⟩
      refine ifD (fun ha => ?_) (fun ha => ?_)
      · refine ⟨_, rfl, S, _, _, _, rfl, rfl, SqL.of h1, rfl, .inl ⟨_, rfl, ?_⟩⟩
        refine ⟨_, rfl, _, _, rfl, rfl, (by show (0 : Int) < m; omega), ?_⟩
        refine ⟨_, rfl, S, _, _, _, rfl, rfl, SqL.of h1, rfl, ?_⟩
        refine ⟨_, rfl, _, _, rfl, rfl, ⟨by omega, by omega⟩, ?_⟩
        refine ⟨_, rfl, S, _, _, _, rfl, rfl, h1, rfl, ?_⟩
        refine ⟨_, rfl, ?_⟩
        refine k _ _ (Int.emod_nonneg _ (by omega)) (fun h0 => Int.emod_lt_of_pos _ h0) ⟨nSL, ns, _, b, c, hl, upd_same, (by rw [upd_ne nSL.symm]; exact h2)⟩ ?_
        intro d o e n1 n2
        rw [upd_ne n1]
        exact kp d o e n1 n2
      · refine ⟨_, rfl, S, _, _, _, rfl, rfl, SqL.of h1, by decide, rfl, ?_⟩
        refine ⟨_, _, rfl, rfl, ?_⟩
        refine ⟨S, _, _, _, rfl, rfl, h1, rfl, ?_⟩
        have g1 : ∀ o, (upd H2 S o) L = some (.lst (ns.map V.int)) := fun o => by rw [upd_ne nSL.symm]; exact h2
        refine ⟨_, rfl, S, _, _, _, rfl, rfl, SqL.of upd_same, rfl, ?_⟩
        refine ⟨_, rfl, S, _, _, _, rfl, rfl, SqL.of upd_same, rfl, ?_⟩
        refine ⟨_, _, rfl, rfl, .inr ⟨by decide, by decide⟩, _, _, rfl, rfl, .inl ⟨_, rfl, ?_⟩⟩
        refine ⟨_, _, rfl, rfl, (by show (0 : Int) < 998244353; decide), ?_⟩
        have e1 : 0 ≤ (b + (c + 1) * 7919) % 998244353 := Int.emod_nonneg _ (by decide)
        have e2 : (b + (c + 1) * 7919) % 998244353 < 998244353 := Int.emod_lt_of_pos _ (by decide)
        refine ⟨_, rfl, _, rfl, _, _, rfl, rfl, .inl ⟨by show -(2 ^ 64) < (b + (c + 1) * 7919) % 998244353; omega, by show (b + (c + 1) * 7919) % 998244353 < 2 ^ 64; omega⟩, .inl ⟨_, rfl, ?_⟩⟩
        refine ⟨_, _, rfl, rfl, (by show (0 : Int) < 1000000007; decide), ?_⟩
        refine ⟨_, rfl, _, _, rfl, rfl, .inr ⟨by decide, by decide⟩, ?_⟩
        refine ⟨_, rfl, S, _, _, _, rfl, rfl, SqL.of upd_same, rfl, _, _, rfl, rfl, .inr ⟨by decide, by decide⟩, _, _, rfl, rfl, .inl ⟨_, rfl, ?_⟩⟩
        refine ⟨_, _, rfl, rfl, (by show (0 : Int) < 2147483647; decide), ?_⟩
        refine ⟨_, rfl, _, _, rfl, rfl, ⟨by decide, by decide⟩, .inl ⟨_, rfl, ?_⟩⟩
        refine ⟨_, rfl, _, _, rfl, rfl, (by show (0 : Int) < m; omega), ?_⟩
        refine k _ _ (Int.emod_nonneg _ (by omega)) (fun h0 => Int.emod_lt_of_pos _ h0) ⟨nSL, ns, a, b, _, hl, upd_same, g1 _⟩ ?_
        intro d o e n1 n2
        rw [upd_ne n1]
        exact kp d o e n1 n2
    · intro nx hnx M σ H2
      rintro ⟨v, ns, a, rfl, rfl, hl, h1, h2, kp⟩
      refine ⟨_, rfl, S, _, _, _, rfl, rfl, SqL.of h1, rfl, _, _, rfl, rfl, _, rfl, ?_⟩
      refine ifD (fun ha => ?_) (fun ha => ?_)
      · refine ⟨_, rfl, S, _, _, _, rfl, rfl, SqL.of h1, rfl, ?_⟩
        refine ⟨_, _, rfl, .inl (SqL.of h2), _, _, rfl, rfl, _, rfl, ?_⟩
        refine ifD (fun hn => ?_) (fun hn => ?_)
        · refine ⟨_, fun _ _ h => h, ?_⟩
          refine ⟨_, rfl, S, _, _, _, rfl, rfl, SqL.of h1, rfl, .inl ⟨rfl, _, SqL.of h2⟩, ?_⟩
          obtain ⟨n, ns, rfl⟩ : ∃ n ns', ns = n :: ns' := by
            cases ns with
            | nil => exact absurd hn (by decide)
            | cons n ns' => exact ⟨n, ns', rfl⟩
          have hl' : ns.length + 1 ≤ 63 := hl
          refine ⟨L, _, _, 0, _, rfl, rfl, h2, by decide, by decide, ?_, rfl, ?_⟩
          · exact seqIndex_of (k := 0) (n := ((n :: ns).map V.int).length) (by decide) (by rw [List.length_map, List.length_cons]; omega)
          have g1 : ∀ o, (upd H2 L o) S = some (.lst [.ref L, .int a, .int b, .int c]) := fun o => by rw [upd_ne nSL]; exact h1
          have fin : ∀ z : Int, ∃ m', m' < (n :: ns).length ∧ ∃ (v : Option V) (ns_1 : List Int) (a : Int), m' = ns_1.length ∧ [some (V.ref S), some (V.int m), some (V.int n), none, none] = [some (.ref S), some (.int m), v, none, none] ∧ ns_1.length ≤ 63 ∧
              (upd (upd H2 L (.lst (ns.map V.int))) S (.lst [.ref L, .int z, .int b, .int c])) S = some (.lst [.ref L, .int a, .int b, .int c]) ∧ (upd (upd H2 L (.lst (ns.map V.int))) S (.lst [.ref L, .int z, .int b, .int c])) L = some (.lst (ns_1.map V.int)) ∧
              Keeps S L H (upd (upd H2 L (.lst (ns.map V.int))) S (.lst [.ref L, .int z, .int b, .int c])) := fun z =>
            ⟨ns.length, Nat.lt_succ_self _, _, ns, z, rfl, rfl, by omega, upd_same, by rw [upd_ne nSL.symm, upd_same], fun d o e n1 n2 => by rw [upd_ne n1, upd_ne n2]; exact kp d o e n1 n2⟩
          refine ⟨_, rfl, _, _, rfl, rfl, _, rfl, ?_⟩
          refine ifD (fun hc => ?_) (fun hc => ?_)
          · refine ⟨_, rfl, _, rfl, S, _, _, _, rfl, rfl, g1 _, rfl, ?_⟩
            exact fin n
          · refine ⟨_, rfl, _, rfl, _, rfl, S, _, _, _, rfl, rfl, g1 _, rfl, ?_⟩
            exact fin (-n)
        · exact hnx _ _ ⟨v, ns, a, rfl, hl, h1, h2, kp⟩
      · exact hnx _ _ ⟨v, ns, a, rfl, hl, h1, h2, kp⟩
end
/-! ### the law's same: the same data on both sides gives True -/
inductive Da (H : Hp) : Nat → V → V → Prop
  | non {n : Nat} : Da H n .non .non
  | bl {n : Nat} (b : Bool) : Da H n (.bl b) (.bl b)
  | int {n : Nat} (i : Int) : Da H n (.int i) (.int i)
  | str {n : Nat} (x : Str) : Da H n (.str x) (.str x)
  | lst {n : Nat} {a b : Addr} {xs ys : List V} (ha : H a = some (.lst xs)) (hb : H b = some (.lst ys)) (hl : xs.length = ys.length) (hz : ys.length ≤ 1000) (hi : ∀ (i : Nat) (x y : V), xs[i]? = some x → ys[i]? = some y → Da H n x y) : Da H (n + 1) (.ref a) (.ref b)
  | tup {n : Nat} {a b : Addr} {xs ys : List V} (ha : H a = some (.tup xs)) (hb : H b = some (.tup ys)) (hl : xs.length = ys.length) (hz : ys.length ≤ 1000) (hi : ∀ (i : Nat) (x y : V), xs[i]? = some x → ys[i]? = some y → Da H n x y) : Da H (n + 1) (.ref a) (.ref b)
def spSame (n : Nat) : Sp := fun vs H Q _ => ∃ x y, vs = [x, y] ∧ Da H n x y ∧ Q (.bl true) H
/-- what its own calls ask -/
def spSameR : Nat → Sp
  | 0 => fun _ _ _ _ => False
  | n + 1 => spSame n
section
variable {P : Program} {w : World} {K : PySem.W.Frag} {mg : Str → Option Value} {base : Heap}
theorem sc__law_same : FnScope ["_law_found", "_law_due", "_law_k"] ["_law_found", "_law_due"] (defScope (top 18)) := ⟨rfl, rfl, rfl, by decide +kernel, rfl, by decide +kernel, by decide +kernel⟩
theorem ok_same1 {f : Addr} {fd : FuncData} (F : Fun K "_law_same" "_law_same" (top 18) f fd) (T : TxL K mg) (n : Nat) (c__law_same : Cal P w K mg base CX0 n "_law_same" (spSameR n)) : FnOk P w K mg base CX0 (n + 1) f fd ["_law_found", "_law_due"] (spSame n) := by
  refine F.ok sc__law_same (fun vs H Q E h => ?_) (fun cdv A outer s H vs Q E hr h => ?_)
  · obtain ⟨x, y, rfl, _⟩ := h
    rfl
  · obtain ⟨x, y, rfl, hd, k⟩ := h
    refine ⟨_, (pss_cons (ps_if (pt_cmpR op_isN (pv 1) pe_non (nomark _)) (pss_one (ps_ret (pe_cmpR op_isN (pv 0) pe_non (nomark _)))) pss_nil)
      (pss_cons (ps_if (pt_cmpR op_isBA (pv 1) pe_bl (nomark _)) (pss_one (ps_ret (pe_cmpR op_isBA (pv 0) pe_bl (nomark _)))) pss_nil)
      (pss_cons (ps_if (pt_cmpR op_isBA (pv 1) pe_bl (nomark _)) (pss_one (ps_ret (pe_cmpR op_isBA (pv 0) pe_bl (nomark _)))) pss_nil)
      (pss_cons (ps_if (pt_val (pe_callB call_isi (by rfl) T.isinstance (by decide +kernel) (pa_cons (pv 1) (pa_cons (pe_bltn (v := .ty "int") (by rfl) T.int (by decide +kernel) rfl) pa_nil)))) (pss_one (ps_ret (pe_and (pe_callB call_isi (by rfl) T.isinstance (by decide +kernel) (pa_cons (pv 0) (pa_cons (pe_bltn (v := .ty "int") (by rfl) T.int (by decide +kernel) rfl) pa_nil))) (pe_and (pe_not (pe_callB call_isi (by rfl) T.isinstance (by decide +kernel) (pa_cons (pv 0) (pa_cons (pe_bltn (v := .ty "bool") (by rfl) T.bool (by decide +kernel) rfl) pa_nil)))) (pe_one (pe_cmpR op_eq (pv 0) (pv 1) (nomark _))))))) pss_nil)
      (pss_cons (ps_if (pt_val (pe_callB call_isi (by rfl) T.isinstance (by decide +kernel) (pa_cons (pv 1) (pa_cons (pe_bltn (v := .ty "str") (by rfl) T.str (by decide +kernel) rfl) pa_nil)))) (pss_one (ps_ret (pe_and (pe_callB call_isi (by rfl) T.isinstance (by decide +kernel) (pa_cons (pv 0) (pa_cons (pe_bltn (v := .ty "str") (by rfl) T.str (by decide +kernel) rfl) pa_nil))) (pe_one (pe_cmpR op_eq (pv 0) (pv 1) (nomark _)))))) pss_nil)
      (pss_cons (ps_if (PW.pt (pw_and (pt_val (pe_callB call_isi (by rfl) T.isinstance (by decide +kernel) (pa_cons (pv 1) (pa_cons (pe_bltn (v := .ty "tuple") (by rfl) T.tuple (by decide +kernel) rfl) pa_nil)))) (pw_and1 (pt_not (pt_val (pe_callB call_isi (by rfl) T.isinstance (by decide +kernel) (pa_cons (pv 0) (pa_cons (pe_bltn (v := .ty "tuple") (by rfl) T.tuple (by decide +kernel) rfl) pa_nil)))))))) (pss_one (ps_ret pe_bl)) pss_nil)
      (pss_cons (ps_if (PW.pt (pw_and (pt_val (pe_callB call_isi (by rfl) T.isinstance (by decide +kernel) (pa_cons (pv 1) (pa_cons (pe_bltn (v := .ty "list") (by rfl) T.list (by decide +kernel) rfl) pa_nil)))) (pw_and1 (pt_not (pt_val (pe_callB call_isi (by rfl) T.isinstance (by decide +kernel) (pa_cons (pv 0) (pa_cons (pe_bltn (v := .ty "list") (by rfl) T.list (by decide +kernel) rfl) pa_nil)))))))) (pss_one (ps_ret pe_bl)) pss_nil)
      (pss_cons (ps_if (pt_cmpR op_ne (pe_callB call_len_seq (by rfl) T.len (by decide +kernel) (pa_cons (pv 0) pa_nil)) (pe_callB call_len_seq (by rfl) T.len (by decide +kernel) (pa_cons (pv 1) pa_nil)) (nomark _)) (pss_one (ps_ret pe_bl)) pss_nil)
      (pss_cons (ps_for PassesOwn.never rfl (pi_range1 (by rfl) T.range (pa_cons (pe_callB call_len_seq (by rfl) T.len (by decide +kernel) (pa_cons (pv 1) pa_nil)) pa_nil)) (pg_name (i := 2) sc__law_same.nd rfl (Or.inl rfl)) (pss_one (ps_if (pt_not (pt_val (pe_c c__law_same hr (Nat.le_refl n) (by rfl) (pa_cons (pe_ix ix_ls (pv 0) (pv 2) (fun _ _ => rfl)) (pa_cons (pe_ix ix_ls (pv 1) (pv 2) (fun _ _ => rfl)) pa_nil))))) (pss_one (ps_ret pe_bl)) pss_nil)))
      (pss_one (ps_ret pe_bl))))))))))), ?_⟩
    cases hd with
    | non =>
      refine ⟨_, rfl, rfl, _, rfl, ?_⟩
      refine ifY rfl ?_
      exact ⟨_, rfl, rfl, k⟩
    | bl b =>
      refine ⟨_, rfl, rfl, _, rfl, ?_⟩
      refine ifN (fun z => nomatch z) ?_
      refine ⟨_, rfl, _, rfl, _, rfl, ?_⟩
      cases b with
      | true =>
        refine ifY rfl ?_
        exact ⟨_, rfl, _, rfl, k⟩
      | false =>
        refine ifN (by decide) ?_
        refine ⟨_, rfl, _, rfl, _, rfl, ?_⟩
        refine ifY rfl ?_
        exact ⟨_, rfl, _, rfl, k⟩
    | int i =>
      refine ⟨_, rfl, rfl, _, rfl, ?_⟩
      refine ifN (fun z => nomatch z) ?_
      refine ⟨_, rfl, _, rfl, _, rfl, ?_⟩
      refine ifN (fun z => nomatch z) ?_
      refine ⟨_, rfl, _, rfl, _, rfl, ?_⟩
      refine ifN (fun z => nomatch z) ?_
      refine ⟨_, rfl, _, _, _, _, true, rfl, .ty _, .base (.int i), kit_ty (by decide +kernel), _, rfl, ?_⟩
      refine iteT ?_
      refine ⟨_, rfl, _, _, _, _, true, rfl, .ty _, .base (.int i), kit_ty (by decide +kernel), _, rfl, ?_⟩
      refine iteT ?_
      refine ⟨_, rfl, _, _, _, _, false, rfl, .ty _, .base (.int i), kit_ty (by decide +kernel), _, rfl, _, rfl, ?_⟩
      refine iteT ?_
      refine ⟨_, rfl, _, rfl, rfl, ?_⟩
      rw [decide_eq_true rfl]
      exact k
    | str i =>
      refine ⟨_, rfl, rfl, _, rfl, ?_⟩
      refine ifN (fun z => nomatch z) ?_
      refine ⟨_, rfl, _, rfl, _, rfl, ?_⟩
      refine ifN (fun z => nomatch z) ?_
      refine ⟨_, rfl, _, rfl, _, rfl, ?_⟩
      refine ifN (fun z => nomatch z) ?_
      refine ⟨_, rfl, _, _, _, _, false, rfl, .ty _, .base (.str i), kit_ty (by decide +kernel), _, rfl, ?_⟩
      refine iteF ?_
      refine ⟨_, rfl, _, _, _, _, true, rfl, .ty _, .base (.str i), kit_ty (by decide +kernel), _, rfl, ?_⟩
      refine iteT ?_
      refine ⟨_, rfl, _, _, _, _, true, rfl, .ty _, .base (.str i), kit_ty (by decide +kernel), _, rfl, ?_⟩
      refine iteT ?_
      refine ⟨_, rfl, _, rfl, rfl, ?_⟩
      rw [decide_eq_true rfl]
      exact k
    | @lst n a b xs ys ha hb hl hz hi =>
      refine ⟨_, rfl, rfl, _, rfl, ?_⟩
      refine ifN (fun z => nomatch z) ?_
      refine ⟨_, rfl, _, rfl, _, rfl, ?_⟩
      refine ifN (fun z => nomatch z) ?_
      refine ⟨_, rfl, _, rfl, _, rfl, ?_⟩
      refine ifN (fun z => nomatch z) ?_
      refine ⟨_, rfl, _, _, _, _, false, rfl, .ty _, .base (.lst hb), kit_ty (by decide +kernel), _, rfl, ?_⟩
      refine iteF ?_
      refine ⟨_, rfl, _, _, _, _, false, rfl, .ty _, .base (.lst hb), kit_ty (by decide +kernel), _, rfl, ?_⟩
      refine iteF ?_
      refine ⟨_, rfl, _, _, _, _, false, rfl, .ty _, .base (.lst hb), kit_ty (by decide +kernel), _, rfl, ?_⟩
      refine iteF (iteF ?_)
      refine ⟨_, rfl, _, _, _, _, true, rfl, .ty _, .base (.lst hb), kit_ty (by decide +kernel), _, rfl, ?_⟩
      refine iteT ?_
      refine ⟨_, rfl, _, _, _, _, true, rfl, .ty _, .base (.lst ha), kit_ty (by decide +kernel), _, rfl, ?_⟩
      refine iteF ?_
      refine ⟨_, rfl, _, _, rfl, .inl (SqL.of ha), _, rfl, _, _, rfl, .inl (SqL.of hb), rfl, _, rfl, ?_⟩
      refine nifY (by rw [hl]) ?_
      refine ⟨_, rfl, _, _, rfl, .inl (SqL.of hb), _, rfl, by omega, by omega, for_range (lo := 0) (n := ys.length) (fun i σ H2 => ∃ v, σ = [some (.ref a), some (.ref b), v] ∧ H2 = H) ⟨none, rfl, rfl⟩ ?_ ?_⟩
      · rintro i σ H2 hin ⟨v, rfl, rfl⟩
        have hx : xs[i]? = some xs[i] := List.getElem?_eq_getElem (by omega)
        have hy : ys[i]? = some ys[i] := List.getElem?_eq_getElem hin
        refine ⟨_, rfl, _, rfl, .inl ⟨_, _, _, _, rfl, rfl, SqL.of ha, at_of (Int.zero_add _) hx, ?_⟩⟩
        refine ⟨_, rfl, _, rfl, .inl ⟨_, _, _, _, rfl, rfl, SqL.of hb, at_of (Int.zero_add _) hy, ?_⟩⟩
        refine ⟨_, _, rfl, hi i _ _ hx hy, _, rfl, ?_⟩
        refine iteF ?_
        exact ⟨_, rfl, rfl⟩
      · rintro σ H2 ⟨v, rfl, rfl⟩
        exact k
    | @tup n a b xs ys ha hb hl hz hi =>
      refine ⟨_, rfl, rfl, _, rfl, ?_⟩
      refine ifN (fun z => nomatch z) ?_
      refine ⟨_, rfl, _, rfl, _, rfl, ?_⟩
      refine ifN (fun z => nomatch z) ?_
      refine ⟨_, rfl, _, rfl, _, rfl, ?_⟩
      refine ifN (fun z => nomatch z) ?_
      refine ⟨_, rfl, _, _, _, _, false, rfl, .ty _, .base (.tup hb), kit_ty (by decide +kernel), _, rfl, ?_⟩
      refine iteF ?_
      refine ⟨_, rfl, _, _, _, _, false, rfl, .ty _, .base (.tup hb), kit_ty (by decide +kernel), _, rfl, ?_⟩
      refine iteF ?_
      refine ⟨_, rfl, _, _, _, _, true, rfl, .ty _, .base (.tup hb), kit_ty (by decide +kernel), _, rfl, ?_⟩
      refine iteT ?_
      refine ⟨_, rfl, _, _, _, _, true, rfl, .ty _, .base (.tup ha), kit_ty (by decide +kernel), _, rfl, ?_⟩
      refine iteF ?_
      refine ⟨_, rfl, _, _, _, _, false, rfl, .ty _, .base (.tup hb), kit_ty (by decide +kernel), _, rfl, ?_⟩
      refine iteF (iteF ?_)
      refine ⟨_, rfl, _, _, rfl, .inr (SqT.of ha), _, rfl, _, _, rfl, .inr (SqT.of hb), rfl, _, rfl, ?_⟩
      refine nifY (by rw [hl]) ?_
      refine ⟨_, rfl, _, _, rfl, .inr (SqT.of hb), _, rfl, by omega, by omega, for_range (lo := 0) (n := ys.length) (fun i σ H2 => ∃ v, σ = [some (.ref a), some (.ref b), v] ∧ H2 = H) ⟨none, rfl, rfl⟩ ?_ ?_⟩
      · rintro i σ H2 hin ⟨v, rfl, rfl⟩
        have hx : xs[i]? = some xs[i] := List.getElem?_eq_getElem (by omega)
        have hy : ys[i]? = some ys[i] := List.getElem?_eq_getElem hin
        refine ⟨_, rfl, _, rfl, .inr ⟨_, _, _, _, rfl, rfl, SqT.of ha, at_of (Int.zero_add _) hx, ?_⟩⟩
        refine ⟨_, rfl, _, rfl, .inr ⟨_, _, _, _, rfl, rfl, SqT.of hb, at_of (Int.zero_add _) hy, ?_⟩⟩
        refine ⟨_, _, rfl, hi i _ _ hx hy, _, rfl, ?_⟩
        refine iteF ?_
        exact ⟨_, rfl, rfl⟩
      · rintro σ H2 ⟨v, rfl, rfl⟩
        exact k
/-- what it keeps at every depth -/
theorem ok_same {f : Addr} {fd : FuncData} (F : Fun K "_law_same" "_law_same" (top 18) f fd) (T : TxL K mg) (hm : mg "_law_same" = some (.ref f)) (b : Binds K fd ["_law_found", "_law_due"] []) : ∀ n, FnOk P w K mg base CX0 (n + 1) f fd ["_law_found", "_law_due"] (spSame n)
  | 0 => ok_same1 F T 0 (cal_false hm F.kp b)
  | n + 1 => ok_same1 F T (n + 1) ⟨f, fd, _, ok_same F T hm b n, hm, F.kp, b⟩
end
/-! ### the scales of integers brought back -/
structure TxC (K : PySem.W.Frag) (mg : Str → Option Value) : Prop extends TxL K mg where
  g_MOST_DEPTH : ∃ u, mg "MOST_DEPTH" = some u ∧ RelV (.int 20) u
  g_MOST_GRADES : ∃ u, mg "MOST_GRADES" = some u ∧ RelV (.int 64) u
/-- a class of scales: its objects' attributes may be stored and read -/
structure SCls (K : PySem.W.Frag) (C : Addr) : Prop where
  cl : Cls K C
  label : NoAttr K C "label"
  size : NoAttr K C "size"
  zero_at : NoAttr K C "zero_at"
  one_at : NoAttr K C "one_at"
  depth : NoAttr K C "depth"
/-- the index of an endless run that comes back -/
def runIx (n : Nat) (b i : Int) : Nat := if i < (n : Int) then i.toNat else (b + (i - b) % ((n : Int) - b)).toNat
def spItem (K : PySem.W.Frag) : Sp := fun vs H Q _ => ∃ (a : Addr) (xs : List V) (b i : Int) (v : V), vs = [.ref a, .int b, .int i] ∧ SqL K H a xs ∧ 0 ≤ b ∧ b < (xs.length : Int) ∧ 0 ≤ i ∧ xs[runIx xs.length b i]? = some v ∧ Q v H
def spScaleInit (K : PySem.W.Frag) : Sp := fun vs H Q _ => ∃ (p C dx : Addr) (fs : List (Str × V)) (lb : Str) (sz z o : V) (d : Int), vs = [.ref p, .str lb, sz, z, o, .int d] ∧ d ≤ 20 ∧ SCls K C ∧ H p = some (.ins C dx fs) ∧ fs.length ≤ 900 ∧
  Q .non (upd H p (.ins C dx (putF "depth" (.int d) (putF "one_at" o (putF "zero_at" z (putF "size" sz (putF "label" (.str lb) fs)))))))
section
variable {P : Program} {w : World} {K : PySem.W.Frag} {mg : Str → Option Value} {base : Heap}
theorem sc_item_of_run : FnScope ["trail", "back", "index"] ["trail", "back", "index"] (defScope (top 2)) := ⟨rfl, rfl, rfl, by decide +kernel, rfl, by decide +kernel, by decide +kernel⟩
theorem ok_item {f : Addr} {fd : FuncData} (F : Fun K "item_of_run" "item_of_run" (top 2) f fd) (T : TxC K mg) : FnOk P w K mg base CX0 1 f fd ["trail", "back", "index"] (spItem K) := by
  refine F.ok sc_item_of_run (fun vs H Q E h => ?_) (fun cdv A outer s H vs Q E hr h => ?_)
  · obtain ⟨a, xs, b, i, v, rfl, _⟩ := h
    rfl
  · obtain ⟨a, xs, b, i, v, rfl, hS, hb, hbl, hi, hv, k⟩ := h
    refine ⟨_, (pss_cons (ps_if (pt_cmpR op_lt (pv 2) (pe_callB call_len_seq (by rfl) T.len (by decide +kernel) (pa_cons (pv 0) pa_nil)) (nomark _)) (pss_one (ps_ret (pe_ix ix_list (pv 0) (pv 2) (fun _ _ => rfl)))) pss_nil)
      (pss_one (ps_ret (pe_ix ix_list (pv 0) (pe_op op_add (pv 1) (pe_op op_mod (pe_op op_sub (pv 2) (pv 1)) (pe_op op_sub (pe_callB call_len_seq (by rfl) T.len (by decide +kernel) (pa_cons (pv 0) pa_nil)) (pv 1)))) (fun _ _ => rfl))))), ?_⟩
    refine ⟨_, rfl, _, rfl, a, _, rfl, .inl hS, _, _, rfl, rfl, _, rfl, ?_⟩
    unfold runIx at hv
    refine ifD (fun hlt => ?_) (fun hlt => ?_)
    · rw [if_pos hlt] at hv
      exact ⟨_, rfl, _, rfl, a, _, _, _, rfl, rfl, hS, at_of (Int.toNat_of_nonneg hi).symm hv, k⟩
    · rw [if_neg hlt] at hv
      refine ⟨_, rfl, _, rfl, _, rfl, _, rfl, _, _, rfl, rfl, _, rfl, a, _, rfl, .inl hS, _, rfl, _, _, rfl, rfl, _, _, rfl, rfl, (by show 0 < (xs.length : Int) - b; omega), _, _, rfl, rfl, ?_⟩
      have e0 : 0 ≤ (i - b) % ((xs.length : Int) - b) := Int.emod_nonneg _ (by omega)
      exact ⟨a, _, _, _, rfl, rfl, hS, at_of (Int.toNat_of_nonneg (by omega)).symm hv, k⟩
theorem sc_Scale___init__ : FnScope ["self", "label", "size", "zero_at", "one_at", "depth"] ["self", "label", "size", "zero_at", "one_at", "depth"] (defScope (inClass (top 10) 0)) := ⟨rfl, rfl, rfl, by decide +kernel, rfl, by decide +kernel, by decide +kernel⟩
theorem ok_scale_init {f : Addr} {fd : FuncData} (F : Fun K "__init__" "Scale.__init__" (inClass (top 10) 0) f fd) (T : TxC K mg) : FnOk P w K mg base CX0 1 f fd ["self", "label", "size", "zero_at", "one_at", "depth"] (spScaleInit K) := by
  refine F.ok sc_Scale___init__ (fun vs H Q E h => ?_) (fun cdv A outer s H vs Q E hr h => ?_)
  · obtain ⟨p, C, dx, fs, lb, sz, z, o, d, rfl, _⟩ := h
    rfl
  · obtain ⟨p, C, dx, fs, lb, sz, z, o, d, rfl, hd, SC, hp, hk, k⟩ := h
    refine ⟨_, (pss_cons (ps_if (pt_cmpR op_gt (pv 5) (pe_gx (by rfl) T.g_MOST_DEPTH) (nomark _)) (pss_one ps_never) pss_nil)
      (pss_cons (ps_fld (pv 0) (pv 1) rfl)
      (pss_cons (ps_fld (pv 0) (pv 2) rfl)
      (pss_cons (ps_fld (pv 0) (pv 3) rfl)
      (pss_cons (ps_fld (pv 0) (pv 4) rfl)
      (pss_one (ps_fld (pv 0) (pv 5) rfl))))))), ?_⟩
    refine ⟨_, rfl, _, _, rfl, rfl, _, rfl, ?_⟩
    refine ifN (by omega) ?_
    have l1 := putF_n (f := "label") (v := .str lb) hk
    have l2 := putF_n (f := "size") (v := sz) l1
    have l3 := putF_n (f := "zero_at") (v := z) l2
    have l4 := putF_n (f := "one_at") (v := o) l3
    refine ⟨_, rfl, _, rfl, p, C, dx, _, rfl, hp, SC.cl, SC.label, by omega, ?_⟩
    refine ⟨_, rfl, _, rfl, p, C, dx, _, rfl, upd_same, SC.cl, SC.size, by omega, ?_⟩
    refine ⟨_, rfl, _, rfl, p, C, dx, _, rfl, upd_same, SC.cl, SC.zero_at, by omega, ?_⟩
    refine ⟨_, rfl, _, rfl, p, C, dx, _, rfl, upd_same, SC.cl, SC.one_at, by omega, ?_⟩
    refine ⟨_, rfl, _, rfl, p, C, dx, _, rfl, upd_same, SC.cl, SC.depth, by omega, ?_⟩
    rw [upd_upd, upd_upd, upd_upd, upd_upd]
    exact k
end
structure LCls (K : PySem.W.Frag) (C : Addr) : Prop extends SCls K C where
  _names : NoAttr K C "_names"
  _found : NoAttr K C "_found"
/-- the attributes that a listed scale gets, behind those that it has -/
def listedFs (fs : List (Str × V)) (lb : Str) (n : Nat) (z o : V) (l d : Addr) : List (Str × V) :=
  putF "_found" (.ref d) (putF "_names" (.ref l) (putF "depth" (.int 1) (putF "one_at" o (putF "zero_at" z (putF "size" (.int (n : Int)) (putF "label" (.str lb) fs))))))
def spListedInit (K : PySem.W.Frag) : Sp := fun vs H Q _ => ∃ (p C dx a : Addr) (fs : List (Str × V)) (lb : Str) (zs : List Str) (z o : V), vs = [.ref p, .str lb, .ref a, z, o] ∧ LCls K C ∧ H p = some (.ins C dx fs) ∧ fs.length ≤ 800 ∧
  H a = some (.lst (zs.map V.str)) ∧ zs.length ≤ 1000 ∧
  ∀ l d H', H l = none → H d = none → But p H H' → H' l = some (.lst (zs.map V.str)) → H' d = some (.dK (foundTo zs zs.length)) → H' p = some (.ins C dx (listedFs fs lb zs.length z o l d)) → Q .non H'
section
variable {P : Program} {w : World} {K : PySem.W.Frag} {mg : Str → Option Value} {base : Heap}
theorem sc_ListedScale___init__ : FnScope ["self", "label", "names", "zero_at", "one_at", "place"] ["self", "label", "names", "zero_at", "one_at"] (defScope (inClass (top 11) 0)) := ⟨rfl, rfl, rfl, by decide +kernel, rfl, by decide +kernel, by decide +kernel⟩
theorem ok_listed_init {f : Addr} {fd : FuncData} (F : Fun K "__init__" "ListedScale.__init__" (inClass (top 11) 0) f fd) (T : TxC K mg) (cf_Scale___init__ : CFB P w K mg base CX0 1 "Scale" "__init__" (spScaleInit K)) : FnOk P w K mg base CX0 2 f fd ["self", "label", "names", "zero_at", "one_at"] (spListedInit K) := by
  refine F.ok sc_ListedScale___init__ (fun vs H Q E h => ?_) (fun cdv A outer s H vs Q E hr h => ?_)
  · obtain ⟨p, C, dx, a, fs, lb, zs, z, o, rfl, _⟩ := h
    rfl
  · obtain ⟨p, C, dx, a, fs, lb, zs, z, o, rfl, LC, hp, hk, ha, hz, k⟩ := h
    have nap : a ≠ p := ne_of ha hp (by intro z; cases z)
    refine ⟨_, (pss_cons (ps_expr (pe_cf cf_Scale___init__ hr (by decide) (by rfl) (pa_cons (pv 0) (pa_cons (pv 1) (pa_cons (pe_callB call_len_seq (by rfl) T.len (by decide +kernel) (pa_cons (pv 2) pa_nil)) (pa_cons (pv 3) (pa_cons (pv 4) (pa_cons pe_int pa_nil))))))))
      (pss_cons (ps_fld (pv 0) (pe_callTy call_list_of (by rfl) T.list (by decide +kernel) (pa_cons (pv 2) pa_nil)) rfl)
      (pss_one (ps_fld (pv 0) (pe_dc (own := [("place", 5)]) (g := (gName 5)) (by rfl) sc_ListedScale___init__.nd (pi_range1 (by rfl) T.range (pa_cons (pe_callB call_len_seq (by rfl) T.len (by decide +kernel) (pa_cons (pv 2) pa_nil)) pa_nil)) (blkOk_by (own := [("place", 5)]) (N := ["self", "label", "names", "zero_at", "one_at", "place"]) (sc := defScope (inClass (top 11) 0)) (by decide +kernel)) (fun _ _ _ _ _ => (pg_name (i := 5) sc_ListedScale___init__.nd rfl (Or.inl rfl))) (fun _ _ _ _ _ => pts_nil) (fun _ _ _ _ _ => (pe_ix (ix_listK K rfl) (pv 2) (pv 5) (fun _ _ => rfl))) (fun _ _ _ _ _ => (pv 5))) rfl)))), ?_⟩
    refine ⟨_, rfl, _, rfl, _, rfl, a, _, rfl, .inl (SqL.of ha), _, rfl, _, rfl, ?_⟩
    refine ⟨p, C, dx, fs, lb, _, z, o, 1, rfl, by decide, LC.toSCls, hp, by omega, ?_⟩
    have l1 := putF_n (f := "label") (v := .str lb) hk
    have l2 := putF_n (f := "size") (v := .int (((zs.map V.str).length : Nat) : Int)) l1
    have l3 := putF_n (f := "zero_at") (v := z) l2
    have l4 := putF_n (f := "one_at") (v := o) l3
    have l5 := putF_n (f := "depth") (v := .int 1) l4
    -- self._names = list(names)
    refine ⟨_, rfl, a, _, rfl, .inl (SqL.of (by rw [upd_ne nap]; exact ha)), fun l hl => ?_⟩
    have npl : p ≠ l := ne_of_none upd_same hl
    have nal : a ≠ l := ne_of_none (by rw [upd_ne nap]; exact ha) hl
    refine ⟨_, rfl, p, C, dx, _, rfl, (by rw [upd_ne npl]; exact upd_same), LC.cl, LC._names, by omega, ?_⟩
    have l6 := putF_n (f := "_names") (v := .ref l) l5
    -- self._found = {..}
    have ha2 : ∀ u v w, (upd (upd (upd H p u) l v) p w) a = some (.lst (zs.map V.str)) := fun u v w => by rw [upd_ne nap, upd_ne nal, upd_ne nap]; exact ha
    refine ⟨_, rfl, a, _, rfl, .inl (SqL.of (ha2 _ _ _)), _, rfl, (by rw [List.length_map]; omega), (by rw [List.length_map]; omega), fun D hD => dcF_range (lo := 0) (n := (zs.map V.str).length) (foundTo zs) rfl ?_ ?_⟩
    · intro i hi
      rw [List.length_map] at hi
      have naD : a ≠ D := ne_of_none (ha2 _ _ _) hD
      refine ⟨rfl, ?_⟩
      refine tYesI (iteT ?_)
      refine ⟨_, rfl, _, rfl, a, _, _, _, rfl, rfl, SqL.of (by rw [upd_ne naD]; exact ha2 _ _ _), at_of (Int.zero_add _) (at_mapS hi), ?_⟩
      refine ⟨_, rfl, _, Sum.inr _, rfl, upd_same, small1000 (Nat.le_trans (foundTo_le zs i) (by omega)), ?_⟩
      rw [upd_upd, Int.zero_add]
      rfl
    · have npD : p ≠ D := ne_of_none upd_same hD
      have nlD : l ≠ D := ne_of_none (by rw [upd_ne npl.symm, upd_same]) hD
      refine ⟨_, rfl, p, C, dx, _, rfl, (by rw [upd_ne npD]; exact upd_same), LC.cl, LC._found, by omega, ?_⟩
      have hl0 : H l = none := by rw [upd_ne npl.symm] at hl; exact hl
      have hD0 : H D = none := by rw [upd_ne npD.symm, upd_ne nlD.symm, upd_ne npD.symm] at hD; exact hD
      have b3 : ∀ u v w x y, But p H (upd (upd (upd (upd (upd H p u) l v) p w) D x) p y) := fun u v w x y b o e nb => by
        have nl : b ≠ l := ne_of_none e hl0
        have nd : b ≠ D := ne_of_none e hD0
        rw [upd_ne nb, upd_ne nd, upd_ne nb, upd_ne nl, upd_ne nb]; exact e
      refine k l D _ hl0 hD0 (b3 _ _ _ _ _) ?_ ?_ ?_
      · rw [upd_ne npl.symm, upd_ne nlD, upd_ne npl.symm, upd_same]
      · rw [upd_ne npD.symm, upd_same, List.length_map]
      · rw [upd_same, List.length_map]; rfl
end
/-- the word of an order -/
inductive Ord
  | same | up | down
  deriving DecidableEq
def Ord.txt : Ord → Str
  | .same => "same"
  | .up => "up"
  | .down => "down"
structure TxF (K : PySem.W.Frag) (mg : Str → Option Value) (aO : Addr) : Prop extends TxC K mg where
  g_ORDERS : ∃ u, mg "ORDERS" = some u ∧ RelV (.ref aO) u
  orders : ∀ H, SqT K H aO [.str "same", .str "up", .str "down"]
structure CCls (K : PySem.W.Frag) (C : Addr) : Prop extends LCls K C where
  _numbers : NoAttr K C "_numbers"
  _start : NoAttr K C "_start"
  _order : NoAttr K C "_order"
/-- an integer brought back -/
def backI (s q z : Int) : Int := if z < s + q then z else s + (z - s) % q
def cutName (s q : Int) (i : Nat) : Str := if q = 1 ∧ (i : Int) = s then "many" else num (i : Int)
def cutNames (s q : Int) : List Str := (List.range (s + q).toNat).map (cutName s q)
/-- the attributes ahead of ListedScale.__init__ -/
def cutFs0 (s : Int) (o : Ord) (nm : Addr) : List (Str × V) := putF "_order" (.str o.txt) (putF "_start" (.int s) (putF "_numbers" (.ref nm) []))
def cutLabel (s q : Int) (o : Ord) : Str := Str.empty ++ "(cut " ++ num s ++ " " ++ num q ++ " " ++ o.txt ++ ")"
def cutFs (s q : Int) (o : Ord) (nm l d : Addr) : List (Str × V) := listedFs (cutFs0 s o nm) (cutLabel s q o) (s + q).toNat (.int 0) (.int (backI s q 1)) l d
/-- a CutScale stands at p -/
def CutAt (C : Addr) (H : Hp) (p : Addr) (s q : Int) (o : Ord) : Prop := ∃ (dx nm l d : Addr), H p = some (.ins C dx (cutFs s q o nm l d)) ∧ H nm = some (.lst (rgV 0 (s + q))) ∧
  H l = some (.lst ((cutNames s q).map V.str)) ∧ H d = some (.dK (foundTo (cutNames s q) (s + q).toNat))
def spBack (K : PySem.W.Frag) (C : Addr) : Sp := fun vs H Q _ => ∃ (p dx nm : Addr) (fs : List (Str × V)) (s q z : Int), vs = [.ref p, .int z] ∧ H p = some (.ins C dx fs) ∧ fld fs "_numbers" = some (.ref nm) ∧ fld fs "_start" = some (.int s) ∧
  H nm = some (.lst (rgV 0 (s + q))) ∧ 0 ≤ s ∧ 1 ≤ q ∧ 0 ≤ z ∧ Q (.int (backI s q z)) H
def spCutInit (C : Addr) : Sp := fun vs H Q _ => ∃ (p dx : Addr) (s q : Int) (o : Ord), vs = [.ref p, .int s, .int q, .str o.txt] ∧ 0 ≤ s ∧ 1 ≤ q ∧ s + q ≤ 64 ∧ (o ≠ .same → q = 1) ∧ H p = some (.ins C dx []) ∧
  ∀ H', But p H H' → CutAt C H' p s q o → Q .non H'
theorem run_back {s q z : Int} (hs : 0 ≤ s) (hq : 1 ≤ q) (hz : 0 ≤ z) : (rgV 0 (s + q))[runIx (rgV 0 (s + q)).length s z]? = some (.int (backI s q z)) := by
  rw [rgV_length]
  unfold runIx backI
  have e : (((s + q - 0).toNat : Nat) : Int) = s + q := by omega
  rw [e]
  by_cases h : z < s + q
  · rw [if_pos h, if_pos h, rg_at (by omega)]
    congr 2; omega
  · rw [if_neg h, if_neg h]
    have e1 : s + q - s = q := by omega
    rw [e1]
    have h0 : 0 ≤ (z - s) % q := Int.emod_nonneg _ (by omega)
    have h1 : (z - s) % q < q := Int.emod_lt_of_pos _ (by omega)
    rw [rg_at (by omega)]
    congr 2; omega
section
variable {P : Program} {w : World} {K : PySem.W.Frag} {mg : Str → Option Value} {base : Heap} {aO C : Addr}
theorem sc_CutScale_brought_back : FnScope ["self", "number"] ["self", "number"] (defScope (inClass (top 14) 1)) := ⟨rfl, rfl, rfl, by decide +kernel, rfl, by decide +kernel, by decide +kernel⟩
theorem ok_back {f : Addr} {fd : FuncData} (F : Fun K "brought_back" "CutScale.brought_back" (inClass (top 14) 1) f fd) (T : TxC K mg) (CC : CCls K C) (c_item_of_run : Cal P w K mg base CX0 1 "item_of_run" (spItem K)) : FnOk P w K mg base CX0 2 f fd ["self", "number"] (spBack K C) := by
  refine F.ok sc_CutScale_brought_back (fun vs H Q E h => ?_) (fun cdv A outer s H vs Q E hr h => ?_)
  · obtain ⟨p, dx, nm, fs, s, q, z, rfl, _⟩ := h
    rfl
  · obtain ⟨p, dx, nm, fs, s, q, z, rfl, hp, l1, l2, hn, hs, hq, hz, k⟩ := h
    refine ⟨_, (pss_one (ps_ret (pe_c c_item_of_run hr (by decide) (by rfl) (pa_cons (pe_fld (pv 0) rfl) (pa_cons (pe_fld (pv 0) rfl) (pa_cons (pv 1) pa_nil)))))), ?_⟩
    refine ⟨_, rfl, p, C, dx, _, _, rfl, hp, CC.cl, CC._numbers, l1, ?_⟩
    refine ⟨_, rfl, p, C, dx, _, _, rfl, hp, CC.cl, CC._start, l2, ?_⟩
    refine ⟨_, rfl, ?_⟩
    exact ⟨nm, _, s, z, _, rfl, SqL.of hn, hs, (by rw [rgV_length]; omega), hz, run_back hs hq hz, k⟩
theorem sc_CutScale___init__ : FnScope ["self", "start", "period", "order", "names", "number"] ["self", "start", "period", "order"] (defScope (inClass (top 14) 0)) := ⟨rfl, rfl, rfl, by decide +kernel, rfl, by decide +kernel, by decide +kernel⟩
theorem ok_cut_init {f : Addr} {fd : FuncData} (F : Fun K "__init__" "CutScale.__init__" (inClass (top 14) 0) f fd) (T : TxF K mg aO) (CC : CCls K C) (cf_ListedScale___init__ : CFB P w K mg base CX0 2 "ListedScale" "__init__" (spListedInit K))
    (m_brought_back : Met P w K mg base CX0 2 C "brought_back" (spBack K C)) : FnOk P w K mg base CX0 3 f fd ["self", "start", "period", "order"] (spCutInit C) := by
  refine F.ok sc_CutScale___init__ (fun vs H Q E h => ?_) (fun cdv A outer s H vs Q E hr h => ?_)
  · obtain ⟨p, dx, s, q, o, rfl, _⟩ := h
    rfl
  · obtain ⟨p, dx, s, q, o, rfl, hs, hq, hsq, ho, hp, k⟩ := h
    refine ⟨_, (pss_cons (ps_if (PW.pt (pw_or (pt_cmpR op_lt (pv 1) pe_int (nomark _)) (pw_or (pt_cmpR op_lt (pv 2) pe_int (nomark _)) (pw_or (pt_cmpR op_gt (pe_op op_add (pv 1) (pv 2)) (pe_gx (by rfl) T.g_MOST_GRADES) (nomark _)) (pw_or1 (pt_cmpR op_notIn_seq (pv 3) (pe_gx (by rfl) T.g_ORDERS) (by rfl))))))) (pss_one ps_never) pss_nil)
      (pss_cons (ps_if (PW.pt (pw_and (pt_cmpR op_ne (pv 3) pe_str (nomark _)) (pw_and1 (pt_cmpR op_ne (pv 2) pe_int (nomark _))))) (pss_one ps_never) pss_nil)
      (pss_cons (ps_fld (pv 0) (pe_listRg (by rfl) (by rfl) T.list (prg_1 (by rfl) T.range (pe_op op_add (pv 1) (pv 2)))) rfl)
      (pss_cons (ps_fld (pv 0) (pv 1) rfl)
      (pss_cons (ps_fld (pv 0) (pv 3) rfl)
      (pss_cons (ps_setLc (i := 4) (own := [("number", 5)]) (g := (gName 5)) (by rfl) sc_CutScale___init__.nd rfl rfl (sw_true rfl rfl rfl (by decide +kernel)) (pi_list (pe_fld (pv 0) rfl)) (blkOk_by (own := [("number", 5)]) (N := ["self", "start", "period", "order", "names", "number"]) (sc := defScope (inClass (top 14) 0)) (by decide +kernel)) (fun _ _ _ _ _ => (pg_name (i := 5) sc_CutScale___init__.nd rfl (Or.inl rfl))) (fun _ _ _ _ _ => pts_nil) (fun _ _ _ _ _ => (pe_callTy call_str_int (by rfl) T.str (by decide +kernel) (pa_cons (pv 5) pa_nil))))
      (pss_cons (ps_if (pt_cmpR op_eq (pv 2) pe_int (nomark _)) (pss_one (ps_asg pe_str (pg_sub (pv 4) (pv 1) set_list))) pss_nil)
      (pss_one (ps_expr (pe_cf cf_ListedScale___init__ hr (by decide) (by rfl) (pa_cons (pv 0) (pa_cons (pe_joined (PJ.cons pe_str (PJ.cons (pe_fmt (pv 1)) (PJ.cons pe_str (PJ.cons (pe_fmt (pv 2)) (PJ.cons pe_str (PJ.cons (pe_fmt (pv 3)) (PJ.cons pe_str PJ.nil)))))))) (pa_cons (pv 4) (pa_cons pe_int (pa_cons (pe_mt m_brought_back hr (by decide) (pv 0) (pa_cons pe_int pa_nil)) pa_nil))))))))))))))), ?_⟩
    refine ⟨_, rfl, _, _, rfl, rfl, _, rfl, ?_⟩
    refine ifN (by omega) ?_
    refine ⟨_, rfl, _, _, rfl, rfl, _, rfl, ?_⟩
    refine ifN (by omega) ?_
    refine ⟨_, rfl, _, rfl, _, _, rfl, rfl, _, _, rfl, rfl, _, rfl, ?_⟩
    refine ifN (by omega) ?_
    refine ⟨_, rfl, aO, _, rfl, .inr (T.orders H), rfl, rfl, _, rfl, ?_⟩
    refine ifF (by cases o <;> decide +kernel) ?_
    refine tNextI ?_
    dsimp only
    refine st_seq (st_no ?_ ?_)
    · intro Q q'
      refine ⟨_, rfl, rfl, _, rfl, ?_⟩
      by_cases e : o = .same
      · subst e
        exact nifY rfl q'
      · refine nifN (fun z => ?_) ?_
        · cases o
          · exact e rfl
          · exact absurd (V.str.inj z) (by decide +kernel)
          · exact absurd (V.str.inj z) (by decide +kernel)
        · refine ⟨_, rfl, rfl, _, rfl, ?_⟩
          rw [decide_eq_true (show V.int q = V.int 1 by rw [ho e])]
          exact q'
    refine ⟨_, rfl, _, rfl, _, _, rfl, rfl, _, rfl, RgOk.of_le (by decide) (by omega) (by decide) (by omega), fun nm hnm => ?_⟩
    have npn : p ≠ nm := ne_of_none hp hnm
    refine ⟨_, rfl, p, C, dx, _, rfl, (by rw [upd_ne npn]; exact hp), CC.cl, CC._numbers, by decide, ?_⟩
    refine ⟨_, rfl, _, rfl, p, C, dx, _, rfl, upd_same, CC.cl, CC._start, (Nat.lt_of_le_of_lt (putF_n (Nat.zero_le 0)) (by decide)), ?_⟩
    refine ⟨_, rfl, _, rfl, p, C, dx, _, rfl, upd_same, CC.cl, CC._order, (Nat.lt_of_le_of_lt (putF_n (putF_n (Nat.zero_le 0))) (by decide)), ?_⟩
    rw [upd_upd, upd_upd]
    dsimp only
    have k1 : fld (cutFs0 s o nm) "_numbers" = some (.ref nm) := by
      unfold cutFs0; rw [fld_put, if_neg (by decide +kernel), fld_put, if_neg (by decide +kernel), fld_put, if_pos rfl]
    have k2 : fld (cutFs0 s o nm) "_start" = some (.int s) := by
      unfold cutFs0; rw [fld_put, if_neg (by decide +kernel), fld_put, if_pos rfl]
    have k3 : fld (cutFs0 s o nm) "brought_back" = none := by
      unfold cutFs0; rw [fld_put, if_neg (by decide +kernel), fld_put, if_neg (by decide +kernel), fld_put, if_neg (by decide +kernel)]; rfl
    have bn : ∀ u, (upd (upd H nm (.lst (rgV 0 (s + q)))) p u) nm = some (.lst (rgV 0 (s + q))) := fun u => by rw [upd_ne npn.symm, upd_same]
    refine ⟨_, rfl, p, C, dx, _, _, rfl, upd_same, CC.cl, CC._numbers, k1, nm, rfl, ⟨_, SqL.of (bn _)⟩, fun N hN => lcF_list (xs := rgV 0 (s + q)) (fun i => (List.range i).map fun (j : Nat) => V.str (num (j : Int))) hN (SqL.of (bn _)) rfl ?_ ?_⟩
    · intro i x hx
      obtain ⟨rfl, hi⟩ := rg_inv hx
      refine ⟨rfl, ?_⟩
      refine tYesI (iteT ?_)
      refine ⟨_, rfl, _, rfl, num_log _ (by omega) (by omega), _, upd_same, (by rw [List.length_map, List.length_range]; exact small1000 (by omega)), ?_⟩
      rw [upd_upd, range_map_snoc]
    have npN : p ≠ N := ne_of_none upd_same hN
    have nnN : nm ≠ N := ne_of_none (bn _) hN
    have eN : (rgV 0 (s + q)).length = (s + q).toNat := by rw [rgV_length]; congr 1; omega
    rw [eN]
    refine gNameI ?_
    dsimp only
    refine st_seq (join (fun σ' H' => σ' = [some (.ref p), some (.int s), some (.int q), some (.str o.txt), some (.ref N), none] ∧ H' = upd (upd (upd H nm (.lst (rgV 0 (s + q)))) p (.ins C dx (cutFs0 s o nm))) N (.lst ((cutNames s q).map V.str))) ?_ ?_)
    · intro D' hD'
      refine ⟨_, rfl, rfl, _, rfl, ?_⟩
      refine ifD (fun e => ?_) (fun e => ?_)
      · obtain rfl : q = 1 := V.int.inj e
        refine ⟨_, rfl, _, rfl, N, _, s, s.toNat, rfl, rfl, upd_same, ?_, ?_⟩
        · unfold ixN
          rw [if_pos hs, if_pos (by rw [List.length_map, List.length_range]; omega)]
        · refine hD' _ _ ⟨rfl, ?_⟩
          rw [upd_upd]
          congr 2
          apply List.ext_getElem?
          intro i
          unfold cutNames
          rw [List.map_map, List.getElem?_set, List.length_map, List.length_range]
          by_cases hi : s.toNat = i
          · subst hi
            rw [if_pos rfl, if_pos (by omega), List.getElem?_map, range_at (by omega)]
            show some (V.str "many") = some (V.str (cutName s 1 s.toNat))
            unfold cutName
            rw [if_pos ⟨rfl, by omega⟩]
          · rw [if_neg hi, List.getElem?_map, List.getElem?_map]
            by_cases hlt : i < (s + 1).toNat
            · rw [range_at hlt]
              show some (V.str (num (i : Int))) = some (V.str (cutName s 1 i))
              unfold cutName
              rw [if_neg (by omega)]
            · rw [List.getElem?_eq_none (by rw [List.length_range]; omega)]; rfl
      · refine hD' _ _ ⟨rfl, ?_⟩
        congr 2
        unfold cutNames
        rw [List.map_map]
        apply List.map_congr_left
        intro i _
        show V.str (num (i : Int)) = V.str (cutName s q i)
        unfold cutName
        rw [if_neg (fun z => e (by rw [z.1]))]
    · rintro σ' H' ⟨rfl, rfl⟩
      have c1 : (Str.empty ++ ("(cut " : Str)).length ≤ 5 := by decide +kernel
      have c2 := app_le c1 (num_short s hs (by omega))
      have c3 := app_le c2 (show (" " : Str).length ≤ 1 by decide +kernel)
      have c4 := app_le c3 (num_short q (by omega) (by omega))
      have c5 := app_le c4 (show (" " : Str).length ≤ 1 by decide +kernel)
      have c6 := app_le c5 (show o.txt.length ≤ 4 by cases o <;> decide +kernel)
      have c7 := app_le c6 (show (")" : Str).length ≤ 1 by decide +kernel)
      have gp : ∀ u, (upd (upd (upd H nm (.lst (rgV 0 (s + q)))) p (.ins C dx (cutFs0 s o nm))) N u) p = some (.ins C dx (cutFs0 s o nm)) := fun u => by rw [upd_ne npN, upd_same]
      have gn : ∀ u, (upd (upd (upd H nm (.lst (rgV 0 (s + q)))) p (.ins C dx (cutFs0 s o nm))) N u) nm = some (.lst (rgV 0 (s + q))) := fun u => by rw [upd_ne nnN, bn]
      refine ⟨_, rfl, ?_⟩
      refine ⟨_, rfl, sz c1 (by decide), ?_⟩
      refine ⟨_, rfl, .inr ⟨_, rfl, num_log s hs (by omega), _, rfl, sz c2 (by decide), ?_⟩⟩
      refine ⟨_, rfl, sz c3 (by decide), ?_⟩
      refine ⟨_, rfl, .inr ⟨_, rfl, num_log q (by omega) (by omega), _, rfl, sz c4 (by decide), ?_⟩⟩
      refine ⟨_, rfl, sz c5 (by decide), ?_⟩
      refine ⟨_, rfl, .inl ⟨_, rfl, (by cases o <;> decide +kernel), _, rfl, sz c6 (by decide), ?_⟩⟩
      refine ⟨_, rfl, sz c7 (by decide), ?_⟩
      refine ⟨_, rfl, _, rfl, p, dx, _, rfl, gp _, k3, ?_⟩
      refine ⟨p, dx, nm, _, s, q, 1, rfl, gp _, k1, k2, gn _, hs, hq, by decide, ?_⟩
      have lN : (cutNames s q).length = (s + q).toNat := by unfold cutNames; rw [List.length_map, List.length_range]
      refine ⟨p, C, dx, N, _, _, cutNames s q, .int 0, _, rfl, CC.toLCls, gp _, Nat.le_trans (putF_n (putF_n (putF_n (Nat.zero_le 0)))) (by decide), upd_same, by omega, fun l d H' hl hd b e1 e2 e3 => ?_⟩
      refine k H' (fun b' o' e nb => ?_) ⟨dx, nm, l, d, ?_, ?_, e1, ?_⟩
      · refine b _ _ ?_ nb
        have x1 : b' ≠ nm := ne_of_none e hnm
        have x2 : b' ≠ N := ne_of_none (show (upd (upd H nm (.lst (rgV 0 (s + q)))) p (.ins C dx (cutFs0 s o nm))) b' = some o' by rw [upd_ne nb, upd_ne x1]; exact e) hN
        rw [upd_ne x2, upd_ne nb, upd_ne x1]; exact e
      · rw [e3, lN]; rfl
      · exact b _ _ (gn _) npn.symm
      · rw [e2, lN]
end
/-! ### scales whose places are the integers below n: places, within_all, bound_at -/
/-- an object of the class C stands at p: a scale of n grades with this order -/
structure ObOk (C : Addr) (Ob : Hp → Addr → Nat → (Int → Int → Bool) → Prop) : Prop where
  at_ : ∀ {H p n W}, Ob H p n W → ∃ dx fs, H p = some (.ins C dx fs) ∧ fld fs "size" = some (.int (n : Int)) ∧ fld fs "places" = none ∧ fld fs "within_at" = none ∧ fld fs "within_all" = none ∧ n ≤ 64
  same : ∀ {H H' p n W}, Ob H p n W → Same H H' → Ob H' p n W
abbrev OB := Hp → Addr → Nat → (Int → Int → Bool) → Prop
def spWithin (Ob : OB) : Sp := fun vs H Q _ => ∃ (p : Addr) (n : Nat) (W : Int → Int → Bool) (a b : Int), vs = [.ref p, .int a, .int b] ∧ Ob H p n W ∧ 0 ≤ a ∧ a < (n : Int) ∧ 0 ≤ b ∧ b < (n : Int) ∧ Q (.bl (W a b)) H
def spPlaces (C : Addr) : Sp := fun vs H Q _ => ∃ (p dx : Addr) (fs : List (Str × V)) (n : Nat), vs = [.ref p] ∧ H p = some (.ins C dx fs) ∧ fld fs "size" = some (.int (n : Int)) ∧ n ≤ 64 ∧ ∀ l, H l = none → Q (.ref l) (upd H l (.lst (rgV 0 (n : Int))))
def spAll (Ob : OB) : Sp := fun vs H Q _ => ∃ (p l : Addr) (n : Nat) (W : Int → Int → Bool) (u : Int) (us : List Int), vs = [.ref p, .int u, .ref l] ∧ Ob H p n W ∧ 0 ≤ u ∧ u < (n : Int) ∧ H l = some (.lst (us.map V.int)) ∧ (∀ x ∈ us, 0 ≤ x ∧ x < (n : Int)) ∧ Q (.bl (us.all fun x => W u x)) H
def uppers (n : Nat) (W : Int → Int → Bool) (a b : Int) : List Int := ((List.range n).map fun (i : Nat) => (i : Int)).filter fun u => W a u && W b u
/-- the least bound, or none -/
def boundI (n : Nat) (W : Int → Int → Bool) (a b : Int) : Option Int := (uppers n W a b).find? fun u => (uppers n W a b).all fun x => W u x
def optV : Option Int → V
  | none => .non
  | some i => .int i
def spBound (Ob : OB) : Sp := fun vs H Q _ => ∃ (p : Addr) (n : Nat) (W : Int → Int → Bool) (a b : Int), vs = [.ref p, .int a, .int b] ∧ Ob H p n W ∧ 0 ≤ a ∧ a < (n : Int) ∧ 0 ≤ b ∧ b < (n : Int) ∧ ∀ H', Same H H' → Q (optV (boundI n W a b)) H'
theorem uppers_succ (n : Nat) (W : Int → Int → Bool) (a b : Int) : uppers (n + 1) W a b = uppers n W a b ++ (if (W a (n : Int) && W b (n : Int)) = true then [(n : Int)] else []) := by
  unfold uppers
  rw [List.range_succ, List.map_append, List.filter_append]
  congr 1
  rw [List.map_cons, List.map_nil, List.filter_cons, List.filter_nil]
theorem uppers_mem {n : Nat} {W : Int → Int → Bool} {a b x : Int} (h : x ∈ uppers n W a b) : 0 ≤ x ∧ x < (n : Int) := by
  unfold uppers at h
  obtain ⟨h1, _⟩ := List.mem_filter.mp h
  obtain ⟨i, hi, rfl⟩ := List.mem_map.mp h1
  have := List.mem_range.mp hi
  exact ⟨by omega, by omega⟩
theorem uppers_le (n : Nat) (W : Int → Int → Bool) (a b : Int) : (uppers n W a b).length ≤ n := by
  unfold uppers
  refine Nat.le_trans (List.length_filter_le _ _) ?_
  rw [List.length_map, List.length_range]
  exact Nat.le_refl _
section
variable {P : Program} {w : World} {K : PySem.W.Frag} {mg : Str → Option Value} {base : Heap} {C : Addr} {Ob : OB}
theorem sc_Scale_places : FnScope ["self"] ["self"] (defScope (inClass (top 10) 1)) := ⟨rfl, rfl, rfl, by decide +kernel, rfl, by decide +kernel, by decide +kernel⟩
theorem ok_places {f : Addr} {fd : FuncData} (F : Fun K "places" "Scale.places" (inClass (top 10) 1) f fd) (T : TxC K mg) (SC : SCls K C) : FnOk P w K mg base CX0 1 f fd ["self"] (spPlaces C) := by
  refine F.ok sc_Scale_places (fun vs H Q E h => ?_) (fun cdv A outer s H vs Q E hr h => ?_)
  · obtain ⟨p, dx, fs, n, rfl, _⟩ := h
    rfl
  · obtain ⟨p, dx, fs, n, rfl, hp, hs, hn, k⟩ := h
    refine ⟨_, (pss_cons (ps_if (pt_cmpR op_isN (pe_fld (pv 0) rfl) pe_non (nomark _)) (pss_one ps_never) pss_nil)
      (pss_one (ps_ret (pe_listRg (by rfl) (by rfl) T.list (prg_1 (by rfl) T.range (pe_fld (pv 0) rfl)))))), ?_⟩
    refine ⟨_, rfl, p, C, dx, _, _, rfl, hp, SC.cl, SC.size, hs, rfl, _, rfl, ?_⟩
    refine ifN (fun z => nomatch z) ?_
    refine ⟨_, rfl, p, C, dx, _, _, rfl, hp, SC.cl, SC.size, hs, _, rfl, RgOk.of_le (by decide) (by omega) (by decide) (by omega), fun l hl => ?_⟩
    exact k l hl
theorem sc_Scale_within_all : FnScope ["self", "place", "others", "other"] ["self", "place", "others"] (defScope (inClass (top 10) 6)) := ⟨rfl, rfl, rfl, by decide +kernel, rfl, by decide +kernel, by decide +kernel⟩
theorem ok_within_all {f : Addr} {fd : FuncData} (F : Fun K "within_all" "Scale.within_all" (inClass (top 10) 6) f fd) (OK : ObOk C Ob) (m_within_at : Met P w K mg base CX0 1 C "within_at" (spWithin Ob)) : FnOk P w K mg base CX0 2 f fd ["self", "place", "others"] (spAll Ob) := by
  refine F.ok sc_Scale_within_all (fun vs H Q E h => ?_) (fun cdv A outer s H vs Q E hr h => ?_)
  · obtain ⟨p, l, n, W, u, us, rfl, _⟩ := h
    rfl
  · obtain ⟨p, l, n, W, u, us, rfl, ob, u0, u1, hl, hu, k⟩ := h
    obtain ⟨dx, fs, hp, _, _, hw, _, hn⟩ := OK.at_ ob
    refine ⟨_, (pss_cons (ps_for PassesOwn.never rfl (pi_list (pv 2)) (pg_name (i := 3) sc_Scale_within_all.nd rfl (Or.inl rfl)) (pss_one (ps_if (pt_not (pt_val (pe_mt m_within_at hr (by decide) (pv 0) (pa_cons (pv 1) (pa_cons (pv 3) pa_nil))))) (pss_one (ps_ret pe_bl)) pss_nil)))
      (pss_one (ps_ret pe_bl))), ?_⟩
    refine ⟨_, rfl, l, rfl, ⟨_, SqL.of hl⟩, for_list (K := K) (a := l) (xs := us.map V.int) (fun i σ H2 => ∃ v, σ = [some (.ref p), some (.int u), some (.ref l), v] ∧ H2 = H ∧ ∀ x ∈ us.take i, W u x = true)
      ⟨none, rfl, rfl, by simp⟩ (fun i σ H2 _ ⟨_, _, e, _⟩ => by rw [e]; exact SqL.of hl) ?_ ?_⟩
    · rintro i y σ H2 hi ⟨v, rfl, rfl, ht⟩
      obtain ⟨x, rfl, hx⟩ := at_map hi
      have hm : x ∈ us := List.mem_of_getElem? hx
      refine ⟨_, rfl, p, dx, fs, rfl, hp, hw, _, rfl, _, rfl, ?_⟩
      refine ⟨p, n, W, u, x, rfl, ob, u0, u1, (hu x hm).1, (hu x hm).2, _, rfl, ?_⟩
      cases e : W u x with
      | true =>
        refine iteF ?_
        refine ⟨_, rfl, rfl, ?_⟩
        intro z hz
        rw [take_snoc hx, List.mem_append] at hz
        rcases hz with hz | hz
        · exact ht z hz
        · rw [List.mem_singleton] at hz
          subst hz; exact e
      | false =>
        refine iteT ?_
        have ea : (us.all fun x => W u x) = false := by
          rw [List.all_eq_false]
          exact ⟨x, hm, by rw [e]; decide⟩
        rw [ea] at k
        exact k
    · rintro σ H2 ⟨v, rfl, rfl, ht⟩
      rw [List.length_map, List.take_of_length_le (Nat.le_refl _)] at ht
      have ea : (us.all fun x => W u x) = true := List.all_eq_true.mpr ht
      rw [ea] at k
      exact k
theorem sc_Scale_bound_at : FnScope ["self", "first", "second", "uppers", "place"] ["self", "first", "second"] (defScope (inClass (top 10) 5)) := ⟨rfl, rfl, rfl, by decide +kernel, rfl, by decide +kernel, by decide +kernel⟩
theorem ok_bound {f : Addr} {fd : FuncData} (F : Fun K "bound_at" "Scale.bound_at" (inClass (top 10) 5) f fd) (OK : ObOk C Ob) (m_within_at : Met P w K mg base CX0 1 C "within_at" (spWithin Ob)) (m_within_all : Met P w K mg base CX0 2 C "within_all" (spAll Ob))
    (m_places : Met P w K mg base CX0 1 C "places" (spPlaces C)) : FnOk P w K mg base CX0 3 f fd ["self", "first", "second"] (spBound Ob) := by
  refine F.ok sc_Scale_bound_at (fun vs H Q E h => ?_) (fun cdv A outer s H vs Q E hr h => ?_)
  · obtain ⟨p, n, W, a, b, rfl, _⟩ := h
    rfl
  · obtain ⟨p, n, W, a, b, rfl, ob, a0, a1, b0, b1, k⟩ := h
    obtain ⟨dx, fs, hp, hs, hpl, hw, hwa, hn⟩ := OK.at_ ob
    refine ⟨_, (pss_cons (ps_setLc (i := 3) (own := [("place", 4)]) (g := (gName 4)) (by rfl) sc_Scale_bound_at.nd rfl rfl (sw_true rfl rfl rfl (by decide +kernel)) (pi_list (pe_mt0 m_places hr (by decide) (pv 0))) (blkOk_by (own := [("place", 4)]) (N := ["self", "first", "second", "uppers", "place"]) (sc := defScope (inClass (top 10) 5)) (by decide +kernel)) (fun _ _ _ _ _ => (pg_name (i := 4) sc_Scale_bound_at.nd rfl (Or.inl rfl))) (fun _ _ _ _ _ => (pts_one (PW.pt (pw_and (pt_val (pe_mt m_within_at hr (by decide) (pv 0) (pa_cons (pv 1) (pa_cons (pv 4) pa_nil)))) (pw_and1 (pt_val (pe_mt m_within_at hr (by decide) (pv 0) (pa_cons (pv 2) (pa_cons (pv 4) pa_nil))))))))) (fun _ _ _ _ _ => (pv 4)))
      (pss_cons (ps_for PassesOwn.never rfl (pi_list (pv 3)) (pg_name (i := 4) sc_Scale_bound_at.nd rfl (Or.inl rfl)) (pss_one (ps_if (pt_val (pe_mt m_within_all hr (by decide) (pv 0) (pa_cons (pv 4) (pa_cons (pv 3) pa_nil)))) (pss_one (ps_ret (pv 4))) pss_nil)))
      (pss_one (ps_ret pe_non)))), ?_⟩
    refine ⟨_, rfl, p, dx, fs, rfl, hp, hpl, ?_⟩
    refine ⟨p, dx, fs, n, rfl, hp, hs, hn, fun l hl => ?_⟩
    refine ⟨l, rfl, ⟨_, SqL.of upd_same⟩, fun D hD => lcF_list (xs := rgV 0 (n : Int)) (fun i => (uppers i W a b).map V.int) hD (SqL.of upd_same) rfl ?_ ?_⟩
    · intro i x hx
      obtain ⟨rfl, hi⟩ := rg_inv hx
      have sm : ∀ u, Same H (upd (upd H l (.lst (rgV 0 (n : Int)))) D u) := fun u => (sameNew hl).trans (sameNew hD)
      refine ⟨rfl, ?_⟩
      refine ⟨_, rfl, p, dx, fs, rfl, sm _ _ _ hp, hw, _, rfl, _, rfl, ?_⟩
      refine ⟨p, n, W, a, (i : Int), rfl, OK.same ob (sm _), a0, a1, by omega, hi, _, rfl, ?_⟩
      refine ifB (fun e1 => ?_) (fun e1 => ?_)
      · refine ⟨_, rfl, p, dx, fs, rfl, sm _ _ _ hp, hw, _, rfl, _, rfl, ?_⟩
        refine ⟨p, n, W, b, (i : Int), rfl, OK.same ob (sm _), b0, b1, by omega, hi, _, rfl, ?_⟩
        refine ifB (fun e2 => ?_) (fun e2 => ?_)
        · refine ⟨_, rfl, _, upd_same, (by rw [List.length_map]; exact small1000 (Nat.le_trans (uppers_le i W a b) (by omega))), ?_⟩
          rw [upd_upd, uppers_succ, e1, e2, List.map_append]; rfl
        · rw [uppers_succ, e1, e2]; simp
      · refine iteF ?_
        rw [uppers_succ, e1]; simp
    · rw [rgV_length]
      have en : ((n : Int) - 0).toNat = n := by omega
      rw [en]
      have sm : ∀ u, Same H (upd (upd H l (.lst (rgV 0 (n : Int)))) D u) := fun u => (sameNew hl).trans (sameNew hD)
      refine gNameI ?_
      dsimp only
      refine ⟨_, rfl, D, rfl, ⟨_, SqL.of upd_same⟩, for_list (K := K) (a := D) (xs := (uppers n W a b).map V.int) (fun i σ H2 => ∃ v, σ = [some (.ref p), some (.int a), some (.int b), some (.ref D), v] ∧ H2 = upd (upd H l (.lst (rgV 0 (n : Int)))) D (.lst ((uppers n W a b).map V.int)) ∧ ∀ x ∈ (uppers n W a b).take i, ((uppers n W a b).all fun y => W x y) = false)
        ⟨none, rfl, rfl, by simp⟩ (fun i σ H2 _ ⟨_, _, e, _⟩ => by rw [e]; exact SqL.of upd_same) ?_ ?_⟩
      · rintro i y σ H2 hi ⟨v, rfl, rfl, ht⟩
        obtain ⟨x, rfl, hx⟩ := at_map hi
        have hm : x ∈ uppers n W a b := List.mem_of_getElem? hx
        refine ⟨_, rfl, p, dx, fs, rfl, sm _ _ _ hp, hwa, _, rfl, _, rfl, ?_⟩
        refine ⟨p, D, n, W, x, _, rfl, OK.same ob (sm _), (uppers_mem hm).1, (uppers_mem hm).2, upd_same, fun z hz => uppers_mem hz, _, rfl, ?_⟩
        refine ifB (fun e => ?_) (fun e => ?_)
        · refine ⟨_, rfl, ?_⟩
          have z : boundI n W a b = some x := find_at hx e ht
          rw [z] at k
          exact k _ (sm _)
        · refine ⟨_, rfl, rfl, ?_⟩
          intro z hz
          rw [take_snoc hx, List.mem_append] at hz
          rcases hz with hz | hz
          · exact ht z hz
          · rw [List.mem_singleton] at hz
            subst hz; exact e
      · rintro σ H2 ⟨v, rfl, rfl, ht⟩
        rw [List.length_map, List.take_of_length_le (Nat.le_refl _)] at ht
        have z : boundI n W a b = none := find_none ht
        rw [z] at k
        exact k _ (sm _)
end
/-! ### law k02 -/
def wi : Ord → Int → Int → Bool
  | .same, a, b => decide (a = b)
  | .up, a, b => decide (a ≤ b)
  | .down, a, b => decide (b ≤ a)
def ObCut (C : Addr) : OB := fun H p n W => ∃ (s q : Int) (o : Ord) (dx nm l d : Addr), 0 ≤ s ∧ 1 ≤ q ∧ s + q ≤ 64 ∧ n = (s + q).toNat ∧ W = wi o ∧ H p = some (.ins C dx (cutFs s q o nm l d))
section
variable {s q : Int} {o : Ord} {nm l d : Addr}
theorem cut_order : fld (cutFs s q o nm l d) "_order" = some (.str o.txt) := by
  unfold cutFs listedFs cutFs0
  repeat (first | rw [fld_put, if_pos rfl] | rw [fld_put, if_neg (by decide +kernel)])
theorem cut_size : fld (cutFs s q o nm l d) "size" = some (.int ((s + q).toNat : Int)) := by
  unfold cutFs listedFs cutFs0
  repeat (first | rw [fld_put, if_pos rfl] | rw [fld_put, if_neg (by decide +kernel)])
theorem cut_none {m : Str} (h : ["_numbers", "_start", "_order", "label", "size", "zero_at", "one_at", "depth", "_names", "_found"].all (fun f => decide (m ≠ Str.ofString f)) = true) : fld (cutFs s q o nm l d) m = none := by
  simp only [List.all_cons, List.all_nil, Bool.and_eq_true, decide_eq_true_eq] at h
  obtain ⟨h1, h2, h3, h4, h5, h6, h7, h8, h9, h10, _⟩ := h
  unfold cutFs listedFs cutFs0
  rw [fld_put, if_neg h10, fld_put, if_neg h9, fld_put, if_neg h8, fld_put, if_neg h7, fld_put, if_neg h6, fld_put, if_neg h5, fld_put, if_neg h4, fld_put, if_neg h3, fld_put, if_neg h2, fld_put, if_neg h1]
  rfl
end
theorem obCut_ok (C : Addr) : ObOk C (ObCut C) := by
  constructor
  · rintro H p n W ⟨s, q, o, dx, nm, l, d, h1, h2, h3, rfl, rfl, hp⟩
    exact ⟨dx, _, hp, cut_size, cut_none (by decide +kernel), cut_none (by decide +kernel), cut_none (by decide +kernel), by omega⟩
  · rintro H H' p n W ⟨s, q, o, dx, nm, l, d, h1, h2, h3, h4, h5, hp⟩ sm
    exact ⟨s, q, o, dx, nm, l, d, h1, h2, h3, h4, h5, sm _ _ hp⟩
/-- the law's own order and bound -/
def spLWithin : Sp := fun vs H Q _ => ∃ (o : Ord) (a b : Int), vs = [.str o.txt, .int a, .int b] ∧ Q (.bl (wi o a b)) H
def lawB (o : Ord) (a b : Int) : V := if wi o a b = true then .int b else if wi o b a = true then .int a else .non
def spLBound : Sp := fun vs H Q _ => ∃ (o : Ord) (a b : Int), vs = [.str o.txt, .int a, .int b] ∧ Q (lawB o a b) H
theorem bound_unique {n : Nat} {W : Int → Int → Bool} {a b m : Int} (hm : m ∈ uppers n W a b) (hall : ∀ x ∈ uppers n W a b, W m x = true) (hun : ∀ u ∈ uppers n W a b, W u m = true → u = m) : boundI n W a b = some m := by
  unfold boundI
  cases e : (uppers n W a b).find? fun u => (uppers n W a b).all fun x => W u x with
  | none =>
    rw [List.find?_eq_none] at e
    exact absurd (List.all_eq_true.mpr hall) (e m hm)
  | some u =>
    have h1 := List.find?_some e
    have h2 := List.mem_of_find?_eq_some e
    rw [hun u h2 (List.all_eq_true.mp h1 m hm)]
theorem mem_uppers {n : Nat} {W : Int → Int → Bool} {a b x : Int} : x ∈ uppers n W a b ↔ (0 ≤ x ∧ x < (n : Int)) ∧ W a x = true ∧ W b x = true := by
  constructor
  · intro h
    refine ⟨uppers_mem h, ?_⟩
    unfold uppers at h
    obtain ⟨_, h2⟩ := List.mem_filter.mp h
    simpa using h2
  · rintro ⟨⟨h0, h1⟩, h2, h3⟩
    unfold uppers
    refine List.mem_filter.mpr ⟨List.mem_map.mpr ⟨x.toNat, List.mem_range.mpr (by omega), by omega⟩, by simp [h2, h3]⟩
theorem bound_law {n : Nat} {o : Ord} {a b : Int} (a0 : 0 ≤ a) (a1 : a < (n : Int)) (b0 : 0 ≤ b) (b1 : b < (n : Int)) : optV (boundI n (wi o) a b) = lawB o a b := by
  unfold lawB
  cases o with
  | same =>
    by_cases e : a = b
    · subst e
      rw [bound_unique (m := a) (mem_uppers.mpr ⟨⟨a0, a1⟩, by simp [wi], by simp [wi]⟩) (fun x hx => (mem_uppers.mp hx).2.1) (fun u hu h => by simpa [wi] using h)]
      simp [wi, optV]
    · have z : boundI n (wi .same) a b = none := by
        unfold boundI
        refine find_none fun y hy => ?_
        have h := (mem_uppers.mp hy).2
        simp only [wi, decide_eq_true_eq] at h
        exact absurd (h.1.trans h.2.symm) e
      rw [z]
      simp [wi, optV, e, Ne.symm e]
  | up =>
    by_cases e : a ≤ b
    · rw [bound_unique (m := b) (mem_uppers.mpr ⟨⟨b0, b1⟩, by simp [wi, e], by simp [wi]⟩) (fun x hx => (mem_uppers.mp hx).2.2) (fun u hu h => by have := (mem_uppers.mp hu).2.2; simp [wi] at h this; omega)]
      simp [wi, optV, e]
    · rw [bound_unique (m := a) (mem_uppers.mpr ⟨⟨a0, a1⟩, by simp [wi], by simp [wi]; omega⟩) (fun x hx => (mem_uppers.mp hx).2.1) (fun u hu h => by have := (mem_uppers.mp hu).2.1; simp [wi] at h this; omega)]
      have e2 : b ≤ a := by omega
      simp [wi, optV, e, e2]
  | down =>
    by_cases e : b ≤ a
    · rw [bound_unique (m := b) (mem_uppers.mpr ⟨⟨b0, b1⟩, by simp [wi, e], by simp [wi]⟩) (fun x hx => (mem_uppers.mp hx).2.2) (fun u hu h => by have := (mem_uppers.mp hu).2.2; simp [wi] at h this; omega)]
      simp [wi, optV, e]
    · rw [bound_unique (m := a) (mem_uppers.mpr ⟨⟨a0, a1⟩, by simp [wi], by simp [wi]; omega⟩) (fun x hx => (mem_uppers.mp hx).2.1) (fun u hu h => by have := (mem_uppers.mp hu).2.1; simp [wi] at h this; omega)]
      have e2 : a ≤ b := by omega
      simp [wi, optV, e, e2]
section
variable {P : Program} {w : World} {K : PySem.W.Frag} {mg : Str → Option Value} {base : Heap} {C : Addr}
theorem sc_CutScale_within_at : FnScope ["self", "first", "second"] ["self", "first", "second"] (defScope (inClass (top 14) 4)) := ⟨rfl, rfl, rfl, by decide +kernel, rfl, by decide +kernel, by decide +kernel⟩
theorem ok_cut_within {f : Addr} {fd : FuncData} (F : Fun K "within_at" "CutScale.within_at" (inClass (top 14) 4) f fd) (CC : CCls K C) : FnOk P w K mg base CX0 1 f fd ["self", "first", "second"] (spWithin (ObCut C)) := by
  refine F.ok sc_CutScale_within_at (fun vs H Q E h => ?_) (fun cdv A outer s H vs Q E hr h => ?_)
  · obtain ⟨p, n, W, a, b, rfl, _⟩ := h
    rfl
  · obtain ⟨p, n, W, a, b, rfl, ⟨s, q, o, dx, nm, l, d, h1, h2, h3, rfl, rfl, hp⟩, a0, a1, b0, b1, k⟩ := h
    refine ⟨_, (pss_cons (ps_if (pt_cmpR op_eq (pe_fld (pv 0) rfl) pe_str (nomark _)) (pss_one (ps_ret (pe_cmpR op_le (pv 1) (pv 2) (nomark _)))) pss_nil)
      (pss_cons (ps_if (pt_cmpR op_eq (pe_fld (pv 0) rfl) pe_str (nomark _)) (pss_one (ps_ret (pe_cmpR op_ge (pv 1) (pv 2) (nomark _)))) pss_nil)
      (pss_one (ps_ret (pe_cmpR op_eq (pv 1) (pv 2) (nomark _)))))), ?_⟩
    refine ⟨_, rfl, p, C, dx, _, _, rfl, hp, CC.cl, CC._order, cut_order, rfl, _, rfl, ?_⟩
    cases o with
    | up =>
      refine ifY rfl ?_
      exact ⟨_, rfl, _, rfl, _, _, rfl, rfl, k⟩
    | same =>
      refine ifN (by decide +kernel) ?_
      refine ⟨_, rfl, p, C, dx, _, _, rfl, hp, CC.cl, CC._order, cut_order, rfl, _, rfl, ?_⟩
      refine ifN (by decide +kernel) ?_
      refine ⟨_, rfl, _, rfl, rfl, ?_⟩
      have e : decide (V.int a = V.int b) = wi .same a b := by unfold wi; simp
      rw [e]; exact k
    | down =>
      refine ifN (by decide +kernel) ?_
      refine ⟨_, rfl, p, C, dx, _, _, rfl, hp, CC.cl, CC._order, cut_order, rfl, _, rfl, ?_⟩
      refine ifY rfl ?_
      exact ⟨_, rfl, _, rfl, _, _, rfl, rfl, k⟩
theorem sc__law_within : FnScope ["_law_sort", "_law_a", "_law_b"] ["_law_sort", "_law_a", "_law_b"] (defScope (top 19)) := ⟨rfl, rfl, rfl, by decide +kernel, rfl, by decide +kernel, by decide +kernel⟩
theorem ok_lwithin {f : Addr} {fd : FuncData} (F : Fun K "_law_within" "_law_within" (top 19) f fd) : FnOk P w K mg base CX0 1 f fd ["_law_sort", "_law_a", "_law_b"] spLWithin := by
  refine F.ok sc__law_within (fun vs H Q E h => ?_) (fun cdv A outer s H vs Q E hr h => ?_)
  · obtain ⟨o, a, b, rfl, _⟩ := h
    rfl
  · obtain ⟨o, a, b, rfl, k⟩ := h
    refine ⟨_, (pss_cons (ps_if (pt_cmpR op_eq (pv 0) pe_str (nomark _)) (pss_one (ps_ret (pe_cmpR op_le (pv 1) (pv 2) (nomark _)))) pss_nil)
      (pss_cons (ps_if (pt_cmpR op_eq (pv 0) pe_str (nomark _)) (pss_one (ps_ret (pe_cmpR op_ge (pv 1) (pv 2) (nomark _)))) pss_nil)
      (pss_one (ps_ret (pe_cmpR op_eq (pv 1) (pv 2) (nomark _)))))), ?_⟩
    refine ⟨_, rfl, rfl, _, rfl, ?_⟩
    cases o with
    | up =>
      refine ifY rfl ?_
      exact ⟨_, rfl, _, rfl, _, _, rfl, rfl, k⟩
    | same =>
      refine ifN (by decide +kernel) ?_
      refine ⟨_, rfl, rfl, _, rfl, ?_⟩
      refine ifN (by decide +kernel) ?_
      refine ⟨_, rfl, _, rfl, rfl, ?_⟩
      have e : decide (V.int a = V.int b) = wi .same a b := by unfold wi; simp
      rw [e]; exact k
    | down =>
      refine ifN (by decide +kernel) ?_
      refine ⟨_, rfl, rfl, _, rfl, ?_⟩
      refine ifY rfl ?_
      exact ⟨_, rfl, _, rfl, _, _, rfl, rfl, k⟩
theorem sc__law_bound : FnScope ["_law_sort", "_law_a", "_law_b"] ["_law_sort", "_law_a", "_law_b"] (defScope (top 20)) := ⟨rfl, rfl, rfl, by decide +kernel, rfl, by decide +kernel, by decide +kernel⟩
theorem ok_lbound {f : Addr} {fd : FuncData} (F : Fun K "_law_bound" "_law_bound" (top 20) f fd) (c__law_within : Cal P w K mg base CX0 1 "_law_within" spLWithin) : FnOk P w K mg base CX0 2 f fd ["_law_sort", "_law_a", "_law_b"] spLBound := by
  refine F.ok sc__law_bound (fun vs H Q E h => ?_) (fun cdv A outer s H vs Q E hr h => ?_)
  · obtain ⟨o, a, b, rfl, _⟩ := h
    rfl
  · obtain ⟨o, a, b, rfl, k⟩ := h
    unfold lawB at k
    refine ⟨_, (pss_cons (ps_if (pt_val (pe_c c__law_within hr (by decide) (by rfl) (pa_cons (pv 0) (pa_cons (pv 1) (pa_cons (pv 2) pa_nil))))) (pss_one (ps_ret (pv 2))) pss_nil)
      (pss_cons (ps_if (pt_val (pe_c c__law_within hr (by decide) (by rfl) (pa_cons (pv 0) (pa_cons (pv 2) (pa_cons (pv 1) pa_nil))))) (pss_one (ps_ret (pv 1))) pss_nil)
      (pss_one (ps_ret pe_non)))), ?_⟩
    refine ⟨_, rfl, _, rfl, _, rfl, o, a, b, rfl, _, rfl, ?_⟩
    refine ifB (fun e => ?_) (fun e => ?_)
    · rw [if_pos e] at k
      exact ⟨_, rfl, k⟩
    · rw [if_neg (by rw [e]; decide)] at k
      refine ⟨_, rfl, _, rfl, _, rfl, o, b, a, rfl, _, rfl, ?_⟩
      refine ifB (fun e2 => ?_) (fun e2 => ?_)
      · rw [if_pos e2] at k
        exact ⟨_, rfl, k⟩
      · rw [if_neg (by rw [e2]; decide)] at k
        exact k
end
/-! ### the law itself -/
def spLaw (K : PySem.W.Frag) : Sp := fun vs H Q _ => ∃ (a : Addr) (ns : List Int), vs = [.ref a] ∧ SqL K H a (ns.map V.int) ∧ ns.length ≤ 63 ∧ ∀ H', Q (.bl true) H'
/-- what the state's two lists are told from -/
theorem StA.ne {H : Hp} {S L p : Addr} {o : HO} (h : StA H S L) (hp : H p = some o) (hn : ∀ xs, o ≠ .lst xs) : p ≠ S ∧ p ≠ L := by
  obtain ⟨_, ns, a, b, c, _, h1, h2⟩ := h
  exact ⟨ne_of hp h1 (fun z => hn _ z), ne_of hp h2 (fun z => hn _ z)⟩
theorem StA.same {H H' : Hp} {S L : Addr} (h : StA H S L) (e : Same H H') : StA H' S L := by
  obtain ⟨n, ns, a, b, c, l, h1, h2⟩ := h
  exact ⟨n, ns, a, b, c, l, e _ _ h1, e _ _ h2⟩
theorem StA.but {H H' : Hp} {S L p : Addr} (h : StA H S L) (e : But p H H') (h1 : p ≠ S) (h2 : p ≠ L) : StA H' S L := by
  obtain ⟨n, ns, a, b, c, l, g1, g2⟩ := h
  exact ⟨n, ns, a, b, c, l, e _ _ g1 h1.symm, e _ _ g2 h2.symm⟩
theorem StA.new {H : Hp} {S L p : Addr} (h : StA H S L) (hp : H p = none) : S ≠ p ∧ L ≠ p := by
  obtain ⟨n, ns, a, b, c, l, g1, g2⟩ := h
  exact ⟨ne_of_none g1 hp, ne_of_none g2 hp⟩
theorem ord_at (r : Int) (h0 : 0 ≤ r) (h1 : r < 3) : ∃ o : Ord, atI [V.str "same", V.str "up", V.str "down"] r = some (.str o.txt) := by
  have z : r = 0 ∨ r = 1 ∨ r = 2 := by omega
  rcases z with rfl | rfl | rfl
  · exact ⟨.same, rfl⟩
  · exact ⟨.up, rfl⟩
  · exact ⟨.down, rfl⟩
section
variable {P : Program} {w : World} {K : PySem.W.Frag} {mg : Str → Option Value} {base : Heap} {C : Addr}
theorem sc_law : FnScope ["_law_script", "_law_state", "_law_start", "_law_sort", "_law_length", "_law_scale", "_law_size", "_law_k", "_law_way", "_law_a", "_law_b"] ["_law_script"] (defScope (top 21)) := ⟨rfl, rfl, rfl, by decide +kernel, rfl, by decide +kernel, by decide +kernel⟩
theorem ok_law {f : Addr} {fd : FuncData} (F : Fun K "law" "law" (top 21) f fd) (T : TxL K mg) (c__law_draws : Cal P w K mg base CX0 1 "_law_draws" (spDraws K)) (c__law_draw : Cal P w K mg base CX0 1 "_law_draw" spDraw)
    (mkK_CutScale : MakK P w K mg base CX0 3 "CutScale" C (spCutInit C) 1 ["period", "order"] (fun vs zs => vs ++ zs)) (m_within_at : Met P w K mg base CX0 1 C "within_at" (spWithin (ObCut C))) (m_bound_at : Met P w K mg base CX0 3 C "bound_at" (spBound (ObCut C)))
    (c__law_same : Cal P w K mg base CX0 1 "_law_same" (spSame 0)) (c__law_within : Cal P w K mg base CX0 1 "_law_within" spLWithin) (c__law_bound : Cal P w K mg base CX0 2 "_law_bound" spLBound) : FnOk P w K mg base CX0 5 f fd ["_law_script"] (spLaw K) := by
  refine F.ok sc_law (fun vs H Q E h => ?_) (fun cdv A outer s H vs Q E hr h => ?_)
  · obtain ⟨a, ns, rfl, _⟩ := h
    rfl
  · obtain ⟨a, ns, rfl, hS, hlen, k⟩ := h
    refine ⟨_, (pss_cons (ps_set (i := 1) sc_law.nd rfl (Or.inl rfl) (pe_c c__law_draws hr (by decide) (by rfl) (pa_cons (pv 0) pa_nil)))
      (pss_cons (ps_set (i := 2) sc_law.nd rfl (Or.inl rfl) (pe_c c__law_draw hr (by decide) (by rfl) (pa_cons (pv 1) (pa_cons pe_int pa_nil))))
      (pss_cons (ps_set (i := 3) sc_law.nd rfl (Or.inl rfl) (pe_ix ix_list (pe_lst (pa_cons pe_str (pa_cons pe_str (pa_cons pe_str pa_nil)))) (pe_c c__law_draw hr (by decide) (by rfl) (pa_cons (pv 1) (pa_cons pe_int pa_nil))) (fun _ _ => rfl)))
      (pss_cons (ps_set (i := 4) sc_law.nd rfl (Or.inl rfl) pe_int)
      (pss_cons (ps_if (pt_cmpR op_eq (pv 3) pe_str (nomark _)) (pss_one (ps_set (i := 4) sc_law.nd rfl (Or.inl rfl) (pe_op op_add pe_int (pe_c c__law_draw hr (by decide) (by rfl) (pa_cons (pv 1) (pa_cons (pe_op op_sub pe_int (pv 2)) pa_nil)))))) pss_nil)
      (pss_cons (ps_set (i := 5) sc_law.nd rfl (Or.inl rfl) (pe_mkK mkK_CutScale hr (by decide) (by rfl) (pa_cons (pv 2) pa_nil) (pk_cons (pv 4) (pk_cons (pv 3) pk_nil))))
      (pss_cons (ps_set (i := 6) sc_law.nd rfl (Or.inl rfl) (pe_op op_add (pv 2) (pv 4)))
      (pss_cons (ps_for PassesOwn.never rfl (pi_range1 (by rfl) T.range (pa_cons (pe_op op_add pe_int (pe_c c__law_draw hr (by decide) (by rfl) (pa_cons (pv 1) (pa_cons pe_int pa_nil)))) pa_nil)) (pg_name (i := 7) sc_law.nd rfl (Or.inl rfl)) (pss_cons (ps_set (i := 8) sc_law.nd rfl (Or.inl rfl) (pe_c c__law_draw hr (by decide) (by rfl) (pa_cons (pv 1) (pa_cons pe_int pa_nil))))
      (pss_cons (ps_set (i := 9) sc_law.nd rfl (Or.inl rfl) (pe_c c__law_draw hr (by decide) (by rfl) (pa_cons (pv 1) (pa_cons (pv 6) pa_nil))))
      (pss_cons (ps_set (i := 10) sc_law.nd rfl (Or.inl rfl) (pe_c c__law_draw hr (by decide) (by rfl) (pa_cons (pv 1) (pa_cons (pv 6) pa_nil))))
      (pss_cons (ps_if (pt_cmpR op_eq (pv 8) pe_int (nomark _)) (pss_one (ps_set (i := 10) sc_law.nd rfl (Or.inl rfl) (pv 9))) pss_nil)
      (pss_cons (ps_if (PW.pt (pw_and (pt_cmpR op_eq (pv 8) pe_int (nomark _)) (pw_and1 (pt_cmpR op_lt (pe_op op_add (pv 9) pe_int) (pv 6) (nomark _))))) (pss_one (ps_set (i := 10) sc_law.nd rfl (Or.inl rfl) (pe_op op_add (pv 9) pe_int))) pss_nil)
      (pss_cons (ps_if (pt_not (pt_val (pe_c c__law_same hr (by decide) (by rfl) (pa_cons (pe_mt m_within_at hr (by decide) (pv 5) (pa_cons (pv 9) (pa_cons (pv 10) pa_nil))) (pa_cons (pe_c c__law_within hr (by decide) (by rfl) (pa_cons (pv 3) (pa_cons (pv 9) (pa_cons (pv 10) pa_nil)))) pa_nil))))) (pss_one (ps_ret pe_bl)) pss_nil)
      (pss_cons (ps_if (pt_not (pt_val (pe_c c__law_same hr (by decide) (by rfl) (pa_cons (pe_mt m_within_at hr (by decide) (pv 5) (pa_cons (pv 10) (pa_cons (pv 9) pa_nil))) (pa_cons (pe_c c__law_within hr (by decide) (by rfl) (pa_cons (pv 3) (pa_cons (pv 10) (pa_cons (pv 9) pa_nil)))) pa_nil))))) (pss_one (ps_ret pe_bl)) pss_nil)
      (pss_one (ps_if (PW.pt (pw_and (pt_cmpR op_lt (pv 7) pe_int (nomark _)) (pw_and1 (pt_not (pt_val (pe_c c__law_same hr (by decide) (by rfl) (pa_cons (pe_mt m_bound_at hr (by decide) (pv 5) (pa_cons (pv 9) (pa_cons (pv 10) pa_nil))) (pa_cons (pe_c c__law_bound hr (by decide) (by rfl) (pa_cons (pv 3) (pa_cons (pv 9) (pa_cons (pv 10) pa_nil)))) pa_nil)))))))) (pss_one (ps_ret pe_bl)) pss_nil))))))))))
      (pss_one (ps_ret pe_bl)))))))))), ?_⟩
    -- the draws
    refine ⟨_, rfl, a, ns, rfl, hS, hlen, fun S L H1 _ _ st1 _ => ?_⟩
    refine ⟨_, rfl, S, L, 64, rfl, st1, by decide, fun r1 H2 r10 r11 st2 kp2 => ?_⟩
    have r12 := r11 (by decide)
    -- the word of the order
    refine ⟨(by show 3 ≤ sizeLine; decide), fun lo hlo => ?_⟩
    refine ⟨_, rfl, S, L, 3, rfl, st2.same (sameNew hlo), by decide, fun r2 H3 r20 r21 st3 kp3 => ?_⟩
    obtain ⟨o, ho⟩ := ord_at r2 r20 (r21 (by decide))
    have nlo := st2.new hlo
    refine ⟨lo, _, r2, _, rfl, rfl, SqL.of (kp3 _ _ upd_same nlo.1.symm nlo.2.symm), ho, ?_⟩
    refine gNameI ?_
    dsimp only
    refine st_seq (tAsgC ?_)
    dsimp only
    refine st_seq (join (fun σ' H' => ∃ q : Int, σ' = [some (.ref a), some (.ref S), some (.int r1), some (.str o.txt), some (.int q), none, none, none, none, none, none] ∧ StA H' S L ∧ 1 ≤ q ∧ r1 + q ≤ 64 ∧ (o ≠ .same → q = 1)) ?_ ?_)
    · intro D' hD'
      refine ⟨_, rfl, rfl, _, rfl, ?_⟩
      refine ifD (fun e => ?_) (fun e => ?_)
      · refine ⟨_, rfl, _, rfl, _, _, rfl, rfl, ?_⟩
        refine ⟨S, L, 64 - r1, rfl, st3, by omega, fun r3 H4 r30 r31 st4 _ => ?_⟩
        have r32 := r31 (by omega)
        refine ⟨_, _, rfl, rfl, ?_⟩
        refine hD' _ _ ⟨1 + r3, rfl, st4, by omega, by omega, fun z => absurd (V.str.inj e) ?_⟩
        cases o
        · exact absurd rfl z
        · decide +kernel
        · decide +kernel
      · exact hD' _ _ ⟨1, rfl, st3, by decide, by omega, fun _ => rfl⟩
    rintro σ' H4 ⟨q, rfl, st4, hq, hsq, ho⟩
    -- the scale
    refine ⟨_, rfl, _, rfl, _, rfl, rfl, rfl, fun p dx hp hdx hdp => ?_⟩
    have np := st4.new hp
    have ndx := st4.new hdx
    have st5 : StA (upd (upd H4 dx (.own p)) p (.ins C dx [])) S L := by
      refine st4.same fun b o' e => ?_
      rw [upd_ne (ne_of_none e hp), upd_ne (ne_of_none e hdx)]; exact e
    refine ⟨p, dx, r1, q, o, rfl, r10, hq, hsq, ho, upd_same, fun H6 b6 cut => ⟨rfl, ?_⟩⟩
    have st6 := st5.but b6 np.1.symm np.2.symm
    obtain ⟨dx6, nm, l, d, hp6, _⟩ := cut
    have npS := st6.ne hp6 (by intro xs z; cases z)
    -- the size
    refine ⟨_, rfl, _, rfl, _, _, rfl, rfl, ?_⟩
    refine ⟨_, rfl, S, L, 30, rfl, st6, by decide, fun r4 H7 r40 r41 st7 kp7 => ?_⟩
    have r42 := r41 (by decide)
    have hp7 := kp7 _ _ hp6 npS.1 npS.2
    refine ⟨_, _, rfl, rfl, _, rfl, by omega, by omega, for_range (lo := 0) (n := (1 + r4).toNat) (fun i σ H8 => ∃ vk vw va vb, σ = [some (.ref a), some (.ref S), some (.int r1), some (.str o.txt), some (.int q), some (.ref p), some (.int (r1 + q)), vk, vw, va, vb] ∧ StA H8 S L ∧ H8 p = some (.ins C dx6 (cutFs r1 q o nm l d)))
      ⟨none, none, none, none, rfl, st7, hp7⟩ ?_ ?_⟩
    · rintro i σ H8 hi ⟨vk, vw, va, vb, rfl, st8, hp8⟩
      refine ⟨_, rfl, S, L, 4, rfl, st8, by decide, fun w H9 w0 w1 st9 kp9 => ?_⟩
      have hp9 := kp9 _ _ hp8 npS.1 npS.2
      refine ⟨_, rfl, _, rfl, S, L, r1 + q, rfl, st9, by omega, fun x H10 x0 x1 st10 kp10 => ?_⟩
      have hp10 := kp10 _ _ hp9 npS.1 npS.2
      have x2 := x1 (by omega)
      refine ⟨_, rfl, _, rfl, S, L, r1 + q, rfl, st10, by omega, fun y H11 y0 y1 st11 kp11 => ?_⟩
      have hp11 := kp11 _ _ hp10 npS.1 npS.2
      have y2 := y1 (by omega)
      refine gNameI ?_
      dsimp only
      refine st_seq (join (fun σ' H' => ∃ y : Int, 0 ≤ y ∧ y < r1 + q ∧ StA H' S L ∧ H' p = some (.ins C dx6 (cutFs r1 q o nm l d)) ∧ σ' = [some (.ref a), some (.ref S), some (.int r1), some (.str o.txt), some (.int q), some (.ref p), some (.int (r1 + q)), some (.int (0 + (i : Int))), some (.int w), some (.int x), some (.int y)]) ?_ ?_)
      · intro D' hD'
        refine ⟨_, rfl, rfl, _, rfl, ?_⟩
        refine ifD (fun e => ?_) (fun e => ?_)
        · exact ⟨_, rfl, hD' _ _ ⟨x, x0, x2, st11, hp11, rfl⟩⟩
        · exact hD' _ _ ⟨y, y0, y2, st11, hp11, rfl⟩
      clear y0 y2 y1 st11 hp11 kp11
      rintro σ' H11 ⟨y, y0, y2, st11, hp11, rfl⟩
      dsimp only
      refine st_seq (join (fun σ' H' => ∃ y : Int, 0 ≤ y ∧ y < r1 + q ∧ StA H' S L ∧ H' p = some (.ins C dx6 (cutFs r1 q o nm l d)) ∧ σ' = [some (.ref a), some (.ref S), some (.int r1), some (.str o.txt), some (.int q), some (.ref p), some (.int (r1 + q)), some (.int (0 + (i : Int))), some (.int w), some (.int x), some (.int y)]) ?_ ?_)
      · intro D' hD'
        refine ⟨_, rfl, rfl, _, rfl, ?_⟩
        refine ifD (fun e => ?_) (fun e => ?_)
        · refine ⟨_, rfl, _, _, rfl, rfl, _, rfl, _, _, rfl, rfl, _, rfl, ?_⟩
          refine ifD (fun e => ?_) (fun e => ?_)
          · exact ⟨_, rfl, _, _, rfl, rfl, hD' _ _ ⟨x + 1, by omega, e, st11, hp11, rfl⟩⟩
          · exact hD' _ _ ⟨y, y0, y2, st11, hp11, rfl⟩
        · exact hD' _ _ ⟨y, y0, y2, st11, hp11, rfl⟩
      clear y0 y2 st11 hp11
      rintro σ' H11 ⟨y, y0, y2, st11, hp11, rfl⟩
      have ob : ObCut C H11 p (r1 + q).toNat (wi o) := ⟨r1, q, o, dx6, nm, l, d, r10, hq, hsq, rfl, rfl, hp11⟩
      have cw : fld (cutFs r1 q o nm l d) "within_at" = none := cut_none (by decide +kernel)
      have cb : fld (cutFs r1 q o nm l d) "bound_at" = none := cut_none (by decide +kernel)
      refine ⟨_, rfl, p, dx6, _, rfl, hp11, cw, _, rfl, _, rfl, p, (r1 + q).toNat, wi o, x, y, rfl, ob, x0, by omega, y0, by omega, ?_⟩
      refine ⟨_, rfl, _, rfl, _, rfl, o, x, y, rfl, ?_⟩
      refine ⟨_, _, rfl, .bl _, _, rfl, ?_⟩
      refine iteF ?_
      refine ⟨_, rfl, p, dx6, _, rfl, hp11, cw, _, rfl, _, rfl, p, (r1 + q).toNat, wi o, y, x, rfl, ob, y0, by omega, x0, by omega, ?_⟩
      refine ⟨_, rfl, _, rfl, _, rfl, o, y, x, rfl, ?_⟩
      refine ⟨_, _, rfl, .bl _, _, rfl, ?_⟩
      refine iteF ?_
      refine ⟨_, rfl, _, _, rfl, rfl, _, rfl, ?_⟩
      refine ifD (fun hk6 => ?_) (fun hk6 => ?_)
      · refine ⟨_, rfl, p, dx6, _, rfl, hp11, cb, _, rfl, _, rfl, p, (r1 + q).toNat, wi o, x, y, rfl, ob, x0, by omega, y0, by omega, fun H12 sm12 => ?_⟩
        refine ⟨_, rfl, _, rfl, _, rfl, o, x, y, rfl, ?_⟩
        have e : optV (boundI (r1 + q).toNat (wi o) x y) = lawB o x y := bound_law x0 (by omega) y0 (by omega)
        refine ⟨_, _, rfl, ?_, _, rfl, ?_⟩
        · rw [e]
          unfold lawB
          split
          · exact .int _
          · split
            · exact .int _
            · exact .non
        · refine iteF ?_
          exact ⟨_, _, _, _, rfl, st11.same sm12, sm12 _ _ hp11⟩
      · refine iteF ?_
        exact ⟨_, _, _, _, rfl, st11, hp11⟩
    · rintro σ H8 ⟨vk, vw, va, vb, rfl, st8, hp8⟩
      exact k H8
end
theorem all_mk {l : PySem.W.OpenLaw} {w : World} {K : PySem.W.Frag} {h : Heap} {mg : Str → Option Value} {fa : Addr} (X : K.In h) (G : h.Ns mainGlobals mg) (hfa : mg "law" = some (.ref fa))
    {C_CutScale : Addr}
    {C_Scale : Addr}
    {C_ListedScale : Addr}
    {f_item_of_run : Addr} {oc_item_of_run kV_item_of_run dc_item_of_run pm_item_of_run cd_item_of_run ct_item_of_run : Value} {od_item_of_run an_item_of_run : Option Addr} {sl_item_of_run : Array (Option Value)}
    {f__law_draws : Addr} {oc__law_draws kV__law_draws dc__law_draws pm__law_draws cd__law_draws ct__law_draws : Value} {od__law_draws an__law_draws : Option Addr} {sl__law_draws : Array (Option Value)}
    {f__law_draw : Addr} {oc__law_draw kV__law_draw dc__law_draw pm__law_draw cd__law_draw ct__law_draw : Value} {od__law_draw an__law_draw : Option Addr} {sl__law_draw : Array (Option Value)}
    {f__law_same : Addr} {oc__law_same kV__law_same dc__law_same pm__law_same cd__law_same ct__law_same : Value} {od__law_same an__law_same : Option Addr} {sl__law_same : Array (Option Value)}
    {f__law_within : Addr} {oc__law_within kV__law_within dc__law_within pm__law_within cd__law_within ct__law_within : Value} {od__law_within an__law_within : Option Addr} {sl__law_within : Array (Option Value)}
    {f__law_bound : Addr} {oc__law_bound kV__law_bound dc__law_bound pm__law_bound cd__law_bound ct__law_bound : Value} {od__law_bound an__law_bound : Option Addr} {sl__law_bound : Array (Option Value)}
    {f_law : Addr} {oc_law kV_law dc_law pm_law cd_law ct_law : Value} {od_law an_law : Option Addr} {sl_law : Array (Option Value)}
    {f_CutScale___init__ : Addr} {oc_CutScale___init__ kV_CutScale___init__ dc_CutScale___init__ pm_CutScale___init__ cd_CutScale___init__ ct_CutScale___init__ : Value} {od_CutScale___init__ an_CutScale___init__ : Option Addr} {sl_CutScale___init__ : Array (Option Value)}
    {f_CutScale_brought_back : Addr} {oc_CutScale_brought_back kV_CutScale_brought_back dc_CutScale_brought_back pm_CutScale_brought_back cd_CutScale_brought_back ct_CutScale_brought_back : Value} {od_CutScale_brought_back an_CutScale_brought_back : Option Addr} {sl_CutScale_brought_back : Array (Option Value)}
    {f_CutScale_within_at : Addr} {oc_CutScale_within_at kV_CutScale_within_at dc_CutScale_within_at pm_CutScale_within_at cd_CutScale_within_at ct_CutScale_within_at : Value} {od_CutScale_within_at an_CutScale_within_at : Option Addr} {sl_CutScale_within_at : Array (Option Value)}
    {f_CutScale_places : Addr} {oc_CutScale_places kV_CutScale_places dc_CutScale_places pm_CutScale_places cd_CutScale_places ct_CutScale_places : Value} {od_CutScale_places an_CutScale_places : Option Addr} {sl_CutScale_places : Array (Option Value)}
    {f_CutScale_within_all : Addr} {oc_CutScale_within_all kV_CutScale_within_all dc_CutScale_within_all pm_CutScale_within_all cd_CutScale_within_all ct_CutScale_within_all : Value} {od_CutScale_within_all an_CutScale_within_all : Option Addr} {sl_CutScale_within_all : Array (Option Value)}
    {f_CutScale_bound_at : Addr} {oc_CutScale_bound_at kV_CutScale_bound_at dc_CutScale_bound_at pm_CutScale_bound_at cd_CutScale_bound_at ct_CutScale_bound_at : Value} {od_CutScale_bound_at an_CutScale_bound_at : Option Addr} {sl_CutScale_bound_at : Array (Option Value)}
    {f_cf_Scale___init__ : Addr} {oc_cf_Scale___init__ kV_cf_Scale___init__ dc_cf_Scale___init__ pm_cf_Scale___init__ cd_cf_Scale___init__ ct_cf_Scale___init__ : Value} {od_cf_Scale___init__ an_cf_Scale___init__ : Option Addr} {sl_cf_Scale___init__ : Array (Option Value)}
    {f_cf_ListedScale___init__ : Addr} {oc_cf_ListedScale___init__ kV_cf_ListedScale___init__ dc_cf_ListedScale___init__ pm_cf_ListedScale___init__ cd_cf_ListedScale___init__ ct_cf_ListedScale___init__ : Value} {od_cf_ListedScale___init__ an_cf_ListedScale___init__ : Option Addr} {sl_cf_ListedScale___init__ : Array (Option Value)}
    {t_MOST_DEPTH : Tok}
    {t_MOST_GRADES : Tok}
    {aO : Addr}
    {dO : Option Addr} {nO : Nat} {t1 t2 t3 : Tok} {slO : Array (Option Value)}
    (aC_CutScale : PySem.W.nsIn K mainGlobals "CutScale" = some (some (.ref C_CutScale)))
    (pg_CutScale : PySem.W.plainGet K C_CutScale Str.empty = true)
    (hd_CutScale : PySem.W.hasDictIn K C_CutScale = true)
    (po_CutScale : PySem.W.plainOver K C_CutScale = true)
    (sa_CutScale : PySem.W.findIn K (.ref C_CutScale) "__setattr__" = some (some (.builtin "object.__setattr__")))
    (mk_CutScale : PySem.W.makesIn K C_CutScale = true)
    (kc_CutScale : PySem.W.keepIn K (.ref C_CutScale) = true)
    (aC_Scale : PySem.W.nsIn K mainGlobals "Scale" = some (some (.ref C_Scale)))
    (aC_ListedScale : PySem.W.nsIn K mainGlobals "ListedScale" = some (some (.ref C_ListedScale)))
    (a_item_of_run : PySem.W.nsIn K mainGlobals "item_of_run" = some (some (.ref f_item_of_run)))
    (l_item_of_run : K.lookup f_item_of_run = some ⟨oc_item_of_run, od_item_of_run, .func (PySem.W.fnOf "item_of_run" "item_of_run" (defArgs (top 2)) (defBody (top 2)) (defScope (top 2)) .none kV_item_of_run dc_item_of_run pm_item_of_run an_item_of_run cd_item_of_run ct_item_of_run), sl_item_of_run⟩)
    (c_item_of_run : PySem.W.codeIn K cd_item_of_run "item_of_run" = true)
    (k_item_of_run : PySem.W.keepIn K (.ref f_item_of_run) = true)
    (a__law_draws : PySem.W.nsIn K mainGlobals "_law_draws" = some (some (.ref f__law_draws)))
    (l__law_draws : K.lookup f__law_draws = some ⟨oc__law_draws, od__law_draws, .func (PySem.W.fnOf "_law_draws" "_law_draws" (defArgs (top 16)) (defBody (top 16)) (defScope (top 16)) .none kV__law_draws dc__law_draws pm__law_draws an__law_draws cd__law_draws ct__law_draws), sl__law_draws⟩)
    (c__law_draws : PySem.W.codeIn K cd__law_draws "_law_draws" = true)
    (k__law_draws : PySem.W.keepIn K (.ref f__law_draws) = true)
    (a__law_draw : PySem.W.nsIn K mainGlobals "_law_draw" = some (some (.ref f__law_draw)))
    (l__law_draw : K.lookup f__law_draw = some ⟨oc__law_draw, od__law_draw, .func (PySem.W.fnOf "_law_draw" "_law_draw" (defArgs (top 17)) (defBody (top 17)) (defScope (top 17)) .none kV__law_draw dc__law_draw pm__law_draw an__law_draw cd__law_draw ct__law_draw), sl__law_draw⟩)
    (c__law_draw : PySem.W.codeIn K cd__law_draw "_law_draw" = true)
    (k__law_draw : PySem.W.keepIn K (.ref f__law_draw) = true)
    (a__law_same : PySem.W.nsIn K mainGlobals "_law_same" = some (some (.ref f__law_same)))
    (l__law_same : K.lookup f__law_same = some ⟨oc__law_same, od__law_same, .func (PySem.W.fnOf "_law_same" "_law_same" (defArgs (top 18)) (defBody (top 18)) (defScope (top 18)) .none kV__law_same dc__law_same pm__law_same an__law_same cd__law_same ct__law_same), sl__law_same⟩)
    (c__law_same : PySem.W.codeIn K cd__law_same "_law_same" = true)
    (k__law_same : PySem.W.keepIn K (.ref f__law_same) = true)
    (a__law_within : PySem.W.nsIn K mainGlobals "_law_within" = some (some (.ref f__law_within)))
    (l__law_within : K.lookup f__law_within = some ⟨oc__law_within, od__law_within, .func (PySem.W.fnOf "_law_within" "_law_within" (defArgs (top 19)) (defBody (top 19)) (defScope (top 19)) .none kV__law_within dc__law_within pm__law_within an__law_within cd__law_within ct__law_within), sl__law_within⟩)
    (c__law_within : PySem.W.codeIn K cd__law_within "_law_within" = true)
    (k__law_within : PySem.W.keepIn K (.ref f__law_within) = true)
    (a__law_bound : PySem.W.nsIn K mainGlobals "_law_bound" = some (some (.ref f__law_bound)))
    (l__law_bound : K.lookup f__law_bound = some ⟨oc__law_bound, od__law_bound, .func (PySem.W.fnOf "_law_bound" "_law_bound" (defArgs (top 20)) (defBody (top 20)) (defScope (top 20)) .none kV__law_bound dc__law_bound pm__law_bound an__law_bound cd__law_bound ct__law_bound), sl__law_bound⟩)
    (c__law_bound : PySem.W.codeIn K cd__law_bound "_law_bound" = true)
    (k__law_bound : PySem.W.keepIn K (.ref f__law_bound) = true)
    (a_law : PySem.W.nsIn K mainGlobals "law" = some (some (.ref f_law)))
    (l_law : K.lookup f_law = some ⟨oc_law, od_law, .func (PySem.W.fnOf "law" "law" (defArgs (top 21)) (defBody (top 21)) (defScope (top 21)) .none kV_law dc_law pm_law an_law cd_law ct_law), sl_law⟩)
    (c_law : PySem.W.codeIn K cd_law "law" = true)
    (k_law : PySem.W.keepIn K (.ref f_law) = true)
    (a_CutScale___init__ : PySem.W.findIn K (.ref C_CutScale) "__init__" = some (some (.ref f_CutScale___init__)))
    (i_CutScale___init__ : PySem.W.isFn K (.ref f_CutScale___init__) = true)
    (l_CutScale___init__ : K.lookup f_CutScale___init__ = some ⟨oc_CutScale___init__, od_CutScale___init__, .func (PySem.W.fnOf "__init__" "CutScale.__init__" (defArgs (inClass (top 14) 0)) (defBody (inClass (top 14) 0)) (defScope (inClass (top 14) 0)) .none kV_CutScale___init__ dc_CutScale___init__ pm_CutScale___init__ an_CutScale___init__ cd_CutScale___init__ ct_CutScale___init__), sl_CutScale___init__⟩)
    (c_CutScale___init__ : PySem.W.codeIn K cd_CutScale___init__ "CutScale.__init__" = true)
    (k_CutScale___init__ : PySem.W.keepIn K (.ref f_CutScale___init__) = true)
    (a_CutScale_brought_back : PySem.W.findIn K (.ref C_CutScale) "brought_back" = some (some (.ref f_CutScale_brought_back)))
    (i_CutScale_brought_back : PySem.W.isFn K (.ref f_CutScale_brought_back) = true)
    (l_CutScale_brought_back : K.lookup f_CutScale_brought_back = some ⟨oc_CutScale_brought_back, od_CutScale_brought_back, .func (PySem.W.fnOf "brought_back" "CutScale.brought_back" (defArgs (inClass (top 14) 1)) (defBody (inClass (top 14) 1)) (defScope (inClass (top 14) 1)) .none kV_CutScale_brought_back dc_CutScale_brought_back pm_CutScale_brought_back an_CutScale_brought_back cd_CutScale_brought_back ct_CutScale_brought_back), sl_CutScale_brought_back⟩)
    (c_CutScale_brought_back : PySem.W.codeIn K cd_CutScale_brought_back "CutScale.brought_back" = true)
    (k_CutScale_brought_back : PySem.W.keepIn K (.ref f_CutScale_brought_back) = true)
    (a_CutScale_within_at : PySem.W.findIn K (.ref C_CutScale) "within_at" = some (some (.ref f_CutScale_within_at)))
    (i_CutScale_within_at : PySem.W.isFn K (.ref f_CutScale_within_at) = true)
    (l_CutScale_within_at : K.lookup f_CutScale_within_at = some ⟨oc_CutScale_within_at, od_CutScale_within_at, .func (PySem.W.fnOf "within_at" "CutScale.within_at" (defArgs (inClass (top 14) 4)) (defBody (inClass (top 14) 4)) (defScope (inClass (top 14) 4)) .none kV_CutScale_within_at dc_CutScale_within_at pm_CutScale_within_at an_CutScale_within_at cd_CutScale_within_at ct_CutScale_within_at), sl_CutScale_within_at⟩)
    (c_CutScale_within_at : PySem.W.codeIn K cd_CutScale_within_at "CutScale.within_at" = true)
    (k_CutScale_within_at : PySem.W.keepIn K (.ref f_CutScale_within_at) = true)
    (a_CutScale_places : PySem.W.findIn K (.ref C_CutScale) "places" = some (some (.ref f_CutScale_places)))
    (i_CutScale_places : PySem.W.isFn K (.ref f_CutScale_places) = true)
    (l_CutScale_places : K.lookup f_CutScale_places = some ⟨oc_CutScale_places, od_CutScale_places, .func (PySem.W.fnOf "places" "Scale.places" (defArgs (inClass (top 10) 1)) (defBody (inClass (top 10) 1)) (defScope (inClass (top 10) 1)) .none kV_CutScale_places dc_CutScale_places pm_CutScale_places an_CutScale_places cd_CutScale_places ct_CutScale_places), sl_CutScale_places⟩)
    (c_CutScale_places : PySem.W.codeIn K cd_CutScale_places "Scale.places" = true)
    (k_CutScale_places : PySem.W.keepIn K (.ref f_CutScale_places) = true)
    (a_CutScale_within_all : PySem.W.findIn K (.ref C_CutScale) "within_all" = some (some (.ref f_CutScale_within_all)))
    (i_CutScale_within_all : PySem.W.isFn K (.ref f_CutScale_within_all) = true)
    (l_CutScale_within_all : K.lookup f_CutScale_within_all = some ⟨oc_CutScale_within_all, od_CutScale_within_all, .func (PySem.W.fnOf "within_all" "Scale.within_all" (defArgs (inClass (top 10) 6)) (defBody (inClass (top 10) 6)) (defScope (inClass (top 10) 6)) .none kV_CutScale_within_all dc_CutScale_within_all pm_CutScale_within_all an_CutScale_within_all cd_CutScale_within_all ct_CutScale_within_all), sl_CutScale_within_all⟩)
    (c_CutScale_within_all : PySem.W.codeIn K cd_CutScale_within_all "Scale.within_all" = true)
    (k_CutScale_within_all : PySem.W.keepIn K (.ref f_CutScale_within_all) = true)
    (a_CutScale_bound_at : PySem.W.findIn K (.ref C_CutScale) "bound_at" = some (some (.ref f_CutScale_bound_at)))
    (i_CutScale_bound_at : PySem.W.isFn K (.ref f_CutScale_bound_at) = true)
    (l_CutScale_bound_at : K.lookup f_CutScale_bound_at = some ⟨oc_CutScale_bound_at, od_CutScale_bound_at, .func (PySem.W.fnOf "bound_at" "Scale.bound_at" (defArgs (inClass (top 10) 5)) (defBody (inClass (top 10) 5)) (defScope (inClass (top 10) 5)) .none kV_CutScale_bound_at dc_CutScale_bound_at pm_CutScale_bound_at an_CutScale_bound_at cd_CutScale_bound_at ct_CutScale_bound_at), sl_CutScale_bound_at⟩)
    (c_CutScale_bound_at : PySem.W.codeIn K cd_CutScale_bound_at "Scale.bound_at" = true)
    (k_CutScale_bound_at : PySem.W.keepIn K (.ref f_CutScale_bound_at) = true)
    (a_cf_Scale___init__ : PySem.W.findCls K (.ref C_Scale) (.type "type") "__init__" = some (.val (.ref f_cf_Scale___init__)))
    (l_cf_Scale___init__ : K.lookup f_cf_Scale___init__ = some ⟨oc_cf_Scale___init__, od_cf_Scale___init__, .func (PySem.W.fnOf "__init__" "Scale.__init__" (defArgs (inClass (top 10) 0)) (defBody (inClass (top 10) 0)) (defScope (inClass (top 10) 0)) .none kV_cf_Scale___init__ dc_cf_Scale___init__ pm_cf_Scale___init__ an_cf_Scale___init__ cd_cf_Scale___init__ ct_cf_Scale___init__), sl_cf_Scale___init__⟩)
    (c_cf_Scale___init__ : PySem.W.codeIn K cd_cf_Scale___init__ "Scale.__init__" = true)
    (k_cf_Scale___init__ : PySem.W.keepIn K (.ref f_cf_Scale___init__) = true)
    (rd_cf_Scale___init__ : PySem.W.readsIn K C_Scale (.type "type") = true)
    (ga_cf_Scale___init__ : PySem.W.specialIn K (.ref C_Scale) "__getattribute__" = some (some (.builtin "type.__getattribute__")))
    (a_cf_ListedScale___init__ : PySem.W.findCls K (.ref C_ListedScale) (.type "type") "__init__" = some (.val (.ref f_cf_ListedScale___init__)))
    (l_cf_ListedScale___init__ : K.lookup f_cf_ListedScale___init__ = some ⟨oc_cf_ListedScale___init__, od_cf_ListedScale___init__, .func (PySem.W.fnOf "__init__" "ListedScale.__init__" (defArgs (inClass (top 11) 0)) (defBody (inClass (top 11) 0)) (defScope (inClass (top 11) 0)) .none kV_cf_ListedScale___init__ dc_cf_ListedScale___init__ pm_cf_ListedScale___init__ an_cf_ListedScale___init__ cd_cf_ListedScale___init__ ct_cf_ListedScale___init__), sl_cf_ListedScale___init__⟩)
    (c_cf_ListedScale___init__ : PySem.W.codeIn K cd_cf_ListedScale___init__ "ListedScale.__init__" = true)
    (k_cf_ListedScale___init__ : PySem.W.keepIn K (.ref f_cf_ListedScale___init__) = true)
    (rd_cf_ListedScale___init__ : PySem.W.readsIn K C_ListedScale (.type "type") = true)
    (ga_cf_ListedScale___init__ : PySem.W.specialIn K (.ref C_ListedScale) "__getattribute__" = some (some (.builtin "type.__getattribute__")))
    (n_CutScale_label : PySem.W.findIn K (.ref C_CutScale) "label" = some none)
    (n_CutScale_size : PySem.W.findIn K (.ref C_CutScale) "size" = some none)
    (n_CutScale_zero_at : PySem.W.findIn K (.ref C_CutScale) "zero_at" = some none)
    (n_CutScale_one_at : PySem.W.findIn K (.ref C_CutScale) "one_at" = some none)
    (n_CutScale_depth : PySem.W.findIn K (.ref C_CutScale) "depth" = some none)
    (n_CutScale__names : PySem.W.findIn K (.ref C_CutScale) "_names" = some none)
    (n_CutScale__found : PySem.W.findIn K (.ref C_CutScale) "_found" = some none)
    (n_CutScale__numbers : PySem.W.findIn K (.ref C_CutScale) "_numbers" = some none)
    (n_CutScale__start : PySem.W.findIn K (.ref C_CutScale) "_start" = some none)
    (n_CutScale__order : PySem.W.findIn K (.ref C_CutScale) "_order" = some none)
    (z_int : PySem.W.nsIn K mainGlobals "int" = some none)
    (z_len : PySem.W.nsIn K mainGlobals "len" = some none)
    (z_range : PySem.W.nsIn K mainGlobals "range" = some none)
    (z_isinstance : PySem.W.nsIn K mainGlobals "isinstance" = some none)
    (z_bool : PySem.W.nsIn K mainGlobals "bool" = some none)
    (z_str : PySem.W.nsIn K mainGlobals "str" = some none)
    (z_tuple : PySem.W.nsIn K mainGlobals "tuple" = some none)
    (z_list : PySem.W.nsIn K mainGlobals "list" = some none)
    (g_MOST_DEPTH : PySem.W.nsIn K mainGlobals "MOST_DEPTH" = some (some (.int 20 t_MOST_DEPTH)))
    (g_MOST_GRADES : PySem.W.nsIn K mainGlobals "MOST_GRADES" = some (some (.int 64 t_MOST_GRADES)))
    (g_ORDERS : PySem.W.nsIn K mainGlobals "ORDERS" = some (some (.ref aO)))
    (l_ORDERS : K.lookup aO = some ⟨.type "tuple", dO, .seq #[.str "same" t1, .str "up" t2, .str "down" t3] nO, slO⟩)
    : ∃ fd : FuncData, (∀ (s : Shared) (v : Value), BindsTo s fd ⟨[v], []⟩ [("_law_script", v)]) ∧ ∀ base : Heap, K.In base → base.Ns mainGlobals mg → FnOk l.prog w K mg base CX0 5 fa fd ["_law_script"] (spLaw K) := by
  have e := hfa.symm.trans (PySem.W.mg_of X G a_law)
  cases e
  have g_CutScale := PySem.W.mg_of X G aC_CutScale
  have cl_CutScale : Cls K C_CutScale := ⟨pg_CutScale, hd_CutScale, po_CutScale, sa_CutScale⟩
  have g_Scale := PySem.W.mg_of X G aC_Scale
  have g_ListedScale := PySem.W.mg_of X G aC_ListedScale
  have F_item_of_run := fun_mk (st := (top 2)) l_item_of_run c_item_of_run k_item_of_run
  have g_item_of_run := PySem.W.mg_of X G a_item_of_run
  have b_item_of_run := F_item_of_run.binds (ps := ["trail", "back", "index"]) fun _ _ _ _ _ _ us hl => match us, hl with | [_, _, _], _ => rfl
  have F__law_draws := fun_mk (st := (top 16)) l__law_draws c__law_draws k__law_draws
  have g__law_draws := PySem.W.mg_of X G a__law_draws
  have b__law_draws := F__law_draws.binds (ps := ["_law_script"]) fun _ _ _ _ _ _ us hl => match us, hl with | [_], _ => rfl
  have F__law_draw := fun_mk (st := (top 17)) l__law_draw c__law_draw k__law_draw
  have g__law_draw := PySem.W.mg_of X G a__law_draw
  have b__law_draw := F__law_draw.binds (ps := ["_law_state", "_law_many"]) fun _ _ _ _ _ _ us hl => match us, hl with | [_, _], _ => rfl
  have F__law_same := fun_mk (st := (top 18)) l__law_same c__law_same k__law_same
  have g__law_same := PySem.W.mg_of X G a__law_same
  have b__law_same := F__law_same.binds (ps := ["_law_found", "_law_due"]) fun _ _ _ _ _ _ us hl => match us, hl with | [_, _], _ => rfl
  have F__law_within := fun_mk (st := (top 19)) l__law_within c__law_within k__law_within
  have g__law_within := PySem.W.mg_of X G a__law_within
  have b__law_within := F__law_within.binds (ps := ["_law_sort", "_law_a", "_law_b"]) fun _ _ _ _ _ _ us hl => match us, hl with | [_, _, _], _ => rfl
  have F__law_bound := fun_mk (st := (top 20)) l__law_bound c__law_bound k__law_bound
  have g__law_bound := PySem.W.mg_of X G a__law_bound
  have b__law_bound := F__law_bound.binds (ps := ["_law_sort", "_law_a", "_law_b"]) fun _ _ _ _ _ _ us hl => match us, hl with | [_, _, _], _ => rfl
  have F_law := fun_mk (st := (top 21)) l_law c_law k_law
  have g_law := PySem.W.mg_of X G a_law
  have F_CutScale___init__ := fun_mk (st := (inClass (top 14) 0)) l_CutScale___init__ c_CutScale___init__ k_CutScale___init__
  have me_CutScale___init__ : Meth K C_CutScale "__init__" f_CutScale___init__ := ⟨a_CutScale___init__, i_CutScale___init__, k_CutScale___init__⟩
  have F_CutScale_brought_back := fun_mk (st := (inClass (top 14) 1)) l_CutScale_brought_back c_CutScale_brought_back k_CutScale_brought_back
  have me_CutScale_brought_back : Meth K C_CutScale "brought_back" f_CutScale_brought_back := ⟨a_CutScale_brought_back, i_CutScale_brought_back, k_CutScale_brought_back⟩
  have b_CutScale_brought_back := F_CutScale_brought_back.binds (ps := ["self", "number"]) fun _ _ _ _ _ _ us hl => match us, hl with | [_, _], _ => rfl
  have F_CutScale_within_at := fun_mk (st := (inClass (top 14) 4)) l_CutScale_within_at c_CutScale_within_at k_CutScale_within_at
  have me_CutScale_within_at : Meth K C_CutScale "within_at" f_CutScale_within_at := ⟨a_CutScale_within_at, i_CutScale_within_at, k_CutScale_within_at⟩
  have b_CutScale_within_at := F_CutScale_within_at.binds (ps := ["self", "first", "second"]) fun _ _ _ _ _ _ us hl => match us, hl with | [_, _, _], _ => rfl
  have F_CutScale_places := fun_mk (st := (inClass (top 10) 1)) l_CutScale_places c_CutScale_places k_CutScale_places
  have me_CutScale_places : Meth K C_CutScale "places" f_CutScale_places := ⟨a_CutScale_places, i_CutScale_places, k_CutScale_places⟩
  have b_CutScale_places := F_CutScale_places.binds (ps := ["self"]) fun _ _ _ _ _ _ us hl => match us, hl with | [_], _ => rfl
  have F_CutScale_within_all := fun_mk (st := (inClass (top 10) 6)) l_CutScale_within_all c_CutScale_within_all k_CutScale_within_all
  have me_CutScale_within_all : Meth K C_CutScale "within_all" f_CutScale_within_all := ⟨a_CutScale_within_all, i_CutScale_within_all, k_CutScale_within_all⟩
  have b_CutScale_within_all := F_CutScale_within_all.binds (ps := ["self", "place", "others"]) fun _ _ _ _ _ _ us hl => match us, hl with | [_, _, _], _ => rfl
  have F_CutScale_bound_at := fun_mk (st := (inClass (top 10) 5)) l_CutScale_bound_at c_CutScale_bound_at k_CutScale_bound_at
  have me_CutScale_bound_at : Meth K C_CutScale "bound_at" f_CutScale_bound_at := ⟨a_CutScale_bound_at, i_CutScale_bound_at, k_CutScale_bound_at⟩
  have b_CutScale_bound_at := F_CutScale_bound_at.binds (ps := ["self", "first", "second"]) fun _ _ _ _ _ _ us hl => match us, hl with | [_, _, _], _ => rfl
  have F_cf_Scale___init__ := fun_mk (st := (inClass (top 10) 0)) l_cf_Scale___init__ c_cf_Scale___init__ k_cf_Scale___init__
  have cfn_cf_Scale___init__ : CFn K C_Scale (.type "type") "__init__" f_cf_Scale___init__ := ⟨rd_cf_Scale___init__, ga_cf_Scale___init__, a_cf_Scale___init__, k_cf_Scale___init__⟩
  have b_cf_Scale___init__ := F_cf_Scale___init__.binds (ps := ["self", "label", "size", "zero_at", "one_at", "depth"]) fun _ _ _ _ _ _ us hl => match us, hl with | [_, _, _, _, _, _], _ => rfl
  have F_cf_ListedScale___init__ := fun_mk (st := (inClass (top 11) 0)) l_cf_ListedScale___init__ c_cf_ListedScale___init__ k_cf_ListedScale___init__
  have cfn_cf_ListedScale___init__ : CFn K C_ListedScale (.type "type") "__init__" f_cf_ListedScale___init__ := ⟨rd_cf_ListedScale___init__, ga_cf_ListedScale___init__, a_cf_ListedScale___init__, k_cf_ListedScale___init__⟩
  have b_cf_ListedScale___init__ := F_cf_ListedScale___init__.binds (ps := ["self", "label", "names", "zero_at", "one_at"]) fun _ _ _ _ _ _ us hl => match us, hl with | [_, _, _, _, _], _ => rfl
  have zn_int := PySem.W.mg_none_of X G z_int
  have zn_len := PySem.W.mg_none_of X G z_len
  have zn_range := PySem.W.mg_none_of X G z_range
  have zn_isinstance := PySem.W.mg_none_of X G z_isinstance
  have zn_bool := PySem.W.mg_none_of X G z_bool
  have zn_str := PySem.W.mg_none_of X G z_str
  have zn_tuple := PySem.W.mg_none_of X G z_tuple
  have zn_list := PySem.W.mg_none_of X G z_list
  have gi_MOST_DEPTH : ∃ u, mg "MOST_DEPTH" = some u ∧ RelV (.int 20) u := ⟨_, PySem.W.mg_of X G g_MOST_DEPTH, ⟨_, rfl⟩⟩
  have gi_MOST_GRADES : ∃ u, mg "MOST_GRADES" = some u ∧ RelV (.int 64) u := ⟨_, PySem.W.mg_of X G g_MOST_GRADES, ⟨_, rfl⟩⟩
  have go_ORDERS := PySem.W.mg_of X G g_ORDERS
  refine ⟨PySem.W.fnOf "law" "law" (defArgs (top 21)) (defBody (top 21)) (defScope (top 21)) .none kV_law dc_law pm_law an_law cd_law ct_law, fun s v => .of_eq rfl, fun base _ _ => ?_⟩
  have TL : TxL K mg := ⟨zn_int, zn_len, zn_range, zn_isinstance, zn_bool, zn_str, zn_tuple, zn_list⟩
  have TC : TxC K mg := ⟨TL, gi_MOST_DEPTH, gi_MOST_GRADES⟩
  have TF : TxF K mg aO := ⟨TC, ⟨_, go_ORDERS, rfl⟩, fun H => .inr ⟨_, _, _, l_ORDERS, rfl, rfl, (by show 3 ≤ sizeLine; decide), .cons ⟨_, rfl⟩ (.cons ⟨_, rfl⟩ (.cons ⟨_, rfl⟩ .nil))⟩⟩
  have CC : CCls K C_CutScale := ⟨⟨⟨cl_CutScale, n_CutScale_label, n_CutScale_size, n_CutScale_zero_at, n_CutScale_one_at, n_CutScale_depth⟩, n_CutScale__names, n_CutScale__found⟩, n_CutScale__numbers, n_CutScale__start, n_CutScale__order⟩
  have cal_item : Cal l.prog w K mg base CX0 1 "item_of_run" (spItem K) := ⟨_, _, _, ok_item F_item_of_run TC, g_item_of_run, k_item_of_run, b_item_of_run⟩
  have cf_scale : CFB l.prog w K mg base CX0 1 "Scale" "__init__" (spScaleInit K) := ⟨_, _, _, _, _, g_Scale, cfn_cf_Scale___init__, ok_scale_init F_cf_Scale___init__ TC, b_cf_Scale___init__⟩
  have cf_listed : CFB l.prog w K mg base CX0 2 "ListedScale" "__init__" (spListedInit K) := ⟨_, _, _, _, _, g_ListedScale, cfn_cf_ListedScale___init__, ok_listed_init F_cf_ListedScale___init__ TC cf_scale, b_cf_ListedScale___init__⟩
  have m_back : Met l.prog w K mg base CX0 2 C_CutScale "brought_back" (spBack K C_CutScale) := ⟨_, _, _, cl_CutScale, me_CutScale_brought_back, ok_back F_CutScale_brought_back TC CC cal_item, b_CutScale_brought_back⟩
  have mkK : MakK l.prog w K mg base CX0 3 "CutScale" C_CutScale (spCutInit C_CutScale) 1 ["period", "order"] (fun vs zs => vs ++ zs) :=
    ⟨_, _, _, fun us ws => us ++ ws, ⟨mk_CutScale, a_CutScale___init__, i_CutScale___init__, kc_CutScale⟩, ok_cut_init F_CutScale___init__ TF CC cf_listed m_back, g_CutScale,
      ⟨fun s us ws _ l1 l2 => match us, l1, ws, l2 with | [_, _], _, [_, _], _ => .of_eq rfl, fun r1 r2 => r1.append r2⟩⟩
  have m_within : Met l.prog w K mg base CX0 1 C_CutScale "within_at" (spWithin (ObCut C_CutScale)) := ⟨_, _, _, cl_CutScale, me_CutScale_within_at, ok_cut_within F_CutScale_within_at CC, b_CutScale_within_at⟩
  have m_all : Met l.prog w K mg base CX0 2 C_CutScale "within_all" (spAll (ObCut C_CutScale)) := ⟨_, _, _, cl_CutScale, me_CutScale_within_all, ok_within_all F_CutScale_within_all (obCut_ok _) m_within, b_CutScale_within_all⟩
  have m_places : Met l.prog w K mg base CX0 1 C_CutScale "places" (spPlaces C_CutScale) := ⟨_, _, _, cl_CutScale, me_CutScale_places, ok_places F_CutScale_places TC CC.toSCls, b_CutScale_places⟩
  have m_bound : Met l.prog w K mg base CX0 3 C_CutScale "bound_at" (spBound (ObCut C_CutScale)) := ⟨_, _, _, cl_CutScale, me_CutScale_bound_at, ok_bound F_CutScale_bound_at (obCut_ok _) m_within m_all m_places, b_CutScale_bound_at⟩
  have cal_draws : Cal l.prog w K mg base CX0 1 "_law_draws" (spDraws K) := ⟨_, _, _, ok_draws F__law_draws TL, g__law_draws, k__law_draws, b__law_draws⟩
  have cal_draw : Cal l.prog w K mg base CX0 1 "_law_draw" spDraw := ⟨_, _, _, ok_draw F__law_draw TL, g__law_draw, k__law_draw, b__law_draw⟩
  have cal_same : Cal l.prog w K mg base CX0 1 "_law_same" (spSame 0) := ⟨_, _, _, ok_same F__law_same TL g__law_same b__law_same 0, g__law_same, k__law_same, b__law_same⟩
  have cal_lw : Cal l.prog w K mg base CX0 1 "_law_within" spLWithin := ⟨_, _, _, ok_lwithin F__law_within, g__law_within, k__law_within, b__law_within⟩
  have cal_lb : Cal l.prog w K mg base CX0 2 "_law_bound" spLBound := ⟨_, _, _, ok_lbound F__law_bound cal_lw, g__law_bound, k__law_bound, b__law_bound⟩
  exact ok_law F_law TL cal_draws cal_draw mkK m_within m_bound cal_same cal_lw cal_lb
theorem walk {l : PySem.W.OpenLaw} {q : Program} {loose : List Str} {XP : (Str → Option Value) → Heap → Prop} {YP : World → Heap → Prop} {d : DefRec} {K : Params → PySem.W.Frag} (hn : l.most = some 63) (hdf : d.params.defaults = [])
    (hY : ∀ (w : World) (h : Heap), YP w h → (K w.params).In h)
    (F : ∀ (w : World) (mg : Str → Option Value) (fa : Addr) (h : Heap), (K w.params).In h → h.Ns mainGlobals mg → mg d.name = some (.ref fa) →
      ∃ fd : FuncData, (∀ (s : Shared) (u : Value), BindsTo s fd ⟨[u], []⟩ [("_law_script", u)]) ∧ ∀ base : Heap, (K w.params).In base → base.Ns mainGlobals mg → FnOk l.prog w (K w.params) mg base CX0 5 fa fd ["_law_script"] (spLaw (K w.params))) :
    PySem.W.WalkO q loose XP YP l.row.toRowW d [] (fun f vs => PySem.call f vs) :=
  L2.walk_of (n := 63) (k := 5) (x := "_law_script") (CX := fun _ => CX0) (sp := fun w => spLaw (K w.params)) hn (by decide) hdf ⟨rfl, by decide, by decide⟩ hY F (fun _ _ a ns hl _ hS => ⟨a, ns, rfl, hS, hl, fun _ => rfl⟩) fun _ _ _ _ _ z => z
end Q
open PySem PySem.W PyProof.Rows
set_option maxRecDepth 100000 in
set_option maxHeartbeats 0 in
theorem PySem.Challenge.cw_usescale_k02_cut_orders_holds : PySem.Challenge.rw_usescale_k02_cut_orders.Holds := by
  w_on; o_law; k_head; (case hw => w_witness2)
  k_fill
  refine Q.walk (l := PySem.Challenge.rw_usescale_k02_cut_orders) rfl rfl (fun w h Y => PySem.W.kIn_of Y) ?F
  case F =>
    intro w mg fa h KX G hmg
    refine' Q.all_mk KX G hmg ?aC_CutScale ?pg_CutScale ?hd_CutScale ?po_CutScale ?sa_CutScale ?mk_CutScale ?kc_CutScale ?aC_Scale ?aC_ListedScale ?a_item_of_run ?l_item_of_run ?c_item_of_run ?k_item_of_run ?a__law_draws ?l__law_draws ?c__law_draws ?k__law_draws ?a__law_draw ?l__law_draw ?c__law_draw ?k__law_draw ?a__law_same ?l__law_same ?c__law_same ?k__law_same ?a__law_within ?l__law_within ?c__law_within ?k__law_within ?a__law_bound ?l__law_bound ?c__law_bound ?k__law_bound ?a_law ?l_law ?c_law ?k_law ?a_CutScale___init__ ?i_CutScale___init__ ?l_CutScale___init__ ?c_CutScale___init__ ?k_CutScale___init__ ?a_CutScale_brought_back ?i_CutScale_brought_back ?l_CutScale_brought_back ?c_CutScale_brought_back ?k_CutScale_brought_back ?a_CutScale_within_at ?i_CutScale_within_at ?l_CutScale_within_at ?c_CutScale_within_at ?k_CutScale_within_at ?a_CutScale_places ?i_CutScale_places ?l_CutScale_places ?c_CutScale_places ?k_CutScale_places ?a_CutScale_within_all ?i_CutScale_within_all ?l_CutScale_within_all ?c_CutScale_within_all ?k_CutScale_within_all ?a_CutScale_bound_at ?i_CutScale_bound_at ?l_CutScale_bound_at ?c_CutScale_bound_at ?k_CutScale_bound_at ?a_cf_Scale___init__ ?l_cf_Scale___init__ ?c_cf_Scale___init__ ?k_cf_Scale___init__ ?rd_cf_Scale___init__ ?ga_cf_Scale___init__ ?a_cf_ListedScale___init__ ?l_cf_ListedScale___init__ ?c_cf_ListedScale___init__ ?k_cf_ListedScale___init__ ?rd_cf_ListedScale___init__ ?ga_cf_ListedScale___init__ ?n_CutScale_label ?n_CutScale_size ?n_CutScale_zero_at ?n_CutScale_one_at ?n_CutScale_depth ?n_CutScale__names ?n_CutScale__found ?n_CutScale__numbers ?n_CutScale__start ?n_CutScale__order ?z_int ?z_len ?z_range ?z_isinstance ?z_bool ?z_str ?z_tuple ?z_list ?g_MOST_DEPTH ?g_MOST_GRADES ?g_ORDERS ?l_ORDERS
    (case aC_CutScale => k_is)
    (case pg_CutScale => k_is)
    (case hd_CutScale => k_is)
    (case po_CutScale => k_is)
    (case sa_CutScale => k_is)
    (case mk_CutScale => k_is)
    (case kc_CutScale => k_is)
    (case aC_Scale => k_is)
    (case aC_ListedScale => k_is)
    (case a_item_of_run => k_is)
    (case l_item_of_run => k_is)
    (case c_item_of_run => k_is)
    (case k_item_of_run => k_is)
    (case a__law_draws => k_is)
    (case l__law_draws => k_is)
    (case c__law_draws => k_is)
    (case k__law_draws => k_is)
    (case a__law_draw => k_is)
    (case l__law_draw => k_is)
    (case c__law_draw => k_is)
    (case k__law_draw => k_is)
    (case a__law_same => k_is)
    (case l__law_same => k_is)
    (case c__law_same => k_is)
    (case k__law_same => k_is)
    (case a__law_within => k_is)
    (case l__law_within => k_is)
    (case c__law_within => k_is)
    (case k__law_within => k_is)
    (case a__law_bound => k_is)
    (case l__law_bound => k_is)
    (case c__law_bound => k_is)
    (case k__law_bound => k_is)
    (case a_law => k_is)
    (case l_law => k_is)
    (case c_law => k_is)
    (case k_law => k_is)
    (case a_CutScale___init__ => k_is)
    (case i_CutScale___init__ => k_is)
    (case l_CutScale___init__ => k_is)
    (case c_CutScale___init__ => k_is)
    (case k_CutScale___init__ => k_is)
    (case a_CutScale_brought_back => k_is)
    (case i_CutScale_brought_back => k_is)
    (case l_CutScale_brought_back => k_is)
    (case c_CutScale_brought_back => k_is)
    (case k_CutScale_brought_back => k_is)
    (case a_CutScale_within_at => k_is)
    (case i_CutScale_within_at => k_is)
    (case l_CutScale_within_at => k_is)
    (case c_CutScale_within_at => k_is)
    (case k_CutScale_within_at => k_is)
    (case a_CutScale_places => k_is)
    (case i_CutScale_places => k_is)
    (case l_CutScale_places => k_is)
    (case c_CutScale_places => k_is)
    (case k_CutScale_places => k_is)
    (case a_CutScale_within_all => k_is)
    (case i_CutScale_within_all => k_is)
    (case l_CutScale_within_all => k_is)
    (case c_CutScale_within_all => k_is)
    (case k_CutScale_within_all => k_is)
    (case a_CutScale_bound_at => k_is)
    (case i_CutScale_bound_at => k_is)
    (case l_CutScale_bound_at => k_is)
    (case c_CutScale_bound_at => k_is)
    (case k_CutScale_bound_at => k_is)
    (case a_cf_Scale___init__ => k_is)
    (case l_cf_Scale___init__ => k_is)
    (case c_cf_Scale___init__ => k_is)
    (case k_cf_Scale___init__ => k_is)
    (case rd_cf_Scale___init__ => k_is)
    (case ga_cf_Scale___init__ => k_is)
    (case a_cf_ListedScale___init__ => k_is)
    (case l_cf_ListedScale___init__ => k_is)
    (case c_cf_ListedScale___init__ => k_is)
    (case k_cf_ListedScale___init__ => k_is)
    (case rd_cf_ListedScale___init__ => k_is)
    (case ga_cf_ListedScale___init__ => k_is)
    (case n_CutScale_label => k_is)
    (case n_CutScale_size => k_is)
    (case n_CutScale_zero_at => k_is)
    (case n_CutScale_one_at => k_is)
    (case n_CutScale_depth => k_is)
    (case n_CutScale__names => k_is)
    (case n_CutScale__found => k_is)
    (case n_CutScale__numbers => k_is)
    (case n_CutScale__start => k_is)
    (case n_CutScale__order => k_is)
    (case z_int => k_is)
    (case z_len => k_is)
    (case z_range => k_is)
    (case z_isinstance => k_is)
    (case z_bool => k_is)
    (case z_str => k_is)
    (case z_tuple => k_is)
    (case z_list => k_is)
    (case g_MOST_DEPTH => k_is)
    (case g_MOST_GRADES => k_is)
    (case g_ORDERS => k_is)
    (case l_ORDERS => k_is)
