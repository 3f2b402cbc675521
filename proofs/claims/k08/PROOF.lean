import PyProof.Rows.All
import Wide.All
import OpenK.AllK
import Wide.FinOn
import HandS.ForMost
import HandS.IsInst
import HandS.TupAny
import HandS.Flow
import KE.KExcIs
import HandS.Codes
import HandS.ExcValue
import HandS.ExcInit
import HandS.FStr
import HandS.Defaults
import HandS.HeadNt
import PyProof.ReprRoads
import HandS.ExcIs
import KE.KTypeName
import HandS.Walk
import HandS.Zip
import HandS.Head0
import HandS.Head1
import HandS.Head2
import HandS.HeadEnd
import HandS.HeadHook4
import PySem.Challenge.RW_formrules_k08_errors_made_and_bases
set_option Elab.async false
set_option linter.all false
set_option maxRecDepth 100000
set_option maxHeartbeats 4000000
namespace Fr
open PySem PySem.Spec PyProof.Rows L2
/-! ### a def that may be called: where it stands, how it binds, what it promises -/
structure Cal (P : Program) (w : World) (K : PySem.W.Frag) (mg : Str → Option Value) (base : Heap) (x : Str) (k : Nat) (ps : List Str) (sp : Sp) : Prop where
  ex : ∃ (f : Addr) (fd : FuncData), mg x = some (.ref f) ∧ PySem.W.keepIn K (.ref f) = true ∧ Binds K fd ps [] ∧ FnOk P w K mg base CX0 k f fd ps sp
section
variable {X : Cx} {x : Str} {k : Nat} {ps : List Str} {sp : Sp} {e : Expr} {es : List Expr} {t : TA} {p pos : Pos}
theorem pe_c (C : Cal X.prog X.w X.K X.mg X.base x k ps sp) (hr : Room k X.A) (ha : PA X (e :: es) t) (hg : Gl X x := by rfl)
    (hdb : (x == ("__debug__" : Str)) = false := by decide) (he : starEach (e :: es) X.env = (false, eval e X.env) :: starEach es X.env := by rfl) (hpl : (backTo pos (starEach es X.env)).any (·.1) = false := by rfl) :
    PE X (.Call (.Name x p) (e :: es) [] pos) (tCall sp [] E0 t) := by
  obtain ⟨f, fd, hm, hk, hb, F⟩ := C.ex
  exact pe_call F hr hg hm hk hb .nil pass0 ha hdb he hpl
theorem pe_c0 (C : Cal X.prog X.w X.K X.mg X.base x k ps sp) (hr : Room k X.A) (hg : Gl X x := by rfl) (hdb : (x == ("__debug__" : Str)) = false := by decide) :
    PE X (.Call (.Name x p) [] [] pos) (tCall sp [] E0 tNil) := by
  obtain ⟨f, fd, hm, hk, hb, F⟩ := C.ex
  exact pe_call0 F hr hg hm hk hb .nil pass0 hdb
end
theorem Cal.mono {P : Program} {w : World} {K : PySem.W.Frag} {mg : Str → Option Value} {base : Heap} {x : Str} {j k : Nat} {ps : List Str} {sp : Sp} (C : Cal P w K mg base x j ps sp) (h : j ≤ k) : Cal P w K mg base x k ps sp := by
  obtain ⟨f, fd, hm, hk, hb, F⟩ := C.ex
  exact ⟨f, fd, hm, hk, hb, F.mono h⟩
/-! ### the draws: a dict of four, two lists of ints; n bounds the turns -/
def drawK (wl cl : Addr) (r t : Int) : List (Key × V) := [(.inr "wide", .ref wl), (.inr "cells", .ref cl), (.inr "rest", .int r), (.inr "turn", .int t)]
structure DrawAt (H : Hp) (d wl : Addr) (n : Nat) : Prop where
  ex : ∃ (cl : Addr) (ws cs : List Int) (r t : Int), H d = some (.dK (drawK wl cl r t)) ∧ H wl = some (.lst (ws.map V.int)) ∧ H cl = some (.lst (cs.map V.int)) ∧ wl ≠ cl ∧ ws.length ≤ 63 ∧ cs.length ≤ 63 ∧ 0 ≤ t ∧ t ≤ n
theorem DrawAt.mono {H : Hp} {d wl : Addr} {m n : Nat} (h : DrawAt H d wl m) (l : m ≤ n) : DrawAt H d wl n := by
  obtain ⟨cl, ws, cs, r, t, h1, h2, h3, h4, h5, h6, h7, h8⟩ := h.ex
  exact ⟨cl, ws, cs, r, t, h1, h2, h3, h4, h5, h6, h7, by omega⟩
/-- all else is as it was; the draws keep their list of cells -/
structure But (d wl : Addr) (H H' : Hp) : Prop where
  fn : ∀ b o, H b = some o → b ≠ d → b ≠ wl → H' b = some o
  cl : ∀ cl r t, H d = some (.dK (drawK wl cl r t)) → ∃ r' t', H' d = some (.dK (drawK wl cl r' t'))
instance {d wl : Addr} {H H' : Hp} : CoeFun (But d wl H H') (fun _ => ∀ b o, H b = some o → b ≠ d → b ≠ wl → H' b = some o) := ⟨But.fn⟩
theorem But.refl {d wl : Addr} (H : Hp) : But d wl H H := ⟨fun _ _ h _ _ => h, fun _ r t h => ⟨r, t, h⟩⟩
theorem But.trans {d wl : Addr} {H H1 H2 : Hp} (a : But d wl H H1) (b : But d wl H1 H2) : But d wl H H2 := ⟨fun c o h n m => b c o (a c o h n m) n m, fun cl r t h => by
  obtain ⟨r1, t1, h1⟩ := a.cl cl r t h
  exact b.cl cl r1 t1 h1⟩
theorem But.of_same {d wl : Addr} {H H' : Hp} (a : Same H H') : But d wl H H' := ⟨fun c o h _ _ => a c o h, fun _ r t h => ⟨r, t, a _ _ h⟩⟩
theorem drawK_cl {wl cl cl' : Addr} {r t r' t' : Int} (h : HO.dK (drawK wl cl r t) = .dK (drawK wl cl' r' t')) : cl = cl' := by
  injection h with h
  injection h with _ h
  injection h with h _
  exact V.ref.inj (Prod.mk.inj h).2
theorem But.updd {d wl cl : Addr} {H : Hp} {r t r' t' : Int} (h : H d = some (.dK (drawK wl cl r t))) : But d wl H (upd H d (.dK (drawK wl cl r' t'))) := ⟨fun b _ e nb _ => by rw [upd_ne nb]; exact e, fun cl2 r2 t2 h2 => by
  rw [h] at h2
  cases drawK_cl (Option.some.inj h2)
  exact ⟨r', t', upd_same⟩⟩
theorem But.updw {d wl : Addr} {H : Hp} {o : HO} (n : d ≠ wl) : But d wl H (upd H wl o) := ⟨fun b _ e _ nw => by rw [upd_ne nw]; exact e, fun _ r t h => ⟨r, t, (upd_ne n).trans h⟩⟩
theorem DrawAt.same {H H' : Hp} {d wl : Addr} {n : Nat} (h : DrawAt H d wl n) (s : Same H H') : DrawAt H' d wl n := by
  obtain ⟨cl, ws, cs, r, t, h1, h2, h3, h⟩ := h.ex
  exact ⟨cl, ws, cs, r, t, s _ _ h1, s _ _ h2, s _ _ h3, h⟩
theorem Same.new {H : Hp} {p : Addr} {o : HO} (h : H p = none) : Same H (upd H p o) := fun b x e => by
  rw [upd_ne (ne_of_none e h)]
  exact e
/-! ### lists of ints, of small data, compared -/
theorem lay_ints (ws : List Int) : PyData.canLayAll0 (ws.map PyData.int) = true := by
  induction ws with
  | nil => rfl
  | cons a r ih => rw [List.map_cons, PyData.canLayAll0, ih]; rfl
theorem depth_ints (ws : List Int) : PyData.depthAll (ws.map PyData.int) = 0 := by
  induction ws with
  | nil => rfl
  | cons a r ih => rw [List.map_cons, PyData.depthAll, ih]; rfl
theorem shaped_ints (ws : List Int) : SeqAt.shaped (.list (ws.map PyData.int)) = true := by
  unfold SeqAt.shaped
  rw [PyData.canLay0, lay_ints, PyData.depth, depth_ints]
  decide
theorem shaped_tints (ws : List Int) : SeqAt.shaped (.tuple (ws.map PyData.int)) = true := by
  unfold SeqAt.shaped
  rw [PyData.canLay0, lay_ints, PyData.depth, depth_ints]
  decide
theorem dp_ints (K : PySem.W.Frag) (H : Hp) (ws : List Int) : DpAll K H (ws.map V.int) (ws.map PyData.int) := by
  induction ws with
  | nil => exact .nil
  | cons a r ih => exact .cons (.int a) ih
theorem dp_listI {K : PySem.W.Frag} {H : Hp} {a : Addr} {ws : List Int} (h : SqL K H a (ws.map V.int)) : Dp K H (.ref a) (.list (ws.map .int)) := .lst h (dp_ints K H ws)
theorem dp_tupI {K : PySem.W.Frag} {H : Hp} {a : Addr} {ws : List Int} (h : SqT K H a (ws.map V.int)) : Dp K H (.ref a) (.tuple (ws.map .int)) := .tup h (dp_ints K H ws)
theorem dp_nilL {K : PySem.W.Frag} {H : Hp} {a : Addr} (h : H a = some (.lst [])) : Dp K H (.ref a) (.list []) := .lst (SqL.of h) .nil
theorem eqv_nilL (ws : List Int) : PyData.eqv (.list (ws.map .int)) (.list []) = ws.isEmpty := by
  rw [PyData.eqv]
  cases ws <;> rfl
theorem eqv_nilT (ws : List Int) : PyData.eqv (.tuple (ws.map .int)) (.tuple []) = ws.isEmpty := by
  rw [PyData.eqv]
  cases ws <;> rfl
theorem shaped_nilL : SeqAt.shaped (.list []) = true := shaped_ints []
theorem shaped_nilT : SeqAt.shaped (.tuple []) = true := shaped_tints []
theorem yes_if {σ : L2.St} {H : Hp} {A B : Hp → Prop} (h : A H) : tYes σ H fun b H3 => if b = true then A H3 else B H3 := by
  show if true = true then A H else B H
  rw [if_pos rfl]
  exact h
theorem iteP {c A B : Prop} [Decidable c] (hc : c) (h : A) : if c then A else B := by
  rw [if_pos hc]
  exact h
theorem iteN {c A B : Prop} [Decidable c] (hc : ¬ c) (h : B) : if c then A else B := by
  rw [if_neg hc]
  exact h
theorem not_dec {c : Prop} [Decidable c] (h : ¬ (!decide c) = true) : c := by
  by_cases q : c
  · exact q
  · exact absurd (by rw [decide_eq_false q]; rfl) h
theorem not_dec' {c : Prop} [Decidable c] (h : (!decide c) = true) : ¬ c := by
  intro q
  rw [decide_eq_true q] at h
  cases h
end Fr
namespace Fr
open PySem PySem.Spec PyProof.Rows L2
def top (i : Nat) : Stmt := PySem.Challenge.pw_formrules_k08_errors_made_and_bases.main.body.getD i (.Pass ⟨0, 0, 0, 0⟩)
/-! ### the draws -/
def ks (x : Str) : Key := Sum.inr x
theorem ks_ne {x y : Str} (h : ¬ x = y) : ¬ (Sum.inr x : Key) = ks y := fun e => h (Sum.inr.inj e)
theorem s_wr : ¬ ("wide" : Str) = "rest" := by decide +kernel
theorem s_cr : ¬ ("cells" : Str) = "rest" := by decide +kernel
theorem s_wt : ¬ ("wide" : Str) = "turn" := by decide +kernel
theorem s_ct : ¬ ("cells" : Str) = "turn" := by decide +kernel
theorem s_rt : ¬ ("rest" : Str) = "turn" := by decide +kernel
theorem s_tr : ¬ ("turn" : Str) = "rest" := by decide +kernel
theorem s_wc : ¬ ("wide" : Str) = "cells" := by decide +kernel
theorem dk_wide (wl cl : Addr) (r t : Int) : valV (drawK wl cl r t) (ks "wide") = some (.ref wl) := valV_pos rfl
theorem dk_cells (wl cl : Addr) (r t : Int) : valV (drawK wl cl r t) (ks "cells") = some (.ref cl) := (valV_neg (ks_ne s_wc)).trans (valV_pos rfl)
theorem dk_rest (wl cl : Addr) (r t : Int) : valV (drawK wl cl r t) (ks "rest") = some (.int r) := (valV_neg (ks_ne s_wr)).trans ((valV_neg (ks_ne s_cr)).trans (valV_pos rfl))
theorem dk_turn (wl cl : Addr) (r t : Int) : valV (drawK wl cl r t) (ks "turn") = some (.int t) := (valV_neg (ks_ne s_wt)).trans ((valV_neg (ks_ne s_ct)).trans ((valV_neg (ks_ne s_rt)).trans (valV_pos rfl)))
theorem dg {H : Hp} {d wl cl : Addr} {r t : Int} {x : Str} {v : V} (e : valV (drawK wl cl r t) (ks x) = some v) (h : H d = some (.dK (drawK wl cl r t))) : DGet H d (.str x) (some v) := by
  have q : DGet H d (kV (ks x)) (valV (drawK wl cl r t) (ks x)) := DGet.k (k := ks x) h
  rw [e] at q
  exact q
theorem dk_putR (wl cl : Addr) (r t x : Int) : putK (drawK wl cl r t) (ks "rest") (.int x) = drawK wl cl x t := by
  simp [putK, drawK, ks, s_wr, s_cr, s_tr]
theorem dk_putT (wl cl : Addr) (r t x : Int) : putK (drawK wl cl r t) (ks "turn") (.int x) = drawK wl cl r x := by
  simp [putK, drawK, ks, s_wt, s_ct, s_rt]
abbrev sBegun : Stmt := top 51
abbrev sMixed : Stmt := top 52
abbrev sTake : Stmt := top 53
abbrev sPick : Stmt := top 54
structure TxtD (mg : Str → Option Value) : Prop where
  int : mg "int" = none
  abs : mg "abs" = none
  len : mg "len" = none
def spMixed : Sp := fun vs H Q _ => ∃ (d wl : Addr) (n : Nat), vs = [.ref d] ∧ DrawAt H d wl n ∧ n ≤ 1000000000 ∧ ∀ (H' : Hp) (x : Int), DrawAt H' d wl (n + 1) → But d wl H H' → Q (.int x) H'
section
variable {P : Program} {w : World} {K : PySem.W.Frag} {mg : Str → Option Value} {base : Heap}
theorem scMixed : FnScope ["draw", "turn", "found", "prime", "blend", "grain"] ["draw"] (defScope sMixed) := ⟨rfl, rfl, rfl, by decide +kernel, rfl, by decide +kernel, by decide +kernel⟩
theorem DrawAt.put {H : Hp} {d wl cl : Addr} {r t r' t' : Int} {n' : Nat} {ws cs : List Int} (h1 : H d = some (.dK (drawK wl cl r t))) (h2 : H wl = some (.lst (ws.map V.int))) (h3 : H cl = some (.lst (cs.map V.int))) (ne : wl ≠ cl) (hw : ws.length ≤ 63) (hc : cs.length ≤ 63)
    (h0 : 0 ≤ t') (hn : t' ≤ n') : DrawAt (upd H d (.dK (drawK wl cl r' t'))) d wl n' := by
  have nw : wl ≠ d := ne_of h2 h1 (by intro z; cases z)
  have nc : cl ≠ d := ne_of h3 h1 (by intro z; cases z)
  exact ⟨cl, ws, cs, r', t', upd_same, by rw [upd_ne nw]; exact h2, by rw [upd_ne nc]; exact h3, ne, hw, hc, h0, hn⟩
theorem ok_mixed {f : Addr} {fd : FuncData} (F : Fun K "_law_mixed" "_law_mixed" sMixed f fd) (T : TxtD mg) : FnOk P w K mg base CX0 1 f fd ["draw"] spMixed := by
  refine F.ok scMixed (fun vs H Q E h => ?_) (fun cdv A outer s H vs Q E hr h => ?_)
  · obtain ⟨d, wl, n, rfl, _⟩ := h
    rfl
  · obtain ⟨d, wl, n, rfl, D, hn, k⟩ := h
    have hu := hu_of hr
    obtain ⟨cl, ws, cs, r, t, h1, h2, h3, ne, hw, hc, h0, hl⟩ := D.ex
    refine ⟨_, pss_cons (ps_par (i := 1) (j := 2) rfl scMixed.nd rfl rfl (by decide) rfl rfl (pa_cons (pe_op op_add (pe_dget hu (pv 0) pe_str (fun _ _ => rfl)) pe_int) (pa_cons pe_int pa_nil)) rfl)
      (pss_cons (ps_dput hu (pv 0) pe_str (pv 1) rfl)
      (pss_cons (ps_for PassesOwn.never rfl (pi_list (pe_lst (pa_cons pe_int (pa_cons pe_int (pa_cons pe_int (pa_cons pe_int pa_nil)))))) (pg_name (i := 3) scMixed.nd rfl (Or.inl rfl))
        (pss_cons (ps_set (i := 4) scMixed.nd rfl (Or.inl rfl) (pe_op op_add (pe_op op_mul pe_int (pv 1)) (pe_op op_fdiv (pv 3) pe_int)))
        (pss_cons (ps_for PassesOwn.never rfl (pi_list (pe_dget hu (pv 0) pe_str (fun _ _ => rfl))) (pg_name (i := 5) scMixed.nd rfl (Or.inl rfl))
          (pss_one (ps_set (i := 4) scMixed.nd rfl (Or.inl rfl) (pe_op op_mod (pe_callTy call_int1 (by rfl) T.int (by decide +kernel) (pa_cons (pe_op op_add (pe_op op_add (pe_op op_mul (pv 4) pe_int) (pv 5)) (pv 1)) pa_nil)) (pv 3)))))
        (pss_one (ps_set (i := 2) scMixed.nd rfl (Or.inl rfl) (pe_op op_add (pe_op op_mul (pv 2) pe_int) (pe_op op_mod (pe_callTy call_int1 (by rfl) T.int (by decide +kernel) (pa_cons (pe_op op_pow (pv 4) pe_int) pa_nil)) (pv 3))))))))
      (pss_one (ps_ret (pv 2))))), ?_⟩
    -- turn, found = draw['turn'] + 1, 0
    refine ⟨_, rfl, d, _, rfl, dg (dk_turn wl cl r t) h1, _, _, rfl, rfl, _, _, rfl, ?_⟩
    -- draw['turn'] = turn
    refine ⟨_, rfl, _, rfl, d, _, rfl, DPut.k (k := ks "turn") h1 (by show 4 < sizeLine; decide), ?_⟩
    rw [dk_putT]
    have D1 : DrawAt (upd H d (.dK (drawK wl cl r (t + 1)))) d wl (n + 1) := DrawAt.put h1 h2 h3 ne hw hc (by omega) (by omega)
    have nc : cl ≠ d := ne_of h3 h1 (by intro z; cases z)
    have B1 : But d wl H (upd H d (.dK (drawK wl cl r (t + 1)))) := But.updd h1
    have h1' : (upd H d (.dK (drawK wl cl r (t + 1)))) d = some (.dK (drawK wl cl r (t + 1))) := upd_same
    have h3' : (upd H d (.dK (drawK wl cl r (t + 1)))) cl = some (.lst (cs.map V.int)) := by rw [upd_ne nc]; exact h3
    generalize (upd H d (.dK (drawK wl cl r (t + 1)))) = H1 at D1 B1 h1' h3' ⊢
    -- for prime in [..]
    refine ⟨by show 4 ≤ sizeLine; decide, fun p hp => ?_⟩
    have s1 : Same H1 (upd H1 p (.lst [.int 2147483647, .int 2147483629, .int 2147483587, .int 2147483579])) := Same.new hp
    refine ⟨p, rfl, ⟨_, SqL.of upd_same⟩, for_list (K := K) (a := p) (xs := ([2147483647, 2147483629, 2147483587, 2147483579] : List Int).map V.int)
      (fun i σ H' => ∃ (x : Int) (v3 v4 v5 : Option V), σ = [some (.ref d), some (.int (t + 1)), some (.int x), v3, v4, v5] ∧ H' = upd H1 p (.lst [.int 2147483647, .int 2147483629, .int 2147483587, .int 2147483579]))
      ⟨0, none, none, none, rfl, rfl⟩ (fun i σ H' _ ⟨_, _, _, _, _, e⟩ => by subst e; exact SqL.of upd_same) ?_ ?_⟩
    · rintro i y σ H' hi ⟨x, v3, v4, v5, rfl, rfl⟩
      obtain ⟨z, hz, hz2, rfl⟩ : ∃ z : Int, 2000000000 < z ∧ z < 2147483648 ∧ y = V.int z := by
        match i, hi with
        | 0, hi => exact ⟨_, by decide, by decide, (Option.some.inj hi).symm⟩
        | 1, hi => exact ⟨_, by decide, by decide, (Option.some.inj hi).symm⟩
        | 2, hi => exact ⟨_, by decide, by decide, (Option.some.inj hi).symm⟩
        | 3, hi => exact ⟨_, by decide, by decide, (Option.some.inj hi).symm⟩
        | (i + 4), hi => cases hi
      -- blend = 48271 * turn + prime // 37
      refine ⟨_, rfl, _, _, rfl, rfl, .inl ⟨by decide, by decide⟩, _, rfl, _, _, rfl, rfl, ⟨by decide, by decide⟩, _, _, rfl, rfl, ?_⟩
      -- for grain in draw['cells']
      refine ⟨_, rfl, d, _, rfl, dg (dk_cells wl cl r (t + 1)) (s1 _ _ h1'), cl, rfl, ⟨_, SqL.of (s1 _ _ h3')⟩, for_list (K := K) (a := cl) (xs := cs.map V.int)
        (fun j σ H' => ∃ (b : Int) (v5 : Option V), σ = [some (.ref d), some (.int (t + 1)), some (.int x), some (.int z), some (.int b), v5] ∧ b.natAbs < 2 ^ 63 ∧ H' = upd H1 p (.lst [.int 2147483647, .int 2147483629, .int 2147483587, .int 2147483579]))
        ⟨_, _, rfl, ?_, rfl⟩ (fun i σ H' _ ⟨_, _, _, _, e⟩ => by subst e; exact SqL.of (s1 _ _ h3')) ?_ ?_⟩
      · show (48271 * (t + 1) + z / 37).natAbs < 2 ^ 63
        omega
      · rintro j y σ H' hj ⟨b, v5, rfl, hb, rfl⟩
        obtain ⟨g, rfl⟩ : ∃ g, y = V.int g := by
          rw [List.getElem?_map] at hj
          cases e : cs[j]? with
          | none => rw [e] at hj; cases hj
          | some g => rw [e] at hj; exact ⟨g, (Option.some.inj hj).symm⟩
        -- blend = int(blend * 69621 + grain + turn) % prime
        refine ⟨_, rfl, _, _, rfl, rfl, .inr ⟨by decide, by decide⟩, _, rfl, _, _, rfl, rfl, _, rfl, _, _, rfl, rfl, .inl ⟨_, rfl, _, rfl, _, _, rfl, rfl, by omega, ?_⟩⟩
        refine ⟨_, _, rfl, ?_, rfl⟩
        have a1 := Int.emod_nonneg (b * 69621 + g + (t + 1)) (by omega : z ≠ 0)
        have a2 := Int.emod_lt_of_pos (b * 69621 + g + (t + 1)) (by omega : 0 < z)
        omega
      · rintro σ H' ⟨b, v5, rfl, hb, rfl⟩
        -- found = found * 2147483647 + int(blend ** 5) % prime
        refine ⟨_, rfl, _, _, rfl, rfl, .inr ⟨by decide, by decide⟩, _, rfl, _, _, rfl, rfl, ⟨by decide, by decide, by omega⟩, .inl ⟨_, rfl, _, rfl, _, _, rfl, rfl, by omega, _, _, rfl, rfl, ?_⟩⟩
        exact ⟨_, _, _, _, rfl, rfl⟩
    · rintro σ H' ⟨x, v3, v4, v5, rfl, rfl⟩
      exact ⟨_, rfl, k _ _ (D1.same s1) (B1.trans (But.of_same s1))⟩
def spTake : Sp := fun vs H Q _ => ∃ (d wl : Addr) (n : Nat) (m : Int), vs = [.ref d, .int m] ∧ DrawAt H d wl n ∧ n ≤ 1000000000 ∧ 0 < m ∧ m < 1073741824 ∧ ∀ (H' : Hp) (x : Int), 0 ≤ x → x < m → DrawAt H' d wl (n + 1) → But d wl H H' → Q (.int x) H'
theorem scTake : FnScope ["draw", "many", "found"] ["draw", "many"] (defScope sTake) := ⟨rfl, rfl, rfl, by decide +kernel, rfl, by decide +kernel, by decide +kernel⟩
theorem ok_take {f : Addr} {fd : FuncData} (F : Fun K "_law_take" "_law_take" sTake f fd) (T : TxtD mg) (CM : Cal P w K mg base "_law_mixed" 1 ["draw"] spMixed) : FnOk P w K mg base CX0 2 f fd ["draw", "many"] spTake := by
  refine F.ok scTake (fun vs H Q E h => ?_) (fun cdv A outer s H vs Q E hr h => ?_)
  · obtain ⟨d, wl, n, m, rfl, _⟩ := h
    rfl
  · obtain ⟨d, wl, n, m, rfl, D, hn, m0, m1, k⟩ := h
    have hu := hu_of hr
    refine ⟨_, pss_cons (ps_if (pt_cmpR op_eq (pe_dget hu (pv 0) pe_str (fun _ _ => rfl)) pe_int (nomark _))
        (pss_one (ps_dput hu (pv 0) pe_str (pe_ifExp (pt_cmpR (op_neD hr.units) (pe_dget hu (pv 0) pe_str (fun _ _ => rfl)) (pe_lst pa_nil) (nomark _))
          (pe_bm PySem.F.plainAttrs_list PySem.F.slot_list_pop PySem.F.type_list_pop mt_popAt (pe_dget hu (pv 0) pe_str (fun _ _ => rfl)) (pa_cons pe_int pa_nil))
          (pe_c CM hr (pa_cons (pv 0) pa_nil))) rfl)) pss_nil)
      (pss_cons (ps_set (i := 2) scTake.nd rfl (Or.inl rfl) (pe_op op_mod (pe_callTy call_int1 (by rfl) T.int (by decide +kernel) (pa_cons (pe_dget hu (pv 0) pe_str (fun _ _ => rfl)) pa_nil)) (pv 1)))
      (pss_cons (ps_dput hu (pv 0) pe_str (pe_op op_fdiv (pe_dget hu (pv 0) pe_str (fun _ _ => rfl)) (pv 1)) rfl)
      (pss_one (ps_ret (pv 2))))), ?_⟩
    obtain ⟨cl, ws, cs, r, t, h1, h2, h3, ne, hw, hc, h0, hl⟩ := D.ex
    refine ⟨_, rfl, d, _, rfl, dg (dk_rest wl cl r t) h1, rfl, _, rfl, ?_⟩
    have fin : ∀ (H1 : Hp), DrawAt H1 d wl (n + 1) → But d wl H H1 → (tSeq (tAsg (tOp (rI (fun _ j => 0 < j) fun i j => .int (i % j)) (tCB (fun xs H Q => (∃ i, xs = [.int i] ∧ Q (.int i) H) ∨ ∃ k, xs = [.bl k] ∧ Q (.int (if k then 1 else 0)) H) (tCons (tDGet (tVar 0) (tC (.str "rest"))) tNil)) (tVar 1)) (gName 2))
        (tSeq (sDPut (tVar 0) (tC (.str "rest")) (tOp (rI CDiv fun i j => .int (i / j)) (tDGet (tVar 0) (tC (.str "rest"))) (tVar 1))) (tRet (tVar 2)))) { nx := fun _ H' => Q .non H', rt := Q } [some (.ref d), some (.int m), none] H1 := by
      intro H1 D1 B1
      obtain ⟨cl, ws, cs, r, t, h1, h2, h3, ne, hw, hc, h0, hl⟩ := D1.ex
      refine ⟨_, rfl, d, _, rfl, dg (dk_rest wl cl r t) h1, .inl ⟨_, rfl, _, rfl, _, _, rfl, rfl, m0, ?_⟩⟩
      refine ⟨_, rfl, d, _, rfl, dg (dk_rest wl cl r t) h1, _, rfl, _, _, rfl, rfl, ⟨m0, m1⟩, _, rfl, d, _, rfl, DPut.k (k := ks "rest") h1 (by show 4 < sizeLine; decide), ?_⟩
      rw [dk_putR]
      refine ⟨_, rfl, k _ _ (Int.emod_nonneg _ (by omega)) (Int.emod_lt_of_pos _ m0) (DrawAt.put h1 h2 h3 ne hw hc h0 (by omega)) (B1.trans (But.updd h1))⟩
    refine ite2 (fun _ => ?_) (fun _ => fin H (D.mono (by omega)) (But.refl H))
    -- draw['wide'] != []
    refine ⟨_, rfl, d, _, rfl, dg (dk_wide wl cl r t) h1, Nat.zero_le _, fun p hp => ?_⟩
    have s1 : Same H (upd H p (.lst [])) := Same.new hp
    refine ⟨.list (ws.map .int), .list [], dp_listI (SqL.of (s1 _ _ h2)), dp_nilL upd_same, shaped_ints ws, shaped_nilL, _, rfl, ?_⟩
    rw [eqv_nilL]
    cases ws with
    | nil =>
      refine iteF ?_
      refine ⟨_, rfl, d, wl, n, rfl, D.same s1, hn, fun H2 x D2 B2 => ?_⟩
      obtain ⟨cl', ws', cs', r', t', h1', h2', h3', ne', hw', hc', h0', hl'⟩ := D2.ex
      refine ⟨_, rfl, d, _, rfl, DPut.k (k := ks "rest") h1' (by show 4 < sizeLine; decide), ?_⟩
      rw [dk_putR]
      exact fin _ (DrawAt.put h1' h2' h3' ne' hw' hc' h0' hl') (((But.of_same s1).trans B2).trans (But.updd h1'))
    | cons a ws =>
      refine iteT ?_
      have nwd : wl ≠ d := ne_of h2 h1 (by intro z; cases z)
      have ndw : d ≠ wl := nwd.symm
      refine ⟨_, rfl, d, _, rfl, dg (dk_wide wl cl r t) (s1 _ _ h1), .inl ⟨rfl, _, SqL.of (s1 _ _ h2)⟩, wl, _, 0, 0, _, rfl, rfl, s1 _ _ h2, by decide, by decide, ?_, rfl, ?_⟩
      · exact seqIndex_of (by decide) (by rw [List.length_map, List.length_cons]; omega)
      have g1 : (upd (upd H p (.lst [])) wl (.lst (ws.map V.int))) d = some (.dK (drawK wl cl r t)) := by rw [upd_ne ndw]; exact s1 _ _ h1
      have g3 : (upd (upd H p (.lst [])) wl (.lst (ws.map V.int))) cl = some (.lst (cs.map V.int)) := by rw [upd_ne ne.symm]; exact s1 _ _ h3
      refine ⟨_, rfl, d, _, rfl, DPut.k (k := ks "rest") g1 (by show 4 < sizeLine; decide), ?_⟩
      rw [dk_putR]
      have hw1 : ws.length ≤ 63 := by rw [List.length_cons] at hw; omega
      exact fin _ (DrawAt.put g1 upd_same g3 ne hw1 hc h0 (by omega)) (((But.of_same s1).trans (But.updw ndw)).trans (But.updd g1))
def spPick : Sp := fun vs H Q _ => ∃ (d wl : Addr) (n : Nat) (a : Addr) (xs : List V), vs = [.ref d, .ref a] ∧ DrawAt H d wl n ∧ n ≤ 1000000000 ∧ H a = some (.lst xs) ∧ a ≠ wl ∧ 0 < xs.length ∧ xs.length < 1073741824 ∧ ∀ (H' : Hp) (x : V), x ∈ xs → DrawAt H' d wl (n + 1) → But d wl H H' → Q x H'
theorem scPick : FnScope ["draw", "some"] ["draw", "some"] (defScope sPick) := ⟨rfl, rfl, rfl, by decide +kernel, rfl, by decide +kernel, by decide +kernel⟩
theorem DrawAt.ne {H : Hp} {d wl a : Addr} {n : Nat} {xs : List V} (D : DrawAt H d wl n) (h : H a = some (.lst xs)) : a ≠ d := by
  obtain ⟨cl, ws, cs, r, t, h1, _⟩ := D.ex
  exact ne_of h h1 (by intro z; cases z)
theorem ok_pick {f : Addr} {fd : FuncData} (F : Fun K "_law_pick" "_law_pick" sPick f fd) (T : TxtD mg) (CT : Cal P w K mg base "_law_take" 2 ["draw", "many"] spTake) : FnOk P w K mg base CX0 3 f fd ["draw", "some"] spPick := by
  refine F.ok scPick (fun vs H Q E h => ?_) (fun cdv A outer s H vs Q E hr h => ?_)
  · obtain ⟨d, wl, n, a, xs, rfl, _⟩ := h
    rfl
  · obtain ⟨d, wl, n, a, xs, rfl, D, hn, ha, naw, h0, hl, k⟩ := h
    have hu := hu_of hr
    refine ⟨_, pss_one (ps_ret (pe_ix ix_list (pv 1) (pe_c CT hr (pa_cons (pv 0) (pa_cons (pe_callB call_len_seq (by rfl) T.len PySem.boot_len (pa_cons (pv 1) pa_nil)) pa_nil))) (fun _ _ => rfl))), ?_⟩
    refine ⟨_, rfl, _, rfl, _, rfl, a, _, rfl, .inl (SqL.of ha), d, wl, n, _, rfl, D, hn, by omega, by omega, fun H1 x x0 x1 D1 B1 => ?_⟩
    have ha1 := B1 _ _ ha (D.ne ha) naw
    have hx : x.toNat < xs.length := by omega
    refine ⟨a, xs, x, xs[x.toNat], rfl, rfl, SqL.of ha1, ?_, k _ _ (List.getElem_mem hx) D1 B1⟩
    have e : ((x.toNat : Nat) : Int) = x := by omega
    have q : atI xs ((x.toNat : Nat) : Int) = some xs[x.toNat] := atI_nat (List.getElem?_eq_getElem hx)
    rw [e] at q
    exact q
theorem merge_draw (wl cl : Addr) (r t : Int) : mergeK [] (drawK wl cl r t) = drawK wl cl r t := by
  have e1 : ¬ ("cells" : Str) = "turn" := s_ct
  simp [mergeK, drawK, putK, s_wr, s_cr, s_wt, s_ct, s_rt, s_wc]
def spBegun (K : PySem.W.Frag) : Sp := fun vs H Q _ => ∃ (a : Addr) (ns : List Int), vs = [.ref a] ∧ SqL K H a (ns.map V.int) ∧ ns.length ≤ 63 ∧ ∀ (H' : Hp) (d wl : Addr), DrawAt H' d wl 0 → Same H H' → H d = none → H wl = none → Q (.ref d) H'
theorem map_at {f : Int → V} {ns : List Int} {i : Nat} {y : V} (h : (ns.map f)[i]? = some y) : ∃ g, ns[i]? = some g ∧ y = f g := by
  rw [List.getElem?_map] at h
  cases e : ns[i]? with
  | none => rw [e] at h; cases h
  | some g => rw [e] at h; exact ⟨g, rfl, (Option.some.inj h).symm⟩
theorem scBegun : FnScope ["script", "wide", "grain"] ["script"] (defScope sBegun) := ⟨rfl, rfl, rfl, by decide +kernel, rfl, by decide +kernel, by decide +kernel⟩
theorem ok_begun {f : Addr} {fd : FuncData} (F : Fun K "_law_begun" "_law_begun" sBegun f fd) (T : TxtD mg) : FnOk P w K mg base CX0 1 f fd ["script"] (spBegun K) := by
  refine F.ok scBegun (fun vs H Q E h => ?_) (fun cdv A outer s H vs Q E hr h => ?_)
  · obtain ⟨a, ns, rfl, _⟩ := h
    rfl
  · obtain ⟨a, ns, rfl, hS, hl, k⟩ := h
    have hu := hu_of hr
    refine ⟨_, pss_cons (ps_setLc (i := 1) (own := [("grain", 2)]) (g := gName 2) rfl scBegun.nd rfl rfl (sw_true rfl rfl rfl (by decide +kernel)) (pi_list (pv 0)) (blkOk_by (own := [("grain", 2)]) (N := ["script", "wide", "grain"]) (sc := defScope sBegun) (by decide +kernel))
        (fun _ _ _ _ _ => pg_name (i := 2) scBegun.nd rfl (Or.inl rfl))
        (fun _ _ _ _ _ => pts_one (pt_cmpR op_ge (pe_callB call_abs (by rfl) T.abs (by decide +kernel) (pa_cons (pv 2) pa_nil)) (pe_op op_pow pe_int pe_int) (nomark _)))
        (fun _ _ _ _ _ => pe_op op_sub (pe_callB call_abs (by rfl) T.abs (by decide +kernel) (pa_cons (pv 2) pa_nil)) (pe_op op_pow pe_int pe_int)))
      (pss_one (ps_ret (pe_disp (pps_cons pe_str (pv 1) (pps_cons pe_str (pe_lc (own := [("grain", 2)]) (g := gName 2) rfl scBegun.nd (pi_list (pv 0)) (blkOk_by (own := [("grain", 2)]) (N := ["script", "wide", "grain"]) (sc := defScope sBegun) (by decide +kernel))
          (fun _ _ _ _ _ => pg_name (i := 2) scBegun.nd rfl (Or.inl rfl)) (fun _ _ _ _ _ => pts_nil)
          (fun _ _ _ _ _ => pe_op op_mod (pe_callTy call_int1 (by rfl) T.int (by decide +kernel) (pa_cons (pe_callB call_abs (by rfl) T.abs (by decide +kernel) (pa_cons (pv 2) pa_nil)) pa_nil)) pe_int))
        (pps_cons pe_str pe_int (pps_cons pe_str pe_int pps_nil)))) (by rfl) (by rfl) (fun z => by cases z) (by decide)))), ?_⟩
    -- wide = [..]
    refine ⟨_, rfl, a, rfl, ⟨_, hS⟩, fun D hD => lc_list (K := K) (a := a) (xs := ns.map V.int) (fun i H' => Same H H' ∧ ∃ acc : List Int, H' D = some (.lst (acc.map V.int)) ∧ acc.length ≤ i)
      ⟨Same.new hD, [], upd_same, Nat.le_refl _⟩ (fun i H' _ p => p.1.seq hS) ?_ ?_⟩
    · rintro i x H' hi ⟨s1, acc, hacc, hla⟩
      obtain ⟨g, hg, rfl⟩ := map_at hi
      have hi63 : i < 63 := Nat.lt_of_lt_of_le (List.getElem?_eq_some_iff.mp hg).1 hl
      refine ⟨rfl, _, rfl, _, rfl, _, _, rfl, rfl, ⟨by decide, by decide, by decide⟩, _, _, rfl, rfl, _, rfl, ?_⟩
      refine ite2 (fun _ => ?_) (fun _ => ⟨s1, acc, hacc, by omega⟩)
      refine ⟨_, rfl, _, rfl, _, _, rfl, rfl, ⟨by decide, by decide, by decide⟩, _, _, rfl, rfl, _, hacc, by rw [List.length_map]; exact small1000 (by omega), ?_⟩
      refine ⟨fun b o e => ?_, acc ++ [_], by rw [upd_same, List.map_append]; rfl, by rw [List.length_append, List.length_singleton]; omega⟩
      rw [upd_ne (ne_of_none e hD)]
      exact s1 _ _ e
    · rintro H1 ⟨s1, ws, hws, hlw⟩
      rw [List.length_map] at hlw
      -- return {..}
      intro d hd
      have s2 : Same H1 (upd H1 d (.dK [])) := Same.new hd
      refine ⟨_, rfl, _, rfl, a, rfl, ⟨_, (s1.trans s2).seq hS⟩, fun D2 hD2 => lc_list (K := K) (a := a) (xs := ns.map V.int) (fun i H' => Same (upd H1 d (.dK [])) H' ∧ ∃ acc : List Int, H' D2 = some (.lst (acc.map V.int)) ∧ acc.length ≤ i)
        ⟨Same.new hD2, [], upd_same, Nat.le_refl _⟩ (fun i H' _ p => p.1.seq ((s1.trans s2).seq hS)) ?_ ?_⟩
      · rintro i x H' hi ⟨s3, acc, hacc, hla⟩
        obtain ⟨g, hg, rfl⟩ := map_at hi
        have hi63 : i < 63 := Nat.lt_of_lt_of_le (List.getElem?_eq_some_iff.mp hg).1 hl
        refine ⟨rfl, yes_if ?_⟩
        refine ⟨_, rfl, _, rfl, .inl ⟨_, rfl, _, _, rfl, rfl, (by show (0 : Int) < 2147483629; decide), _, hacc, by rw [List.length_map]; exact small1000 (by omega), ?_⟩⟩
        refine ⟨fun b o e => ?_, acc ++ [_], by rw [upd_same, List.map_append]; rfl, by rw [List.length_append, List.length_singleton]; omega⟩
        rw [upd_ne (ne_of_none e hD2)]
        exact s3 _ _ e
      · rintro H2 ⟨s3, cs, hcs, hlc⟩
        rw [List.length_map] at hlc
        have nDd : D ≠ d := ne_of_none hws hd
        have nD2 : D ≠ D2 := ne_of_none (s2 _ _ hws) hD2
        have nd2 : d ≠ D2 := ne_of_none (show (upd H1 d (.dK [])) d = some (.dK []) from upd_same) hD2
        refine ⟨s3 _ _ upd_same, drawK D D2 0 0, rfl, by show 4 ≤ 15; decide, ?_⟩
        rw [merge_draw]
        refine k _ d D ⟨D2, ws, cs, 0, 0, upd_same, by rw [upd_ne nDd]; exact s3 _ _ (s2 _ _ hws), by rw [upd_ne nd2.symm]; exact hcs, nD2, by omega, by omega, by decide, by decide⟩ (fun b o e => ?_) (s1.free hd) hD
        rw [upd_ne (ne_of_none (s1 _ _ e) hd)]
        exact s3 _ _ (s2 _ _ (s1 _ _ e))
end
end Fr
namespace Fr
open PySem PySem.Spec PyProof.Rows L2
/-! ### exceptions held as values: of a class without __init__, of one with its own -/
inductive ExA (H : Hp) (a D : Addr) : Prop where
  | bare (h : H a = some (ExO (.ref D) a))
  | told (dx : Addr) (fs : List (Str × V)) (h : H a = some (exo a D (some dx))) (hd : H dx = some (exd dx fs))
theorem ExA.same {H H' : Hp} {a D : Addr} (e : ExA H a D) (s : Same H H') : ExA H' a D := by
  cases e with
  | bare h => exact .bare (s _ _ h)
  | told dx fs h hd => exact .told dx fs (s _ _ h) (s _ _ hd)
/-- what the class must say for isinstance of its objects -/
structure XIs (K : PySem.W.Frag) (D : Addr) : Prop where
  cl : (PySem.W.clsIn K D).isSome = true
  hg : PySem.W.findIn K (.ref D) "__getattribute__" = some (some (.builtin "BaseException.__getattribute__"))
  hk : PySem.W.findIn K (.ref D) "__getattr__" = some none
  hs : PySem.W.subIn K (.ref D) (.type "BaseException") = some true
  ha : PySem.W.findIn K (.ref D) "__class__" = some (some (.builtin "object.__class__"))
  hn : PySem.W.specialIn K (.builtin "object.__class__") "__get__" = some (some (.builtin "getset_descriptor.__get__"))
  ht : PySem.W.takesIn K (.builtin "object.__class__") = some true
  hm : PySem.W.mroIn K D (.type "object") = some true
section
variable {X : Cx} {pins : List (Addr × Obj)} {σ : L2.St} {H : Hp} {s : Shared} {a D : Addr}
theorem ExA.inst (e : ExA H a D) (I : Inv X pins σ H s) : ∃ ox od, PySem.W.InstAt s.heap a ox D od := by
  cases e with
  | bare h =>
    obtain ⟨⟨oe, vs, h1, hz, hd, _⟩, _⟩ := (show ObjOk X.prog X.w H s.heap a (ExO (.ref D) a) from I.hok a _ h)
    obtain ⟨oc, od, oda, osl⟩ := oe
    obtain ⟨z1, z2⟩ := hz
    dsimp only at z1 z2 hd
    subst z1 z2 hd
    exact ⟨_, none, h1, rfl, rfl, trivial⟩
  | told dx fs h hd =>
    obtain ⟨t1, ho⟩ := exo_at I.hok h
    obtain ⟨mA, hns, _⟩ := exd_at I.hok hd
    obtain ⟨od, hod, _⟩ := lookIn_ns hns
    exact ⟨_, some od, ho, rfl, rfl, hod⟩
end
/-- isinstance(e, c): e an exception held as a value -/
def rIsX (K : PySem.W.Frag) : List V → Hp → VK → Prop := fun xs H Q => ∃ (a D : Addr) (c : V) (u : Value) (b : Bool), xs = [.ref a, c] ∧ ClsV c u ∧ ExA H a D ∧ XIs K D ∧ PySem.W.kitOne K (.ref D) u = some b ∧ Q (.bl b) H
theorem call_isX {X : Cx} : CallR X (.builtin "isinstance") (rIsX X.K) := by
  intro pins s σ H xs us Q I r h
  obtain ⟨a, D, c, u, b, rfl, k, ea, C, e, q⟩ := h
  obtain ⟨u1, u2, rfl, r1, r2⟩ := vals2 r
  have e2 := k.eq r2
  subst e2
  cases (show u1 = Value.ref a from r1)
  obtain ⟨ox, od, J⟩ := ea.inst I
  exact PySem.W.kia_one (PySem.W.kitx_exc (x := a) (ox := ox) (od := od) C.cl C.hg C.hk C.hs C.ha C.hn C.ht C.hm) I.kIn J e (fun z => nomatch z) fun tk => ⟨.bl b, H, I.tok tk, rfl, q⟩
/-! ### e.f -/
structure XGet (K : PySem.W.Frag) (D : Addr) (f : Str) : Prop where
  ga : PySem.W.findIn K (.ref D) "__getattribute__" = some (some (.builtin "BaseException.__getattribute__"))
  gg : PySem.W.findIn K (.ref D) "__getattr__" = some none
  exC : PySem.W.subIn K (.ref D) (.type "BaseException") = some true
  hdC : PySem.W.hasDictIn K D = true
  no : PySem.W.findIn K (.ref D) f = some none
def tXg (K : PySem.W.Frag) (f : Str) (te : TE) : TE := fun σ H Q => te σ H fun x H1 => ∃ (a D dx : Addr) (fs : List (Str × V)) (v : V), x = .ref a ∧ H1 a = some (exo a D (some dx)) ∧ H1 dx = some (exd dx fs) ∧ XGet K D f ∧ fs.lookup f = some v ∧ Q v H1
theorem pe_xg {X : Cx} {e : Expr} {te : TE} {f : Str} {pos : Pos} (he : PE X e te) (hb : attributeBase e f X.env (eval e X.env) = eval e X.env := by rfl) : PE X (.Attribute e f pos) (tXg X.K f te) := by
  refine ⟨fun pins s σ H Q I h => ?_⟩
  refine attr_of hb (thn (he.run pins s σ H _ I h) fun u s1 hh => ?_)
  obtain ⟨x, H1, I1, rx, a, D, dx, fs, v, ex, ea, ed, T, l, q⟩ := hh
  subst ex
  obtain rfl : u = Value.ref a := rx
  obtain ⟨t1, ho⟩ := exo_at I1.hok ea
  obtain ⟨mA, hns, hr⟩ := exd_at I1.hok ed
  obtain ⟨od, hod, hl⟩ := lookIn_ns hns
  obtain ⟨u, hu, ru⟩ := RelO.some_of (v := v) (o := mA f) (by rw [← l]; exact hr f)
  have J : PySem.W.InstAt s1.heap a _ D (some od) := ⟨ho, rfl, rfl, hod⟩
  exact HandSPX.exc_get I1.kIn J T.ga T.gg T.exC (PySem.W.findObj_own T.hdC T.no rfl (by rw [hl, hu])) (handed_of ru) ⟨v, H1, I1.tok _, ru, q⟩
/-! ### Base.__init__(self, ..), Base an own class above -/
theorem pe_oinit {X : Cx} {B : Addr} {x : Str} {e : Expr} {es : List Expr} {ta : TA} {p1 p2 pos : Pos} {pl : Sem Bool} (hg : Gl X x) (hm : X.mg x = some (.ref B)) (hs : PySem.W.specialIn X.K (.ref B) "__getattribute__" = some (some (.builtin "type.__getattribute__")))
    (hr : PySem.W.readsIn X.K B (.type "type") = true) (ht : PySem.W.typeIn X.K (.ref B) = some (.type "type")) (vV : PySem.W.findCls X.K (.ref B) (.type "type") "__init__" = some (.val (.builtin "ValueError.__init__"))) (ha : PA X (e :: es) ta)
    (hdb : (x == ("__debug__" : Str)) = false := by decide)
    (hc : eval (.Call (.Attribute (.Name x p1) "__init__" p2) (e :: es) [] pos) X.env = (do
      let ov ← eval (.Name x p1) X.env
      standAt p2.atName
      let (f, first) ← holding [ov] (getMethod ov "__init__" pl)
      callWith pos f first (backTo pos (starEach (e :: es) X.env)) (backToKw pos (keywordEach [] X.env))) := by rfl)
    (he : starEach (e :: es) X.env = (false, eval e X.env) :: starEach es X.env := by rfl) (hpl : (backTo pos (starEach es X.env)).any (·.1) = false := by rfl) :
    PE X (.Call (.Attribute (.Name x p1) "__init__" p2) (e :: es) [] pos) (tVeI X.K ta) := by
  refine ⟨fun pins s σ H Q I h => ?_⟩
  refine PySem.W.methodCall_KW (ld_glob I hg hm ?_ hdb) hc
  obtain ⟨m, fr⟩ := I.fr
  refine PySem.W.method_of_cls fr I.ok.mod.kin hs (PySem.W.cls_val fr I.ok.mod.kin ht hr vV (by decide +kernel) ?_)
  show wpAny _ _ (callWith pos (Value.builtin "ValueError.__init__") [] (backTo pos (starEach (e :: es) X.env)) []) _ _ _
  refine PyProof.Rows.callWith_method1 (thn (ha.run pos pins _ σ H _ (I.tok _) h) fun us s1 ⟨vs, H1, I1, r1, a, C, ws, ev, hl, T, ea, q⟩ => ?_) he hpl
  subst ev
  cases r1 with
  | @cons _ u0 _ ur ra rw' =>
    obtain rfl : u0 = Value.ref a := ra
    have hlen : ur.length ≤ sizeLine := by
      rw [← Paired.length rw', sizeLine_eq]
      omega
    exact oinit_ok T I1 ea hlen fun s' J => ⟨.non, H1, J, rfl, q⟩
end Fr
namespace Fr
open PySem PySem.Spec PyProof.Rows L2
/-- a def's promise where nothing is being shown around the call -/
structure FnG (P : Program) (w : World) (K : PySem.W.Frag) (mg : Str → Option Value) (base : Heap) (k : Nat) (f : Addr) (fd : FuncData) (ps : List Str) (sp : Sp) : Prop where
  len : ∀ vs H Q E, sp vs H Q E → vs.length = ps.length
  run : ∀ (B : Around) (outer : List Env) (s : Shared) (H : Hp) (args : Args) (us : List Value) (vs : List V) (Q : VK) (E : XK), B.guards = some [] → Room k B → Env0 P w K mg base B outer s H → BindsTo s fd args (ps.zip us) → Vals vs us → sp vs H Q E →
    codeAny (model P w) B (.call (.ref f) args) (CR CX0 outer P w H s Q E) s
theorem FnG.mk0 {P : Program} {w : World} {K : PySem.W.Frag} {mg : Str → Option Value} {base : Heap} {x qual : Str} {st : Stmt} {f : Addr} {fd : FuncData} {N ps : List Str} {k : Nat} {sp : Sp} (F : Fun K x qual st f fd) (S : FnScope N ps (defScope st)) (len : ∀ vs H Q E, sp vs H Q E → vs.length = ps.length)
    (hbody : ∀ (cdv : Value) (B : Around) (outer : List Env) (s : Shared) (H : Hp) (vs : List V) (Q : VK) (E : XK), (B.deeper (envOfC qual (defScope st) s.heap.objs.size f cdv)).guards = some [] → Room k (B.deeper (envOfC qual (defScope st) s.heap.objs.size f cdv)) → sp vs H Q E →
      ∃ t, PSs (cxOf CX0 P w K mg base N qual (defScope st) f cdv B outer s H E).nox (defBody st) t ∧ t { nx := fun _ H' => Q .non H', rt := Q } (start N vs) H) : FnG P w K mg base (k + 1) f fd ps sp := by
  obtain ⟨oc, od, kV, doc, pm, an, cd, ct, osl, rfl, lk, hcd⟩ := F.ex
  constructor
  · exact len
  intro B outer s H args us vs Q E hgd hr e0 hb r hsp
  have inK : K.In s.heap := e0.mod.kin.keeps fun b o e => (e0.bs b o e).1
  have noL : s.heap.NoLimit := e0.mod.nolimit.keeps fun b o e => (e0.bs b o e).1
  have loc : ∀ y ∈ ps.zip us, (defScope st).names.lookup y.1 = some .local ∨ ((defScope st).names.lookup y.1 = some .cell ∧ ((cellsFrom (s.heap.objs.size + 1) (defScope st).names []).lookup y.1).isSome = true) := by
    rintro ⟨nm, v⟩ hy
    cases S.par nm (List.of_mem_zip hy).1 with
    | inl q => exact .inl q
    | inr q => exact .inr ⟨q, PySem.W.cellsFrom_some _ _ _ (.inl q)⟩
  refine codeAny_call_function hr.depth (inK _ _ lk) rfl S.co S.gen rfl (PySem.W.codeRec_of inK hcd) (hb _ _ _ _ (wpAny_newFunctionEnv_cells S.kind loc fun env he s1 x1 => ?_))
  subst he
  refine ⟨noL.keeps x1.toInCall.keep, codeAny_func ?_⟩
  obtain ⟨t, ht, hq⟩ := hbody cd B outer s H vs Q E hgd (hr.deeper _) hsp
  have I : Inv (cxOf CX0 P w K mg base N qual (defScope st) f cd B outer s H E) [] (L2.start N vs) H s1 := inv_start S hr.hd e0 (len _ _ _ _ hsp) r x1
  refine wpAny_mono (ht.nox.run [] s1 _ H _ I hq) (fun fl s' hs => ?_) fun e s' hs => hs
  match fl, hs with
  | .ret u, ⟨v, σ', H', J, rv, q⟩ => exact ⟨v, H', J.os, J.bare, J.base, J.hok, rv, q⟩
  | .next, ⟨σ', H', J, q⟩ => exact ⟨.non, H', J.os, J.bare, J.base, J.hok, rfl, q⟩
  | .brk, ⟨_, _, _, q⟩ => exact q.elim
  | .cont, ⟨_, _, _, q⟩ => exact q.elim

/-! ### the law's own call -/
theorem law_runG {P : Program} {w : World} {K : PySem.W.Frag} {mg mb : Str → Option Value} {k : Nat} {fa a : Addr} {fd : FuncData} {x : Str} {sp : Sp} {s : Shared} {vs : List Value} {ns : List Int} (inK : K.In s.heap) (nm : s.heap.Ns mainGlobals mg) (nb : s.heap.Ns builtinsNs mb)
    (bb : ∀ x : Str, x ≠ "__name__" → mb x = bootBuiltins x) (noL : s.heap.NoLimit) (g0 : s.gens = #[]) (ea : s.heap.get? a = some { cls := .type "list", data := .seq vs.toArray }) (hi : IntsAre vs ns) (hl : ns.length ≤ sizeLine) (hr : Room k callerA)
    (F : ∀ base : Heap, K.In base → base.Ns mainGlobals mg → FnG P w K mg base k fa fd [x] sp) (bnd : ∀ (s : Shared) (u : Value), BindsTo s fd ⟨[u], []⟩ [(x, u)]) (hsp : ∀ H : Hp, Only H → SqL K H a (ns.map V.int) → sp [.ref a] H (fun v _ => v = .bl true) fun _ _ _ => False) :
    codeAny (model P w) callerA (.call (.ref fa) ⟨[.ref a], []⟩) (fun r s' => r = .ok (.ret (.bool true)) ∧ OldK s.heap s'.heap ∧ s'.os = s.os ∧ AllBare s'.gens) s := by
  have rv := vals_ints hi
  have vl := hi.length
  have go : ∀ H : Hp, Only H → SqL K H a (ns.map V.int) → HOk P w H s.heap → (∀ b, H b ≠ none → b = a) → (H a ≠ none → K.lookup a = none) →
      codeAny (model P w) callerA (.call (.ref fa) ⟨[.ref a], []⟩) (fun r s' => r = .ok (.ret (.bool true)) ∧ OldK s.heap s'.heap ∧ s'.os = s.os ∧ AllBare s'.gens) s := by
    intro H only sq ok own noK
    have free : ∀ {b : Addr} {o : Obj}, s.heap.get? b = some o → (b = a → False) → H b = none := fun {b o} _ ne => Classical.byContradiction fun q => ne (own b q)
    have dictFree : ∀ {b : Addr} {o : Obj} {es : Array DictEntry} {ep : Nat}, s.heap.get? b = some o → o.data = .dict es ep → H b = none := fun {b o es ep} e d => free e fun q => by
      subst q
      rw [ea] at e
      cases e
      have z : Data.seq vs.toArray _ = Data.dict es ep := d
      cases z
    have ns' : ∀ {b : Addr} {m : Str → Option Value}, s.heap.Ns b m → (hidT s.heap H).Ns b m := fun {b m} ⟨o, es, ep, e, d, r⟩ => ⟨o, es, ep, hidT_get e (dictFree e d), d, r⟩
    have inB : K.In (hidT s.heap H) := fun b o e => hidT_get (inK b o e) (Classical.byContradiction fun q => by
      have z := own b q
      subst z
      rw [noK q] at e
      cases e)
    have md : Mod K mg (hidT s.heap H) := by
      refine ⟨inB, ns' nm, ⟨mb, ns' nb, bb⟩, ?_⟩
      obtain ⟨mc, q1, q2⟩ := noL
      exact ⟨mc, ns' q1, q2⟩
    have e0 : Env0 P w K mg (hidT s.heap H) callerA [] s H := ⟨rfl, md, fun b o e => of_hidT e, Nat.le_of_eq (hidT_size _ _), trivial, fun b q => absurd q (List.not_mem_nil), ok, .of_eq g0⟩
    refine codeAny_mono ((F _ inB (ns' nm)).run callerA [] s H ⟨[.ref a], []⟩ [.ref a] [.ref a] _ _ rfl hr e0 (bnd s (.ref a)) (.cons rfl .nil) (hsp H only sq)) fun r s' h => ?_
    match r, h with
    | .error e, h => exact False.elim h
    | .ok .next, h => exact False.elim h
    | .ok .brk, h => exact False.elim h
    | .ok .cont, h => exact False.elim h
    | .ok (.ret u), ⟨v, H', os, bare, un, ok', ru, ev⟩ =>
      cases (show v = .bl true from ev)
      cases (show u = Value.bool true from ru)
      refine ⟨rfl, OldK.of_keep fun b o e => ?_, os, bare⟩
      cases q : H b with
      | none => exact un.keep b o e q (fun z => absurd z List.not_mem_nil) (by simp)
      | some hu =>
        rcases only b with z | ⟨ob, xs, z⟩
        · rw [q] at z
          cases z
        · have a1 := (ok b _ z).1
          have a2 := (ok' b _ (un.frzs b ob _ z)).1
          rw [e] at a1
          cases a1
          exact a2
  cases lk : K.lookup a with
  | some o =>
    have e := inK a o lk
    rw [ea] at e
    cases e
    exact go (fun _ => none) (fun _ => .inl rfl) (.inr ⟨_, vs.toArray, _, lk, rfl, rfl, rfl, by rw [List.size_toArray, vl]; exact hl, by simpa using rv⟩) (fun b u z => by cases (show (none : Option HO) = some u from z)) (fun b z => (z rfl).elim) (fun z => (z rfl).elim)
  | none =>
    have at1 : ∀ b, b = a → (if b = a then some (HO.frz { cls := .type "list", data := .seq vs.toArray } (.lst (ns.map V.int))) else none) = some (HO.frz { cls := .type "list", data := .seq vs.toArray } (.lst (ns.map V.int))) := fun b q => if_pos q
    have at0 : ∀ b, ¬ b = a → (if b = a then some (HO.frz { cls := .type "list", data := .seq vs.toArray } (.lst (ns.map V.int))) else none) = none := fun b q => if_neg q
    refine go (fun b => if b = a then some (.frz { cls := .type "list", data := .seq vs.toArray } (.lst (ns.map V.int))) else none) (fun b => ?_) (.inl (.inr ⟨_, at1 a rfl⟩)) (fun b u z => ?_) (fun b z => ?_) (fun _ => lk)
    · by_cases q : b = a
      · exact .inr ⟨_, _, at1 b q⟩
      · exact .inl (at0 b q)
    · by_cases q : b = a
      · cases (at1 b q).symm.trans z
        subst q
        exact ⟨ea, by rw [List.length_map]; exact hl, vs, _, rv, ea⟩
      · cases (at0 b q).symm.trans z
    · exact Classical.byContradiction fun q => z (at0 b q)
theorem walk_ofG {l : PySem.W.OpenLaw} {n k : Nat} {q : Program} {loose : List Str} {XP : (Str → Option Value) → Heap → Prop} {YP : World → Heap → Prop} {d : DefRec} {K : Params → PySem.W.Frag} {sp : PySem.W.Frag → Sp} {x : Str}
    (hn : l.most = some n) (hn2 : n ≤ sizeLine) (hdf : d.params.defaults = []) (hr : Room k callerA) (hY : ∀ (w : World) (h : Heap), YP w h → (K w.params).In h)
    (F : ∀ (w : World) (mg : Str → Option Value) (fa : Addr) (h : Heap), (K w.params).In h → h.Ns mainGlobals mg → mg d.name = some (.ref fa) →
      ∃ fd : FuncData, (∀ (s : Shared) (u : Value), BindsTo s fd ⟨[u], []⟩ [(x, u)]) ∧ ∀ base : Heap, (K w.params).In base → base.Ns mainGlobals mg → FnG l.prog w (K w.params) mg base k fa fd [x] (sp (K w.params)))
    (hsp : ∀ (K : PySem.W.Frag) (H : Hp) (a : Addr) (ns : List Int), ns.length ≤ n → Only H → SqL K H a (ns.map V.int) → sp K [.ref a] H (fun v _ => v = .bl true) fun _ _ _ => False) :
    PySem.W.WalkO q loose XP YP l.row.toRowW d [] (fun f vs => PySem.call f vs) :=
  Att.attach_call hn hdf fun w s₀ s₁ mg mb fa o pm cd doc a vs ns G Y _ _ _ hmg hobj hints hlen hg => by
    have KX := hY w _ Y
    obtain ⟨fd, hb, hF⟩ := F w mg fa _ KX G.T.g hmg
    exact law_runG KX G.T.g G.T.b G.T.builtins G.T.nolimit hg hobj hints (Nat.le_trans hlen hn2) hr hF hb fun H hO hS => hsp _ H a ns hlen hO hS
/-! ### a call of such a def -/
structure CalG (P : Program) (w : World) (K : PySem.W.Frag) (mg : Str → Option Value) (base : Heap) (x : Str) (k : Nat) (ps : List Str) (sp : Sp) : Prop where
  ex : ∃ (f : Addr) (fd : FuncData), mg x = some (.ref f) ∧ PySem.W.keepIn K (.ref f) = true ∧ Binds K fd ps [] ∧ FnG P w K mg base k f fd ps sp
section
variable {X : Cx}
theorem run_fnG {pins : List (Addr × Obj)} {σ : L2.St} {H : Hp} {s : Shared} {Q : VK} {us : List Value} {vs : List V} {k : Nat} {f : Addr} {fd : FuncData} {ps : List Str} {sp : Sp} (F : FnG X.prog X.w X.K X.mg X.base k f fd ps sp) (hgd : X.A.guards = some []) (hr : Room k X.A) (hb : Binds X.K fd ps [])
    (I : Inv X pins σ H s) (r : Vals vs us) (h : sp vs H Q E0) : wpAny (model X.prog X.w) X.A (call (.ref f) us) (EP X pins σ Q) X.xe s := by
  have hl : us.length = ps.length := by rw [← r.length]; exact F.len _ _ _ _ h
  refine wpAny_call (codeAny_mono (F.run X.A X.stack s H ⟨us, []⟩ us vs Q E0 hgd hr I.env0 (by have z := hb s us I.kIn (by rw [List.append_nil]; exact hl); rw [List.append_nil] at z; exact z) r h) fun r s' hq => ?_)
  cases r with
  | error e => exact pass0 pins σ H s e s' I hq
  | ok fl =>
    cases fl with
    | ret u => exact I.after hq
    | next => exact False.elim hq
    | brk => exact False.elim hq
    | cont => exact False.elim hq
theorem pe_cG {x : Str} {k : Nat} {ps : List Str} {sp : Sp} {e : Expr} {es : List Expr} {t : TA} {p pos : Pos} (C : CalG X.prog X.w X.K X.mg X.base x k ps sp) (hgd : X.A.guards = some []) (hr : Room k X.A) (ha : PA X (e :: es) t) (hg : Gl X x := by rfl)
    (hdb : (x == ("__debug__" : Str)) = false := by decide) (he : starEach (e :: es) X.env = (false, eval e X.env) :: starEach es X.env := by rfl) (hpl : (backTo pos (starEach es X.env)).any (·.1) = false := by rfl) :
    PE X (.Call (.Name x p) (e :: es) [] pos) (fun σ H Q => t σ H fun vs H1 => sp vs H1 Q E0) := by
  obtain ⟨f, fd, hm, hk, hb, F⟩ := C.ex
  refine ⟨fun pins s σ H Q I h => ?_⟩
  refine wpAny_Call_Name_kw (ld_glob I hg hm ?_ hdb)
  refine PySem.W.callWith_K (h₀ := X.base) I.ok.mod.kin hk (thn (ha.run pos pins s σ H _ I h) fun us s1 ⟨vs, H1, I1, r, q⟩ => ⟨I1.kIn, ?_⟩) he hpl
  exact run_fnG F hgd hr hb I1 r q
/-! ### C(e, ..) as a value, C's own __init__ keeping sp -/
def tMkX (C : Addr) (sp : Sp) (ta : TA) : TE := fun σ H Q => ta σ H fun vs H1 => vs.length ≤ 1000 ∧ ∀ a, H1 a = none → sp (.ref a :: vs) (upd H1 a (exo a C none)) (fun v H2 => v = .non ∧ Q (.ref a) H2) E0
theorem pe_oex {x : Str} {C fI : Addr} {k : Nat} {fd : FuncData} {ps : List Str} {sp : Sp} {e : Expr} {es : List Expr} {ta : TA} {p pos : Pos} (T : OexC X.K C) (iC : PySem.W.findIn X.K (.ref C) "__init__" = some (some (.ref fI))) (tI : PySem.W.typeIn X.K (.ref fI) = some (.type "function"))
    (F1 : FnG X.prog X.w X.K X.mg X.base k fI fd ps sp) (hgd : X.A.guards = some []) (hr : Room (k + 1) X.A) (hb : Binds X.K fd ps []) (hg : Gl X x) (hm : X.mg x = some (.ref C)) (ha : PA X (e :: es) ta)
    (hdb : (x == ("__debug__" : Str)) = false := by decide) (he : starEach (e :: es) X.env = (false, eval e X.env) :: starEach es X.env := by rfl) (hpl : (backTo pos (starEach es X.env)).any (·.1) = false := by rfl) :
    PE X (.Call (.Name x p) (e :: es) [] pos) (tMkX C sp ta) := by
  refine ⟨fun pins s σ H Q I h => ?_⟩
  obtain ⟨nm, q, N, bs, bm, sn, sub, ab, col, dd, k0, k1, k2, k3, k5, hC, hbm⟩ := T.cls
  refine wpAny_Call_Name_kw (ld_glob I hg hm ?_ hdb)
  refine PySem.W.callWith_K (h₀ := X.base) I.ok.mod.kin T.kC (thn (ha.run pos pins s σ H _ I h) fun us s1 ⟨vs, H1, I1, r1, hz, q1⟩ => ⟨I1.kIn, ?_⟩) he hpl
  show wpAny _ _ (call (.ref C) us) _ _ _
  obtain ⟨hp, g, dr, tk, os⟩ := s1
  have hsz : hp.objs.size ≤ hp.objs.size + 1 := Nat.le_succ _
  have hn : H1 (hp.objs.size + 1) = none := I1.hok.fresh hsz
  have hq := q1 (hp.objs.size + 1) hn
  have kk : ∀ b o, hp.get? b = some o → ((hp.push (PySem.W.kdv_tup us)).push (PySem.HandSPX.excO C hp.objs.size)).get? b = some o := fun b o e => Heap.get?_push_of_some _ (Heap.get?_push_of_some _ e)
  have hget : ((hp.push (PySem.W.kdv_tup us)).push (PySem.HandSPX.excO C hp.objs.size)).get? (hp.objs.size + 1) = some (PySem.HandSPX.excO C hp.objs.size) := by heap_get
  have I2 : Inv X pins σ (upd H1 (hp.objs.size + 1) (exo (hp.objs.size + 1) C none)) ⟨(hp.push (PySem.W.kdv_tup us)).push (PySem.HandSPX.excO C hp.objs.size), g, dr, tk, os⟩ :=
    I1.laid (t' := tk) (a := hp.objs.size + 1) (o := exo (hp.objs.size + 1) C none) (h' := (hp.push (PySem.W.kdv_tup us)).push (PySem.HandSPX.excO C hp.objs.size)) kk hsz (exo_ok hget)
  have r2 : Vals (V.ref (hp.objs.size + 1) :: vs) (Value.ref (hp.objs.size + 1) :: us) := .cons rfl r1
  have hl : (Value.ref (hp.objs.size + 1) :: us).length = ps.length := by
    have e := r2.length
    rw [F1.len _ _ _ _ hq] at e
    exact e.symm
  have hus : us.length ≤ sizeLine := by
    rw [← Paired.length r1, sizeLine_eq]
    omega
  have hb2 := hb ⟨(hp.push (PySem.W.kdv_tup us)).push (PySem.HandSPX.excO C hp.objs.size), g, dr, tk, os⟩ (Value.ref (hp.objs.size + 1) :: us) I2.kIn (by rw [List.append_nil]; exact hl)
  rw [List.append_nil] at hb2
  refine wpAny_call (PySem.HandSPX.call_own F.excBase_ValueError (fun Y => PySem.HandSPX.refsVE_contains Y bm hbm) (I1.kIn _ _ hC) (PySem.W.looks_findIn I1.kIn iC) (fun self => PySem.W.bind_fn I1.kIn self tI) hus
    (codeAny_mono (F1.run _ X.stack _ _ ⟨Value.ref (hp.objs.size + 1) :: us, []⟩ (Value.ref (hp.objs.size + 1) :: us) _ _ E0 hgd (hr.make C us []) (I2.env0.make C us []) hb2 r2 hq) fun r s' hq' => ?_))
  cases r with
  | error er => exact pass0 pins σ _ _ er s' I2 hq'
  | ok fl =>
    cases fl with
    | ret u =>
      obtain ⟨v, H2, os2, bare2, un2, hok2, rv, ev, q2⟩ := hq'
      subst ev
      exact ⟨rv, .ref (hp.objs.size + 1), H2, I2.call' (ch := []) os2 un2 hok2 bare2 (fun b z => absurd z (by simp)), rfl, q2⟩
    | next => exact False.elim hq'
    | brk => exact False.elim hq'
    | cont => exact False.elim hq'
/-! ### ten values -/
inductive Ten (H : Hp) : V → PyData → Prop where
  | non : Ten H .non .none
  | i0 : Ten H (.int 0) (.int 0)
  | i7 : Ten H (.int (-7)) (.int (-7))
  | ib : Ten H (.int 100000000000000000000) (.int 100000000000000000000)
  | sx : Ten H (.str "x") (.str "x")
  | se : Ten H (.str "") (.str "")
  | bt : Ten H (.bl true) (.bool true)
  | tup {a : Addr} (h : H a = some (.tup [.int 1, .int 2])) : Ten H (.ref a) (.tuple [.int 1, .int 2])
  | lst {a : Addr} (h : H a = some (.lst [.int 3])) : Ten H (.ref a) (.list [.int 3])
  | dct {a : Addr} (h : H a = some (.dK [(.inr "a", .int 4)])) : Ten H (.ref a) (.dict [(.str "a", .int 4)])
theorem Ten.same {H H' : Hp} {v : V} {d : PyData} (t : Ten H v d) (s : Same H H') : Ten H' v d := by
  cases t with
  | non => exact .non
  | i0 => exact .i0
  | i7 => exact .i7
  | ib => exact .ib
  | sx => exact .sx
  | se => exact .se
  | bt => exact .bt
  | tup h => exact .tup (s _ _ h)
  | lst h => exact .lst (s _ _ h)
  | dct h => exact .dct (s _ _ h)
def tens : List PyData := [.none, .int 0, .int (-7), .int 100000000000000000000, .str "x", .str "", .bool true, .tuple [.int 1, .int 2], .list [.int 3], .dict [(.str "a", .int 4)]]
theorem Ten.mem {H : Hp} {v : V} {d : PyData} (t : Ten H v d) : d ∈ tens := by
  cases t <;> simp [tens]
theorem tens_ok : ∀ d ∈ tens, d.showable = true ∧ d.shown.length ≤ 100 ∧ d.depth ≤ 1 := by decide +kernel
theorem tens_one : ∀ d ∈ tens, (PyData.list [d]).showable = true ∧ (PyData.list [d]).shown.length ≤ 100 ∧ (PyData.list [d]).depth ≤ 2 := by decide +kernel
theorem tens_two : ∀ d ∈ tens, ∀ b ∈ tens, (PyData.list [d, b]).showable = true ∧ (PyData.list [d, b]).shown.length ≤ 100 ∧ (PyData.list [d, b]).depth ≤ 2 := by decide +kernel
/-- the table of the modules stands in the written part: so nothing tracked is there -/
def SysIn (K : PySem.W.Frag) : Prop := ∃ o, K.lookup sysModules = some o
theorem SysIn.no (S : SysIn X.K) {pins : List (Addr × Obj)} {σ : L2.St} {H : Hp} {s : Shared} (I : Inv X pins σ H s) {a : Addr} {o : HO} (h : H a = some o) : sysModules ≠ a := fun e => by
  obtain ⟨ob, l⟩ := S
  have z := (I.bs _ _ (I.ok.mod.kin _ _ l)).2
  rw [e, h] at z
  cases z
theorem Ten.reads {pins : List (Addr × Obj)} {σ : L2.St} {H : Hp} {s : Shared} (I : Inv X pins σ H s) (S : SysIn X.K) {v : V} {d : PyData} {u : Value} (t : Ten H v d) (r : RelV v u) : ∃ as, Reads s.heap u d as ∧ sysModules ∉ as := by
  cases t with
  | non => cases r; exact ⟨_, .none, by simp⟩
  | i0 => obtain ⟨t, rfl⟩ := r; exact ⟨_, .int _ t, by simp⟩
  | i7 => obtain ⟨t, rfl⟩ := r; exact ⟨_, .int _ t, by simp⟩
  | ib => obtain ⟨t, rfl⟩ := r; exact ⟨_, .int _ t, by simp⟩
  | sx => obtain ⟨t, rfl⟩ := r; exact ⟨_, .str _ t, by simp⟩
  | se => obtain ⟨t, rfl⟩ := r; exact ⟨_, .str _ t, by simp⟩
  | bt => cases r; exact ⟨_, .bool true, by simp⟩
  | tup h =>
    cases r
    obtain ⟨_, its, rv, o, h1, h2, n, h3⟩ := (show ObjOk X.prog X.w H s.heap _ (.tup _) from I.hok _ _ h)
    cases rv with
    | cons r1 rr =>
      cases rr with
      | cons r2 rr =>
        cases rr
        obtain ⟨t1, rfl⟩ := r1
        obtain ⟨t2, rfl⟩ := r2
        exact ⟨_, .tuple h1 h2 h3 (.cons (.int 1 t1) (.cons (.int 2 t2) .nil)), by simp⟩
  | lst h =>
    cases r
    have ne := S.no I h
    obtain ⟨_, its, n, rv, h1⟩ := (show ObjOk X.prog X.w H s.heap _ (.lst _) from I.hok _ _ h)
    cases rv with
    | cons r1 rr =>
      cases rr
      obtain ⟨t1, rfl⟩ := r1
      exact ⟨_, .list h1 rfl rfl (.cons (.int 3 t1) .nil), by simpa using ne⟩
  | dct h =>
    cases r
    have ne := S.no I h
    obtain ⟨_, _, vs, kv, o, es, ep, h1, hx, h2, hk, hp, _⟩ := (show ObjOk X.prog X.w H s.heap _ (.dK _) from I.hok _ _ h)
    cases kv with
    | @cons _ q _ qs r1 rr =>
      cases rr
      obtain ⟨q1, q2⟩ := q
      obtain ⟨e1, r1⟩ := r1
      dsimp only at e1 r1
      subst e1
      obtain ⟨t2, rfl⟩ := r1
      obtain ⟨e, es1, he, hes, hkey, hval⟩ : ∃ e es1, es.toList = e :: es1 ∧ es1 = [] ∧ keyIs (Sum.inr "a") e.key = true ∧ e.val = .int 4 t2 := by
        have gen : ∀ (l : List DictEntry) (kvs : List (Key × Value)), Pairs (mixKind X.prog X.w) l kvs → kvs = [((Sum.inr ("a" : Str) : Key), Value.int 4 t2)] → ∃ e es1, l = e :: es1 ∧ es1 = [] ∧ keyIs (Sum.inr "a") e.key = true ∧ e.val = .int 4 t2 := by
          intro l kvs hp ek
          cases hp with
          | nil => cases ek
          | cons k v r =>
            injection ek with e1 e2
            subst e2
            cases r
            subst e1
            exact ⟨_, _, rfl, rfl, k, v⟩
        exact gen _ _ hp rfl
      subst hes
      obtain ⟨tk, hk2⟩ : ∃ tk, e.key = .str "a" tk := by
        rcases keyIs_shape hkey with ⟨i, t, z, _⟩ | ⟨x, t, z, w⟩
        · cases z
        · cases z
          exact ⟨t, w⟩
      refine ⟨_, .dict (kvs := [(.str "a", .int 4)]) h1 hx.1 h2 (as := []) (bs := []) ?_ ?_, by simpa using ne⟩
      · rw [he]
        show ReadsAll s.heap [e.key] [.str "a"] _
        rw [hk2]
        exact .cons (.str "a" tk) .nil
      · rw [he]
        show ReadsAll s.heap [e.val] [.int 4] _
        rw [hval]
        exact .cons (.int 4 t2) .nil
/-! ### {x} in an f-string, where nothing is being shown -/
def tFmtD (te : TE) : TE := fun σ H Q => te σ H fun x H1 => ∃ d, Ten H1 x d ∧ ∀ m : Str, m.length ≤ 100 → Q (.str m) H1
theorem pe_fmtD {e : Expr} {te : TE} {pos : Pos} {k : Nat} (hgd : X.A.guards = some []) (hr : Room k X.A) (S : SysIn X.K) (he : PE X e te) : PE X (.FormattedValue e (-1) none pos) (tFmtD te) := by
  refine ⟨fun pins s σ H Q I h => ?_⟩
  refine wpAny_FormattedValue_plain (thn (he.run pins s σ H _ I h) fun v s1 hv => ?_)
  obtain ⟨x, H1, I1, r1, d, t, q⟩ := hv
  have hu := hr.units
  obtain ⟨as, rd, na⟩ := t.reads I1 S r1
  obtain ⟨sh, sl, sd⟩ := tens_ok d t.mem
  have go : ∀ a : Addr, v = .ref a → wpAny (model X.prog X.w) X.A (formatField v Str.empty) (EP X pins σ Q) X.xe s1 := fun a ev => by
    subst ev
    exact formatField_of_reads rd sh (fun _ => na) hgd (by omega) (fun _ _ e => e) (fun h' u tk hk => ⟨.str d.shown, H1, I1.kept (t' := tk) hk, ⟨_, rfl⟩, q _ sl⟩) (by rw [sizeLine_eq]; omega)
  cases t with
  | non => cases r1; exact wpAny_formatField_none ⟨.str "None", H1, I1.tok _, ⟨_, rfl⟩, q _ (by decide +kernel)⟩
  | i0 => obtain ⟨t, rfl⟩ := r1; exact wpAny_formatField_int (by decide) ⟨.str (toString (0 : Int)), H1, I1.tok _, ⟨_, rfl⟩, q _ (by decide +kernel)⟩
  | i7 => obtain ⟨t, rfl⟩ := r1; exact wpAny_formatField_int (by decide) ⟨.str (toString (-7 : Int)), H1, I1.tok _, ⟨_, rfl⟩, q _ (by decide +kernel)⟩
  | ib => obtain ⟨t, rfl⟩ := r1; exact wpAny_formatField_int (by decide +kernel) ⟨.str (toString (100000000000000000000 : Int)), H1, I1.tok _, ⟨_, rfl⟩, q _ (by decide +kernel)⟩
  | sx => obtain ⟨t, rfl⟩ := r1; exact wpAny_formatField_str ⟨.str "x", H1, I1, ⟨t, rfl⟩, q _ (by decide +kernel)⟩ ⟨.str "x", H1, I1.tok _, ⟨_, rfl⟩, q _ (by decide +kernel)⟩ (by decide +kernel)
  | se => obtain ⟨t, rfl⟩ := r1; exact wpAny_formatField_str ⟨.str "", H1, I1, ⟨t, rfl⟩, q _ (by decide +kernel)⟩ ⟨.str "", H1, I1.tok _, ⟨_, rfl⟩, q _ (by decide +kernel)⟩ (by decide +kernel)
  | bt => cases r1; exact wpAny_formatField_bool ⟨.str "True", H1, I1.tok _, ⟨_, rfl⟩, q _ (by decide +kernel)⟩
  | tup h => exact go _ r1
  | lst h => exact go _ r1
  | dct h => exact go _ r1
/-! ### repr of a list of one or two of them -/
inductive TenL (H : Hp) : List V → List PyData → Prop where
  | one {v : V} {d : PyData} (t : Ten H v d) : TenL H [v] [d]
  | two {v x : V} {d b : PyData} (t : Ten H v d) (u : Ten H x b) : TenL H [v, x] [d, b]
def rReprT : List V → Hp → VK → Prop := fun xs H Q => ∃ (a : Addr) (vs : List V) (ds : List PyData), xs = [.ref a] ∧ H a = some (.lst vs) ∧ TenL H vs ds ∧ Q (.str (PyData.list ds).shown) H
theorem call_reprT (hgd : X.A.guards = some []) (hu : X.A.units + 64 < cLine) (S : SysIn X.K) : CallR X (.builtin "repr") rReprT := by
  intro pins s σ H xs us Q I rv h
  obtain ⟨a, vs, ds, rfl, ha, tl, q⟩ := h
  obtain ⟨u, rfl, ru⟩ := rv.one
  cases ru
  have ne := S.no I ha
  obtain ⟨_, its, n, rv, h1⟩ := (show ObjOk X.prog X.w H s.heap _ (.lst _) from I.hok _ _ ha)
  have key : ∃ as, Reads s.heap (.ref a) (.list ds) as ∧ sysModules ∉ as := by
    cases tl with
    | one t =>
      cases rv with
      | cons r1 rr =>
        cases rr
        obtain ⟨as, rd, na⟩ := t.reads I S r1
        exact ⟨_, .list h1 rfl rfl (.cons rd .nil), by simpa using ⟨ne, na⟩⟩
    | two t t2 =>
      cases rv with
      | cons r1 rr =>
        cases rr with
        | cons r2 rr =>
          cases rr
          obtain ⟨as, rd, na⟩ := t.reads I S r1
          obtain ⟨bs, rd2, nb⟩ := t2.reads I S r2
          exact ⟨_, .list h1 rfl rfl (.cons rd (.cons rd2 .nil)), by simpa using ⟨ne, na, nb⟩⟩
  obtain ⟨as, rd, na⟩ := key
  have ok : (PyData.list ds).showable = true ∧ (PyData.list ds).shown.length ≤ 100 ∧ (PyData.list ds).depth ≤ 2 := by
    cases tl with
    | one t => exact tens_one _ t.mem
    | two t t2 => exact tens_two _ t.mem _ t2.mem
  obtain ⟨o1, o2, o3⟩ := ok
  exact repr_of_reads' rd o1 (fun _ => na) hgd (by omega) (fun _ _ e => e) (fun h' u tk hk => ⟨.str _, H, I.kept (t' := tk) hk, ⟨_, rfl⟩, q⟩) (by rw [sizeLine_eq]; omega)
end
end Fr
/-! ### self.__class__ of an exception, C.__name__ of a class of one's own -/
namespace XNm
open PySem PySem.W PySem.Calls PyProof.Rows Builtin Builtin.ObjectAttr Builtin.Getset_descriptor
variable {prog : Program} {w : World} {A : Around} {E : Value → Shared → Prop} {s : Shared} {K : Frag} {p D : Addr} {ob : Obj} {di : Option Obj}
/-- what the classes must say of __class__ -/
structure ClsRd (K : Frag) (D : Addr) : Prop where
  cl : (clsIn K D).isSome = true
  g1 : findIn K (.ref D) "__getattribute__" = some (some (.builtin "BaseException.__getattribute__"))
  g2 : findIn K (.ref D) "__getattr__" = some none
  sb : subIn K (.ref D) (.type "BaseException") = some true
  at_ : findIn K (.ref D) "__class__" = some (some (.builtin "object.__class__"))
  gs : specialIn K (.builtin "object.__class__") "__get__" = some (some (.builtin "getset_descriptor.__get__"))
  tk : takesIn K (.builtin "object.__class__") = some true
  mr : mroIn K D (.type "object") = some true
theorem noClash : (Value.builtin "BaseException.__getattribute__" == Value.builtin "object.__getattribute__") = false := by decide +kernel
theorem readCls {ex : Bool} {Q : Value → Shared → Prop} (c : ClsRd K D) (hK : K.In s.heap) (J : InstAt s.heap p ob D none) (k : Q (.ref D) { s with toks := s.toks + 1 }) : wpAny (model prog w) A (getAttr (.ref p) "__class__" ex) Q E s := by
  obtain ⟨cd, hcd⟩ := Option.isSome_iff_exists.mp c.cl
  have found : findObj K D none "__class__" = some (.bind (.builtin "getset_descriptor.__get__") (.builtin "object.__class__")) := findObj_dataN c.cl c.at_ c.gs c.tk
  obtain ⟨hp, gn, dr, tk, os⟩ := s
  have ty := J.type (M := model prog w)
  have below : Looks (model prog w) hp (isInstance (.ref p) (.type "BaseException")) true := ty.andThen (looks_subIn hK c.sb)
  have cmp1 : (onTheHeap (Value.ref D) && Value.builtin "BaseException.__getattribute__" == Value.builtin "object.__getattribute__") = false := by rw [noClash, Bool.and_false]
  have cmp2 : (ex && onTheHeap (Value.builtin "BaseException.__getattribute__")) = false := Bool.and_false ex
  unfold getAttr getAttrBy
  refine wpAny_bind (wpAny_mkText (wpAny_holding ?_))
  refine wpAny_bind (ty.at (wpAny_bind ((looks_findIn (M := model prog w) hK c.g1).at ?_)))
  dsimp only
  rw [if_neg (by rw [cmp1]; decide)]
  unfold getAttrByItsOwn hookBefore
  have onH : onTheHeap (Value.ref D) = true := rfl
  refine wpAny_bind ?_
  rw [if_pos onH]
  refine (looks_findIn (M := model prog w) hK c.g2).at (wpAny_bind (wpAny_attempt (wpAny_holding ?_)))
  unfold callGetattribute
  rw [if_neg (by rw [cmp2]; decide)]
  unfold boundAndCalled
  rw [PySem.F.excAttr_ValueError.ga.bind (.ref p)]
  refine wpAny_bind (wpAny_pure (wpAny_call (codeAny_call_builtin PySem.F.excAttr_ValueError.ga.plain PySem.F.entry_bexc_ga ?_)))
  have args := PySem.F.args_bexc_ga (.ref p) (.str "__class__" tk)
  refine @check_slot (model prog w) A.in1 _ ⟨hp, gn, dr, tk + 1, os⟩ "BaseException.__getattribute__" "BaseException" "__getattribute__" (.ref p) [.str "__class__" tk] [] _ (by decide +kernel) (by decide +kernel) below args ?_
  unfold Builtin.«object.__getattribute__»
  refine wpAny_bind (wpAny_of_eq (a := ((.ref p : Value), [.str "__class__" tk])) (by first | rfl | (simp only [slotArgs]; rfl)) (wpAny_bind (wpAny_pure ?_)))
  refine wpAny_bind (ty.at (wpAny_bind ((looks_find (M := model prog w) hK J found).at ?_)))
  show wpAny _ _ (holding [Value.builtin "object.__class__"] (call (.builtin "getset_descriptor.__get__") [.builtin "object.__class__", .ref p, .ref D]) >>= fun v => ret v) _ _ _
  refine wpAny_bind (wpAny_holding (wpAny_call (class_get (s := ⟨hp, gn, dr, tk + 1, os⟩) (ox := ob) (od := none) hK J c.mr ?_)))
  refine wpAny_pure ?_
  exact handed_on (s := ⟨hp, gn, dr, tk + 1, os⟩) rfl k
/-- the class has kept its name -/
structure NmRd (K : Frag) (D : Addr) (z : Str) : Prop where
  ty : typeIn K (.ref D) = some (.type "type")
  rd : readsIn K D (.type "type") = true
  fd : findCls K (.ref D) (.type "type") "__name__" = some (.get (.builtin "getset_descriptor.__get__") (.builtin "type.__name__") (.ref D) (.type "type"))
  ob : ∃ o tk, K.lookup D = some o ∧ o.slots[2]? = some (some (.str z tk))
theorem nameGet {z : Str} {tp : Value} {R : Result → Shared → Prop} (c : NmRd K D z) (hK : K.In s.heap) (k : ∀ tk, R (.ok (.ret (.str z tk))) s) :
    codeAny (model prog w) A (.call (.builtin "getset_descriptor.__get__") ⟨[.builtin "type.__name__", .ref D, tp], []⟩) R s := by
  obtain ⟨hp, gn, dr, tk, os⟩ := s
  have ty : Looks (model prog w) hp (typeOf (.ref D)) (.type "type") := looks_typeIn hK c.ty
  have tt : Looks (model prog w) hp (isSubtype (.type "type") (.type "type")) true := Looks.of_pure (by rw [isSubtype_type]; kernel_rfl)
  obtain ⟨o, t2, hl, ho⟩ := c.ob
  refine codeAny_call_builtin KF.slot_gs.plain KF.entry_gs (KF.slot_gs.check _ _ _ _ _ _ _ _ ktyn_type (KF.args_gs _ _ _) ?_)
  unfold Builtin.«getset_descriptor.__get__» descrGet
  refine wpAny_bind (wpAny_of_eq (dga_obj _ tp D) ?_)
  unfold descrGetter descrCheckInstance descrNameAndClass isInstance
  dsimp only
  simp only [ktyn_owner]
  repeat lk
  refine ⟨Code.quiet_builtin _ (by decide +kernel), codeAny_builtin ktyn_entry ?_⟩
  unfold Builtin.«type.__name__» keptObject slotAt
  refine wpAny_bind (wpAny_bind (wpAny_bind (wpAny_loadPart (hK _ _ hl) (wpAny_pure ?_))))
  rw [ho]
  exact wpAny_pure (wpAny_pure (k t2))
theorem readNm {z : Str} {ex : Bool} {Q : Value → Shared → Prop} (c : NmRd K D z) (hK : K.In s.heap) (k : ∀ tk, Q (.str z tk) { s with toks := s.toks + 1 }) : wpAny (model prog w) A (getAttr (.ref D) "__name__" ex) Q E s :=
  cls_bind hK c.rd c.fd (wpAny_call (nameGet (s := { s with toks := s.toks + 1 }) c hK fun tk => handed_on rfl (k tk)))
end XNm
namespace Fr
open PySem PySem.Spec PyProof.Rows L2
/-- e.__class__.__name__, e the exception that is being made -/
def tClsNm (K : PySem.W.Frag) (te : TE) : TE := fun σ H Q => te σ H fun x H1 => ∃ (a C : Addr) (z : Str), x = .ref a ∧ H1 a = some (exo a C none) ∧ XNm.ClsRd K C ∧ XNm.NmRd K C z ∧ Q (.str z) H1
theorem pe_clsNm {X : Cx} {e : Expr} {te : TE} {p1 p2 : Pos} (he : PE X e te) (h1 : attributeBase e "__class__" X.env (eval e X.env) = eval e X.env := by rfl)
    (h2 : attributeBase (.Attribute e "__class__" p1) "__name__" X.env (eval (.Attribute e "__class__" p1) X.env) = eval (.Attribute e "__class__" p1) X.env := by rfl) : PE X (.Attribute (.Attribute e "__class__" p1) "__name__" p2) (tClsNm X.K te) := by
  refine ⟨fun pins s σ H Q I h => attr_of h2 (attr_of h1 (thn (he.run pins s σ H _ I h) fun u s1 hh => ?_))⟩
  obtain ⟨x, H1, I1, rx, a, C, z, rfl, ea, c1, c2, q⟩ := hh
  obtain rfl : u = Value.ref a := rx
  obtain ⟨t1, ho⟩ := exo_at I1.hok ea
  have J : PySem.W.InstAt s1.heap a _ C none := ⟨ho, rfl, rfl, trivial⟩
  exact XNm.readCls c1 I1.kIn J (XNm.readNm (s := { s1 with toks := s1.toks + 1 }) c2 I1.kIn fun tk => ⟨.str z, H1, I1.tok _, ⟨tk, rfl⟩, q⟩)
end Fr

namespace Fr
open PySem PySem.Spec PyProof.Rows L2
/-! ### Base.__init__(self, ..), Base an own class with an own __init__ -/
theorem pe_finit {X : Cx} {B fI : Addr} {x : Str} {k : Nat} {fd : FuncData} {ps : List Str} {sp : Sp} {e : Expr} {es : List Expr} {ta : TA} {p1 p2 pos : Pos} {pl : Sem Bool} (hg : Gl X x) (hm : X.mg x = some (.ref B)) (hs : PySem.W.specialIn X.K (.ref B) "__getattribute__" = some (some (.builtin "type.__getattribute__")))
    (hr : PySem.W.readsIn X.K B (.type "type") = true) (vV : PySem.W.findCls X.K (.ref B) (.type "type") "__init__" = some (.val (.ref fI)))
    (tI : PySem.W.typeIn X.K (.ref fI) = some (.type "function")) (kp : PySem.W.keepIn X.K (.ref fI) = true) (F : FnG X.prog X.w X.K X.mg X.base k fI fd ps sp) (hgd : X.A.guards = some []) (hro : Room k X.A) (hb : Binds X.K fd ps []) (ha : PA X (e :: es) ta)
    (hdb : (x == ("__debug__" : Str)) = false := by decide)
    (hc : eval (.Call (.Attribute (.Name x p1) "__init__" p2) (e :: es) [] pos) X.env = (do
      let ov ← eval (.Name x p1) X.env
      standAt p2.atName
      let (f, first) ← holding [ov] (getMethod ov "__init__" pl)
      callWith pos f first (backTo pos (starEach (e :: es) X.env)) (backToKw pos (keywordEach [] X.env))) := by rfl)
    (he : starEach (e :: es) X.env = (false, eval e X.env) :: starEach es X.env := by rfl) (hpl : (backTo pos (starEach es X.env)).any (·.1) = false := by rfl) :
    PE X (.Call (.Attribute (.Name x p1) "__init__" p2) (e :: es) [] pos) (fun σ H Q => ta σ H fun vs H1 => sp vs H1 Q E0) := by
  refine ⟨fun pins s σ H Q I h => ?_⟩
  refine PySem.W.methodCall_KW (ld_glob I hg hm ?_ hdb) hc
  refine PySem.W.method_cls I.kIn hs (PySem.W.cls_value I.kIn hr vV rfl ?_)
  show wpAny _ _ (callWith pos (Value.ref fI) [] (backTo pos (starEach (e :: es) X.env)) []) _ _ _
  refine PySem.W.callWith_K (h₀ := X.base) I.ok.mod.kin kp (thn (ha.run pos pins _ σ H _ (I.tok _) h) fun us s1 ⟨vs, H1, I1, r, q⟩ => ⟨I1.kIn, ?_⟩) he hpl
  exact run_fnG F hgd hro hb I1 r q
theorem FnG.mkD {P : Program} {w : World} {K : PySem.W.Frag} {mg : Str → Option Value} {base : Heap} {x qual : Str} {params : Arguments} {body : List Stmt} {scope : Scope} {dvs : List V} {kws : List (Str × V)} {f : Addr} {fd : FuncData} {N ps : List Str} {k : Nat} {sp : Sp} (F : FunD K x qual params body scope dvs kws f fd) (S : FnScope N ps scope) (len : ∀ vs H Q E, sp vs H Q E → vs.length = ps.length)
    (hbody : ∀ (cdv : Value) (B : Around) (outer : List Env) (s : Shared) (H : Hp) (vs : List V) (Q : VK) (E : XK), (B.deeper (envOfC qual scope s.heap.objs.size f cdv)).guards = some [] → Room k (B.deeper (envOfC qual scope s.heap.objs.size f cdv)) → sp vs H Q E →
      ∃ t, PSs (cxOf CX0 P w K mg base N qual scope f cdv B outer s H E).nox body t ∧ t { nx := fun _ H' => Q .non H', rt := Q } (start N vs) H) : FnG P w K mg base (k + 1) f fd ps sp := by
  obtain ⟨oc, od, dV, kV, doc, pm, an, cd, ct, osl, rfl, lk, hcd, _, _⟩ := F.ex
  constructor
  · exact len
  intro B outer s H args us vs Q E hgd hr e0 hb r hsp
  have inK : K.In s.heap := e0.mod.kin.keeps fun b o e => (e0.bs b o e).1
  have noL : s.heap.NoLimit := e0.mod.nolimit.keeps fun b o e => (e0.bs b o e).1
  have loc : ∀ y ∈ ps.zip us, scope.names.lookup y.1 = some .local ∨ (scope.names.lookup y.1 = some .cell ∧ ((cellsFrom (s.heap.objs.size + 1) scope.names []).lookup y.1).isSome = true) := by
    rintro ⟨nm, v⟩ hy
    cases S.par nm (List.of_mem_zip hy).1 with
    | inl q => exact .inl q
    | inr q => exact .inr ⟨q, PySem.W.cellsFrom_some _ _ _ (.inl q)⟩
  refine codeAny_call_function hr.depth (inK _ _ lk) rfl S.co S.gen rfl (PySem.W.codeRec_of inK hcd) (hb _ _ _ _ (wpAny_newFunctionEnv_cells S.kind loc fun env he s1 x1 => ?_))
  subst he
  refine ⟨noL.keeps x1.toInCall.keep, codeAny_func ?_⟩
  obtain ⟨t, ht, hq⟩ := hbody cd B outer s H vs Q E hgd (hr.deeper _) hsp
  have I : Inv (cxOf CX0 P w K mg base N qual scope f cd B outer s H E) [] (L2.start N vs) H s1 := inv_start S hr.hd e0 (len _ _ _ _ hsp) r x1
  refine wpAny_mono (ht.nox.run [] s1 _ H _ I hq) (fun fl s' hs => ?_) fun e s' hs => hs
  match fl, hs with
  | .ret u, ⟨v, σ', H', J, rv, q⟩ => exact ⟨v, H', J.os, J.bare, J.base, J.hok, rv, q⟩
  | .next, ⟨σ', H', J, q⟩ => exact ⟨.non, H', J.os, J.bare, J.base, J.hok, rfl, q⟩
  | .brk, ⟨_, _, _, q⟩ => exact q.elim
  | .cont, ⟨_, _, _, q⟩ => exact q.elim
theorem pe_cG0 {X : Cx} {x : Str} {k : Nat} {ps : List Str} {sp : Sp} {p pos : Pos} (C : CalG X.prog X.w X.K X.mg X.base x k ps sp) (hgd : X.A.guards = some []) (hr : Room k X.A) (hg : Gl X x := by rfl) (hdb : (x == ("__debug__" : Str)) = false := by decide) : PE X (.Call (.Name x p) [] [] pos) (fun σ H Q => sp [] H Q E0) := by
  obtain ⟨f, fd, hm, hk, hb, F⟩ := C.ex
  refine ⟨fun pins s σ H Q I h => ?_⟩
  refine wpAny_Call_Name_kw (ld_glob I hg hm ?_ hdb)
  exact PySem.W.callWith_K0 I.kIn hk (run_fnG (us := []) F hgd hr hb I .nil h)
/-! ### the __init__ of the base -/
structure ErrOk (K : PySem.W.Frag) (C : Addr) : Prop where
  oe : OexC K C
  rd : XNm.ClsRd K C
  nm : ∃ z, XNm.NmRd K C z
  no : PySem.W.findIn K (.ref C) "called" = some none
/-- what it promises -/
def spF (K : PySem.W.Frag) : Sp := fun vs H Q _ => ∃ (a C : Addr) (m : Str), vs = [.ref a, .str m] ∧ ErrOk K C ∧ H a = some (exo a C none) ∧ ∀ z dx, H dx = none → dx ≠ a → Q .non (upd (upd H dx (exd dx [("called", .str z)])) a (exo a C (some dx)))
end Fr
namespace Fr
open PySem PySem.Spec PyProof.Rows L2
/-! ### the classes -/
def pn1 : List Str := ["BadAnswers", "BadBook", "BadCells", "BadCount", "BadDeeds", "BadEnding", "BadExpression", "BadForm", "BadGoal"]
def pn2 : List Str := ["BadHeads", "BadInputs", "BadKind", "BadKinds", "BadKnot", "BadLine", "BadLot", "BadMany", "BadMost", "BadName"]
def pn3 : List Str := ["BadNames", "BadNotation", "BadParts", "BadPath", "BadPaths", "BadPlace", "BadPlain", "BadRow", "BadScheme", "BadSheet"]
def pn4 : List Str := ["BadSheets", "BadSignature", "BadTree", "BadUse", "BadWish", "BadWorth", "BadWriting", "NoPlain", "NoRows", "NotAlike"]
def pn5 : List Str := ["NotSame", "NothingDone", "NothingUndone", "OtherPlaces"]
def pn : List Str := pn1 ++ pn2 ++ pn3 ++ pn4 ++ pn5
def tn : List Str := ["BadText", "NoRule", "NotClear", "NotWritten", "TooMany"]
def cn0 : List Str := ["BadAnswers", "BadBook", "BadCells", "BadCount", "BadDeeds"]
def cn1 : List Str := ["BadEnding", "BadExpression", "BadForm", "BadGoal", "BadHeads"]
def cn2 : List Str := ["BadInputs", "BadKind", "BadKinds", "BadKnot", "BadLine"]
def cn3 : List Str := ["BadLot", "BadMany", "BadMost", "BadName", "BadNames"]
def cn4 : List Str := ["BadNotation", "BadParts", "BadPath", "BadPaths", "BadPlace"]
def cn5 : List Str := ["BadPlain", "BadRow", "BadScheme", "BadSheet", "BadSheets"]
def cn6 : List Str := ["BadSignature", "BadText", "BadTree", "BadUse", "BadWish"]
def cn7 : List Str := ["BadWorth", "BadWriting", "NoPlain", "NoRows", "NoRule"]
def cn8 : List Str := ["NotAlike", "NotClear", "NotSame", "NotWritten", "NothingDone"]
def cn9 : List Str := ["NothingUndone", "OtherPlaces", "TooMany"]
def cn : List Str := cn0 ++ cn1 ++ cn2 ++ cn3 ++ cn4 ++ cn5 ++ cn6 ++ cn7 ++ cn8 ++ cn9

theorem Str.ne_dec {x y : Str} (h : decide (x = y) = false) : ¬ x = y := of_decide_eq_false h
structure TxtX (K : PySem.W.Frag) (mg : Str → Option Value) : Prop where
  isi : mg "isinstance" = none
  g : ∀ x ∈ cn, mg x = some (.ref (He.ga K x))
  er : ∀ x ∈ pn, ErrOk K (He.ga K x)
  ini : ∀ x ∈ pn, PySem.W.findIn K (.ref (He.ga K x)) "__init__" = some (some (.ref (He.ma K (He.ga K "FormError") "__init__")))
  iniT : PySem.W.typeIn K (.ref (He.ma K (He.ga K "FormError") "__init__")) = some (.type "function")
  is : ∀ x ∈ cn, XIs K (He.ga K x)
  kit : ∀ x ∈ cn, ∀ y ∈ cn, PySem.W.kitOne K (.ref (He.ga K x)) (.ref (He.ga K y)) = some (decide (x = y))
abbrev sPlainE : Stmt := top 55
/-! ### a list of errors -/
inductive ExAll (H : Hp) : List V → List Addr → Prop where
  | nil : ExAll H [] []
  | cons {a D : Addr} {vs : List V} {Ds : List Addr} : ExA H a D → ExAll H vs Ds → ExAll H (.ref a :: vs) (D :: Ds)
theorem ExAll.same {H H' : Hp} (s : Same H H') {vs : List V} {Ds : List Addr} (e : ExAll H vs Ds) : ExAll H' vs Ds := by
  induction e with
  | nil => exact .nil
  | cons e r ih => exact .cons (e.same s) ih
theorem ExAll.append {H : Hp} {vs us : List V} {Ds Es : List Addr} (e : ExAll H vs Ds) (f : ExAll H us Es) : ExAll H (vs ++ us) (Ds ++ Es) := by
  induction e with
  | nil => exact f
  | cons e r ih => exact .cons e ih
theorem ExAll.length {H : Hp} {vs : List V} {Ds : List Addr} (e : ExAll H vs Ds) : vs.length = Ds.length := by
  induction e with
  | nil => rfl
  | cons e r ih => rw [List.length_cons, List.length_cons, ih]
def tExc (K : PySem.W.Frag) (C : Addr) : TE := tMkX C (spF K) (tCons (tC (.str "a")) tNil)
def tExcs (K : PySem.W.Frag) : List Addr → TA
  | [] => tNil
  | C :: r => tCons (tExc K C) (tExcs K r)
theorem tExc_ok {K : PySem.W.Frag} {C : Addr} (E : ErrOk K C) {σ : L2.St} {H : Hp} {Q : VK} (k : ∀ a H', Same H H' → ExA H' a C → Q (.ref a) H') : tExc K C σ H Q := by
  refine ⟨by show 1 ≤ 1000; decide, fun a ha => ⟨a, C, "a", rfl, E, upd_same, fun z dx hd hn => ⟨rfl, k a _ (fun b o e => ?_) (.told dx _ upd_same (by rw [upd_ne hn]; exact upd_same))⟩⟩⟩
  have na := ne_of_none e ha
  have nd : b ≠ dx := fun z => by
    subst z
    rw [upd_ne na, e] at hd
    cases hd
  rw [upd_ne na, upd_ne nd, upd_ne na]
  exact e
theorem tExcs_ok {K : PySem.W.Frag} : ∀ (cs : List Addr), (∀ c ∈ cs, ErrOk K c) → ∀ {σ : L2.St} {H : Hp} {Q : List V → Hp → Prop}, (∀ vs H', Same H H' → ExAll H' vs cs → Q vs H') → tExcs K cs σ H Q
  | [], _, _, H, _, k => k _ H (Same.refl H) .nil
  | C :: r, he, σ, H, Q, k => by
    refine tExc_ok (σ := σ) (Q := fun v H1 => tExcs K r σ H1 fun vs H2 => Q (v :: vs) H2) (he C List.mem_cons_self) fun a H1 s1 e1 => ?_
    exact tExcs_ok r (fun c hc => he c (List.mem_cons_of_mem _ hc)) fun vs H' s e => k (.ref a :: vs) H' (s1.trans s) (.cons (ExA.same e1 s) e)
theorem pa_exn {X : Cx} : PA X [] (tExcs X.K (([] : List Str).map (He.ga X.K))) := pa_nil
theorem pa_exc {X : Cx} {x : Str} {xs : List Str} {e : Expr} {es : List Expr} (h : PE X e (tExc X.K (He.ga X.K x))) (ht : PA X es (tExcs X.K (xs.map (He.ga X.K)))) (hs : starEach (e :: es) X.env = (false, eval e X.env) :: starEach es X.env := by rfl) : PA X (e :: es) (tExcs X.K ((x :: xs).map (He.ga X.K))) := pa_cons h ht hs
theorem exc_cat {K : PySem.W.Frag} {rest : TS} {D : Ends} {p : Addr} {xs : List V} {cs c2 : List Addr} {H : Hp} (hc : ∀ c ∈ c2, ErrOk K c) (hp : H p = some (.lst xs)) (hx : ExAll H xs cs) (hl : cs.length + c2.length ≤ 1000)
    (k : ∀ q ys H', Same H H' → H q = none → H' q = some (.lst ys) → ExAll H' ys (cs ++ c2) → rest D [some (.ref q)] H') : tSeq (tAsg (tOp rCat (tVar 0) (tLst (tExcs K c2))) (gName 0)) rest D [some (.ref p)] H := by
  refine ⟨_, rfl, tExcs_ok c2 hc fun vs H1 s1 e1 => ?_⟩
  have l0 := hx.length
  have l1 := e1.length
  refine ⟨Nat.le_of_lt (small1000 (by omega)), fun b hb => ?_⟩
  have hp2 : upd H1 b (.lst vs) p = some (.lst xs) := by rw [upd_ne (ne_of_none (s1 _ _ hp) hb)]; exact s1 _ _ hp
  refine ⟨p, b, xs, vs, rfl, rfl, hp2, upd_same, Nat.le_of_lt (small1000 (by omega)), fun q hq => ?_⟩
  have s2 : Same H1 (upd H1 b (.lst vs)) := Same.new hb
  have s3 : Same (upd H1 b (.lst vs)) (upd (upd H1 b (.lst vs)) q (.lst (xs ++ vs))) := Same.new hq
  have sA := s1.trans (s2.trans s3)
  refine k q _ _ sA ?_ upd_same ((hx.same sA).append (e1.same (s2.trans s3)))
  cases e : H q with
  | none => rfl
  | some o =>
    have z := (s1.trans s2) _ _ e
    rw [hq] at z
    cases z
theorem exc_lst {K : PySem.W.Frag} {rest : TS} {D : Ends} {c2 : List Addr} {H : Hp} (hc : ∀ c ∈ c2, ErrOk K c) (hl : c2.length ≤ 1000)
    (k : ∀ q ys H', Same H H' → H' q = some (.lst ys) → ExAll H' ys c2 → rest D [some (.ref q)] H') : tSeq (tAsg (tLst (tExcs K c2)) (gName 0)) rest D [none] H := by
  refine tExcs_ok c2 hc fun vs H1 s1 e1 => ?_
  have l1 := e1.length
  refine ⟨Nat.le_of_lt (small1000 (by omega)), fun b hb => ?_⟩
  exact k b vs _ (s1.trans (Same.new hb)) upd_same (e1.same (Same.new hb))
def spPlainE (K : PySem.W.Frag) : Sp := fun vs H Q _ => vs = [] ∧ ∀ q ys H', Same H H' → H q = none → H' q = some (.lst ys) → ExAll H' ys (pn.map (He.ga K)) → Q (.ref q) H'
section
variable {P : Program} {w : World} {K : PySem.W.Frag} {mg : Str → Option Value} {base : Heap}
theorem scPlainE : FnScope ["found"] [] (defScope sPlainE) := ⟨rfl, rfl, rfl, by decide +kernel, rfl, by decide +kernel, by decide +kernel⟩
/-- the __init__ of the base, where it may be called -/
structure FCal (P : Program) (w : World) (K : PySem.W.Frag) (mg : Str → Option Value) (base : Heap) : Prop where
  ex : ∃ fd : FuncData, Binds K fd ["self", "message"] [] ∧ FnG P w K mg base 1 (He.ma K (He.ga K "FormError") "__init__") fd ["self", "message"] (spF K)
theorem pe_exA {X : Cx} {x : Str} {p p2 pos : Pos} {j : Nat} (T : TxtX X.K X.mg) (J : FCal X.prog X.w X.K X.mg X.base) (hgd : X.A.guards = some []) (hr : Room 2 X.A) (hp : x ∈ pn) (hc : x ∈ cn) (hg : Gl X x := by rfl) (hdb : (x == ("__debug__" : Str)) = false := by decide) : PE X (.Call (.Name x p) [.Constant (.str "a") j p2] [] pos) (tExc X.K (He.ga X.K x)) := by
  obtain ⟨fd, hb, F⟩ := J.ex
  exact pe_oex (T.er x hp).oe (T.ini x hp) T.iniT F hgd hr hb hg (T.g x hc) (pa_cons pe_str pa_nil) hdb
theorem ok_plainE {f : Addr} {fd : FuncData} (F : Fun K "_law_plain_errors" "_law_plain_errors" sPlainE f fd) (T : TxtX K mg) (J : FCal P w K mg base) : FnG P w K mg base 3 f fd [] (spPlainE K) := by
  refine FnG.mk0 F scPlainE (fun vs H Q E h => ?_) (fun cdv A outer s H vs Q E hgd hr h => ?_)
  · obtain ⟨rfl, _⟩ := h
    rfl
  · obtain ⟨rfl, k⟩ := h
    refine ⟨_,
      (pss_cons (ps_set (i := 0) scPlainE.nd rfl (Or.inl rfl) (pe_lst (pa_exc (pe_exA T J hgd hr (List.mem_of_getElem? (i := 0) rfl) (List.mem_of_getElem? (i := 0) rfl)) (pa_exc (pe_exA T J hgd hr (List.mem_of_getElem? (i := 1) rfl) (List.mem_of_getElem? (i := 1) rfl)) (pa_exc (pe_exA T J hgd hr (List.mem_of_getElem? (i := 2) rfl) (List.mem_of_getElem? (i := 2) rfl)) (pa_exc (pe_exA T J hgd hr (List.mem_of_getElem? (i := 3) rfl) (List.mem_of_getElem? (i := 3) rfl)) (pa_exc (pe_exA T J hgd hr (List.mem_of_getElem? (i := 4) rfl) (List.mem_of_getElem? (i := 4) rfl)) (pa_exc (pe_exA T J hgd hr (List.mem_of_getElem? (i := 5) rfl) (List.mem_of_getElem? (i := 5) rfl)) (pa_exc (pe_exA T J hgd hr (List.mem_of_getElem? (i := 6) rfl) (List.mem_of_getElem? (i := 6) rfl)) (pa_exc (pe_exA T J hgd hr (List.mem_of_getElem? (i := 7) rfl) (List.mem_of_getElem? (i := 7) rfl)) (pa_exc (pe_exA T J hgd hr (List.mem_of_getElem? (i := 8) rfl) (List.mem_of_getElem? (i := 8) rfl)) pa_exn)))))))))))
      (pss_cons (ps_set (i := 0) scPlainE.nd rfl (Or.inl rfl) (pe_op op_cat (pv 0) (pe_lst (pa_exc (pe_exA T J hgd hr (List.mem_of_getElem? (i := 9) rfl) (List.mem_of_getElem? (i := 9) rfl)) (pa_exc (pe_exA T J hgd hr (List.mem_of_getElem? (i := 10) rfl) (List.mem_of_getElem? (i := 10) rfl)) (pa_exc (pe_exA T J hgd hr (List.mem_of_getElem? (i := 11) rfl) (List.mem_of_getElem? (i := 11) rfl)) (pa_exc (pe_exA T J hgd hr (List.mem_of_getElem? (i := 12) rfl) (List.mem_of_getElem? (i := 12) rfl)) (pa_exc (pe_exA T J hgd hr (List.mem_of_getElem? (i := 13) rfl) (List.mem_of_getElem? (i := 13) rfl)) (pa_exc (pe_exA T J hgd hr (List.mem_of_getElem? (i := 14) rfl) (List.mem_of_getElem? (i := 14) rfl)) (pa_exc (pe_exA T J hgd hr (List.mem_of_getElem? (i := 15) rfl) (List.mem_of_getElem? (i := 15) rfl)) (pa_exc (pe_exA T J hgd hr (List.mem_of_getElem? (i := 16) rfl) (List.mem_of_getElem? (i := 16) rfl)) (pa_exc (pe_exA T J hgd hr (List.mem_of_getElem? (i := 17) rfl) (List.mem_of_getElem? (i := 17) rfl)) (pa_exc (pe_exA T J hgd hr (List.mem_of_getElem? (i := 18) rfl) (List.mem_of_getElem? (i := 18) rfl)) pa_exn)))))))))))))
      (pss_cons (ps_set (i := 0) scPlainE.nd rfl (Or.inl rfl) (pe_op op_cat (pv 0) (pe_lst (pa_exc (pe_exA T J hgd hr (List.mem_of_getElem? (i := 19) rfl) (List.mem_of_getElem? (i := 19) rfl)) (pa_exc (pe_exA T J hgd hr (List.mem_of_getElem? (i := 20) rfl) (List.mem_of_getElem? (i := 20) rfl)) (pa_exc (pe_exA T J hgd hr (List.mem_of_getElem? (i := 21) rfl) (List.mem_of_getElem? (i := 21) rfl)) (pa_exc (pe_exA T J hgd hr (List.mem_of_getElem? (i := 22) rfl) (List.mem_of_getElem? (i := 22) rfl)) (pa_exc (pe_exA T J hgd hr (List.mem_of_getElem? (i := 23) rfl) (List.mem_of_getElem? (i := 23) rfl)) (pa_exc (pe_exA T J hgd hr (List.mem_of_getElem? (i := 24) rfl) (List.mem_of_getElem? (i := 24) rfl)) (pa_exc (pe_exA T J hgd hr (List.mem_of_getElem? (i := 25) rfl) (List.mem_of_getElem? (i := 25) rfl)) (pa_exc (pe_exA T J hgd hr (List.mem_of_getElem? (i := 26) rfl) (List.mem_of_getElem? (i := 26) rfl)) (pa_exc (pe_exA T J hgd hr (List.mem_of_getElem? (i := 27) rfl) (List.mem_of_getElem? (i := 27) rfl)) (pa_exc (pe_exA T J hgd hr (List.mem_of_getElem? (i := 28) rfl) (List.mem_of_getElem? (i := 28) rfl)) pa_exn)))))))))))))
      (pss_cons (ps_set (i := 0) scPlainE.nd rfl (Or.inl rfl) (pe_op op_cat (pv 0) (pe_lst (pa_exc (pe_exA T J hgd hr (List.mem_of_getElem? (i := 29) rfl) (List.mem_of_getElem? (i := 29) rfl)) (pa_exc (pe_exA T J hgd hr (List.mem_of_getElem? (i := 30) rfl) (List.mem_of_getElem? (i := 30) rfl)) (pa_exc (pe_exA T J hgd hr (List.mem_of_getElem? (i := 31) rfl) (List.mem_of_getElem? (i := 32) rfl)) (pa_exc (pe_exA T J hgd hr (List.mem_of_getElem? (i := 32) rfl) (List.mem_of_getElem? (i := 33) rfl)) (pa_exc (pe_exA T J hgd hr (List.mem_of_getElem? (i := 33) rfl) (List.mem_of_getElem? (i := 34) rfl)) (pa_exc (pe_exA T J hgd hr (List.mem_of_getElem? (i := 34) rfl) (List.mem_of_getElem? (i := 35) rfl)) (pa_exc (pe_exA T J hgd hr (List.mem_of_getElem? (i := 35) rfl) (List.mem_of_getElem? (i := 36) rfl)) (pa_exc (pe_exA T J hgd hr (List.mem_of_getElem? (i := 36) rfl) (List.mem_of_getElem? (i := 37) rfl)) (pa_exc (pe_exA T J hgd hr (List.mem_of_getElem? (i := 37) rfl) (List.mem_of_getElem? (i := 38) rfl)) (pa_exc (pe_exA T J hgd hr (List.mem_of_getElem? (i := 38) rfl) (List.mem_of_getElem? (i := 40) rfl)) pa_exn)))))))))))))
      (pss_cons (ps_set (i := 0) scPlainE.nd rfl (Or.inl rfl) (pe_op op_cat (pv 0) (pe_lst (pa_exc (pe_exA T J hgd hr (List.mem_of_getElem? (i := 39) rfl) (List.mem_of_getElem? (i := 42) rfl)) (pa_exc (pe_exA T J hgd hr (List.mem_of_getElem? (i := 40) rfl) (List.mem_of_getElem? (i := 44) rfl)) (pa_exc (pe_exA T J hgd hr (List.mem_of_getElem? (i := 41) rfl) (List.mem_of_getElem? (i := 45) rfl)) (pa_exc (pe_exA T J hgd hr (List.mem_of_getElem? (i := 42) rfl) (List.mem_of_getElem? (i := 46) rfl)) pa_exn)))))))
      (pss_one (ps_ret (pv 0)))))))), ?_⟩
    have sub : ∀ ys : List Str, (∀ y ∈ ys, y ∈ pn) → ∀ c ∈ ys.map (He.ga K), ErrOk K c := fun ys hy c hc => by
      obtain ⟨y, h1, rfl⟩ := List.mem_map.mp hc
      exact T.er y (hy y h1)
    refine exc_lst (sub pn1 (by decide +kernel)) (by simp only [List.length_map]; decide) fun p1 v1 H1 s1 h1 e1 => ?_
    refine exc_cat (sub pn2 (by decide +kernel)) h1 e1 (by simp only [List.length_append, List.length_map]; decide) fun p2 v2 H2 s2 n2 h2 e2 => ?_
    refine exc_cat (sub pn3 (by decide +kernel)) h2 e2 (by simp only [List.length_append, List.length_map]; decide) fun p3 v3 H3 s3 n3 h3 e3 => ?_
    refine exc_cat (sub pn4 (by decide +kernel)) h3 e3 (by simp only [List.length_append, List.length_map]; decide) fun p4 v4 H4 s4 n4 h4 e4 => ?_
    refine exc_cat (sub pn5 (by decide +kernel)) h4 e4 (by simp only [List.length_append, List.length_map]; decide) fun p5 v5 H5 s5 n5 h5 e5 => ?_
    have sA : Same H H4 := s1.trans (s2.trans (s3.trans s4))
    refine ⟨_, rfl, k p5 v5 H5 (sA.trans s5) ?_ h5 e5⟩
    cases e : H p5 with
    | none => rfl
    | some o =>
      have z := sA _ _ e
      rw [n5] at z
      cases z
end
end Fr
namespace Fr
open PySem PySem.Spec PyProof.Rows L2
abbrev sClasses : Stmt := top 57
theorem Same.updN {H H' : Hp} {a : Addr} {o : HO} (s : Same H H') (h : H a = none) : Same H (upd H' a o) := fun b x e => by
  rw [upd_ne (ne_of_none e h)]
  exact s _ _ e
/-! ### to which classes an error belongs -/
def tIs (K : PySem.W.Frag) (C : Addr) : TE := tCB (rIsX K) (tCons (tVar 0) (tCons (tC (.ref C)) tNil))
def tIss (K : PySem.W.Frag) : List Addr → TA
  | [] => tNil
  | C :: r => tCons (tIs K C) (tIss K r)
def yes (x : Str) (ys : List Str) : List V := ys.map fun y => V.bl (decide (x = y))
section
variable {P : Program} {w : World} {K : PySem.W.Frag} {mg : Str → Option Value} {base : Heap}
theorem tIss_ok (T : TxtX K mg) {x : Str} {a : Addr} {σ : L2.St} {H : Hp} (hx : x ∈ cn) (he : ExA H a (He.ga K x)) (h0 : σ[0]? = some (some (.ref a))) : ∀ (ys : List Str), (∀ y ∈ ys, y ∈ cn) → ∀ {Q : List V → Hp → Prop}, Q (yes x ys) H → tIss K (ys.map (He.ga K)) σ H Q
  | [], _, _, k => k
  | y :: ys, h, Q, k => ⟨_, h0, a, _, .ref (He.ga K y), .ref (He.ga K y), _, rfl, .own _, he, T.is x hx, T.kit x hx y (h y List.mem_cons_self), tIss_ok T hx he h0 ys (fun z hz => h z (List.mem_cons_of_mem _ hz)) k⟩
theorem is_cat {rest : TS} {D : Ends} (T : TxtX K mg) {x : Str} {a p : Addr} {xs ys : List Str} {H : Hp} (hx : x ∈ cn) (he : ExA H a (He.ga K x)) (hp : H p = some (.lst (yes x xs))) (hl : xs.length + ys.length ≤ 1000) (hy : ∀ y ∈ ys, y ∈ cn)
    (k : ∀ q H', Same H H' → H' q = some (.lst (yes x (xs ++ ys))) → rest D [some (.ref a), some (.ref q), none, none] H') :
    tSeq (tAsg (tOp rCat (tVar 1) (tLst (tIss K (ys.map (He.ga K))))) (gName 1)) rest D [some (.ref a), some (.ref p), none, none] H := by
  refine ⟨_, rfl, tIss_ok T hx he rfl ys hy ⟨by unfold yes; rw [List.length_map]; exact Nat.le_of_lt (small1000 (by omega)), fun b hb => ?_⟩⟩
  have hp2 : upd H b (.lst (yes x ys)) p = some (.lst (yes x xs)) := by rw [upd_ne (ne_of_none hp hb)]; exact hp
  refine ⟨p, b, _, _, rfl, rfl, hp2, upd_same, by unfold yes; rw [List.length_map, List.length_map]; exact Nat.le_of_lt (small1000 (by omega)), fun q hq => ?_⟩
  refine k q _ ((Same.new hb).trans (Same.new hq)) ?_
  rw [upd_same]
  unfold yes
  rw [List.map_append]
theorem is_lst {rest : TS} {D : Ends} (T : TxtX K mg) {x : Str} {a : Addr} {ys : List Str} {H : Hp} (hx : x ∈ cn) (he : ExA H a (He.ga K x)) (hl : ys.length ≤ 1000) (hy : ∀ y ∈ ys, y ∈ cn)
    (k : ∀ q H', Same H H' → H' q = some (.lst (yes x ys)) → rest D [some (.ref a), some (.ref q), none, none] H') :
    tSeq (tAsg (tLst (tIss K (ys.map (He.ga K)))) (gName 1)) rest D [some (.ref a), none, none, none] H :=
  tIss_ok T hx he rfl ys hy ⟨by unfold yes; rw [List.length_map]; exact Nat.le_of_lt (small1000 (by omega)), fun b hb => k b _ (Same.new hb) upd_same⟩
def spClasses (K : PySem.W.Frag) : Sp := fun vs H Q _ => ∃ (a : Addr) (i : Nat) (x : Str), vs = [.ref a] ∧ cn[i]? = some x ∧ ExA H a (He.ga K x) ∧ ∀ q H', Same H H' → H q = none → H' q = some (.lst [.int (i : Int)]) → Q (.ref q) H'
theorem scClasses : FnScope ["error", "found", "k", "is_one"] ["error"] (defScope sClasses) := ⟨rfl, rfl, rfl, by decide +kernel, rfl, by decide +kernel, by decide +kernel⟩
theorem pe_isA {X : Cx} {x : Str} {p0 p1 p2 pos : Pos} (T : TxtX X.K X.mg) (hx : x ∈ cn) (hi : Gl X "isinstance" := by rfl) (hg : Gl X x := by rfl) (hN : X.N[0]? = some ("error" : Str) := by rfl) (hv : Vis X.env.scope ("error" : Str) := by first | exact Or.inl rfl | exact Or.inr (Or.inl rfl)) (hdb : (x == ("__debug__" : Str)) = false := by decide) :
    PE X (.Call (.Name "isinstance" p0) [.Name "error" p1, .Name x p2] [] pos) (tIs X.K (He.ga X.K x)) :=
  pe_callB call_isX hi T.isi (by decide +kernel) (pa_cons (pe_var hN hv) (pa_cons (pe_glob hg (T.g x hx) rfl (hd := hdb)) pa_nil))
theorem sub0 : ∀ y ∈ cn0, y ∈ cn := fun y h => List.mem_append_left _ (List.mem_append_left _ (List.mem_append_left _ (List.mem_append_left _ (List.mem_append_left _ (List.mem_append_left _ (List.mem_append_left _ (List.mem_append_left _ (List.mem_append_left _ (h)))))))))
theorem sub1 : ∀ y ∈ cn1, y ∈ cn := fun y h => List.mem_append_left _ (List.mem_append_left _ (List.mem_append_left _ (List.mem_append_left _ (List.mem_append_left _ (List.mem_append_left _ (List.mem_append_left _ (List.mem_append_left _ (List.mem_append_right _ h))))))))
theorem sub2 : ∀ y ∈ cn2, y ∈ cn := fun y h => List.mem_append_left _ (List.mem_append_left _ (List.mem_append_left _ (List.mem_append_left _ (List.mem_append_left _ (List.mem_append_left _ (List.mem_append_left _ (List.mem_append_right _ h)))))))
theorem sub3 : ∀ y ∈ cn3, y ∈ cn := fun y h => List.mem_append_left _ (List.mem_append_left _ (List.mem_append_left _ (List.mem_append_left _ (List.mem_append_left _ (List.mem_append_left _ (List.mem_append_right _ h))))))
theorem sub4 : ∀ y ∈ cn4, y ∈ cn := fun y h => List.mem_append_left _ (List.mem_append_left _ (List.mem_append_left _ (List.mem_append_left _ (List.mem_append_left _ (List.mem_append_right _ h)))))
theorem sub5 : ∀ y ∈ cn5, y ∈ cn := fun y h => List.mem_append_left _ (List.mem_append_left _ (List.mem_append_left _ (List.mem_append_left _ (List.mem_append_right _ h))))
theorem sub6 : ∀ y ∈ cn6, y ∈ cn := fun y h => List.mem_append_left _ (List.mem_append_left _ (List.mem_append_left _ (List.mem_append_right _ h)))
theorem sub7 : ∀ y ∈ cn7, y ∈ cn := fun y h => List.mem_append_left _ (List.mem_append_left _ (List.mem_append_right _ h))
theorem sub8 : ∀ y ∈ cn8, y ∈ cn := fun y h => List.mem_append_left _ (List.mem_append_right _ h)
theorem sub9 : ∀ y ∈ cn9, y ∈ cn := fun y h => List.mem_append_right _ h
theorem cn_nodup : cn.Nodup := by decide +kernel
theorem ok_classes {f : Addr} {fd : FuncData} (F : Fun K "_law_classes" "_law_classes" sClasses f fd) (T : TxtX K mg) (he : mg "enumerate" = none) : FnOk P w K mg base CX0 1 f fd ["error"] (spClasses K) := by
  refine F.ok scClasses (fun vs H Q E h => ?_) (fun cdv A outer s H vs Q E hr h => ?_)
  · obtain ⟨a, i, x, rfl, _⟩ := h
    rfl
  · obtain ⟨a, i, x, rfl, hi, hE, k⟩ := h
    have hx : x ∈ cn := List.mem_of_getElem? hi
    refine ⟨(tSeq (tAsg (tLst (tIss K (cn0.map (He.ga K)))) (gName 1)) (tSeq (tAsg (tOp rCat (tVar 1) (tLst (tIss K (cn1.map (He.ga K))))) (gName 1)) (tSeq (tAsg (tOp rCat (tVar 1) (tLst (tIss K (cn2.map (He.ga K))))) (gName 1)) (tSeq (tAsg (tOp rCat (tVar 1) (tLst (tIss K (cn3.map (He.ga K))))) (gName 1)) (tSeq (tAsg (tOp rCat (tVar 1) (tLst (tIss K (cn4.map (He.ga K))))) (gName 1)) (tSeq (tAsg (tOp rCat (tVar 1) (tLst (tIss K (cn5.map (He.ga K))))) (gName 1)) (tSeq (tAsg (tOp rCat (tVar 1) (tLst (tIss K (cn6.map (He.ga K))))) (gName 1)) (tSeq (tAsg (tOp rCat (tVar 1) (tLst (tIss K (cn7.map (He.ga K))))) (gName 1)) (tSeq (tAsg (tOp rCat (tVar 1) (tLst (tIss K (cn8.map (He.ga K))))) (gName 1)) (tSeq (tAsg (tOp rCat (tVar 1) (tLst (tIss K (cn9.map (He.ga K))))) (gName 1)) (tRet (tLc (iEnum K (tCons (tVar 1) tNil)) (gTup K 2 (gCons (gName 2) (gCons (gName 3) gNil))) (tB (tVar 3)) (tVar 2) [2, 3])))))))))))),
      (pss_cons (ps_set (i := 1) scClasses.nd rfl (Or.inl rfl) (pe_lst (pa_cons (pe_isA T (List.mem_of_getElem? (i := 0) rfl)) (pa_cons (pe_isA T (List.mem_of_getElem? (i := 1) rfl)) (pa_cons (pe_isA T (List.mem_of_getElem? (i := 2) rfl)) (pa_cons (pe_isA T (List.mem_of_getElem? (i := 3) rfl)) (pa_cons (pe_isA T (List.mem_of_getElem? (i := 4) rfl)) pa_nil)))))))
      (pss_cons (ps_set (i := 1) scClasses.nd rfl (Or.inl rfl) (pe_op op_cat (pv 1) (pe_lst (pa_cons (pe_isA T (List.mem_of_getElem? (i := 5) rfl)) (pa_cons (pe_isA T (List.mem_of_getElem? (i := 6) rfl)) (pa_cons (pe_isA T (List.mem_of_getElem? (i := 7) rfl)) (pa_cons (pe_isA T (List.mem_of_getElem? (i := 8) rfl)) (pa_cons (pe_isA T (List.mem_of_getElem? (i := 9) rfl)) pa_nil))))))))
      (pss_cons (ps_set (i := 1) scClasses.nd rfl (Or.inl rfl) (pe_op op_cat (pv 1) (pe_lst (pa_cons (pe_isA T (List.mem_of_getElem? (i := 10) rfl)) (pa_cons (pe_isA T (List.mem_of_getElem? (i := 11) rfl)) (pa_cons (pe_isA T (List.mem_of_getElem? (i := 12) rfl)) (pa_cons (pe_isA T (List.mem_of_getElem? (i := 13) rfl)) (pa_cons (pe_isA T (List.mem_of_getElem? (i := 14) rfl)) pa_nil))))))))
      (pss_cons (ps_set (i := 1) scClasses.nd rfl (Or.inl rfl) (pe_op op_cat (pv 1) (pe_lst (pa_cons (pe_isA T (List.mem_of_getElem? (i := 15) rfl)) (pa_cons (pe_isA T (List.mem_of_getElem? (i := 16) rfl)) (pa_cons (pe_isA T (List.mem_of_getElem? (i := 17) rfl)) (pa_cons (pe_isA T (List.mem_of_getElem? (i := 18) rfl)) (pa_cons (pe_isA T (List.mem_of_getElem? (i := 19) rfl)) pa_nil))))))))
      (pss_cons (ps_set (i := 1) scClasses.nd rfl (Or.inl rfl) (pe_op op_cat (pv 1) (pe_lst (pa_cons (pe_isA T (List.mem_of_getElem? (i := 20) rfl)) (pa_cons (pe_isA T (List.mem_of_getElem? (i := 21) rfl)) (pa_cons (pe_isA T (List.mem_of_getElem? (i := 22) rfl)) (pa_cons (pe_isA T (List.mem_of_getElem? (i := 23) rfl)) (pa_cons (pe_isA T (List.mem_of_getElem? (i := 24) rfl)) pa_nil))))))))
      (pss_cons (ps_set (i := 1) scClasses.nd rfl (Or.inl rfl) (pe_op op_cat (pv 1) (pe_lst (pa_cons (pe_isA T (List.mem_of_getElem? (i := 25) rfl)) (pa_cons (pe_isA T (List.mem_of_getElem? (i := 26) rfl)) (pa_cons (pe_isA T (List.mem_of_getElem? (i := 27) rfl)) (pa_cons (pe_isA T (List.mem_of_getElem? (i := 28) rfl)) (pa_cons (pe_isA T (List.mem_of_getElem? (i := 29) rfl)) pa_nil))))))))
      (pss_cons (ps_set (i := 1) scClasses.nd rfl (Or.inl rfl) (pe_op op_cat (pv 1) (pe_lst (pa_cons (pe_isA T (List.mem_of_getElem? (i := 30) rfl)) (pa_cons (pe_isA T (List.mem_of_getElem? (i := 31) rfl)) (pa_cons (pe_isA T (List.mem_of_getElem? (i := 32) rfl)) (pa_cons (pe_isA T (List.mem_of_getElem? (i := 33) rfl)) (pa_cons (pe_isA T (List.mem_of_getElem? (i := 34) rfl)) pa_nil))))))))
      (pss_cons (ps_set (i := 1) scClasses.nd rfl (Or.inl rfl) (pe_op op_cat (pv 1) (pe_lst (pa_cons (pe_isA T (List.mem_of_getElem? (i := 35) rfl)) (pa_cons (pe_isA T (List.mem_of_getElem? (i := 36) rfl)) (pa_cons (pe_isA T (List.mem_of_getElem? (i := 37) rfl)) (pa_cons (pe_isA T (List.mem_of_getElem? (i := 38) rfl)) (pa_cons (pe_isA T (List.mem_of_getElem? (i := 39) rfl)) pa_nil))))))))
      (pss_cons (ps_set (i := 1) scClasses.nd rfl (Or.inl rfl) (pe_op op_cat (pv 1) (pe_lst (pa_cons (pe_isA T (List.mem_of_getElem? (i := 40) rfl)) (pa_cons (pe_isA T (List.mem_of_getElem? (i := 41) rfl)) (pa_cons (pe_isA T (List.mem_of_getElem? (i := 42) rfl)) (pa_cons (pe_isA T (List.mem_of_getElem? (i := 43) rfl)) (pa_cons (pe_isA T (List.mem_of_getElem? (i := 44) rfl)) pa_nil))))))))
      (pss_cons (ps_set (i := 1) scClasses.nd rfl (Or.inl rfl) (pe_op op_cat (pv 1) (pe_lst (pa_cons (pe_isA T (List.mem_of_getElem? (i := 45) rfl)) (pa_cons (pe_isA T (List.mem_of_getElem? (i := 46) rfl)) (pa_cons (pe_isA T (List.mem_of_getElem? (i := 47) rfl)) pa_nil))))))
      (pss_one (ps_ret (pe_lc (own := [("k", 2), ("is_one", 3)]) (g := gTup K 2 (gCons (gName 2) (gCons (gName 3) gNil))) rfl scClasses.nd (pi_enum (by rfl) he (pa_cons (pv 1) pa_nil)) (blkOk_by (own := [("k", 2), ("is_one", 3)]) (N := ["error", "found", "k", "is_one"]) (sc := defScope sClasses) (by decide +kernel))
        (fun _ _ _ _ _ => pg_tup rfl (pgs_cons (pg_name (i := 2) scClasses.nd rfl (Or.inl rfl)) (pgs_cons (pg_name (i := 3) scClasses.nd rfl (Or.inl rfl)) pgs_nil))) (fun _ _ _ _ _ => pts_one (pt_val (pv 3))) (fun _ _ _ _ _ => pv 2)))))))))))))), ?_⟩
    have e0 : L2.start ["error", "found", "k", "is_one"] [V.ref a] = [some (.ref a), none, none, none] := rfl
    rw [e0]
    refine is_lst T hx hE (by decide) (ys := cn0) (fun y h => sub0 y h) fun p0 H0 s0 f0 => ?_
    refine is_cat T hx (hE.same s0) f0 (by decide) (ys := cn1) (fun y h => sub1 y h) fun p1 H1 t1 f1 => ?_
    have s1 := s0.trans t1
    refine is_cat T hx (hE.same s1) f1 (by decide) (ys := cn2) (fun y h => sub2 y h) fun p2 H2 t2 f2 => ?_
    have s2 := s1.trans t2
    refine is_cat T hx (hE.same s2) f2 (by decide) (ys := cn3) (fun y h => sub3 y h) fun p3 H3 t3 f3 => ?_
    have s3 := s2.trans t3
    refine is_cat T hx (hE.same s3) f3 (by decide) (ys := cn4) (fun y h => sub4 y h) fun p4 H4 t4 f4 => ?_
    have s4 := s3.trans t4
    refine is_cat T hx (hE.same s4) f4 (by decide) (ys := cn5) (fun y h => sub5 y h) fun p5 H5 t5 f5 => ?_
    have s5 := s4.trans t5
    refine is_cat T hx (hE.same s5) f5 (by decide) (ys := cn6) (fun y h => sub6 y h) fun p6 H6 t6 f6 => ?_
    have s6 := s5.trans t6
    refine is_cat T hx (hE.same s6) f6 (by decide) (ys := cn7) (fun y h => sub7 y h) fun p7 H7 t7 f7 => ?_
    have s7 := s6.trans t7
    refine is_cat T hx (hE.same s7) f7 (by decide) (ys := cn8) (fun y h => sub8 y h) fun p8 H8 t8 f8 => ?_
    have s8 := s7.trans t8
    refine is_cat T hx (hE.same s8) f8 (by decide) (ys := cn9) (fun y h => sub9 y h) fun p9 H9 t9 f9 => ?_
    have s9 := s8.trans t9
    have eL : (yes x (cn0 ++ cn1 ++ cn2 ++ cn3 ++ cn4 ++ cn5 ++ cn6 ++ cn7 ++ cn8 ++ cn9)).length = 48 := by unfold yes; rw [List.length_map]; rfl
    refine ⟨_, rfl, p9, _, rfl, SqL.of f9, fun D hD => lc_it walk_enum (fun j G => Same H9 G ∧ G D = some (.lst (if i < j then [.int (i : Int)] else [])))
      ⟨Same.new hD, upd_same⟩ (fun j G _ q => SqL.of (q.1 _ _ f9)) ?_ ?_⟩
    · rintro j q G G' hj ⟨sG, hG⟩ ⟨T', q1, q2, rfl, hT, rfl, e1, e2⟩
      cases Option.some.inj e1
      have t1 : Same G (upd G T' (.tup [.int (j : Int), q2])) := Same.new hT
      refine ⟨T', _, rfl, SqT.of upd_same, rfl, _, _, rfl, _, _, rfl, rfl, rfl, ?_⟩
      generalize upd G T' (.tup [.int (j : Int), q2]) = G1 at t1 ⊢
      obtain ⟨y, hy, hq⟩ : ∃ y, cn[j]? = some y ∧ q2 = V.bl (decide (x = y)) := by
        have e3 : (cn.map fun y => V.bl (decide (x = y)))[j]? = some q2 := e2
        rw [List.getElem?_map] at e3
        cases e : cn[j]? with
        | none => rw [e] at e3; cases e3
        | some y => rw [e] at e3; exact ⟨y, rfl, (Option.some.inj e3).symm⟩
      subst hq
      refine ⟨_, rfl, _, rfl, ?_⟩
      by_cases hxy : x = y
      · subst hxy
        have ij : i = j := (List.getElem?_inj (List.getElem?_eq_some_iff.mp hi).1 cn_nodup).mp (hi.trans hy.symm)
        subst ij
        refine iteP (decide_eq_true rfl) ⟨_, rfl, [], ?_, ?_, ?_⟩
        · rw [t1 _ _ hG, if_neg (Nat.lt_irrefl i)]
        · exact small1000 (by decide)
        · refine ⟨Fr.Same.updN (sG.trans t1) hD, ?_⟩
          rw [upd_same, if_pos (Nat.lt_succ_self i)]
          rfl
      · have ij : ¬ i = j := fun z => by
          subst z
          rw [hi] at hy
          exact hxy (Option.some.inj hy)
        refine iteN (by rw [decide_eq_false hxy]; exact Bool.false_ne_true) ⟨sG.trans t1, ?_⟩
        rw [t1 _ _ hG]
        by_cases h : i < j
        · rw [if_pos h, if_pos (Nat.lt_succ_of_lt h)]
        · rw [if_neg h, if_neg (by omega)]
    · rintro G ⟨sG, hG⟩
      have hi48 : i < 48 := (List.getElem?_eq_some_iff.mp hi).1
      rw [eL, if_pos hi48] at hG
      exact k D G (s9.trans sG) (Same.free s9 hD) hG
end
end Fr
namespace Fr
open PySem PySem.Spec PyProof.Rows L2
/-! ### the classes with an __init__ of their own -/
structure FieldOk (K : PySem.W.Frag) (C : Addr) (f : Str) : Prop where
  oex : OexC K C
  get : XGet K C f
structure TxtI (K : PySem.W.Frag) (mg : Str → Option Value) : Prop where
  sys : SysIn K
  bG : mg "FormError" = some (.ref (He.ga K "FormError"))
  bS : PySem.W.specialIn K (.ref (He.ga K "FormError")) "__getattribute__" = some (some (.builtin "type.__getattribute__"))
  bR : PySem.W.readsIn K (He.ga K "FormError") (.type "type") = true
  bV : PySem.W.findCls K (.ref (He.ga K "FormError")) (.type "type") "__init__" = some (.val (.ref (He.ma K (He.ga K "FormError") "__init__")))
  iT : PySem.W.typeIn K (.ref (He.ma K (He.ga K "FormError") "__init__")) = some (.type "function")
  kp : PySem.W.keepIn K (.ref (He.ma K (He.ga K "FormError") "__init__")) = true
  er_BadText : ErrOk K (He.ga K "BadText")
  er_NoRule : ErrOk K (He.ga K "NoRule")
  er_NotClear : ErrOk K (He.ga K "NotClear")
  er_NotWritten : ErrOk K (He.ga K "NotWritten")
  er_TooMany : ErrOk K (He.ga K "TooMany")
  f_BadText_at : FieldOk K (He.ga K "BadText") "at"
  f_BadText_wanted : FieldOk K (He.ga K "BadText") "wanted"
  f_NoRule_place : FieldOk K (He.ga K "NoRule") "place"
  f_NotClear_spot : FieldOk K (He.ga K "NotClear") "spot"
  f_NotWritten_name : FieldOk K (He.ga K "NotWritten") "name"
  f_TooMany_most : FieldOk K (He.ga K "TooMany") "most"

theorem js_len {acc y : Str} {n m : Nat} (h : acc.length ≤ n) (k : y.length ≤ m) : (acc ++ y).length ≤ n + m := by
  rw [strLen_append]
  omega
theorem js_ok {x : Str} {n : Nat} (h : x.length ≤ n) (k : n ≤ 1000) : x.length ≤ sizeLine := Nat.le_of_lt (small1000 (Nat.le_trans h k))
/-- what an __init__ of one field promises, of two -/
def spInit1 (K : PySem.W.Frag) (C : Addr) (f : Str) : Sp := fun vs H Q _ => ∃ (a : Addr) (v : V) (d : PyData), vs = [.ref a, v] ∧ H a = some (exo a C none) ∧ Ten H v d ∧
  ∀ z dx H', (∀ b o, b ≠ a → H b = some o → H' b = some o) → H dx = none → dx ≠ a → H' a = some (exo a C (some dx)) → H' dx = some (exd dx [(f, v), ("called", .str z)]) → Q .non H'
def spInit2 (K : PySem.W.Frag) (C : Addr) (f g : Str) : Sp := fun vs H Q _ => ∃ (a : Addr) (v u : V) (d b : PyData), vs = [.ref a, v, u] ∧ H a = some (exo a C none) ∧ Ten H v d ∧ Ten H u b ∧
  ∀ z dx H', (∀ b o, b ≠ a → H b = some o → H' b = some o) → H dx = none → dx ≠ a → H' a = some (exo a C (some dx)) → H' dx = some (exd dx [(g, u), (f, v), ("called", .str z)]) → Q .non H'
section
variable {P : Program} {w : World} {K : PySem.W.Frag} {mg : Str → Option Value} {base : Heap}
abbrev sI_BadText : Stmt := inClass (top 33) 0
theorem sc_sI_BadText : FnScope ["self", "at", "wanted"] ["self", "at", "wanted"] (defScope sI_BadText) := ⟨rfl, rfl, rfl, by decide +kernel, rfl, by decide +kernel, by decide +kernel⟩
theorem ok_sI_BadText {f : Addr} {fd : FuncData} (F : Fun K "__init__" "BadText.__init__" sI_BadText f fd) (T : TxtI K mg) (J : FCal P w K mg base) : FnG P w K mg base 2 f fd ["self", "at", "wanted"] (spInit2 K (He.ga K "BadText") "at" "wanted") := by
  refine FnG.mk0 F sc_sI_BadText (fun vs H Q E h => ?_) (fun cdv A outer s H vs Q E hgd hr h => ?_)
  · obtain ⟨a, v, u, d, b, rfl, _⟩ := h
    rfl
  · obtain ⟨a, v, u, d, b, rfl, ha, t, t2, k⟩ := h
    obtain ⟨fdJ, hbJ, FJ⟩ := J.ex
    refine ⟨_, (pss_cons (ps_expr (pe_finit rfl T.bG T.bS T.bR T.bV T.iT T.kp FJ hgd (hr.mono (Nat.le_refl _)) hbJ (pa_cons (pv 0) (pa_cons (pe_joined (.cons pe_str (.cons (pe_fmtD hgd hr T.sys (pv 1)) (.cons pe_str (.cons (pe_fmtD hgd hr T.sys (pv 2)) .nil))))) pa_nil))))
      (pss_cons (ps_ost (pv 0) (pv 1))
      (pss_one (ps_ost (pv 0) (pv 2))))), ?_⟩
    refine ⟨_, rfl, ?_⟩
    have l0 : Str.empty.length ≤ 0 := Nat.le_refl 0
    have l1 := js_len l0 (show (("no text that is expected, at " : Str)).length ≤ 29 by decide +kernel)
    refine ⟨_, rfl, js_ok l1 (by decide), ?_⟩
    refine ⟨_, rfl, _, t, fun m1 hm1 => ?_⟩
    have l2 := js_len l1 hm1
    refine ⟨_, rfl, js_ok l2 (by decide), ?_⟩
    have l3 := js_len l2 (show ((": wanted is " : Str)).length ≤ 12 by decide +kernel)
    refine ⟨_, rfl, js_ok l3 (by decide), ?_⟩
    refine ⟨_, rfl, _, t2, fun m2 hm2 => ?_⟩
    have l4 := js_len l3 hm2
    refine ⟨_, rfl, js_ok l4 (by decide), ?_⟩
    refine ⟨a, _, _, rfl, T.er_BadText, ha, fun z dx hdx hne => ?_⟩
    have g1 : upd (upd H dx (exd dx [("called", .str z)])) a (exo a (He.ga K "BadText") (some dx)) a = some (exo a (He.ga K "BadText") (some dx)) := upd_same
    have g2 : upd (upd H dx (exd dx [("called", .str z)])) a (exo a (He.ga K "BadText") (some dx)) dx = some (exd dx [("called", .str z)]) := by rw [upd_ne hne]; exact upd_same
    have g3 : ∀ b o, b ≠ a → H b = some o → upd (upd H dx (exd dx [("called", .str z)])) a (exo a (He.ga K "BadText") (some dx)) b = some o := fun b o hb e => by rw [upd_ne hb, upd_ne (ne_of_none e hdx)]; exact e
    generalize upd (upd H dx (exd dx [("called", .str z)])) a (exo a (He.ga K "BadText") (some dx)) = H2 at g1 g2 g3 ⊢
    refine ⟨_, rfl, _, rfl, a, _, rfl, T.f_BadText_at.oex, T.f_BadText_at.get.no, .inr ⟨dx, _, g1, g2, by show 1 ≤ 900; decide, ?_⟩⟩
    have g4 : upd H2 dx (exd dx [("at", v), ("called", .str z)]) a = some (exo a (He.ga K "BadText") (some dx)) := by rw [upd_ne (Ne.symm hne)]; exact g1
    have g6 : ∀ b o, b ≠ a → H b = some o → upd H2 dx (exd dx [("at", v), ("called", .str z)]) b = some o := fun b o hb e => by rw [upd_ne (ne_of_none e hdx)]; exact g3 _ _ hb e
    have g5 : upd H2 dx (exd dx [("at", v), ("called", .str z)]) dx = some (exd dx [("at", v), ("called", .str z)]) := upd_same
    generalize upd H2 dx (exd dx [("at", v), ("called", .str z)]) = H3 at g4 g5 g6 ⊢
    refine ⟨_, rfl, _, rfl, a, _, rfl, T.f_BadText_wanted.oex, T.f_BadText_wanted.get.no, .inr ⟨dx, _, g4, g5, by show 2 ≤ 900; decide, ?_⟩⟩
    refine k z dx _ (fun b o hb e => ?_) hdx hne ?_ upd_same
    · rw [upd_ne (ne_of_none e hdx)]
      exact g6 _ _ hb e
    · rw [upd_ne (Ne.symm hne)]
      exact g4
abbrev sI_NoRule : Stmt := inClass (top 41) 0
theorem sc_sI_NoRule : FnScope ["self", "place"] ["self", "place"] (defScope sI_NoRule) := ⟨rfl, rfl, rfl, by decide +kernel, rfl, by decide +kernel, by decide +kernel⟩
theorem ok_sI_NoRule {f : Addr} {fd : FuncData} (F : Fun K "__init__" "NoRule.__init__" sI_NoRule f fd) (T : TxtI K mg) (J : FCal P w K mg base) : FnG P w K mg base 2 f fd ["self", "place"] (spInit1 K (He.ga K "NoRule") "place") := by
  refine FnG.mk0 F sc_sI_NoRule (fun vs H Q E h => ?_) (fun cdv A outer s H vs Q E hgd hr h => ?_)
  · obtain ⟨a, v, d, rfl, _⟩ := h
    rfl
  · obtain ⟨a, v, d, rfl, ha, t, k⟩ := h
    obtain ⟨fdJ, hbJ, FJ⟩ := J.ex
    refine ⟨_, (pss_cons (ps_expr (pe_finit rfl T.bG T.bS T.bR T.bV T.iT T.kp FJ hgd (hr.mono (Nat.le_refl _)) hbJ (pa_cons (pv 0) (pa_cons (pe_joined (.cons pe_str (.cons (pe_fmtD hgd hr T.sys (pv 1)) .nil))) pa_nil))))
      (pss_one (ps_ost (pv 0) (pv 1)))), ?_⟩
    refine ⟨_, rfl, ?_⟩
    have l0 : Str.empty.length ≤ 0 := Nat.le_refl 0
    have l1 := js_len l0 (show (("no rule: unlike sights at " : Str)).length ≤ 26 by decide +kernel)
    refine ⟨_, rfl, js_ok l1 (by decide), ?_⟩
    refine ⟨_, rfl, _, t, fun m1 hm1 => ?_⟩
    have l2 := js_len l1 hm1
    refine ⟨_, rfl, js_ok l2 (by decide), ?_⟩
    refine ⟨a, _, _, rfl, T.er_NoRule, ha, fun z dx hdx hne => ?_⟩
    have g1 : upd (upd H dx (exd dx [("called", .str z)])) a (exo a (He.ga K "NoRule") (some dx)) a = some (exo a (He.ga K "NoRule") (some dx)) := upd_same
    have g2 : upd (upd H dx (exd dx [("called", .str z)])) a (exo a (He.ga K "NoRule") (some dx)) dx = some (exd dx [("called", .str z)]) := by rw [upd_ne hne]; exact upd_same
    have g3 : ∀ b o, b ≠ a → H b = some o → upd (upd H dx (exd dx [("called", .str z)])) a (exo a (He.ga K "NoRule") (some dx)) b = some o := fun b o hb e => by rw [upd_ne hb, upd_ne (ne_of_none e hdx)]; exact e
    generalize upd (upd H dx (exd dx [("called", .str z)])) a (exo a (He.ga K "NoRule") (some dx)) = H2 at g1 g2 g3 ⊢
    refine ⟨_, rfl, _, rfl, a, _, rfl, T.f_NoRule_place.oex, T.f_NoRule_place.get.no, .inr ⟨dx, _, g1, g2, by show 1 ≤ 900; decide, ?_⟩⟩
    refine k z dx _ (fun b o hb e => ?_) hdx hne ?_ upd_same
    · rw [upd_ne (ne_of_none e hdx)]
      exact g3 _ _ hb e
    · rw [upd_ne (Ne.symm hne)]
      exact g1
abbrev sI_NotClear : Stmt := inClass (top 43) 0
theorem sc_sI_NotClear : FnScope ["self", "spot"] ["self", "spot"] (defScope sI_NotClear) := ⟨rfl, rfl, rfl, by decide +kernel, rfl, by decide +kernel, by decide +kernel⟩
theorem ok_sI_NotClear {f : Addr} {fd : FuncData} (F : Fun K "__init__" "NotClear.__init__" sI_NotClear f fd) (T : TxtI K mg) (J : FCal P w K mg base) : FnG P w K mg base 2 f fd ["self", "spot"] (spInit1 K (He.ga K "NotClear") "spot") := by
  refine FnG.mk0 F sc_sI_NotClear (fun vs H Q E h => ?_) (fun cdv A outer s H vs Q E hgd hr h => ?_)
  · obtain ⟨a, v, d, rfl, _⟩ := h
    rfl
  · obtain ⟨a, v, d, rfl, ha, t, k⟩ := h
    obtain ⟨fdJ, hbJ, FJ⟩ := J.ex
    refine ⟨_, (pss_cons (ps_expr (pe_finit rfl T.bG T.bS T.bR T.bV T.iT T.kp FJ hgd (hr.mono (Nat.le_refl _)) hbJ (pa_cons (pv 0) (pa_cons (pe_joined (.cons pe_str (.cons (pe_fmtD hgd hr T.sys (pv 1)) .nil))) pa_nil))))
      (pss_one (ps_ost (pv 0) (pv 1)))), ?_⟩
    refine ⟨_, rfl, ?_⟩
    have l0 : Str.empty.length ≤ 0 := Nat.le_refl 0
    have l1 := js_len l0 (show (("not clear: the read at " : Str)).length ≤ 23 by decide +kernel)
    refine ⟨_, rfl, js_ok l1 (by decide), ?_⟩
    refine ⟨_, rfl, _, t, fun m1 hm1 => ?_⟩
    have l2 := js_len l1 hm1
    refine ⟨_, rfl, js_ok l2 (by decide), ?_⟩
    refine ⟨a, _, _, rfl, T.er_NotClear, ha, fun z dx hdx hne => ?_⟩
    have g1 : upd (upd H dx (exd dx [("called", .str z)])) a (exo a (He.ga K "NotClear") (some dx)) a = some (exo a (He.ga K "NotClear") (some dx)) := upd_same
    have g2 : upd (upd H dx (exd dx [("called", .str z)])) a (exo a (He.ga K "NotClear") (some dx)) dx = some (exd dx [("called", .str z)]) := by rw [upd_ne hne]; exact upd_same
    have g3 : ∀ b o, b ≠ a → H b = some o → upd (upd H dx (exd dx [("called", .str z)])) a (exo a (He.ga K "NotClear") (some dx)) b = some o := fun b o hb e => by rw [upd_ne hb, upd_ne (ne_of_none e hdx)]; exact e
    generalize upd (upd H dx (exd dx [("called", .str z)])) a (exo a (He.ga K "NotClear") (some dx)) = H2 at g1 g2 g3 ⊢
    refine ⟨_, rfl, _, rfl, a, _, rfl, T.f_NotClear_spot.oex, T.f_NotClear_spot.get.no, .inr ⟨dx, _, g1, g2, by show 1 ≤ 900; decide, ?_⟩⟩
    refine k z dx _ (fun b o hb e => ?_) hdx hne ?_ upd_same
    · rw [upd_ne (ne_of_none e hdx)]
      exact g3 _ _ hb e
    · rw [upd_ne (Ne.symm hne)]
      exact g1
abbrev sI_NotWritten : Stmt := inClass (top 45) 0
theorem sc_sI_NotWritten : FnScope ["self", "name"] ["self", "name"] (defScope sI_NotWritten) := ⟨rfl, rfl, rfl, by decide +kernel, rfl, by decide +kernel, by decide +kernel⟩
theorem ok_sI_NotWritten {f : Addr} {fd : FuncData} (F : Fun K "__init__" "NotWritten.__init__" sI_NotWritten f fd) (T : TxtI K mg) (J : FCal P w K mg base) : FnG P w K mg base 2 f fd ["self", "name"] (spInit1 K (He.ga K "NotWritten") "name") := by
  refine FnG.mk0 F sc_sI_NotWritten (fun vs H Q E h => ?_) (fun cdv A outer s H vs Q E hgd hr h => ?_)
  · obtain ⟨a, v, d, rfl, _⟩ := h
    rfl
  · obtain ⟨a, v, d, rfl, ha, t, k⟩ := h
    obtain ⟨fdJ, hbJ, FJ⟩ := J.ex
    refine ⟨_, (pss_cons (ps_expr (pe_finit rfl T.bG T.bS T.bR T.bV T.iT T.kp FJ hgd (hr.mono (Nat.le_refl _)) hbJ (pa_cons (pv 0) (pa_cons (pe_joined (.cons pe_str (.cons (pe_fmtD hgd hr T.sys (pv 1)) .nil))) pa_nil))))
      (pss_one (ps_ost (pv 0) (pv 1)))), ?_⟩
    refine ⟨_, rfl, ?_⟩
    have l0 : Str.empty.length ≤ 0 := Nat.le_refl 0
    have l1 := js_len l0 (show (("not written: " : Str)).length ≤ 13 by decide +kernel)
    refine ⟨_, rfl, js_ok l1 (by decide), ?_⟩
    refine ⟨_, rfl, _, t, fun m1 hm1 => ?_⟩
    have l2 := js_len l1 hm1
    refine ⟨_, rfl, js_ok l2 (by decide), ?_⟩
    refine ⟨a, _, _, rfl, T.er_NotWritten, ha, fun z dx hdx hne => ?_⟩
    have g1 : upd (upd H dx (exd dx [("called", .str z)])) a (exo a (He.ga K "NotWritten") (some dx)) a = some (exo a (He.ga K "NotWritten") (some dx)) := upd_same
    have g2 : upd (upd H dx (exd dx [("called", .str z)])) a (exo a (He.ga K "NotWritten") (some dx)) dx = some (exd dx [("called", .str z)]) := by rw [upd_ne hne]; exact upd_same
    have g3 : ∀ b o, b ≠ a → H b = some o → upd (upd H dx (exd dx [("called", .str z)])) a (exo a (He.ga K "NotWritten") (some dx)) b = some o := fun b o hb e => by rw [upd_ne hb, upd_ne (ne_of_none e hdx)]; exact e
    generalize upd (upd H dx (exd dx [("called", .str z)])) a (exo a (He.ga K "NotWritten") (some dx)) = H2 at g1 g2 g3 ⊢
    refine ⟨_, rfl, _, rfl, a, _, rfl, T.f_NotWritten_name.oex, T.f_NotWritten_name.get.no, .inr ⟨dx, _, g1, g2, by show 1 ≤ 900; decide, ?_⟩⟩
    refine k z dx _ (fun b o hb e => ?_) hdx hne ?_ upd_same
    · rw [upd_ne (ne_of_none e hdx)]
      exact g3 _ _ hb e
    · rw [upd_ne (Ne.symm hne)]
      exact g1
abbrev sI_TooMany : Stmt := inClass (top 49) 0
theorem sc_sI_TooMany : FnScope ["self", "most"] ["self", "most"] (defScope sI_TooMany) := ⟨rfl, rfl, rfl, by decide +kernel, rfl, by decide +kernel, by decide +kernel⟩
theorem ok_sI_TooMany {f : Addr} {fd : FuncData} (F : Fun K "__init__" "TooMany.__init__" sI_TooMany f fd) (T : TxtI K mg) (J : FCal P w K mg base) : FnG P w K mg base 2 f fd ["self", "most"] (spInit1 K (He.ga K "TooMany") "most") := by
  refine FnG.mk0 F sc_sI_TooMany (fun vs H Q E h => ?_) (fun cdv A outer s H vs Q E hgd hr h => ?_)
  · obtain ⟨a, v, d, rfl, _⟩ := h
    rfl
  · obtain ⟨a, v, d, rfl, ha, t, k⟩ := h
    obtain ⟨fdJ, hbJ, FJ⟩ := J.ex
    refine ⟨_, (pss_cons (ps_expr (pe_finit rfl T.bG T.bS T.bR T.bV T.iT T.kp FJ hgd (hr.mono (Nat.le_refl _)) hbJ (pa_cons (pv 0) (pa_cons (pe_joined (.cons pe_str (.cons (pe_fmtD hgd hr T.sys (pv 1)) .nil))) pa_nil))))
      (pss_one (ps_ost (pv 0) (pv 1)))), ?_⟩
    refine ⟨_, rfl, ?_⟩
    have l0 : Str.empty.length ≤ 0 := Nat.le_refl 0
    have l1 := js_len l0 (show (("more than " : Str)).length ≤ 10 by decide +kernel)
    refine ⟨_, rfl, js_ok l1 (by decide), ?_⟩
    refine ⟨_, rfl, _, t, fun m1 hm1 => ?_⟩
    have l2 := js_len l1 hm1
    refine ⟨_, rfl, js_ok l2 (by decide), ?_⟩
    refine ⟨a, _, _, rfl, T.er_TooMany, ha, fun z dx hdx hne => ?_⟩
    have g1 : upd (upd H dx (exd dx [("called", .str z)])) a (exo a (He.ga K "TooMany") (some dx)) a = some (exo a (He.ga K "TooMany") (some dx)) := upd_same
    have g2 : upd (upd H dx (exd dx [("called", .str z)])) a (exo a (He.ga K "TooMany") (some dx)) dx = some (exd dx [("called", .str z)]) := by rw [upd_ne hne]; exact upd_same
    have g3 : ∀ b o, b ≠ a → H b = some o → upd (upd H dx (exd dx [("called", .str z)])) a (exo a (He.ga K "TooMany") (some dx)) b = some o := fun b o hb e => by rw [upd_ne hb, upd_ne (ne_of_none e hdx)]; exact e
    generalize upd (upd H dx (exd dx [("called", .str z)])) a (exo a (He.ga K "TooMany") (some dx)) = H2 at g1 g2 g3 ⊢
    refine ⟨_, rfl, _, rfl, a, _, rfl, T.f_TooMany_most.oex, T.f_TooMany_most.get.no, .inr ⟨dx, _, g1, g2, by show 1 ≤ 900; decide, ?_⟩⟩
    refine k z dx _ (fun b o hb e => ?_) hdx hne ?_ upd_same
    · rw [upd_ne (ne_of_none e hdx)]
      exact g3 _ _ hb e
    · rw [upd_ne (Ne.symm hne)]
      exact g1
end
end Fr
namespace Fr
open PySem PySem.Spec PyProof.Rows L2
abbrev sTold : Stmt := top 56
/-! ### pairs of an error and what its attributes should be -/
structure Told (H : Hp) (v : V) (C : Addr) : Prop where
  ex : ∃ (T e m l : Addr) (vs : List V) (ds : List PyData), v = .ref T ∧ H T = some (.tup [.ref e, .ref m, .ref l]) ∧ ExA H e C ∧ H m = some (.lst vs) ∧ H l = some (.lst vs) ∧ TenL H vs ds
theorem TenL.same {H H' : Hp} {vs : List V} {ds : List PyData} (t : TenL H vs ds) (s : Same H H') : TenL H' vs ds := by
  cases t with
  | one t => exact .one (t.same s)
  | two t u => exact .two (t.same s) (u.same s)
theorem Told.same {H H' : Hp} {v : V} {C : Addr} (t : Told H v C) (s : Same H H') : Told H' v C := by
  obtain ⟨T, e, m, l, vs, ds, h1, h2, h3, h4, h5, h6⟩ := t.ex
  exact ⟨T, e, m, l, vs, ds, h1, s _ _ h2, h3.same s, s _ _ h4, s _ _ h5, h6.same s⟩
inductive ToldAll (H : Hp) : List V → List Addr → Prop where
  | nil : ToldAll H [] []
  | cons {v : V} {C : Addr} {vs : List V} {Cs : List Addr} : Told H v C → ToldAll H vs Cs → ToldAll H (v :: vs) (C :: Cs)
theorem ToldAll.same {H H' : Hp} {vs : List V} {Cs : List Addr} (s : Same H H') (t : ToldAll H vs Cs) : ToldAll H' vs Cs := by
  induction t with
  | nil => exact .nil
  | cons t r ih => exact .cons (t.same s) ih
theorem ToldAll.snoc {H : Hp} {vs : List V} {Cs : List Addr} {v : V} {C : Addr} (t : ToldAll H vs Cs) (u : Told H v C) : ToldAll H (vs ++ [v]) (Cs ++ [C]) := by
  induction t with
  | nil => exact .cons u .nil
  | cons t r ih => exact .cons t ih
theorem delH_upd {H : Hp} {p : Addr} {o : HO} : delH (upd H p o) p = delH H p := by
  funext b
  by_cases e : b = p
  · rw [e, delH_same, delH_same]
  · rw [delH_ne e, delH_ne e, upd_ne e]
theorem delH_le {H : Hp} {p : Addr} : Same (delH H p) H := fun b o e => by
  by_cases q : b = p
  · rw [q, delH_same] at e
    cases e
  · rw [delH_ne q] at e
    exact e
theorem delH_mono {H H' : Hp} {p : Addr} (s : Same H H') : Same (delH H p) (delH H' p) := fun b o e => by
  by_cases q : b = p
  · rw [q, delH_same] at e
    cases e
  · rw [delH_ne q] at e ⊢
    exact s _ _ e
theorem delH_at {H : Hp} {p b : Addr} {o : HO} (h : H b = some o) (n : b ≠ p) : delH H p b = some o := by rw [delH_ne n]; exact h
/-- an object of a class with an __init__ of one field, of two -/
theorem mk_one {K : PySem.W.Frag} {C : Addr} {f : Str} {σ : L2.St} {H : Hp} {Q : VK} {v : V} {d : PyData} (h0 : σ[0]? = some (some v)) (t : Ten H v d)
    (k : ∀ z a dx H', Same H H' → H a = none → H dx = none → H' a = some (exo a C (some dx)) → H' dx = some (exd dx [(f, v), ("called", .str z)]) → Q (.ref a) H') : tMkX C (spInit1 K C f) (tCons (tVar 0) tNil) σ H Q := by
  refine ⟨_, h0, by show 1 ≤ 1000; decide, fun a ha => ⟨a, v, d, rfl, upd_same, t.same (Same.new ha), fun z dx H' s hdx hne g1 g2 => ⟨rfl, ?_⟩⟩⟩
  refine k z a dx H' (fun b o e => s b o (ne_of_none e ha) (by rw [upd_ne (ne_of_none e ha)]; exact e)) ha ?_ g1 g2
  rw [upd_ne hne] at hdx
  exact hdx
theorem mk_two {K : PySem.W.Frag} {C : Addr} {f g : Str} {σ : L2.St} {H : Hp} {Q : VK} {v u : V} {d b : PyData} (h0 : σ[0]? = some (some v)) (h1 : σ[1]? = some (some u)) (t : Ten H v d) (t2 : Ten H u b)
    (k : ∀ z a dx H', Same H H' → H a = none → H dx = none → H' a = some (exo a C (some dx)) → H' dx = some (exd dx [(g, u), (f, v), ("called", .str z)]) → Q (.ref a) H') : tMkX C (spInit2 K C f g) (tCons (tVar 0) (tCons (tVar 1) tNil)) σ H Q := by
  refine ⟨_, h0, _, h1, by show 2 ≤ 1000; decide, fun a ha => ⟨a, v, u, d, b, rfl, upd_same, t.same (Same.new ha), t2.same (Same.new ha), fun z dx H' s hdx hne g1 g2 => ⟨rfl, ?_⟩⟩⟩
  refine k z a dx H' (fun b o e => s b o (ne_of_none e ha) (by rw [upd_ne (ne_of_none e ha)]; exact e)) ha ?_ g1 g2
  rw [upd_ne hne] at hdx
  exact hdx
section
variable {P : Program} {w : World} {K : PySem.W.Frag} {mg : Str → Option Value} {base : Heap}
theorem lookup_one (f : Str) (v : V) (r : List (Str × V)) : ((f, v) :: r).lookup f = some v := by rw [lookup_put, if_pos rfl]
theorem told_one {rest : TS} {D : Ends} {C p : Addr} {f : Str} {ys : List V} {Cs : List Addr} {H : Hp} {v u : V} {d : PyData} {x3 : Option V} (T : FieldOk K C f) (hp : H p = some (.lst ys)) (ht : ToldAll (delH H p) ys Cs) (t : Ten (delH H p) v d) (hl : ys.length ≤ 10)
    (k : ∀ y x H', H' p = some (.lst (ys ++ [y])) → ToldAll (delH H' p) (ys ++ [y]) (Cs ++ [C]) → Same (delH H p) (delH H' p) → rest D [some v, some u, some (.ref p), some x] H') :
    tSeq (tAsg (tMkX C (spInit1 K C f) (tCons (tVar 0) tNil)) (gName 3)) (tSeq (tDrop (tBM K "list" rAppend (tVar 2) (tCons (tTup (tCons (tVar 3) (tCons (tLst (tCons (tXg K f (tVar 3)) tNil)) (tCons (tLst (tCons (tVar 0) tNil)) tNil)))) tNil))) rest) D [some v, some u, some (.ref p), x3] H := by
  unfold tSeq tAsg
  refine mk_one (σ := [some v, some u, some (.ref p), x3]) rfl (t.same delH_le) fun z a dx H1 s1 na nd g1 g2 => ?_
  have hp1 := s1 _ _ hp
  refine ⟨_, rfl, .inl ⟨rfl, _, SqL.of hp1⟩, _, rfl, _, rfl, a, C, dx, _, v, rfl, g1, g2, T.get, lookup_one f v _, by show 1 ≤ sizeLine; decide, fun m hm => ?_⟩
  have s2 : Same H1 (upd H1 m (.lst [v])) := Same.new hm
  have f2 : (upd H1 m (.lst [v])) m = some (.lst [v]) := upd_same
  generalize upd H1 m (.lst [v]) = H2 at s2 f2 ⊢
  refine ⟨_, rfl, by show 1 ≤ sizeLine; decide, fun l hl3 => ?_⟩
  have s3 : Same H2 (upd H2 l (.lst [v])) := Same.new hl3
  have f3 : (upd H2 l (.lst [v])) l = some (.lst [v]) := upd_same
  generalize upd H2 l (.lst [v]) = H3 at s3 f3 ⊢
  refine ⟨by show 3 ≤ sizeLine; decide, fun T4 hT => ?_⟩
  have s4 : Same H3 (upd H3 T4 (.tup [.ref a, .ref m, .ref l])) := Same.new hT
  have f4 : (upd H3 T4 (.tup [.ref a, .ref m, .ref l])) T4 = some (.tup [.ref a, .ref m, .ref l]) := upd_same
  generalize upd H3 T4 (.tup [.ref a, .ref m, .ref l]) = H4 at s4 f4 ⊢
  have sA := ((s1.trans s2).trans s3).trans s4
  refine ⟨p, ys, _, rfl, rfl, sA _ _ hp, small1000 (by omega), ?_⟩
  have np : ∀ b, H b = none → b ≠ p := fun b e z => by rw [z, hp] at e; cases e
  have nT : T4 ≠ p := np _ (((s1.trans s2).trans s3).free hT)
  have nl : l ≠ p := np _ ((s1.trans s2).free hl3)
  have nm : m ≠ p := np _ (s1.free hm)
  refine k (.ref T4) (.ref a) _ upd_same ?_ ?_
  · rw [delH_upd]
    refine (ht.same (delH_mono sA)).snoc ⟨T4, a, m, l, [v], [d], rfl, delH_at f4 nT, .told dx _ (delH_at ((s2.trans (s3.trans s4)) _ _ g1) (np _ na)) (delH_at ((s2.trans (s3.trans s4)) _ _ g2) (np _ nd)), delH_at ((s3.trans s4) _ _ f2) nm, delH_at (s4 _ _ f3) nl, .one (t.same (delH_mono sA))⟩
  · rw [delH_upd]
    exact delH_mono sA
theorem told_two {rest : TS} {D : Ends} {C p : Addr} {f g : Str} {ys : List V} {Cs : List Addr} {H : Hp} {v u : V} {d b : PyData} {x3 : Option V} (T : FieldOk K C f) (T2 : FieldOk K C g) (hfg : ¬ f = g) (hp : H p = some (.lst ys)) (ht : ToldAll (delH H p) ys Cs) (t : Ten (delH H p) v d) (t2 : Ten (delH H p) u b) (hl : ys.length ≤ 10)
    (k : ∀ y x H', H' p = some (.lst (ys ++ [y])) → ToldAll (delH H' p) (ys ++ [y]) (Cs ++ [C]) → Same (delH H p) (delH H' p) → rest D [some v, some u, some (.ref p), some x] H') :
    tSeq (tAsg (tMkX C (spInit2 K C f g) (tCons (tVar 0) (tCons (tVar 1) tNil))) (gName 3)) (tSeq (tDrop (tBM K "list" rAppend (tVar 2) (tCons (tTup (tCons (tVar 3) (tCons (tLst (tCons (tXg K f (tVar 3)) (tCons (tXg K g (tVar 3)) tNil))) (tCons (tLst (tCons (tVar 0) (tCons (tVar 1) tNil))) tNil)))) tNil))) rest) D [some v, some u, some (.ref p), x3] H := by
  unfold tSeq tAsg
  refine mk_two (σ := [some v, some u, some (.ref p), x3]) rfl rfl (t.same delH_le) (t2.same delH_le) fun z a dx H1 s1 na nd g1 g2 => ?_
  have hp1 := s1 _ _ hp
  refine ⟨_, rfl, .inl ⟨rfl, _, SqL.of hp1⟩, _, rfl, _, rfl, a, C, dx, _, v, rfl, g1, g2, T.get, ?_, _, rfl, a, C, dx, _, u, rfl, g1, g2, T2.get, by rw [lookup_put, if_pos rfl], by show 2 ≤ sizeLine; decide, fun m hm => ?_⟩
  · rw [lookup_put, if_neg hfg]
    exact lookup_one f v _
  have s2 : Same H1 (upd H1 m (.lst [v, u])) := Same.new hm
  have f2 : (upd H1 m (.lst [v, u])) m = some (.lst [v, u]) := upd_same
  generalize upd H1 m (.lst [v, u]) = H2 at s2 f2 ⊢
  refine ⟨_, rfl, _, rfl, by show 2 ≤ sizeLine; decide, fun l hl3 => ?_⟩
  have s3 : Same H2 (upd H2 l (.lst [v, u])) := Same.new hl3
  have f3 : (upd H2 l (.lst [v, u])) l = some (.lst [v, u]) := upd_same
  generalize upd H2 l (.lst [v, u]) = H3 at s3 f3 ⊢
  refine ⟨by show 3 ≤ sizeLine; decide, fun T4 hT => ?_⟩
  have s4 : Same H3 (upd H3 T4 (.tup [.ref a, .ref m, .ref l])) := Same.new hT
  have f4 : (upd H3 T4 (.tup [.ref a, .ref m, .ref l])) T4 = some (.tup [.ref a, .ref m, .ref l]) := upd_same
  generalize upd H3 T4 (.tup [.ref a, .ref m, .ref l]) = H4 at s4 f4 ⊢
  have sA := ((s1.trans s2).trans s3).trans s4
  refine ⟨p, ys, _, rfl, rfl, sA _ _ hp, small1000 (by omega), ?_⟩
  have np : ∀ b, H b = none → b ≠ p := fun b e z => by rw [z, hp] at e; cases e
  have nT : T4 ≠ p := np _ (((s1.trans s2).trans s3).free hT)
  have nl : l ≠ p := np _ ((s1.trans s2).free hl3)
  have nm : m ≠ p := np _ (s1.free hm)
  refine k (.ref T4) (.ref a) _ upd_same ?_ ?_
  · rw [delH_upd]
    refine (ht.same (delH_mono sA)).snoc ⟨T4, a, m, l, [v, u], [d, b], rfl, delH_at f4 nT, .told dx _ (delH_at ((s2.trans (s3.trans s4)) _ _ g1) (np _ na)) (delH_at ((s2.trans (s3.trans s4)) _ _ g2) (np _ nd)), delH_at ((s3.trans s4) _ _ f2) nm, delH_at (s4 _ _ f3) nl, .two (t.same (delH_mono sA)) (t2.same (delH_mono sA))⟩
  · rw [delH_upd]
    exact delH_mono sA
/-- an __init__ that may be called -/
structure ICal (P : Program) (w : World) (K : PySem.W.Frag) (mg : Str → Option Value) (base : Heap) (C : Addr) (ps : List Str) (sp : Sp) : Prop where
  ex : ∃ (fI : Addr) (fd : FuncData), PySem.W.findIn K (.ref C) "__init__" = some (some (.ref fI)) ∧ PySem.W.typeIn K (.ref fI) = some (.type "function") ∧ FnG P w K mg base 2 fI fd ps sp ∧ Binds K fd ps []
theorem pe_oI {X : Cx} {x : Str} {C : Addr} {ps : List Str} {sp : Sp} {e : Expr} {es : List Expr} {ta : TA} {p pos : Pos} (T : OexC X.K C) (J : ICal X.prog X.w X.K X.mg X.base C ps sp) (hgd : X.A.guards = some []) (hr : Room 3 X.A) (hm : X.mg x = some (.ref C)) (ha : PA X (e :: es) ta)
    (hg : Gl X x := by rfl) (hdb : (x == ("__debug__" : Str)) = false := by decide) (he : starEach (e :: es) X.env = (false, eval e X.env) :: starEach es X.env := by rfl) (hpl : (backTo pos (starEach es X.env)).any (·.1) = false := by rfl) :
    PE X (.Call (.Name x p) (e :: es) [] pos) (tMkX C sp ta) := by
  obtain ⟨fI, fd, h1, h2, h3, h4⟩ := J.ex
  exact pe_oex T h1 h2 h3 hgd hr h4 hg hm ha hdb he hpl
def spTold (K : PySem.W.Frag) : Sp := fun vs H Q _ => ∃ (v u : V) (d b : PyData), vs = [v, u] ∧ Ten H v d ∧ Ten H u b ∧ ∀ q ys H', Same H H' → H q = none → H' q = some (.lst ys) → ToldAll H' ys (tn.map (He.ga K)) → Q (.ref q) H'
theorem scTold : FnScope ["one", "other", "found", "error"] ["one", "other"] (defScope sTold) := ⟨rfl, rfl, rfl, by decide +kernel, rfl, by decide +kernel, by decide +kernel⟩
theorem ok_told {f : Addr} {fd : FuncData} (F : Fun K "_law_told_errors" "_law_told_errors" sTold f fd) (X : TxtX K mg) (T : TxtI K mg)
    (I_BadText : ICal P w K mg base (He.ga K "BadText") ["self", "at", "wanted"] (spInit2 K (He.ga K "BadText") "at" "wanted"))
    (I_NoRule : ICal P w K mg base (He.ga K "NoRule") ["self", "place"] (spInit1 K (He.ga K "NoRule") "place"))
    (I_NotClear : ICal P w K mg base (He.ga K "NotClear") ["self", "spot"] (spInit1 K (He.ga K "NotClear") "spot"))
    (I_NotWritten : ICal P w K mg base (He.ga K "NotWritten") ["self", "name"] (spInit1 K (He.ga K "NotWritten") "name"))
    (I_TooMany : ICal P w K mg base (He.ga K "TooMany") ["self", "most"] (spInit1 K (He.ga K "TooMany") "most"))
    : FnG P w K mg base 4 f fd ["one", "other"] (spTold K) := by
  refine FnG.mk0 F scTold (fun vs H Q E h => ?_) (fun cdv A outer s H vs Q E hgd hr h => ?_)
  · obtain ⟨v, u, d, b, rfl, _⟩ := h
    rfl
  · obtain ⟨v, u, d, b, rfl, t, t2, k⟩ := h
    refine ⟨_, (pss_cons (ps_set (i := 2) scTold.nd rfl (Or.inl rfl) (pe_lst pa_nil))
      (pss_cons (ps_set (i := 3) scTold.nd rfl (Or.inl rfl) (pe_oI T.f_BadText_at.oex I_BadText hgd hr (X.g _ (List.mem_of_getElem? (i := 31) rfl)) (pa_cons (pv 0) (pa_cons (pv 1) pa_nil))))
      (pss_cons (ps_expr (pe_bm PySem.F.plainAttrs_list PySem.F.slot_list_append PySem.F.type_list_append mt_append (pv 2) (pa_cons (pe_tup (pa_cons (pv 3) (pa_cons (pe_lst (pa_cons (pe_xg (pv 3)) (pa_cons (pe_xg (pv 3)) pa_nil))) (pa_cons (pe_lst (pa_cons (pv 0) (pa_cons (pv 1) pa_nil))) pa_nil)))) pa_nil)))
      (pss_cons (ps_set (i := 3) scTold.nd rfl (Or.inl rfl) (pe_oI T.f_NoRule_place.oex I_NoRule hgd hr (X.g _ (List.mem_of_getElem? (i := 39) rfl)) (pa_cons (pv 0) pa_nil)))
      (pss_cons (ps_expr (pe_bm PySem.F.plainAttrs_list PySem.F.slot_list_append PySem.F.type_list_append mt_append (pv 2) (pa_cons (pe_tup (pa_cons (pv 3) (pa_cons (pe_lst (pa_cons (pe_xg (pv 3)) pa_nil)) (pa_cons (pe_lst (pa_cons (pv 0) pa_nil)) pa_nil)))) pa_nil)))
      (pss_cons (ps_set (i := 3) scTold.nd rfl (Or.inl rfl) (pe_oI T.f_NotClear_spot.oex I_NotClear hgd hr (X.g _ (List.mem_of_getElem? (i := 41) rfl)) (pa_cons (pv 0) pa_nil)))
      (pss_cons (ps_expr (pe_bm PySem.F.plainAttrs_list PySem.F.slot_list_append PySem.F.type_list_append mt_append (pv 2) (pa_cons (pe_tup (pa_cons (pv 3) (pa_cons (pe_lst (pa_cons (pe_xg (pv 3)) pa_nil)) (pa_cons (pe_lst (pa_cons (pv 0) pa_nil)) pa_nil)))) pa_nil)))
      (pss_cons (ps_set (i := 3) scTold.nd rfl (Or.inl rfl) (pe_oI T.f_NotWritten_name.oex I_NotWritten hgd hr (X.g _ (List.mem_of_getElem? (i := 43) rfl)) (pa_cons (pv 0) pa_nil)))
      (pss_cons (ps_expr (pe_bm PySem.F.plainAttrs_list PySem.F.slot_list_append PySem.F.type_list_append mt_append (pv 2) (pa_cons (pe_tup (pa_cons (pv 3) (pa_cons (pe_lst (pa_cons (pe_xg (pv 3)) pa_nil)) (pa_cons (pe_lst (pa_cons (pv 0) pa_nil)) pa_nil)))) pa_nil)))
      (pss_cons (ps_set (i := 3) scTold.nd rfl (Or.inl rfl) (pe_oI T.f_TooMany_most.oex I_TooMany hgd hr (X.g _ (List.mem_of_getElem? (i := 47) rfl)) (pa_cons (pv 0) pa_nil)))
      (pss_cons (ps_expr (pe_bm PySem.F.plainAttrs_list PySem.F.slot_list_append PySem.F.type_list_append mt_append (pv 2) (pa_cons (pe_tup (pa_cons (pv 3) (pa_cons (pe_lst (pa_cons (pe_xg (pv 3)) pa_nil)) (pa_cons (pe_lst (pa_cons (pv 0) pa_nil)) pa_nil)))) pa_nil)))
      (pss_one (ps_ret (pv 2)))))))))))))), ?_⟩
    have e0 : L2.start ["one", "other", "found", "error"] [v, u] = [some v, some u, none, none] := rfl
    rw [e0]
    refine ⟨Nat.zero_le _, fun p hp => ?_⟩
    have s0 : Same H (delH (upd H p (.lst [])) p) := fun b o e => delH_at (by rw [upd_ne (ne_of_none e hp)]; exact e) (ne_of_none e hp)
    have f0 : (upd H p (.lst [])) p = some (.lst []) := upd_same
    have t0 : ToldAll (delH (upd H p (.lst [])) p) [] [] := .nil
    generalize upd H p (.lst []) = H0 at s0 f0 t0 ⊢
    refine told_two T.f_BadText_at T.f_BadText_wanted (by decide) f0 t0 (t.same s0) (t2.same s0) (by simp) fun y1 x1 H1 f1 t1 q1 => ?_
    have s1 := s0.trans q1
    refine told_one T.f_NoRule_place f1 t1 (t.same s1) (by simp) fun y2 x2 H2 f2 t2 q2 => ?_
    have s2 := s1.trans q2
    refine told_one T.f_NotClear_spot f2 t2 (t.same s2) (by simp) fun y3 x3 H3 f3 t3 q3 => ?_
    have s3 := s2.trans q3
    refine told_one T.f_NotWritten_name f3 t3 (t.same s3) (by simp) fun y4 x4 H4 f4 t4 q4 => ?_
    have s4 := s3.trans q4
    refine told_one T.f_TooMany_most f4 t4 (t.same s4) (by simp) fun y5 x5 H5 f5 t5 q5 => ?_
    have s5 := s4.trans q5
    exact ⟨_, rfl, k p _ H5 (s5.trans delH_le) hp f5 (t5.same delH_le)⟩
end
end Fr
namespace Fr
open PySem PySem.Spec PyProof.Rows L2 RZ
abbrev sLaw : Stmt := top 58
def spLaw (K : PySem.W.Frag) : Sp := fun vs H Q _ => ∃ (a : Addr) (ns : List Int), vs = [.ref a] ∧ SqL K H a (ns.map V.int) ∧ ns.length ≤ 63 ∧ ∀ H', Q (.bl true) H'
abbrev NL : List Str := ["script", "draw", "some", "one", "other", "told", "errors_here", "error", "classes", "mine", "due", "entry", "found"]
theorem scLaw : FnScope NL ["script"] (defScope sLaw) := ⟨rfl, rfl, rfl, by decide +kernel, rfl, by decide +kernel, by decide +kernel⟩
section
variable {P : Program} {w : World} {K : PySem.W.Frag} {mg : Str → Option Value} {base : Heap}
structure TxtL (P : Program) (w : World) (K : PySem.W.Frag) (mg : Str → Option Value) (base : Heap) : Prop where
  len : mg "len" = none
  set : mg "set" = none
  repr : mg "repr" = none
  ve : mg "ValueError" = none
  X : TxtX K mg
  I : TxtI K mg
  kitF : ∀ x ∈ cn, PySem.W.kitOne K (.ref (He.ga K x)) (.ref (He.ga K "FormError")) = some true
  kitV : ∀ x ∈ cn, PySem.W.kitOne K (.ref (He.ga K x)) (.type "ValueError") = some true
  begun : Cal P w K mg base "_law_begun" 1 ["script"] (spBegun K)
  pick : Cal P w K mg base "_law_pick" 3 ["draw", "some"] spPick
  plain : CalG P w K mg base "_law_plain_errors" 3 [] (spPlainE K)
  told : CalG P w K mg base "_law_told_errors" 4 ["one", "other"] (spTold K)
  classes : Cal P w K mg base "_law_classes" 1 ["error"] (spClasses K)
def rLenS (K : PySem.W.Frag) : List V → Hp → VK → Prop := fun xs H Q => ∃ (p : Addr) (ys : List V), xs = [V.ref p] ∧ (SqL K H p ys ∨ SqT K H p ys) ∧ Q (V.int ((ys.length : Nat) : Int)) H
/-! ### the ten values, one of them picked -/
def someV (t l m : Addr) : List V := [.non, .int 0, .int (-7), .str "x", .str "", .ref t, .ref l, .ref m, .bl true, .int 100000000000000000000]
theorem some_ten {H : Hp} {t l m : Addr} (h1 : H t = some (.tup [.int 1, .int 2])) (h2 : H l = some (.lst [.int 3])) (h3 : H m = some (.dK [(.inr "a", .int 4)])) : ∀ x ∈ someV t l m, ∃ d, Ten H x d := by
  intro x hx
  simp only [someV, List.mem_cons, List.not_mem_nil, or_false] at hx
  rcases hx with rfl | rfl | rfl | rfl | rfl | rfl | rfl | rfl | rfl | rfl
  · exact ⟨_, .non⟩
  · exact ⟨_, .i0⟩
  · exact ⟨_, .i7⟩
  · exact ⟨_, .sx⟩
  · exact ⟨_, .se⟩
  · exact ⟨_, .tup h1⟩
  · exact ⟨_, .lst h2⟩
  · exact ⟨_, .dct h3⟩
  · exact ⟨_, .bt⟩
  · exact ⟨_, .ib⟩
def perm1 : List Nat := [0, 1, 2, 3, 4, 5, 6, 7, 8, 9, 10, 11, 12, 13, 14, 15, 16, 17, 18, 19, 20, 21, 22, 23, 24, 25, 26, 27, 28, 29, 30, 32, 33, 34, 35, 36, 37, 38, 40, 42]
def perm2 : List Nat := [44, 45, 46, 31, 39, 41, 43, 47]
def perm : List Nat := perm1 ++ perm2
def en : List Str := pn ++ tn
theorem en_at : ∀ j < 48, ∃ x i, en[j]? = some x ∧ perm[j]? = some i ∧ cn[i]? = some x := by
  have h : ∀ j < 48, (match en[j]?, perm[j]? with | some x, some i => decide (cn[i]? = some x) | _, _ => false) = true := by decide +kernel
  intro j hj
  have z := h j hj
  cases e1 : en[j]? with
  | none => rw [e1] at z; cases z
  | some x =>
    cases e2 : perm[j]? with
    | none => rw [e1, e2] at z; cases z
    | some i => rw [e1, e2] at z; exact ⟨x, i, rfl, rfl, of_decide_eq_true z⟩
def toI (n : Nat) : Int := (n : Int)
theorem perm_nodup : (perm.map toI).Nodup := by decide +kernel
theorem ExAll.at_ {H : Hp} {vs : List V} {Ds : List Addr} (e : ExAll H vs Ds) : ∀ {i : Nat} {v : V}, vs[i]? = some v → ∃ a D, v = .ref a ∧ Ds[i]? = some D ∧ ExA H a D := by
  induction e with
  | nil => intro i v h; simp at h
  | cons e r ih =>
    intro i v h
    cases i with
    | zero => simp at h; exact ⟨_, _, h.symm, rfl, e⟩
    | succ i => obtain ⟨a, D, h1, h2, h3⟩ := ih (by simpa using h); exact ⟨a, D, h1, by simpa using h2, h3⟩
theorem ToldAll.at_ {H : Hp} {vs : List V} {Ds : List Addr} (e : ToldAll H vs Ds) : ∀ {i : Nat} {v : V}, vs[i]? = some v → ∃ D, Ds[i]? = some D ∧ Told H v D := by
  induction e with
  | nil => intro i v h; simp at h
  | cons e r ih =>
    intro i v h
    cases i with
    | zero => simp at h; subst h; exact ⟨_, rfl, e⟩
    | succ i => obtain ⟨D, h1, h2⟩ := ih (by simpa using h); exact ⟨D, by simpa using h1, h2⟩
theorem ToldAll.length {H : Hp} {vs : List V} {Ds : List Addr} (e : ToldAll H vs Ds) : vs.length = Ds.length := by
  induction e with
  | nil => rfl
  | cons e r ih => rw [List.length_cons, List.length_cons, ih]
theorem take_snoc {α : Type} {l : List α} {i : Nat} {x : α} (h : l[i]? = some x) : l.take (i + 1) = l.take i ++ [x] := by
  obtain ⟨hi, e⟩ := List.getElem?_eq_some_iff.mp h
  rw [← e, List.take_append_getElem]
/-- lists of one number each -/
inductive ClsAll (H : Hp) : List V → List Nat → Prop where
  | nil : ClsAll H [] []
  | cons {q : Addr} {n : Nat} {vs : List V} {ns : List Nat} : H q = some (.lst [.int (n : Int)]) → ClsAll H vs ns → ClsAll H (.ref q :: vs) (n :: ns)
theorem ClsAll.same {H H' : Hp} {vs : List V} {ns : List Nat} (s : Same H H') (t : ClsAll H vs ns) : ClsAll H' vs ns := by
  induction t with
  | nil => exact .nil
  | cons h r ih => exact .cons (s _ _ h) ih
theorem ClsAll.snoc {H : Hp} {vs : List V} {ns : List Nat} {q : Addr} {n : Nat} (t : ClsAll H vs ns) (h : H q = some (.lst [.int (n : Int)])) : ClsAll H (vs ++ [.ref q]) (ns ++ [n]) := by
  induction t with
  | nil => exact .cons h .nil
  | cons h r ih => exact .cons h ih
theorem ClsAll.length {H : Hp} {vs : List V} {ns : List Nat} (e : ClsAll H vs ns) : vs.length = ns.length := by
  induction e with
  | nil => rfl
  | cons e r ih => rw [List.length_cons, List.length_cons, ih]
theorem ClsAll.at_ {H : Hp} {vs : List V} {ns : List Nat} (e : ClsAll H vs ns) : ∀ {i : Nat} {v : V}, vs[i]? = some v → ∃ q n, v = .ref q ∧ ns[i]? = some n ∧ H q = some (.lst [.int (n : Int)]) := by
  induction e with
  | nil => intro i v h; simp at h
  | cons e r ih =>
    intro i v h
    cases i with
    | zero => simp at h; exact ⟨_, _, h.symm, rfl, e⟩
    | succ i => obtain ⟨q, n, h1, h2, h3⟩ := ih (by simpa using h); exact ⟨q, n, h1, by simpa using h2, h3⟩
theorem ok_law {f : Addr} {fd : FuncData} (F : Fun K "law" "law" sLaw f fd) (T : TxtL P w K mg base) : FnG P w K mg base 5 f fd ["script"] (spLaw K) := by
  refine FnG.mk0 F scLaw (fun vs H Q E h => ?_) (fun cdv A outer s H vs Q E hgd hr h => ?_)
  · obtain ⟨a, ns, rfl, _⟩ := h
    rfl
  · obtain ⟨a, ns, rfl, hS, hnl, k⟩ := h
    have hu := hu_of hr
    refine ⟨_, (pss_cons (ps_set (i := 1) scLaw.nd rfl (Or.inl rfl) (pe_c T.begun (hr.mono (by decide)) (pa_cons (pv 0) pa_nil)))
      (pss_cons (ps_set (i := 2) scLaw.nd rfl (Or.inl rfl) (pe_lst (pa_cons pe_non (pa_cons pe_int (pa_cons (pe_un un_neg pe_int) (pa_cons pe_str (pa_cons pe_str (pa_cons (pe_tup (pa_cons pe_int (pa_cons pe_int pa_nil))) (pa_cons (pe_lst (pa_cons pe_int pa_nil)) (pa_cons (pe_disp (pps_cons pe_str pe_int pps_nil) (by rfl) (by rfl) (fun z => by cases z) (by decide)) (pa_cons pe_bl (pa_cons (pe_op op_pow pe_int pe_int) pa_nil))))))))))))
      (pss_cons (ps_par (i := 3) (j := 4) rfl scLaw.nd rfl rfl (by decide) rfl rfl (pa_cons (pe_c T.pick (hr.mono (by decide)) (pa_cons (pv 1) (pa_cons (pv 2) pa_nil))) (pa_cons (pe_c T.pick (hr.mono (by decide)) (pa_cons (pv 1) (pa_cons (pv 2) pa_nil))) pa_nil)) rfl)
      (pss_cons (ps_set (i := 5) scLaw.nd rfl (Or.inl rfl) (pe_cG T.told hgd hr (pa_cons (pv 3) (pa_cons (pv 4) pa_nil))))
      (pss_cons (ps_set (i := 6) scLaw.nd rfl (Or.inl rfl) (pe_op op_cat (pe_cG0 T.plain hgd (hr.mono (by decide))) (pe_lc (own := [("entry", 11)]) (g := gName 11) rfl scLaw.nd (pi_list (pv 5)) (blkOk_by (own := [("entry", 11)]) (N := NL) (sc := defScope sLaw) (by decide +kernel))
        (fun _ _ _ _ _ => pg_name (i := 11) scLaw.nd rfl (Or.inl rfl)) (fun _ _ _ _ _ => pts_nil) (fun _ _ _ _ _ => pe_ix (r := rIxT K) ix_tup (pv 11) pe_int (fun _ _ => rfl)))))
      (pss_cons (ps_setLc (i := 8) (own := [("error", 7)]) (g := gName 7) rfl scLaw.nd rfl rfl (sw_true rfl rfl rfl (by decide +kernel)) (pi_list (pv 6)) (blkOk_by (own := [("error", 7)]) (N := NL) (sc := defScope sLaw) (by decide +kernel))
        (fun _ _ _ _ _ => pg_name (i := 7) scLaw.nd rfl (Or.inl rfl)) (fun _ _ _ _ _ => pts_nil) (fun _ _ _ _ _ => pe_c T.classes (hr.mono (by decide)) (pa_cons (pv 7) pa_nil)))
      (pss_cons (ps_if (PW.pt (pw_or (pt_cmpR (op_neD hr.units) (pe_lc (own := [("found", 12)]) (g := gName 12) rfl scLaw.nd (pi_list (pv 8)) (blkOk_by (own := [("found", 12)]) (N := NL) (sc := defScope sLaw) (by decide +kernel))
          (fun _ _ _ _ _ => pg_name (i := 12) scLaw.nd rfl (Or.inl rfl)) (fun _ _ _ _ _ => pts_one (pt_cmpR op_ne (pe_callB (r := rLenS K) call_len_seq (by rfl) T.len PySem.boot_len (pa_cons (pv 12) pa_nil)) pe_int (nomark _))) (fun _ _ _ _ _ => pe_int)) (pe_lst pa_nil) (nomark _))
          (pw_or1 (pt_cmpR op_ne (pe_lenSetI (by rfl) T.len (by rfl) T.set (pe_lc (own := [("found", 12)]) (g := gName 12) rfl scLaw.nd (pi_list (pv 8)) (blkOk_by (own := [("found", 12)]) (N := NL) (sc := defScope sLaw) (by decide +kernel))
            (fun _ _ _ _ _ => pg_name (i := 12) scLaw.nd rfl (Or.inl rfl)) (fun _ _ _ _ _ => pts_nil) (fun _ _ _ _ _ => pe_ix (r := rIxL K) ix_list (pv 12) pe_int (fun _ _ => rfl)))) (pe_callB call_len_seq (by rfl) T.len PySem.boot_len (pa_cons (pv 6) pa_nil)) (nomark _))))) (pss_one (ps_ret pe_bl)) pss_nil)
      (pss_cons (ps_for PassesOwn.never rfl (pi_list (pv 5)) (pg_tup rfl (pgs_cons (pg_name (i := 7) scLaw.nd rfl (Or.inl rfl)) (pgs_cons (pg_name (i := 9) scLaw.nd rfl (Or.inl rfl)) (pgs_cons (pg_name (i := 10) scLaw.nd rfl (Or.inl rfl)) pgs_nil))))
        (pss_one (ps_if (pt_cmpR op_ne (pe_callB (call_reprT hgd hr.units T.I.sys) (by rfl) T.repr (by decide +kernel) (pa_cons (pv 9) pa_nil)) (pe_callB (call_reprT hgd hr.units T.I.sys) (by rfl) T.repr (by decide +kernel) (pa_cons (pv 10) pa_nil)) (nomark _)) (pss_one (ps_ret pe_bl)) pss_nil)))
      (pss_cons (ps_for PassesOwn.never rfl (pi_list (pv 6)) (pg_name (i := 7) scLaw.nd rfl (Or.inl rfl))
        (pss_one (ps_if (PW.pt (pw_or (pt_not (pt_val (pe_callB call_isX (by rfl) T.X.isi (by decide +kernel) (pa_cons (pv 7) (pa_cons (pe_glob (v := .ref (He.ga K "FormError")) rfl T.I.bG rfl) pa_nil)))))
          (pw_or1 (pt_not (pt_val (pe_callB call_isX (by rfl) T.X.isi (by decide +kernel) (pa_cons (pv 7) (pa_cons (pe_bltn (v := .ty "ValueError") rfl T.ve (by decide +kernel) rfl) pa_nil)))))))) (pss_one (ps_ret pe_bl)) pss_nil)))
      (pss_one (ps_ret pe_bl))))))))))), ?_⟩
    -- draw = _law_begun(script)
    refine ⟨_, rfl, a, ns, rfl, hS, hnl, fun H1 d wl D1 s1 hd hwl => ?_⟩
    -- some = [..]
    refine ⟨_, rfl, by show 2 ≤ sizeLine; decide, fun tp htp => ?_⟩
    have s2 : Same H1 (upd H1 tp (.tup [.int 1, .int 2])) := Same.new htp
    have f2 : (upd H1 tp (.tup [.int 1, .int 2])) tp = some (.tup [.int 1, .int 2]) := upd_same
    generalize (upd H1 tp (.tup [.int 1, .int 2])) = H2 at s2 f2 ⊢
    refine ⟨by show 1 ≤ sizeLine; decide, fun ls hls => ?_⟩
    have s3 : Same H2 (upd H2 ls (.lst [.int 3])) := Same.new hls
    have f3 : (upd H2 ls (.lst [.int 3])) ls = some (.lst [.int 3]) := upd_same
    generalize (upd H2 ls (.lst [.int 3])) = H3 at s3 f3 ⊢
    intro dc hdc
    refine ⟨upd_same, [(.inr "a", .int 4)], rfl, by show 1 ≤ 15; decide, ?_⟩
    have em : mergeK ([] : List (Key × V)) [((Sum.inr ("a" : Str) : Key), V.int 4)] = [((Sum.inr ("a" : Str) : Key), V.int 4)] := by simp [mergeK, putK]
    rw [em]
    have s4 : Same H3 (upd (upd H3 dc (.dK [])) dc (.dK [((Sum.inr ("a" : Str) : Key), V.int 4)])) := Fr.Same.updN (Same.new hdc) hdc
    have f4 : (upd (upd H3 dc (.dK [])) dc (.dK [((Sum.inr ("a" : Str) : Key), V.int 4)])) dc = some (.dK [((Sum.inr ("a" : Str) : Key), V.int 4)]) := upd_same
    generalize (upd (upd H3 dc (.dK [])) dc (.dK [((Sum.inr ("a" : Str) : Key), V.int 4)])) = H4 at s4 f4 ⊢
    refine ⟨_, _, rfl, rfl, ⟨by decide, by decide, by decide⟩, by show 10 ≤ sizeLine; decide, fun so hso => ?_⟩
    have s5 : Same H4 (upd H4 so (.lst (someV tp ls dc))) := Same.new hso
    have f5 : (upd H4 so (.lst (someV tp ls dc))) so = some (.lst (someV tp ls dc)) := upd_same
    have eL : (upd H4 so (.lst [V.non, V.int 0, V.int (-7), V.str "x", V.str "", V.ref tp, V.ref ls, V.ref dc, V.bl true, V.int (10 ^ (20 : Int).toNat)])) = upd H4 so (.lst (someV tp ls dc)) := by
      have e10 : (10 : Int) ^ (20 : Int).toNat = 100000000000000000000 := by decide
      rw [e10]
      rfl
    show gName 2 (.ref so) _ (upd H4 so (.lst [V.non, V.int 0, V.int (-7), V.str "x", V.str "", V.ref tp, V.ref ls, V.ref dc, V.bl true, V.int (10 ^ (20 : Int).toNat)])) _
    rw [eL]
    generalize (upd H4 so (.lst (someV tp ls dc))) = H5 at s5 f5 ⊢
    have sB := ((s2.trans s3).trans s4).trans s5
    have D5 := D1.same sB
    obtain ⟨cl, ws, cs, r, tt, g1, g2, g3, _⟩ := D1.ex
    have nd : ∀ b, H1 b = none → b ≠ d ∧ b ≠ wl := fun b e => ⟨fun z => (by rw [z, g1] at e; cases e), fun z => (by rw [z, g2] at e; cases e)⟩
    have n1 := nd tp htp
    have n2 := nd ls (s2.free hls)
    have n3 := nd dc ((s2.trans s3).free hdc)
    have n4 := nd so (((s2.trans s3).trans s4).free hso)
    have t1 := ((s3.trans s4).trans s5) _ _ f2
    have t2 := (s4.trans s5) _ _ f3
    have t3 := s5 _ _ f4
    -- one, other = (_law_pick(draw, some), _law_pick(draw, some))
    refine ⟨_, rfl, _, rfl, d, wl, 0, so, _, rfl, D5, by decide, f5, n4.2, by show 0 < 10; decide, by show 10 < 1073741824; decide, fun H6 v hv D6 B6 => ?_⟩
    have f6 := B6 _ _ f5 n4.1 n4.2
    refine ⟨_, rfl, _, rfl, d, wl, 1, so, _, rfl, D6, by decide, f6, n4.2, by show 0 < 10; decide, by show 10 < 1073741824; decide, fun H7 u hu7 D7 B7 => ?_⟩
    have B := B6.trans B7
    obtain ⟨dv, tv⟩ := some_ten (B _ _ t1 n1.1 n1.2) (B _ _ t2 n2.1 n2.2) (B _ _ t3 n3.1 n3.2) v hv
    obtain ⟨du, tu⟩ := some_ten (B _ _ t1 n1.1 n1.2) (B _ _ t2 n2.1 n2.2) (B _ _ t3 n3.1 n3.2) u hu7
    -- told = _law_told_errors(one, other)
    refine ⟨_, _, rfl, ?_⟩
    refine ⟨_, rfl, _, rfl, v, u, dv, du, rfl, tv, tu, fun qT ys H8 s8 hqT fT tT => ?_⟩
    -- errors_here = _law_plain_errors() + [entry[0] for entry in told]
    refine ⟨rfl, fun q1 y1 H9 s9 n9 f9 e9 => ?_⟩
    have fT9 := s9 _ _ fT
    have tT9 := tT.same s9
    refine ⟨_, rfl, qT, rfl, ⟨_, SqL.of fT9⟩, fun D hD => lc_list (K := K) (a := qT) (xs := ys) (fun i G => Same H9 G ∧ ∃ acc : List V, G D = some (.lst acc) ∧ ExAll H9 acc ((tn.map (He.ga K)).take i))
      ⟨Same.new hD, [], upd_same, .nil⟩ (fun i G _ p => SqL.of (p.1 _ _ fT9)) ?_ ?_⟩
    · rintro i x G hi ⟨sG, acc, hacc, eA⟩
      obtain ⟨C, hC, tx⟩ := tT9.at_ hi
      obtain ⟨T', e, m, l, vs, ds, rfl, h2, h3, _⟩ := tx.ex
      refine ⟨rfl, yes_if ?_⟩
      refine ⟨V.ref T', rfl, T', _, 0, V.ref e, rfl, rfl, SqT.of (sG _ _ h2), rfl, acc, hacc, ?_, ?_⟩
      · have l1 := eA.length
        rw [List.length_take, List.length_map] at l1
        have l2 : tn.length = 5 := rfl
        exact small1000 (by omega)
      · refine ⟨Fr.Same.updN sG hD, acc ++ [V.ref e], upd_same, ?_⟩
        rw [take_snoc hC]
        exact eA.append (.cons h3 .nil)
    rintro G ⟨sG, acc, hacc, eA⟩
    have hlT := tT9.length
    rw [hlT, List.take_length] at eA
    have eAll : ExAll H9 (y1 ++ acc) (pn.map (He.ga K) ++ tn.map (He.ga K)) := e9.append eA
    have hl48 : (y1 ++ acc).length = 48 := by
      rw [eAll.length, List.length_append, List.length_map, List.length_map]
      rfl
    rw [List.length_append] at hl48
    refine ⟨q1, D, y1, acc, rfl, rfl, sG _ _ f9, hacc, by rw [hl48]; decide, fun eh heh => ?_⟩
    have s10 : Same H9 (upd G eh (.lst (y1 ++ acc))) := sG.trans (Same.new heh)
    have f10 : (upd G eh (.lst (y1 ++ acc))) eh = some (.lst (y1 ++ acc)) := upd_same
    have eX := eAll.same s10
    generalize (upd G eh (.lst (y1 ++ acc))) = H10 at s10 f10 eX ⊢
    rw [← List.length_append] at hl48
    have who : ∀ (i : Nat) (v : V), (y1 ++ acc)[i]? = some v → ∃ (a1 : Addr) (x' : Str) (k' : Nat), v = V.ref a1 ∧ ExA H10 a1 (He.ga K x') ∧ perm[i]? = some k' ∧ cn[k']? = some x' := fun i v hi => by
      obtain ⟨a1, C, e1, hC, he⟩ := eX.at_ hi
      have hi48 : i < 48 := by
        have := (List.getElem?_eq_some_iff.mp hi).1
        omega
      obtain ⟨x', k', z1, z2, z3⟩ := en_at i hi48
      have eC : (en.map (He.ga K))[i]? = some C := by
        unfold en
        rw [List.map_append]
        exact hC
      rw [List.getElem?_map, z1] at eC
      cases Option.some.inj eC
      exact ⟨a1, x', k', e1, he, z2, z3⟩
    -- classes = [_law_classes(error) for error in errors_here]
    refine ⟨_, rfl, eh, rfl, ⟨_, SqL.of f10⟩, fun D2 hD2 => lc_list (K := K) (a := eh) (xs := y1 ++ acc) (fun i G => Same H10 G ∧ ∃ acc2 : List V, G D2 = some (.lst acc2) ∧ ClsAll (delH G D2) acc2 (perm.take i))
      ⟨Same.new hD2, [], upd_same, .nil⟩ (fun i G _ p => SqL.of (p.1 _ _ f10)) ?_ ?_⟩
    · rintro i x G hi ⟨sG, acc2, h2, c2⟩
      obtain ⟨a1, x', k', rfl, he, z2, z3⟩ := who i x hi
      refine ⟨rfl, yes_if ⟨_, rfl, a1, k', x', rfl, z3, he.same sG, fun q G2 sq nq fq => ⟨acc2, sq _ _ h2, ?_, ?_⟩⟩⟩
      · have l1 := c2.length
        rw [List.length_take] at l1
        have l2 : perm.length = 48 := rfl
        exact small1000 (by omega)
      · refine ⟨Fr.Same.updN (sG.trans sq) hD2, acc2 ++ [V.ref q], upd_same, ?_⟩
        rw [delH_upd, take_snoc z2]
        exact (c2.same (delH_mono sq)).snoc (delH_at fq (fun z => by rw [z, h2] at nq; cases nq))
    rintro G1 ⟨sG1, acc2, h2, c2⟩
    have lp : perm.length = 48 := rfl
    rw [hl48, ← lp, List.take_length] at c2
    have c3 : ClsAll G1 acc2 perm := c2.same delH_le
    have la2 : acc2.length = 48 := c3.length
    -- if [1 for found in classes if len(found) != 1] != []
    refine ⟨_, rfl, D2, rfl, ⟨_, SqL.of h2⟩, fun D3 hD3 => lc_list (K := K) (a := D2) (xs := acc2) (fun i G' => Same G1 G' ∧ G' D3 = some (.lst []))
      ⟨Same.new hD3, upd_same⟩ (fun i G' _ p => SqL.of (p.1 _ _ h2)) ?_ ?_⟩
    · rintro i x G2 hi ⟨s, h⟩
      obtain ⟨q, n, rfl, hn, hq⟩ := c3.at_ hi
      refine ⟨rfl, _, rfl, q, _, rfl, .inl (SqL.of (s _ _ hq)), rfl, _, rfl, ?_⟩
      exact iteN (by simp) ⟨s, h⟩
    rintro G2 ⟨sG2, hG2⟩
    refine ⟨Nat.zero_le _, fun p1 hp1 => ⟨.list [], .list [], dp_nilL ((Same.new hp1) _ _ hG2), dp_nilL upd_same, shaped_nilL, shaped_nilL, _, rfl, ?_⟩⟩
    have ez : PyData.eqv (.list []) (.list []) = true := eqv_nilL []
    rw [ez]
    refine iteN (by simp) ?_
    have sG3 : Same G1 (upd G2 p1 (.lst [])) := sG2.trans (Same.new hp1)
    generalize (upd G2 p1 (.lst [])) = G3 at sG3 ⊢
    -- len(set([found[0] for found in classes])) != len(errors_here)
    refine ⟨_, rfl, D2, rfl, ⟨_, SqL.of (sG3 _ _ h2)⟩, fun D4 hD4 => lc_list (K := K) (a := D2) (xs := acc2) (fun i G' => Same G3 G' ∧ G' D4 = some (.lst ((perm.take i).map fun n => V.int (toI n))))
      ⟨Same.new hD4, upd_same⟩ (fun i G' _ p => SqL.of (p.1 _ _ (sG3 _ _ h2))) ?_ ?_⟩
    · rintro i x G4 hi ⟨s, h⟩
      obtain ⟨q, n, rfl, hn, hq⟩ := c3.at_ hi
      refine ⟨rfl, yes_if ⟨_, rfl, q, _, 0, V.int (toI n), rfl, rfl, SqL.of (s _ _ (sG3 _ _ hq)), rfl, _, h, ?_, ?_⟩⟩
      · rw [List.length_map, List.length_take]
        exact small1000 (by omega)
      · rw [take_snoc hn, List.map_append]
        exact ⟨Fr.Same.updN s hD4, upd_same⟩
    rintro G4 ⟨sG4, hG4⟩
    rw [la2, ← lp, List.take_length] at hG4
    have hG5 : G4 D4 = some (.lst ((perm.map toI).map V.int)) := by
      rw [hG4, List.map_map]
      rfl
    have sAll : Same H10 G4 := sG1.trans (sG3.trans sG4)
    refine ⟨D4, perm.map toI, rfl, SqL.of hG5, perm_nodup, by show 48 ≤ 4000; decide, ?_⟩
    refine ⟨_, rfl, eh, _, rfl, .inl (SqL.of (sAll _ _ f10)), rfl, _, rfl, ?_⟩
    have e48 : (((y1 ++ acc).length : Nat) : Int) = (((perm.map toI).length : Nat) : Int) := by
      rw [hl48]
      rfl
    rw [e48]
    refine iteN (by simp) ?_
    -- for error, mine, due in told
    have sT : Same H9 G4 := s10.trans sAll
    refine ⟨_, rfl, qT, rfl, ⟨_, SqL.of (sT _ _ fT9)⟩, for_list (K := K) (a := qT) (xs := ys) (fun i σ G' => ∃ v7 v9 v10, σ = [some (.ref a), some (.ref d), some (.ref so), some v, some u, some (.ref qT), some (.ref eh), v7, some (.ref D2), v9, v10, none, none] ∧ Same G4 G')
      ⟨_, _, _, rfl, Same.refl _⟩ (fun i σ G' _ ⟨_, _, _, _, s⟩ => SqL.of ((sT.trans s) _ _ fT9)) ?_ ?_⟩
    · rintro i x σ G' hi ⟨v7, v9, v10, rfl, sG'⟩
      obtain ⟨C, hC, tx⟩ := tT9.at_ hi
      obtain ⟨T', e, m, l, vs, ds, rfl, z2, z3, z4, z5, z6⟩ := tx.ex
      have sX := sT.trans sG'
      refine ⟨T', _, rfl, SqT.of (sX _ _ z2), rfl, _, _, rfl, _, _, rfl, _, _, rfl, rfl, ?_⟩
      refine ⟨_, rfl, m, vs, ds, rfl, sX _ _ z4, z6.same sX, _, rfl, l, vs, ds, rfl, sX _ _ z5, z6.same sX, rfl, _, rfl, ?_⟩
      exact iteN (by simp) ⟨_, _, _, rfl, sG'⟩
    rintro σ G5 ⟨v7, v9, v10, rfl, sG5⟩
    -- for error in errors_here
    have sU : Same H10 G5 := sAll.trans sG5
    refine ⟨_, rfl, eh, rfl, ⟨_, SqL.of (sU _ _ f10)⟩, for_list (K := K) (a := eh) (xs := y1 ++ acc) (fun i σ G' => ∃ v7, σ = [some (.ref a), some (.ref d), some (.ref so), some v, some u, some (.ref qT), some (.ref eh), v7, some (.ref D2), v9, v10, none, none] ∧ Same G5 G')
      ⟨_, rfl, Same.refl _⟩ (fun i σ G' _ ⟨_, _, s⟩ => SqL.of ((sU.trans s) _ _ f10)) ?_ (fun σ G' ⟨_, _, _⟩ => k G')⟩
    rintro i x σ G' hi ⟨v7, rfl, sG'⟩
    obtain ⟨a1, x', k', rfl, he, z2, z3⟩ := who i x hi
    have hx' : x' ∈ cn := List.mem_of_getElem? z3
    have he' := he.same (sU.trans sG')
    refine ⟨_, rfl, a1, _, .ref (He.ga K "FormError"), .ref (He.ga K "FormError"), true, rfl, .own _, he', T.X.is x' hx', T.kitF x' hx', _, rfl, ?_⟩
    refine iteN (by simp) ?_
    refine ⟨_, rfl, a1, _, .ty "ValueError", .type "ValueError", true, rfl, .ty _, he', T.X.is x' hx', T.kitV x' hx', _, rfl, ?_⟩
    exact iteN (by simp) ⟨_, rfl, sG'⟩
end
end Fr
namespace Fr
open PySem PySem.Spec PyProof.Rows L2 RZ
/-! ### what is looked at behind the top -/
def dF (x : Str) (st : Stmt) : He.DefD := ⟨(x, none), x, x, defArgs st, defBody st, defScope st, [], []⟩
def dM (c x q : Str) (st : Stmt) : He.DefD := ⟨(c, some x), x, q, defArgs st, defBody st, defScope st, [], []⟩
def dMD (c x q : Str) (st : Stmt) (dvs : List He.Dv) : He.DefD := ⟨(c, some x), x, q, defArgs st, defBody st, defScope st, dvs, []⟩
abbrev sI_FormError : Stmt := inClass (top 1) 0
theorem sc_sI_FormError : FnScope ["self", "message"] ["self", "message"] (defScope sI_FormError) := ⟨rfl, rfl, rfl, by decide +kernel, rfl, by decide +kernel, by decide +kernel⟩
theorem ok_finit {P : Program} {w : World} {K : PySem.W.Frag} {mg : Str → Option Value} {base : Heap} {f : Addr} {fd : FuncData} (F : FunD K "__init__" "FormError.__init__" (defArgs sI_FormError) (defBody sI_FormError) (defScope sI_FormError) [.str ""] [] f fd) (hve : mg "ValueError" = none)
    (vV : PySem.W.findCls K (.type "ValueError") (.type "type") "__init__" = some (.val (.builtin "ValueError.__init__"))) : FnG P w K mg base 1 f fd ["self", "message"] (spF K) := by
  refine FnG.mkD F sc_sI_FormError (fun vs H Q E h => ?_) (fun cdv A outer s H vs Q E hgd hr h => ?_)
  · obtain ⟨a, C, m, rfl, _⟩ := h
    rfl
  · obtain ⟨a, C, m, rfl, er, ha, k⟩ := h
    refine ⟨_, pss_cons (ps_expr (pe_veinit rfl hve vV (pa_cons (pv 0) (pa_cons (pv 1) pa_nil)))) (pss_one (ps_ost (pv 0) (pe_clsNm (pv 0)))), ?_⟩
    obtain ⟨z, hz⟩ := er.nm
    refine ⟨_, rfl, _, rfl, a, C, [.str m], rfl, by simp, er.oe, ha, ?_⟩
    exact ⟨_, rfl, a, C, z, rfl, ha, er.rd, hz, _, rfl, a, C, rfl, er.oe, er.no, .inl ⟨ha, fun dx hd ne => k z dx hd ne⟩⟩
def fnL : List He.DefD := [dF "_law_begun" sBegun, dF "_law_mixed" sMixed, dF "_law_take" sTake, dF "_law_pick" sPick, dF "_law_plain_errors" sPlainE, dF "_law_told_errors" sTold, dF "_law_classes" sClasses, dF "law" sLaw, dM "BadText" "__init__" "BadText.__init__" sI_BadText, dM "NoRule" "__init__" "NoRule.__init__" sI_NoRule, dM "NotClear" "__init__" "NotClear.__init__" sI_NotClear, dM "NotWritten" "__init__" "NotWritten.__init__" sI_NotWritten, dM "TooMany" "__init__" "TooMany.__init__" sI_TooMany, dMD "FormError" "__init__" "FormError.__init__" sI_FormError [.str ""]]
def frL : List Str := ["isinstance", "enumerate", "len", "set", "repr", "ValueError", "int", "abs"]
def fldL : List (Str × Str) := [("BadText", "at"), ("BadText", "wanted"), ("NoRule", "place"), ("NotClear", "spot"), ("NotWritten", "name"), ("TooMany", "most")]
def ldL : List Str := ["_law_begun", "_law_mixed", "_law_take", "_law_pick", "_law_plain_errors", "_law_told_errors", "_law_classes", "law"]
def ob1 (a : Option Bool) (b : Bool) : Bool := decide (a = some b)
def ov1 (a : Option (Option Value)) (b : Option Value) : Bool := decide (a = some b)
def isB (K : PySem.W.Frag) (D : Addr) : Bool := (PySem.W.clsIn K D).isSome && (ov1 (PySem.W.findIn K (.ref D) "__getattribute__") (some (.builtin "BaseException.__getattribute__")) && (ov1 (PySem.W.findIn K (.ref D) "__getattr__") none && (ob1 (PySem.W.subIn K (.ref D) (.type "BaseException")) true &&
  (ov1 (PySem.W.findIn K (.ref D) "__class__") (some (.builtin "object.__class__")) && (ov1 (PySem.W.specialIn K (.builtin "object.__class__") "__get__") (some (.builtin "getset_descriptor.__get__")) && (ob1 (PySem.W.takesIn K (.builtin "object.__class__")) true && ob1 (PySem.W.mroIn K D (.type "object")) true))))))
theorem isB_ok {K : PySem.W.Frag} {D : Addr} (h : isB K D = true) : XIs K D := by
  obtain ⟨h1, h⟩ := He.ba h
  obtain ⟨h2, h⟩ := He.ba h
  obtain ⟨h3, h⟩ := He.ba h
  obtain ⟨h4, h⟩ := He.ba h
  obtain ⟨h5, h⟩ := He.ba h
  obtain ⟨h6, h⟩ := He.ba h
  obtain ⟨h7, h8⟩ := He.ba h
  exact ⟨h1, of_decide_eq_true h2, of_decide_eq_true h3, of_decide_eq_true h4, of_decide_eq_true h5, of_decide_eq_true h6, of_decide_eq_true h7, of_decide_eq_true h8⟩
def clsB (K : PySem.W.Frag) (C : Addr) : Bool := match K.lookup C with
  | some ⟨.type T, _, .cls cd, sl⟩ => (match cd.mro, sl.toList with
    | .ref C' :: bm, [_, _, _, _, some (.builtin n), _] => decide (T = "type") && (decide (C' = C) && (decide (n = "ValueError.__new__") && (PySem.HandSPX.refsVE bm && (!cd.hasDel && cd.hasDict))))
    | _, _ => false)
  | _ => false
theorem clsB_ok {K : PySem.W.Frag} {C : Addr} (h : clsB K C = true) : ∃ nm q N bs bm sn sub ab col dd k0 k1 k2 k3 k5, K.lookup C = some (excClassObj nm q C N bs bm true sn sub ab col dd k0 k1 k2 k3 k5 "ValueError.__new__") ∧ PySem.HandSPX.refsVE bm = true := by
  unfold clsB at h
  split at h
  · rename_i T dd cd sl ho
    split at h
    · rename_i C' bm k0 k1 k2 k3 n k5 hm hs
      obtain ⟨e0, h⟩ := He.ba h
      obtain ⟨e1, h⟩ := He.ba h
      obtain ⟨e2, h⟩ := He.ba h
      obtain ⟨e3, h⟩ := He.ba h
      obtain ⟨e4, e5⟩ := He.ba h
      have e0 := of_decide_eq_true e0
      have e1 := of_decide_eq_true e1
      have e2 := of_decide_eq_true e2
      subst e0 e1 e2
      obtain ⟨nm, bs, mro, ns, qn, hd, sn, sub, ab, col, del⟩ := cd
      dsimp only at hm e4 e5
      rw [Bool.not_eq_true'] at e4
      subst hm e4 e5
      have hsl : sl = #[k0, k1, k2, k3, some (.builtin "ValueError.__new__"), k5] := by
        obtain ⟨l⟩ := sl
        simp only at hs
        rw [hs]
      subst hsl
      exact ⟨nm, qn, ns, bs, bm, sn, sub, ab, col, dd, k0, k1, k2, k3, k5, ho, e3⟩
    · cases h
  · cases h
def oexB (K : PySem.W.Frag) (C : Addr) : Bool := clsB K C && (ov1 (PySem.W.findIn K (.ref C) "__setattr__") (some (.builtin "object.__setattr__")) && (ob1 (PySem.W.subIn K (.ref C) (.type "BaseException")) true && (decide (PySem.W.typeIn K (.ref C) = some (.type "type")) && PySem.W.keepIn K (.ref C))))
theorem oexB_ok {K : PySem.W.Frag} {C : Addr} (h : oexB K C = true) : OexC K C := by
  obtain ⟨h1, h⟩ := He.ba h
  obtain ⟨h2, h⟩ := He.ba h
  obtain ⟨h3, h⟩ := He.ba h
  obtain ⟨h4, h5⟩ := He.ba h
  exact ⟨clsB_ok h1, of_decide_eq_true h2, of_decide_eq_true h3, of_decide_eq_true h4, h5⟩
def fldB (K : PySem.W.Frag) (C : Addr) (f : Str) : Bool := oexB K C && (ov1 (PySem.W.findIn K (.ref C) "__getattribute__") (some (.builtin "BaseException.__getattribute__")) && (ov1 (PySem.W.findIn K (.ref C) "__getattr__") none && (ob1 (PySem.W.subIn K (.ref C) (.type "BaseException")) true && (PySem.W.hasDictIn K C && ov1 (PySem.W.findIn K (.ref C) f) none))))
theorem fldB_ok {K : PySem.W.Frag} {C : Addr} {f : Str} (h : fldB K C f = true) : FieldOk K C f := by
  obtain ⟨h1, h⟩ := He.ba h
  obtain ⟨h2, h⟩ := He.ba h
  obtain ⟨h3, h⟩ := He.ba h
  obtain ⟨h4, h⟩ := He.ba h
  obtain ⟨h5, h6⟩ := He.ba h
  exact ⟨oexB_ok h1, of_decide_eq_true h2, of_decide_eq_true h3, of_decide_eq_true h4, h5, of_decide_eq_true h6⟩
def rdB (K : PySem.W.Frag) (D : Addr) : Bool := (PySem.W.clsIn K D).isSome && (ov1 (PySem.W.findIn K (.ref D) "__getattribute__") (some (.builtin "BaseException.__getattribute__")) && (ov1 (PySem.W.findIn K (.ref D) "__getattr__") none && (ob1 (PySem.W.subIn K (.ref D) (.type "BaseException")) true &&
  (ov1 (PySem.W.findIn K (.ref D) "__class__") (some (.builtin "object.__class__")) && (ov1 (PySem.W.specialIn K (.builtin "object.__class__") "__get__") (some (.builtin "getset_descriptor.__get__")) && (ob1 (PySem.W.takesIn K (.builtin "object.__class__")) true && ob1 (PySem.W.mroIn K D (.type "object")) true))))))
theorem rdB_ok {K : PySem.W.Frag} {D : Addr} (h : rdB K D = true) : XNm.ClsRd K D := by
  obtain ⟨h1, h⟩ := He.ba h
  obtain ⟨h2, h⟩ := He.ba h
  obtain ⟨h3, h⟩ := He.ba h
  obtain ⟨h4, h⟩ := He.ba h
  obtain ⟨h5, h⟩ := He.ba h
  obtain ⟨h6, h⟩ := He.ba h
  obtain ⟨h7, h8⟩ := He.ba h
  exact ⟨h1, of_decide_eq_true h2, of_decide_eq_true h3, of_decide_eq_true h4, of_decide_eq_true h5, of_decide_eq_true h6, of_decide_eq_true h7, of_decide_eq_true h8⟩
def getB (f : Option PySem.W.CFound) (D : Addr) : Bool := match f with
  | some (.get (.builtin a) (.builtin b) (.ref d) (.type t)) => decide (a = "getset_descriptor.__get__") && (decide (b = "type.__name__") && (decide (d = D) && decide (t = "type")))
  | _ => false
theorem getB_ok {f : Option PySem.W.CFound} {D : Addr} (h : getB f D = true) : f = some (.get (.builtin "getset_descriptor.__get__") (.builtin "type.__name__") (.ref D) (.type "type")) := by
  unfold getB at h
  split at h
  · obtain ⟨h1, h⟩ := He.ba h
    obtain ⟨h2, h⟩ := He.ba h
    obtain ⟨h3, h4⟩ := He.ba h
    rw [of_decide_eq_true h1, of_decide_eq_true h2, of_decide_eq_true h3, of_decide_eq_true h4]
  · cases h
def slotB (K : PySem.W.Frag) (D : Addr) : Bool := match K.lookup D with
  | some o => (match o.slots[2]? with
    | some (some (Value.str _ _)) => true
    | _ => false)
  | none => false
theorem slotB_ok {K : PySem.W.Frag} {D : Addr} (h : slotB K D = true) : ∃ z o tk, K.lookup D = some o ∧ o.slots[2]? = some (some (.str z tk)) := by
  unfold slotB at h
  split at h
  · rename_i o ho
    split at h
    · rename_i z tk hs
      exact ⟨z, o, tk, ho, hs⟩
    · cases h
  · cases h
def nmB (K : PySem.W.Frag) (D : Addr) : Bool := decide (PySem.W.typeIn K (.ref D) = some (.type "type")) && (PySem.W.readsIn K D (.type "type") && (getB (PySem.W.findCls K (.ref D) (.type "type") "__name__") D && slotB K D))
theorem nmB_ok {K : PySem.W.Frag} {D : Addr} (h : nmB K D = true) : ∃ z, XNm.NmRd K D z := by
  obtain ⟨h1, h⟩ := He.ba h
  obtain ⟨h2, h⟩ := He.ba h
  obtain ⟨h3, h4⟩ := He.ba h
  obtain ⟨z, o, tk, q1, q2⟩ := slotB_ok h4
  exact ⟨z, of_decide_eq_true h1, h2, getB_ok h3, o, tk, q1, q2⟩
def errB (K : PySem.W.Frag) (C : Addr) : Bool := oexB K C && (rdB K C && (nmB K C && ov1 (PySem.W.findIn K (.ref C) "called") none))
theorem errB_ok {K : PySem.W.Frag} {C : Addr} (h : errB K C = true) : ErrOk K C := by
  obtain ⟨h1, h⟩ := He.ba h
  obtain ⟨h2, h⟩ := He.ba h
  obtain ⟨h3, h4⟩ := He.ba h
  exact ⟨oexB_ok h1, rdB_ok h2, nmB_ok h3, of_decide_eq_true h4⟩
def veB (f : Option PySem.W.CFound) : Bool := match f with
  | some (.val (.builtin n)) => decide (n = "ValueError.__init__")
  | _ => false
theorem veB_ok {f : Option PySem.W.CFound} (h : veB f = true) : f = some (.val (.builtin "ValueError.__init__")) := by
  unfold veB at h
  split at h
  · rw [of_decide_eq_true h]
  · cases h
def gloB (K : PySem.W.Frag) (x : Str) : Bool := ov1 (PySem.W.nsIn K mainGlobals x) (some (.ref (He.ga K x)))
def freeB (K : PySem.W.Frag) (x : Str) : Bool := ov1 (PySem.W.nsIn K mainGlobals x) none
def iniB (K : PySem.W.Frag) (C : Addr) : Bool := ov1 (PySem.W.findIn K (.ref C) "__init__") (some (.ref (He.ma K C "__init__"))) && decide (PySem.W.typeIn K (.ref (He.ma K C "__init__")) = some (.type "function"))
def inFB (K : PySem.W.Frag) (C : Addr) : Bool := ov1 (PySem.W.findIn K (.ref C) "__init__") (some (.ref (He.ma K (He.ga K "FormError") "__init__")))
def fgB (f : Option PySem.W.CFound) (p : Addr) : Bool := match f with
  | some (.val (.ref q)) => decide (q = p)
  | _ => false
theorem fgB_ok {f : Option PySem.W.CFound} {p : Addr} (h : fgB f p = true) : f = some (.val (.ref p)) := by
  unfold fgB at h
  split at h
  · rw [of_decide_eq_true h]
  · cases h
def baseB (K : PySem.W.Frag) (B : Addr) : Bool := ov1 (PySem.W.specialIn K (.ref B) "__getattribute__") (some (.builtin "type.__getattribute__")) && (PySem.W.readsIn K B (.type "type") && (fgB (PySem.W.findCls K (.ref B) (.type "type") "__init__") (He.ma K B "__init__") && (decide (PySem.W.typeIn K (.ref (He.ma K B "__init__")) = some (.type "function")) && (PySem.W.keepIn K (.ref (He.ma K B "__init__")) && veB (PySem.W.findCls K (.type "ValueError") (.type "type") "__init__")))))
def kitRow (K : PySem.W.Frag) (x : Str) : Bool := (cn.all fun y => ob1 (PySem.W.kitOne K (.ref (He.ga K x)) (.ref (He.ga K y))) (decide (x = y))) && (ob1 (PySem.W.kitOne K (.ref (He.ga K x)) (.ref (He.ga K "FormError"))) true && ob1 (PySem.W.kitOne K (.ref (He.ga K x)) (.type "ValueError")) true)
def exL (K : PySem.W.Frag) : Bool := (K.lookup sysModules).isSome && ((cn.all fun x => gloB K x && (isB K (He.ga K x) && kitRow K x)) && ((pn.all fun x => errB K (He.ga K x) && inFB K (He.ga K x)) && ((tn.all fun x => errB K (He.ga K x) && iniB K (He.ga K x)) && ((fldL.all fun p => fldB K (He.ga K p.1) p.2) && ((gloB K "FormError" && baseB K (He.ga K "FormError")) && ((frL.all fun x => freeB K x) && (ldL.all fun x => gloB K x)))))))
/-! ### the Hook -/
def asE (g : Addr → Option Obj) (n : Nat) : List Addr := He.asD g n ++ [cStatics, sysModules]
def obsE (fn : List He.DefD) (ex : PySem.W.Frag → Bool) (K : PySem.W.Frag) : Bool × He.AlD := (ex K, He.obsD [] fn K)
def obsEG (n : Nat) (fn : List He.DefD) (ex : PySem.W.Frag → Bool) (g : Addr → Option Obj) : Bool × He.AlD := obsE fn ex (He.frG g (asE g n))
def hookE (n : Nat) (fn : List He.DefD) (ex : PySem.W.Frag → Bool) : PySem.W.Hook where
  α := Bool × He.AlD
  obs := fun s => obsEG n fn ex s.heap.get?
  val := fun _ => (true, He.valD fn)
  says := fun _ h => ∃ K : PySem.W.Frag, K.In h ∧ obsE fn ex K = (true, He.valD fn)
  of := fun _ _ e => ⟨_, He.frG_in, e⟩
  keeps := fun _ _ _ ⟨K, hK, c⟩ k => ⟨K, PySem.W.Frag.In.keeps hK k, c⟩
theorem obsEG_eq {n : Nat} {fn : List He.DefD} {ex : PySem.W.Frag → Bool} {g : Addr → Option Obj} {s : Shared} (h : ∀ a, g a = s.heap.get? a) : obsEG n fn ex g = (hookE n fn ex).obs s := by
  have e : g = s.heap.get? := funext h
  rw [e] <;> rfl
/-! ### the facts that the law asks for -/
section
variable {P : Program} {w : World} {K : PySem.W.Frag} {h : Heap} {mg : Str → Option Value} {base : Heap}
theorem facts (X : K.In h) (G : h.Ns mainGlobals mg) (c : obsE fnL exL K = (true, He.valD fnL)) {fa : Addr} (hfa : mg ("law" : Str) = some (.ref fa)) :
    ∃ fd : FuncData, (∀ (s : Shared) (v : Value), BindsTo s fd ⟨[v], []⟩ [("script", v)]) ∧ ∀ base : Heap, K.In base → base.Ns mainGlobals mg → FnG P w K mg base 5 fa fd ["script"] (spLaw K) := by
  have cx : exL K = true := congrArg (fun z : Bool × He.AlD => z.1) c
  have cd : He.SaysD [] fnL K := congrArg (fun z : Bool × He.AlD => z.2) c
  obtain ⟨x1, cx⟩ := He.ba cx
  obtain ⟨x2, cx⟩ := He.ba cx
  obtain ⟨x3, cx⟩ := He.ba cx
  obtain ⟨x4, cx⟩ := He.ba cx
  obtain ⟨x5, cx⟩ := He.ba cx
  obtain ⟨x6, cx⟩ := He.ba cx
  obtain ⟨x7, x8⟩ := He.ba cx
  obtain ⟨x61, x62⟩ := He.ba x6
  have row : ∀ x ∈ cn, mg x = some (.ref (He.ga K x)) ∧ XIs K (He.ga K x) ∧ (∀ y ∈ cn, PySem.W.kitOne K (.ref (He.ga K x)) (.ref (He.ga K y)) = some (decide (x = y))) ∧ PySem.W.kitOne K (.ref (He.ga K x)) (.ref (He.ga K "FormError")) = some true ∧ PySem.W.kitOne K (.ref (He.ga K x)) (.type "ValueError") = some true := fun x hx => by
    obtain ⟨r1, r2⟩ := He.ba (List.all_eq_true.mp x2 x hx)
    obtain ⟨r2, r3⟩ := He.ba r2
    obtain ⟨r3, r4⟩ := He.ba r3
    obtain ⟨r4, r5⟩ := He.ba r4
    exact ⟨PySem.W.mg_of X G (of_decide_eq_true r1), isB_ok r2, fun y hy => of_decide_eq_true (List.all_eq_true.mp r3 y hy), of_decide_eq_true r4, of_decide_eq_true r5⟩
  have fr : ∀ x ∈ frL, mg x = none := fun x hx => PySem.W.mg_none_of X G (of_decide_eq_true (List.all_eq_true.mp x7 x hx))
  obtain ⟨b1, b2⟩ := He.ba x62
  obtain ⟨b2, b3⟩ := He.ba b2
  obtain ⟨b3, b4⟩ := He.ba b3
  obtain ⟨b4, b5⟩ := He.ba b4
  obtain ⟨b5, b6⟩ := He.ba b5
  have TX : TxtX K mg := ⟨fr _ (List.mem_of_getElem? (i := 0) rfl), fun x hx => (row x hx).1, fun x hx => errB_ok (He.ba (List.all_eq_true.mp x3 x hx)).1, fun x hx => of_decide_eq_true (He.ba (List.all_eq_true.mp x3 x hx)).2, of_decide_eq_true b4, fun x hx => (row x hx).2.1, fun x hx => (row x hx).2.2.1⟩
  have fl : ∀ p ∈ fldL, FieldOk K (He.ga K p.1) p.2 := fun p hp => fldB_ok (List.all_eq_true.mp x5 p hp)
  have ert : ∀ x ∈ tn, ErrOk K (He.ga K x) := fun x hx => errB_ok (He.ba (List.all_eq_true.mp x4 x hx)).1
  have TI : TxtI K mg := ⟨Option.isSome_iff_exists.mp x1, PySem.W.mg_of X G (of_decide_eq_true x61), of_decide_eq_true b1, b2, fgB_ok b3, of_decide_eq_true b4, b5, ert _ (List.mem_of_getElem? (i := 0) rfl), ert _ (List.mem_of_getElem? (i := 1) rfl), ert _ (List.mem_of_getElem? (i := 2) rfl), ert _ (List.mem_of_getElem? (i := 3) rfl), ert _ (List.mem_of_getElem? (i := 4) rfl),
    fl _ (List.mem_of_getElem? (i := 0) rfl), fl _ (List.mem_of_getElem? (i := 1) rfl), fl _ (List.mem_of_getElem? (i := 2) rfl), fl _ (List.mem_of_getElem? (i := 3) rfl), fl _ (List.mem_of_getElem? (i := 4) rfl), fl _ (List.mem_of_getElem? (i := 5) rfl)⟩
  have ini : ∀ x ∈ tn, PySem.W.findIn K (.ref (He.ga K x)) "__init__" = some (some (.ref (He.ma K (He.ga K x) "__init__"))) ∧ PySem.W.typeIn K (.ref (He.ma K (He.ga K x) "__init__")) = some (.type "function") := fun x hx => by
    obtain ⟨i1, i2⟩ := He.ba (He.ba (List.all_eq_true.mp x4 x hx)).2
    exact ⟨of_decide_eq_true i1, of_decide_eq_true i2⟩
  have TD : TxtD mg := ⟨fr _ (List.mem_of_getElem? (i := 6) rfl), fr _ (List.mem_of_getElem? (i := 7) rfl), fr _ (List.mem_of_getElem? (i := 2) rfl)⟩
  obtain ⟨d0, D0⟩ := cd.def_ 0 (d := dF "_law_begun" sBegun) rfl
  have F0 : Fun K "_law_begun" "_law_begun" sBegun (He.ga K "_law_begun") d0 := He5.fun_of D0
  obtain ⟨d1, D1⟩ := cd.def_ 1 (d := dF "_law_mixed" sMixed) rfl
  have F1 : Fun K "_law_mixed" "_law_mixed" sMixed (He.ga K "_law_mixed") d1 := He5.fun_of D1
  obtain ⟨d2, D2⟩ := cd.def_ 2 (d := dF "_law_take" sTake) rfl
  have F2 : Fun K "_law_take" "_law_take" sTake (He.ga K "_law_take") d2 := He5.fun_of D2
  obtain ⟨d3, D3⟩ := cd.def_ 3 (d := dF "_law_pick" sPick) rfl
  have F3 : Fun K "_law_pick" "_law_pick" sPick (He.ga K "_law_pick") d3 := He5.fun_of D3
  obtain ⟨d4, D4⟩ := cd.def_ 4 (d := dF "_law_plain_errors" sPlainE) rfl
  have F4 : Fun K "_law_plain_errors" "_law_plain_errors" sPlainE (He.ga K "_law_plain_errors") d4 := He5.fun_of D4
  obtain ⟨d5, D5⟩ := cd.def_ 5 (d := dF "_law_told_errors" sTold) rfl
  have F5 : Fun K "_law_told_errors" "_law_told_errors" sTold (He.ga K "_law_told_errors") d5 := He5.fun_of D5
  obtain ⟨d6, D6⟩ := cd.def_ 6 (d := dF "_law_classes" sClasses) rfl
  have F6 : Fun K "_law_classes" "_law_classes" sClasses (He.ga K "_law_classes") d6 := He5.fun_of D6
  obtain ⟨d7, D7⟩ := cd.def_ 7 (d := dF "law" sLaw) rfl
  have F7 : Fun K "law" "law" sLaw (He.ga K "law") d7 := He5.fun_of D7
  obtain ⟨d8, D8⟩ := cd.def_ 8 (d := dM "BadText" "__init__" "BadText.__init__" sI_BadText) rfl
  have F8 : Fun K "__init__" "BadText.__init__" sI_BadText (He.ma K (He.ga K "BadText") "__init__") d8 := He5.fun_of D8
  obtain ⟨d9, D9⟩ := cd.def_ 9 (d := dM "NoRule" "__init__" "NoRule.__init__" sI_NoRule) rfl
  have F9 : Fun K "__init__" "NoRule.__init__" sI_NoRule (He.ma K (He.ga K "NoRule") "__init__") d9 := He5.fun_of D9
  obtain ⟨d10, D10⟩ := cd.def_ 10 (d := dM "NotClear" "__init__" "NotClear.__init__" sI_NotClear) rfl
  have F10 : Fun K "__init__" "NotClear.__init__" sI_NotClear (He.ma K (He.ga K "NotClear") "__init__") d10 := He5.fun_of D10
  obtain ⟨d11, D11⟩ := cd.def_ 11 (d := dM "NotWritten" "__init__" "NotWritten.__init__" sI_NotWritten) rfl
  have F11 : Fun K "__init__" "NotWritten.__init__" sI_NotWritten (He.ma K (He.ga K "NotWritten") "__init__") d11 := He5.fun_of D11
  obtain ⟨d12, D12⟩ := cd.def_ 12 (d := dM "TooMany" "__init__" "TooMany.__init__" sI_TooMany) rfl
  have F12 : Fun K "__init__" "TooMany.__init__" sI_TooMany (He.ma K (He.ga K "TooMany") "__init__") d12 := He5.fun_of D12
  obtain ⟨dJ, DJ⟩ := cd.def_ 13 (d := dMD "FormError" "__init__" "FormError.__init__" sI_FormError [.str ""]) rfl
  have gd : ∀ x ∈ ldL, mg x = some (.ref (He.ga K x)) := fun x hx => PySem.W.mg_of X G (of_decide_eq_true (List.all_eq_true.mp x8 x hx))
  have e := hfa.symm.trans (gd _ (List.mem_of_getElem? (i := 7) rfl))
  cases e
  refine ⟨d7, fun s v => ?_, fun base HB HN => ?_⟩
  · obtain ⟨oc, od, kV, doc, pm, an, cdv, ct, osl, rfl, lk, hcd⟩ := F7.ex
    exact .of_eq rfl
  have c0 : Cal P w K mg base "_law_begun" 1 ["script"] (spBegun K) := ⟨He.ga K "_law_begun", d0, gd _ (List.mem_of_getElem? (i := 0) rfl), F0.kp, F0.binds (ps := ["script"]) fun _ _ _ _ _ _ us hl => match us, hl with | [_], _ => rfl, ok_begun F0 TD⟩
  have c1 : Cal P w K mg base "_law_mixed" 1 ["draw"] spMixed := ⟨He.ga K "_law_mixed", d1, gd _ (List.mem_of_getElem? (i := 1) rfl), F1.kp, F1.binds (ps := ["draw"]) fun _ _ _ _ _ _ us hl => match us, hl with | [_], _ => rfl, ok_mixed F1 TD⟩
  have c2 : Cal P w K mg base "_law_take" 2 ["draw", "many"] spTake := ⟨He.ga K "_law_take", d2, gd _ (List.mem_of_getElem? (i := 2) rfl), F2.kp, F2.binds (ps := ["draw", "many"]) fun _ _ _ _ _ _ us hl => match us, hl with | [_, _], _ => rfl, ok_take F2 TD c1⟩
  have c3 : Cal P w K mg base "_law_pick" 3 ["draw", "some"] spPick := ⟨He.ga K "_law_pick", d3, gd _ (List.mem_of_getElem? (i := 3) rfl), F3.kp, F3.binds (ps := ["draw", "some"]) fun _ _ _ _ _ _ us hl => match us, hl with | [_, _], _ => rfl, ok_pick F3 TD c2⟩
  have DJ : FunD K "__init__" "FormError.__init__" (defArgs sI_FormError) (defBody sI_FormError) (defScope sI_FormError) [.str ""] [] (He.ma K (He.ga K "FormError") "__init__") dJ := DJ
  have J : FCal P w K mg base := by
    obtain ⟨ds, hv, hb⟩ := FunD.binds1 (ps := ["self", "message"]) DJ 2 1 (by decide) rfl fun T kV doc pm an cdv ct us its h1 h2 => match us, its, h1, h2 with | [_, _], [_], _, _ => ⟨_, rfl, rfl⟩
    cases hv
    exact ⟨dJ, hb, ok_finit DJ (fr _ (List.mem_of_getElem? (i := 5) rfl)) (veB_ok b6)⟩
  have c4 : CalG P w K mg base "_law_plain_errors" 3 [] (spPlainE K) := ⟨He.ga K "_law_plain_errors", d4, gd _ (List.mem_of_getElem? (i := 4) rfl), F4.kp, F4.binds (ps := []) fun _ _ _ _ _ _ us hl => match us, hl with | [], _ => rfl, ok_plainE F4 TX J⟩
  have c6 : Cal P w K mg base "_law_classes" 1 ["error"] (spClasses K) := ⟨He.ga K "_law_classes", d6, gd _ (List.mem_of_getElem? (i := 6) rfl), F6.kp, F6.binds (ps := ["error"]) fun _ _ _ _ _ _ us hl => match us, hl with | [_], _ => rfl, ok_classes F6 TX (fr _ (List.mem_of_getElem? (i := 1) rfl))⟩
  have I0 : ICal P w K mg base (He.ga K "BadText") ["self", "at", "wanted"] (spInit2 K (He.ga K "BadText") "at" "wanted") := ⟨_, d8, (ini _ (List.mem_of_getElem? (i := 0) rfl)).1, (ini _ (List.mem_of_getElem? (i := 0) rfl)).2, ok_sI_BadText F8 TI J, F8.binds (ps := ["self", "at", "wanted"]) fun _ _ _ _ _ _ us hl => match us, hl with | [_, _, _], _ => rfl⟩
  have I1 : ICal P w K mg base (He.ga K "NoRule") ["self", "place"] (spInit1 K (He.ga K "NoRule") "place") := ⟨_, d9, (ini _ (List.mem_of_getElem? (i := 1) rfl)).1, (ini _ (List.mem_of_getElem? (i := 1) rfl)).2, ok_sI_NoRule F9 TI J, F9.binds (ps := ["self", "place"]) fun _ _ _ _ _ _ us hl => match us, hl with | [_, _], _ => rfl⟩
  have I2 : ICal P w K mg base (He.ga K "NotClear") ["self", "spot"] (spInit1 K (He.ga K "NotClear") "spot") := ⟨_, d10, (ini _ (List.mem_of_getElem? (i := 2) rfl)).1, (ini _ (List.mem_of_getElem? (i := 2) rfl)).2, ok_sI_NotClear F10 TI J, F10.binds (ps := ["self", "spot"]) fun _ _ _ _ _ _ us hl => match us, hl with | [_, _], _ => rfl⟩
  have I3 : ICal P w K mg base (He.ga K "NotWritten") ["self", "name"] (spInit1 K (He.ga K "NotWritten") "name") := ⟨_, d11, (ini _ (List.mem_of_getElem? (i := 3) rfl)).1, (ini _ (List.mem_of_getElem? (i := 3) rfl)).2, ok_sI_NotWritten F11 TI J, F11.binds (ps := ["self", "name"]) fun _ _ _ _ _ _ us hl => match us, hl with | [_, _], _ => rfl⟩
  have I4 : ICal P w K mg base (He.ga K "TooMany") ["self", "most"] (spInit1 K (He.ga K "TooMany") "most") := ⟨_, d12, (ini _ (List.mem_of_getElem? (i := 4) rfl)).1, (ini _ (List.mem_of_getElem? (i := 4) rfl)).2, ok_sI_TooMany F12 TI J, F12.binds (ps := ["self", "most"]) fun _ _ _ _ _ _ us hl => match us, hl with | [_, _], _ => rfl⟩
  have c5 : CalG P w K mg base "_law_told_errors" 4 ["one", "other"] (spTold K) := ⟨He.ga K "_law_told_errors", d5, gd _ (List.mem_of_getElem? (i := 5) rfl), F5.kp, F5.binds (ps := ["one", "other"]) fun _ _ _ _ _ _ us hl => match us, hl with | [_, _], _ => rfl, ok_told F5 TX TI I0 I1 I2 I3 I4⟩
  exact ok_law F7 ⟨fr _ (List.mem_of_getElem? (i := 2) rfl), fr _ (List.mem_of_getElem? (i := 3) rfl), fr _ (List.mem_of_getElem? (i := 4) rfl), fr _ (List.mem_of_getElem? (i := 5) rfl), TX, TI, fun x hx => (row x hx).2.2.2.1, fun x hx => (row x hx).2.2.2.2, c0, c3, c4, c5, c6⟩
end
theorem walk_ofGE {l : PySem.W.OpenLaw} {n k : Nat} {q : Program} {loose : List Str} {XP : (Str → Option Value) → Heap → Prop} {YP : World → Heap → Prop} {d : DefRec} {x : Str}
    (hn : l.most = some n) (hn2 : n ≤ sizeLine) (hdf : d.params.defaults = []) (hr : Room k callerA)
    (F : ∀ (w : World) (mg : Str → Option Value) (fa : Addr) (h : Heap), YP w h → h.Ns mainGlobals mg → mg d.name = some (.ref fa) →
      ∃ (K : PySem.W.Frag) (fd : FuncData) (sp : Sp), K.In h ∧ (∀ (s : Shared) (u : Value), BindsTo s fd ⟨[u], []⟩ [(x, u)]) ∧
        (∀ (H : Hp) (a : Addr) (ns : List Int), ns.length ≤ n → Only H → SqL K H a (ns.map V.int) → sp [.ref a] H (fun v _ => v = .bl true) fun _ _ _ => False) ∧
        ∀ base : Heap, K.In base → base.Ns mainGlobals mg → FnG l.prog w K mg base k fa fd [x] sp) :
    PySem.W.WalkO q loose XP YP l.row.toRowW d [] (fun f vs => PySem.call f vs) :=
  Att.attach_call hn hdf fun w s₀ s₁ mg mb fa o pm cd doc a vs ns G Y _ _ _ hmg hobj hints hlen hg => by
    obtain ⟨K, fd, sp, KX, hb, hsp, hF⟩ := F w mg fa _ Y G.T.g hmg
    exact law_runG KX G.T.g G.T.b G.T.builtins G.T.nolimit hg hobj hints (Nat.le_trans hlen hn2) hr hF hb fun H hO hS => hsp H a ns hlen hO hS
end Fr
namespace FrHead
open PySem PySem.W PySem.Calls PyProof.Rows
abbrev R : OpenRow := OpenLaw.row PySem.Challenge.rw_formrules_k08_errors_made_and_bases
def n1 : List PySem.Str := ["FormError", "BadAnswers", "BadBook", "BadCells", "BadCount", "BadDeeds", "BadEnding", "BadExpression", "BadForm", "BadGoal", "BadHeads", "BadInputs", "BadKind", "BadKinds", "BadKnot", "BadLine", "BadLot", "BadMany", "BadMost", "BadName", "BadNames", "BadNotation", "BadParts", "BadPath", "BadPaths", "BadPlace", "BadPlain", "BadRow", "BadScheme", "BadSheet"]
def n2 : List PySem.Str := ["BadSheets", "BadSignature", "BadText", "BadTree", "BadUse", "BadWish", "BadWorth", "BadWriting", "NoPlain", "NoRows", "NoRule", "NotAlike", "NotClear", "NotSame", "NotWritten", "NothingDone", "NothingUndone", "OtherPlaces", "TooMany", "_law_begun", "_law_mixed", "_law_take", "_law_pick", "_law_plain_errors", "_law_told_errors", "_law_classes"]
def names : List PySem.Str := n1 ++ n2
abbrev qv : Program := view R.prog [58]
abbrev hk : Hook := Fr.hookE 6 Fr.fnL Fr.exL
def ob (s : SharedT) : Bool × He.AlD := Fr.obsEG 6 Fr.fnL Fr.exL (HandSHeadRun.getT s)
theorem ob_eq (s : SharedT) : ob s = hk.obs s.abs := Fr.obsEG_eq (HandSHeadRun.getT_eq s)
theorem run (w : World) : HandSHeadRun.RunEq R qv hk ob 20000 names w := by
  intro os
  kernel_rfl
end FrHead
open PySem PySem.W PySem.Calls PyProof.Rows
theorem PySem.Challenge.cw_formrules_k08_errors_made_and_bases_holds : PySem.Challenge.rw_formrules_k08_errors_made_and_bases.Holds := by
  w_on; o_law
  refine HandSHeadRun.head_any (r := OpenLaw.row PySem.Challenge.rw_formrules_k08_errors_made_and_bases) (q := FrHead.qv) (H := FrHead.hk) (ob := FrHead.ob) (M := 20000) (loose := FrHead.names) (d := HandSHeadRun.topDef FrHead.R.prog 58) (kwd := []) FrHead.ob_eq
    (by kernel_rfl) (fun s => by kernel_rfl) FrHead.run (by kernel_rfl) (by kernel_rfl) (by kernel_rfl) (by rfl) (by first | assumption | decide +kernel) (by decide +kernel) ⟨rfl, rfl, rfl, rfl, rfl, by decide +kernel⟩ ?hw ?hc
  case hw => w_witness2
  case hc =>
    refine Fr.walk_ofGE (l := PySem.Challenge.rw_formrules_k08_errors_made_and_bases) (n := 63) (k := 5) (x := "script") rfl (by decide) (by kernel_rfl) ⟨rfl, by decide, by decide⟩ fun w mg fa h Y G hmg0 => ?_
    obtain ⟨K, KX, c⟩ := Y
    have hmg : mg ("law" : PySem.Str) = some (.ref fa) := by
      have e : (HandSHeadRun.topDef FrHead.R.prog 58).name = ("law" : PySem.Str) := by kernel_rfl
      rw [← e]
      exact hmg0
    obtain ⟨fd, hb, hF⟩ := Fr.facts (P := (PySem.Challenge.rw_formrules_k08_errors_made_and_bases).prog) (w := w) KX G c hmg
    exact ⟨K, fd, Fr.spLaw K, KX, hb, fun H a ns hl _ hS => ⟨a, ns, rfl, hS, hl, fun _ => rfl⟩, hF⟩
