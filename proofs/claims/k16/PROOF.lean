import PyProof.Rows.All
import Wide.All
import OpenK.AllK
import Wide.FinOn
import HandS.ForMost
import HandS.ForExc
import HandS.EndBits
import HandS.ExcInit
import HandS.ExcIs
import HandS.ExcValue
import HandS.ExcOwn
import HandS.IsInst
import PyProof.ReprRoads
import PyProof.RowDictHeap
import PyProof.CallFns
import PyProof.FString2
import HandS.FStr
import HandS.Walk
import HandS.Zip
import HandS.HeadHook1
import KE.KStateDown
import HandS.Defaults
import HandS.Head0
import HandS.Head1
import HandS.Head2
import HandS.HeadHook2
import PySem.Challenge.RW_anymaker_k16_errors_made_and_bases
set_option Elab.async false
set_option maxRecDepth 100000
set_option maxHeartbeats 4000000
/-! The draws of a law: what begun, mixed, take and pick promise. -/
namespace Any
open PySem L2
def top (i : Nat) : Stmt := PySem.Challenge.pw_anymaker_k16_errors_made_and_bases.main.body.getD i (.Pass ⟨0, 0, 0, 0⟩)
abbrev sBegun : Stmt := top 57
abbrev sMixed : Stmt := top 58
abbrev sTake : Stmt := top 59
abbrev sPick : Stmt := top 60

/-! ### a dict of four written keys -/
theorem valHit {k : Key} {v : V} {r : List (Key × V)} : valV ((k, v) :: r) k = some v := by
  unfold valV
  rw [List.find?_cons_of_pos (by simp)]
  rfl
theorem valMiss {k j : Key} {v : V} {r : List (Key × V)} (h : ¬ k = j) : valV ((k, v) :: r) j = valV r j := by
  unfold valV
  rw [List.find?_cons_of_neg (by simpa using h)]
theorem sw_c : ¬ ("wide" : Str) = "cells" := by decide +kernel
theorem sw_r : ¬ ("wide" : Str) = "rest" := by decide +kernel
theorem sw_t : ¬ ("wide" : Str) = "turn" := by decide +kernel
theorem sc_r : ¬ ("cells" : Str) = "rest" := by decide +kernel
theorem sc_t : ¬ ("cells" : Str) = "turn" := by decide +kernel
theorem sr_t : ¬ ("rest" : Str) = "turn" := by decide +kernel
theorem kne {x y : Str} (h : ¬ x = y) : ¬ (Sum.inr x : Key) = Sum.inr y := fun e => h (Sum.inr.inj e)
def dkv (w c : Addr) (r t : Int) : List (Key × V) := [(.inr "wide", .ref w), (.inr "cells", .ref c), (.inr "rest", .int r), (.inr "turn", .int t)]
theorem dkv_w {w c : Addr} {r t : Int} : valV (dkv w c r t) (Sum.inr ("wide" : Str)) = some (.ref w) := valHit
theorem dkv_c {w c : Addr} {r t : Int} : valV (dkv w c r t) (Sum.inr ("cells" : Str)) = some (.ref c) := (valMiss (kne sw_c)).trans valHit
theorem dkv_r {w c : Addr} {r t : Int} : valV (dkv w c r t) (Sum.inr ("rest" : Str)) = some (.int r) := (valMiss (kne sw_r)).trans ((valMiss (kne sc_r)).trans valHit)
theorem dkv_t {w c : Addr} {r t : Int} : valV (dkv w c r t) (Sum.inr ("turn" : Str)) = some (.int t) := (valMiss (kne sw_t)).trans ((valMiss (kne sc_t)).trans ((valMiss (kne sr_t)).trans valHit))
theorem dkv_putR {w c : Addr} {r t z : Int} : putK (dkv w c r t) (Sum.inr ("rest" : Str)) (.int z) = dkv w c z t := by
  unfold putK dkv
  simp [sw_r, sc_r, Ne.symm sr_t]
theorem dkv_putT {w c : Addr} {r t z : Int} : putK (dkv w c r t) (Sum.inr ("turn" : Str)) (.int z) = dkv w c r z := by
  unfold putK dkv
  simp [sw_t, sc_t, sr_t]
theorem dkv_merge {w c : Addr} {r t : Int} : mergeK [] (dkv w c r t) = dkv w c r t := by
  unfold mergeK dkv putK
  simp [sw_t, sc_t, sr_t, sw_r, sc_r, sw_c]
theorem yes_if {A B : Hp → Prop} {σ : St} {H : Hp} (h : A H) : tYes σ H (fun b H' => if b = true then A H' else B H') := by
  show (if true = true then A H else B H)
  rw [if_pos rfl]
  exact h
/-! ### what a draw is, as it stands -/
/-- the draw at d: its two lists at w and c; it has taken no more than t turns -/
def Draw (H : Hp) (d w c : Addr) (t : Int) : Prop := ∃ (ws cs : List Int) (r u : Int), H d = some (.dK (dkv w c r u)) ∧ H w = some (.lst (ws.map V.int)) ∧ H c = some (.lst (cs.map V.int)) ∧ w ≠ c ∧
  (∀ z ∈ ws, 0 ≤ z) ∧ (∀ z ∈ cs, 0 ≤ z ∧ z < 2147483629) ∧ 0 ≤ r ∧ 0 ≤ u ∧ u ≤ t ∧ ws.length ≤ 63
/-- all that was tracked stands as it stood, but what is at d and w -/
def But (d w : Addr) (H H' : Hp) : Prop := ∀ b o, H b = some o → b ≠ d → b ≠ w → H' b = some o
def spBegun (K : PySem.W.Frag) : Sp := fun vs H Q _ => ∃ (a : Addr) (ns : List Int), vs = [.ref a] ∧ SqL K H a (ns.map V.int) ∧ ns.length ≤ 63 ∧
  ∀ (d w c : Addr) (H' : Hp), Draw H' d w c 0 → Same H H' → H d = none → H w = none → H c = none → Q (.ref d) H'
/-- a number from 0 on, of some size -/
def spMixed : Sp := fun vs H Q _ => ∃ (d w c : Addr) (t : Int), vs = [.ref d] ∧ Draw H d w c t ∧ t < 1099511627776 ∧
  ∀ (x : Int) (H' : Hp), 0 ≤ x → Draw H' d w c (t + 1) → But d w H H' → Q (.int x) H'
def spTake : Sp := fun vs H Q _ => ∃ (d w c : Addr) (t many : Int), vs = [.ref d, .int many] ∧ Draw H d w c t ∧ t < 1099511627776 ∧ 0 < many ∧ many < 1073741824 ∧
  ∀ (x : Int) (H' : Hp), 0 ≤ x → x < many → Draw H' d w c (t + 1) → But d w H H' → Q (.int x) H'
def spPick (K : PySem.W.Frag) : Sp := fun vs H Q _ => ∃ (d w c l : Addr) (t : Int) (xs : List V), vs = [.ref d, .ref l] ∧ Draw H d w c t ∧ t < 1099511627776 ∧ SqL K H l xs ∧ l ≠ d ∧ l ≠ w ∧ xs ≠ [] ∧ xs.length < 1073741824 ∧
  ∀ (x : V) (H' : Hp), x ∈ xs → Draw H' d w c (t + 1) → But d w H H' → Q x H'
/-- what the walk asks of the names -/
structure DTxt (mg : Str → Option Value) : Prop where
  abs : mg "abs" = none
  int : mg "int" = none
  len : mg "len" = none
section
variable {P : Program} {w : World} {K : PySem.W.Frag} {mg : Str → Option Value} {base : Heap}
theorem scB : FnScope ["script", "wide", "grain"] ["script"] (defScope sBegun) := ⟨rfl, rfl, rfl, by decide +kernel, rfl, by decide +kernel, by decide +kernel⟩
theorem int_at {ns : List Int} {i : Nat} {x : V} (h : (ns.map V.int)[i]? = some x) : ∃ z, ns[i]? = some z ∧ x = V.int z := by
  rw [List.getElem?_map] at h
  cases e : ns[i]? with
  | none =>
    rw [e] at h
    cases h
  | some z =>
    rw [e] at h
    exact ⟨z, rfl, (Option.some.inj h).symm⟩
theorem ok_begun {f : Addr} {fd : FuncData} (F : Fun K "_law_begun" "_law_begun" sBegun f fd) (T : DTxt mg) : FnOk P w K mg base CX0 1 f fd ["script"] (spBegun K) := by
  refine F.ok scB (fun vs H Q E h => ?_) (fun cdv A outer s H vs Q E hr h => ?_)
  · obtain ⟨a, ns, rfl, _⟩ := h
    rfl
  · obtain ⟨a, ns, rfl, hS, hl, k⟩ := h
    refine ⟨_, pss_cons (ps_setLc (i := 1) (own := [("grain", 2)]) (g := gName 2) rfl scB.nd rfl rfl (sw_true rfl rfl rfl (by decide +kernel)) (pi_list (pv 0))
        (blkOk_by (own := [("grain", 2)]) (N := ["script", "wide", "grain"]) (sc := defScope sBegun) (by decide +kernel))
        (fun _ _ _ _ _ => pg_name (i := 2) scB.nd rfl (Or.inl rfl))
        (fun _ _ _ _ _ => pts_one (pt_cmpR op_ge (pe_callB call_abs (by rfl) T.abs (by decide +kernel) (pa_cons (pv 2) pa_nil)) (pe_op op_pow pe_int pe_int) (nomark _)))
        (fun _ _ _ _ _ => pe_op op_sub (pe_callB call_abs (by rfl) T.abs (by decide +kernel) (pa_cons (pv 2) pa_nil)) (pe_op op_pow pe_int pe_int)))
      (pss_one (ps_ret (pe_disp (pps_cons pe_str (pv 1) (pps_cons pe_str
        (pe_lc (own := [("grain", 2)]) (g := gName 2) rfl scB.nd (pi_list (pv 0)) (blkOk_by (own := [("grain", 2)]) (N := ["script", "wide", "grain"]) (sc := defScope sBegun) (by decide +kernel))
          (fun _ _ _ _ _ => pg_name (i := 2) scB.nd rfl (Or.inl rfl)) (fun _ _ _ _ _ => pts_nil)
          (fun _ _ _ _ _ => pe_op op_mod (pe_callTy call_int1 (by rfl) T.int (by decide +kernel) (pa_cons (pe_callB call_abs (by rfl) T.abs (by decide +kernel) (pa_cons (pv 2) pa_nil)) pa_nil)) pe_int))
        (pps_cons pe_str pe_int (pps_cons pe_str pe_int pps_nil)))) (by rfl) (by rfl) (fun z => by cases z) (by decide)))), ?_⟩
    refine ⟨_, rfl, a, rfl, ⟨_, hS⟩, fun D hD => lc_list (K := K) (a := a) (xs := ns.map V.int)
      (fun i H1 => ∃ ws : List Int, (∀ z ∈ ws, 0 ≤ z) ∧ ws.length ≤ i ∧ H1 D = some (.lst (ws.map V.int)) ∧ Same H H1) ?_ (fun i H1 _ ⟨_, _, _, _, s1⟩ => s1.seq hS) ?_ ?_⟩
    · exact ⟨[], by simp, Nat.le_refl _, upd_same, fun b o e => by rw [upd_ne (ne_of_none e hD)]; exact e⟩
    · rintro i x H1 hi ⟨ws, w0, wl, hD1, s1⟩
      have hil : i < ns.length := by
        have := (List.getElem?_eq_some_iff.mp hi).1
        rwa [List.length_map] at this
      obtain ⟨z, hz, rfl⟩ := int_at hi
      refine ⟨rfl, _, rfl, z, rfl, _, _, rfl, rfl, ⟨by decide, by decide, by decide⟩, _, _, rfl, rfl, _, rfl, ?_⟩
      refine ite2 (fun c => ?_) (fun c => ⟨ws, w0, by omega, hD1, s1⟩)
      have c := of_decide_eq_true c
      refine ⟨_, rfl, z, rfl, _, _, rfl, rfl, ⟨by decide, by decide, by decide⟩, _, _, rfl, rfl, _, hD1, ?_, ws ++ [(if z < 0 then -z else z) - 10 ^ (18 : Int).toNat], ?_, ?_, ?_, ?_⟩
      · rw [List.length_map]
        exact small1000 (by omega)
      · intro y hy
        rcases List.mem_append.mp hy with q | q
        · exact w0 y q
        · rw [List.mem_singleton.mp q]
          exact Int.sub_nonneg_of_le c
      · rw [List.length_append]
        show ws.length + 1 ≤ i + 1
        omega
      · rw [upd_same, List.map_append]
        rfl
      · intro b o e
        rw [upd_ne (ne_of_none e hD)]
        exact s1 b o e
    · rintro H1 ⟨ws, w0, wl, hD1, s1⟩
      rw [List.length_map] at wl
      -- the dict, then the cells
      intro d hd
      have dD : D ≠ d := ne_of_none hD1 hd
      have sd : Same H1 (upd H1 d (.dK [])) := fun b o e => by
        rw [upd_ne (ne_of_none e hd)]
        exact e
      refine ⟨_, rfl, _, rfl, a, rfl, ⟨_, (s1.trans sd).seq hS⟩, fun C hC => lc_list (K := K) (a := a) (xs := ns.map V.int)
        (fun i H2 => ∃ cs : List Int, (∀ z ∈ cs, 0 ≤ z ∧ z < 2147483629) ∧ cs.length ≤ i ∧ H2 C = some (.lst (cs.map V.int)) ∧ Same (upd H1 d (.dK [])) H2) ?_ (fun i H2 _ ⟨_, _, _, _, s2⟩ => ((s1.trans sd).trans s2).seq hS) ?_ ?_⟩
      · exact ⟨[], by simp, Nat.le_refl _, upd_same, fun b o e => by rw [upd_ne (ne_of_none e hC)]; exact e⟩
      · rintro i x H2 hi ⟨cs, c0, cl, hC2, s2⟩
        have hil : i < ns.length := by
          have := (List.getElem?_eq_some_iff.mp hi).1
          rwa [List.length_map] at this
        obtain ⟨z, hz, rfl⟩ := int_at hi
        refine ⟨rfl, yes_if ?_⟩
        refine ⟨_, rfl, z, rfl, .inl ⟨_, rfl, ?_⟩⟩
        refine ⟨_, _, rfl, rfl, (by show (0 : Int) < 2147483629; decide), _, hC2, ?_, cs ++ [(if z < 0 then -z else z) % 2147483629], ?_, ?_, ?_, ?_⟩
        · rw [List.length_map]
          exact small1000 (by omega)
        · intro y hy
          rcases List.mem_append.mp hy with q | q
          · exact c0 y q
          · rw [List.mem_singleton.mp q]
            exact ⟨Int.emod_nonneg _ (by decide), Int.emod_lt_of_pos _ (by decide)⟩
        · rw [List.length_append]
          show cs.length + 1 ≤ i + 1
          omega
        · rw [upd_same, List.map_append]
          rfl
        · intro b o e
          rw [upd_ne (ne_of_none e hC)]
          exact s2 b o e
      · rintro H2 ⟨cs, c0, cl, hC2, s2⟩
        have hd2 : H2 d = some (.dK []) := s2 _ _ upd_same
        have hD2 : H2 D = some (.lst (ws.map V.int)) := s2 _ _ (by rw [upd_ne dD]; exact hD1)
        have Cd : C ≠ d := ne_of hC2 hd2 (by intro q; cases q)
        have DC : D ≠ C := fun e => by
          rw [← e] at hC
          rw [upd_ne dD, hD1] at hC
          cases hC
        refine ⟨hd2, dkv D C 0 0, rfl, by show 4 ≤ 15; decide, ?_⟩
        have s3 : Same H H2 := (s1.trans sd).trans s2
        have hd0 : H d = none := s1.free hd
        refine k d D C _ ⟨ws, cs, 0, 0, ?_, ?_, ?_, DC, w0, c0, Int.le_refl _, Int.le_refl _, Int.le_refl _, by omega⟩ ?_ hd0 hD ?_
        · rw [upd_same, dkv_merge]
        · rw [upd_ne dD]
          exact hD2
        · rw [upd_ne Cd]
          exact hC2
        · intro b o e
          rw [upd_ne (ne_of_none e hd0)]
          exact s3 b o e
        · exact (s1.trans sd).free hC
theorem scM : FnScope ["draw", "turn", "found", "prime", "blend", "grain"] ["draw"] (defScope sMixed) := ⟨rfl, rfl, rfl, by decide +kernel, rfl, by decide +kernel, by decide +kernel⟩
theorem prime_at {i : Nat} {x : V} (h : [V.int 2147483647, V.int 2147483629, V.int 2147483587, V.int 2147483579][i]? = some x) : ∃ p : Int, x = V.int p ∧ 2147483579 ≤ p ∧ p ≤ 2147483647 := by
  have m := List.mem_of_getElem? h
  simp only [List.mem_cons, List.not_mem_nil, or_false] at m
  rcases m with rfl | rfl | rfl | rfl
  · exact ⟨_, rfl, by decide, by decide⟩
  · exact ⟨_, rfl, by decide, by decide⟩
  · exact ⟨_, rfl, by decide, by decide⟩
  · exact ⟨_, rfl, by decide, by decide⟩
theorem ok_mixed {f : Addr} {fd : FuncData} (F : Fun K "_law_mixed" "_law_mixed" sMixed f fd) (T : DTxt mg) : FnOk P w K mg base CX0 1 f fd ["draw"] spMixed := by
  refine F.ok scM (fun vs H Q E h => ?_) (fun cdv A outer s H vs Q E hr h => ?_)
  · obtain ⟨d, w, c, t, rfl, _⟩ := h
    rfl
  · obtain ⟨d, w, c, t, rfl, ⟨ws, cs, r, u, hd, hw, hc, wc, w0, c0, r0, u0, ut, wl⟩, tl, k⟩ := h
    have hu := hu_of hr
    refine ⟨_, pss_cons (ps_par (i := 1) (j := 2) rfl scM.nd rfl rfl (by decide) rfl rfl (pa_cons (pe_op op_add (pe_dget hu (pv 0) pe_str (fun _ _ => rfl)) pe_int) (pa_cons pe_int pa_nil)) (by rfl))
      (pss_cons (ps_dput hu (pv 0) pe_str (pv 1) rfl)
      (pss_cons (ps_for PassesOwn.never rfl (pi_list (pe_lst (pa_cons pe_int (pa_cons pe_int (pa_cons pe_int (pa_cons pe_int pa_nil)))))) (pg_name (i := 3) scM.nd rfl (Or.inl rfl))
        (pss_cons (ps_set (i := 4) scM.nd rfl (Or.inl rfl) (pe_op op_add (pe_op op_mul pe_int (pv 1)) (pe_op op_fdiv (pv 3) pe_int)))
        (pss_cons (ps_for PassesOwn.never rfl (pi_list (pe_dget hu (pv 0) pe_str (fun _ _ => rfl))) (pg_name (i := 5) scM.nd rfl (Or.inl rfl))
          (pss_one (ps_set (i := 4) scM.nd rfl (Or.inl rfl) (pe_op op_mod (pe_callTy call_int1 (by rfl) T.int (by decide +kernel) (pa_cons (pe_op op_add (pe_op op_add (pe_op op_mul (pv 4) pe_int) (pv 5)) (pv 1)) pa_nil)) (pv 3)))))
        (pss_one (ps_set (i := 2) scM.nd rfl (Or.inl rfl) (pe_op op_add (pe_op op_mul (pv 2) pe_int) (pe_op op_mod (pe_callTy call_int1 (by rfl) T.int (by decide +kernel) (pa_cons (pe_op op_pow (pv 4) pe_int) pa_nil)) (pv 3))))))))
      (pss_one (ps_ret (pv 2))))), ?_⟩
    -- turn, found = draw['turn'] + 1, 0
    refine ⟨_, rfl, d, _, rfl, (by rw [← dkv_t (w := w) (c := c) (r := r) (t := u)]; exact DGet.k (k := Sum.inr ("turn" : Str)) hd), _, _, rfl, rfl, _, _, rfl, ?_⟩
    -- draw['turn'] = turn
    refine ⟨_, rfl, _, rfl, d, _, rfl, DPut.k (k := Sum.inr ("turn" : Str)) hd (by show 4 < sizeLine; decide), ?_⟩
    rw [dkv_putT]
    refine ⟨by show 4 ≤ sizeLine; decide, fun L hL => ?_⟩
    have wd : w ≠ d := ne_of hw hd (by intro q; cases q)
    have cd : c ≠ d := ne_of hc hd (by intro q; cases q)
    have Ld : L ≠ d := fun e => by rw [e, upd_same] at hL; cases hL
    have hL0 : H L = none := by
      have e := hL
      rw [upd_ne Ld] at e
      exact e
    have wL : w ≠ L := ne_of_none hw hL0
    have cL : c ≠ L := ne_of_none hc hL0
    have g1 : ∀ o, (upd (upd H d (.dK (dkv w c r (u + 1)))) L o) d = some (.dK (dkv w c r (u + 1))) := fun o => by rw [upd_ne Ld.symm, upd_same]
    have g2 : ∀ o, (upd (upd H d (.dK (dkv w c r (u + 1)))) L o) w = some (.lst (ws.map V.int)) := fun o => by rw [upd_ne wL, upd_ne wd]; exact hw
    have g3 : ∀ o, (upd (upd H d (.dK (dkv w c r (u + 1)))) L o) c = some (.lst (cs.map V.int)) := fun o => by rw [upd_ne cL, upd_ne cd]; exact hc
    refine ⟨L, rfl, ⟨_, SqL.of upd_same⟩, for_list (K := K) (a := L) (xs := [V.int 2147483647, V.int 2147483629, V.int 2147483587, V.int 2147483579])
      (fun i σ H2 => ∃ (z : Int) (v3 v4 v5 : Option V), 0 ≤ z ∧ σ = [some (.ref d), some (.int (u + 1)), some (.int z), v3, v4, v5] ∧ H2 = upd (upd H d (.dK (dkv w c r (u + 1)))) L (.lst [V.int 2147483647, V.int 2147483629, V.int 2147483587, V.int 2147483579]))
      ⟨0, none, none, none, Int.le_refl _, rfl, rfl⟩ (fun i σ H2 _ ⟨_, _, _, _, _, _, e⟩ => by rw [e]; exact SqL.of upd_same) ?_ ?_⟩
    · rintro i x σ H2 hi ⟨z, v3, v4, v5, z0, rfl, rfl⟩
      obtain ⟨p, rfl, p1, p2⟩ := prime_at hi
      refine ⟨_, rfl, _, _, rfl, rfl, .inl ⟨by decide, by decide⟩, _, rfl, _, _, rfl, rfl, ⟨by decide, by decide⟩, _, _, rfl, rfl, ?_⟩
      -- for grain in draw['cells']
      refine ⟨_, rfl, d, _, rfl, (by rw [← dkv_c (w := w) (c := c) (r := r) (t := u + 1)]; exact DGet.k (k := Sum.inr ("cells" : Str)) (g1 _)), c, rfl, ⟨_, SqL.of (g3 _)⟩, for_list (K := K) (a := c) (xs := cs.map V.int)
        (fun i σ H2 => ∃ (b : Int) (v5 : Option V), 0 ≤ b ∧ b < 18446744073709551616 ∧ σ = [some (.ref d), some (.int (u + 1)), some (.int z), some (.int p), some (.int b), v5] ∧ H2 = upd (upd H d (.dK (dkv w c r (u + 1)))) L (.lst [V.int 2147483647, V.int 2147483629, V.int 2147483587, V.int 2147483579]))
        ⟨48271 * (u + 1) + p / 37, v5, by omega, by omega, rfl, rfl⟩ (fun i σ H2 _ ⟨_, _, _, _, _, e⟩ => by rw [e]; exact SqL.of (g3 _)) ?_ ?_⟩
      · rintro j y σ H2 hj ⟨b, v5, b0, b1, rfl, rfl⟩
        obtain ⟨y, hy, rfl⟩ := int_at hj
        refine ⟨_, rfl, _, _, rfl, rfl, .inr ⟨by decide, by decide⟩, _, rfl, _, _, rfl, rfl, _, rfl, _, _, rfl, rfl, .inl ⟨_, rfl, ?_⟩⟩
        refine ⟨_, rfl, _, _, rfl, rfl, by omega, ?_⟩
        have e0 := Int.emod_nonneg (b * 69621 + y + (u + 1)) (show p ≠ 0 by omega)
        have e1 := Int.emod_lt_of_pos (b * 69621 + y + (u + 1)) (show (0 : Int) < p by omega)
        exact ⟨_, _, e0, by omega, rfl, rfl⟩
      · rintro σ H2 ⟨b, v5, b0, b1, rfl, rfl⟩
        refine ⟨_, rfl, _, _, rfl, rfl, .inr ⟨by decide, by decide⟩, _, rfl, _, _, rfl, rfl, ⟨by decide, by decide, by omega⟩, .inl ⟨_, rfl, ?_⟩⟩
        refine ⟨_, rfl, _, _, rfl, rfl, by omega, _, _, rfl, rfl, ?_⟩
        have e0 := Int.emod_nonneg (b ^ (5 : Int).toNat) (show p ≠ 0 by omega)
        have e1 : 0 ≤ z * 2147483647 := Int.mul_nonneg z0 (by decide)
        exact ⟨_, _, _, _, Int.add_nonneg e1 e0, rfl, rfl⟩
    · rintro σ H2 ⟨z, v3, v4, v5, z0, rfl, rfl⟩
      refine ⟨_, rfl, ?_⟩
      refine k z _ z0 ⟨ws, cs, r, u + 1, g1 _, g2 _, g3 _, wc, w0, c0, r0, by omega, by omega, wl⟩ fun b o e hb hw' => ?_
      rw [upd_ne (ne_of_none e hL0), upd_ne hb]
      exact e
theorem scK : FnScope ["draw", "many", "found"] ["draw", "many"] (defScope sTake) := ⟨rfl, rfl, rfl, by decide +kernel, rfl, by decide +kernel, by decide +kernel⟩
/-- the draw with its parts told -/
structure DX (H : Hp) (d w c : Addr) (ws cs : List Int) (r u : Int) : Prop where
  hd : H d = some (.dK (dkv w c r u))
  hw : H w = some (.lst (ws.map V.int))
  hc : H c = some (.lst (cs.map V.int))
  wc : w ≠ c
  w0 : ∀ z ∈ ws, 0 ≤ z
  c0 : ∀ z ∈ cs, 0 ≤ z ∧ z < 2147483629
  r0 : 0 ≤ r
  u0 : 0 ≤ u
  wl : ws.length ≤ 63
theorem DX.draw {H : Hp} {d w c : Addr} {ws cs : List Int} {r u t : Int} (D : DX H d w c ws cs r u) (h : u ≤ t) : Draw H d w c t := ⟨ws, cs, r, u, D.hd, D.hw, D.hc, D.wc, D.w0, D.c0, D.r0, D.u0, h, D.wl⟩
theorem Draw.dx {H : Hp} {d w c : Addr} {t : Int} (D : Draw H d w c t) : ∃ ws cs r u, DX H d w c ws cs r u ∧ u ≤ t := by
  obtain ⟨ws, cs, r, u, hd, hw, hc, wc, w0, c0, r0, u0, ut, wl⟩ := D
  exact ⟨ws, cs, r, u, ⟨hd, hw, hc, wc, w0, c0, r0, u0, wl⟩, ut⟩
theorem Draw.mono {H : Hp} {d w c : Addr} {t t' : Int} (D : Draw H d w c t) (h : t ≤ t') : Draw H d w c t' := by
  obtain ⟨ws, cs, r, u, D, ut⟩ := D.dx
  exact D.draw (Int.le_trans ut h)
section
variable {H : Hp} {d w c : Addr} {ws cs : List Int} {r u : Int}
theorem DX.getR (D : DX H d w c ws cs r u) : DGet H d (V.str ("rest" : Str)) (some (.int r)) := by
  rw [← dkv_r (w := w) (c := c) (r := r) (t := u)]
  exact DGet.k (k := Sum.inr ("rest" : Str)) D.hd
theorem DX.getW (D : DX H d w c ws cs r u) : DGet H d (V.str ("wide" : Str)) (some (.ref w)) := by
  rw [← dkv_w (w := w) (c := c) (r := r) (t := u)]
  exact DGet.k (k := Sum.inr ("wide" : Str)) D.hd
theorem DX.putR (D : DX H d w c ws cs r u) (z : Int) : DPut H d (V.str ("rest" : Str)) (.int z) (upd H d (.dK (dkv w c z u))) := by
  rw [← dkv_putR (w := w) (c := c) (r := r) (t := u)]
  exact DPut.k (k := Sum.inr ("rest" : Str)) D.hd (by show 4 < sizeLine; decide)
theorem DX.wd (D : DX H d w c ws cs r u) : w ≠ d := ne_of D.hw D.hd (by intro q; cases q)
theorem DX.cd (D : DX H d w c ws cs r u) : c ≠ d := ne_of D.hc D.hd (by intro q; cases q)
theorem DX.set (D : DX H d w c ws cs r u) {z : Int} (hz : 0 ≤ z) : DX (upd H d (.dK (dkv w c z u))) d w c ws cs z u :=
  ⟨upd_same, by rw [upd_ne D.wd]; exact D.hw, by rw [upd_ne D.cd]; exact D.hc, D.wc, D.w0, D.c0, hz, D.u0, D.wl⟩
end
theorem dp_ints {K : PySem.W.Frag} {H : Hp} : ∀ ns : List Int, DpAll K H (ns.map V.int) (ns.map PyData.int)
  | [] => .nil
  | n :: ns => .cons (.int n) (dp_ints ns)
theorem But.refl {d w : Addr} {H : Hp} : But d w H H := fun _ _ e _ _ => e
theorem But.trans {d w : Addr} {H H1 H2 : Hp} (a : But d w H H1) (b : But d w H1 H2) : But d w H H2 := fun p o e h1 h2 => b p o (a p o e h1 h2) h1 h2
theorem But.setD {d w : Addr} {H : Hp} {o : HO} : But d w H (upd H d o) := fun p q e h1 _ => by
  rw [upd_ne h1]
  exact e
theorem But.setW {d w : Addr} {H : Hp} {o : HO} : But d w H (upd H w o) := fun p q e _ h1 => by
  rw [upd_ne h1]
  exact e
theorem But.new {d w p : Addr} {H : Hp} {o : HO} (h : H p = none) : But d w H (upd H p o) := fun b q e _ _ => by
  rw [upd_ne (ne_of_none e h)]
  exact e
theorem ok_take {f fM : Addr} {fd fdM : FuncData} (F : Fun K "_law_take" "_law_take" sTake f fd) (T : DTxt mg) (FM : Fun K "_law_mixed" "_law_mixed" sMixed fM fdM) (bM : Binds K fdM ["draw"] []) (gM : mg "_law_mixed" = some (.ref fM)) :
    FnOk P w K mg base CX0 2 f fd ["draw", "many"] spTake := by
  have GM : FnOk P w K mg base CX0 1 fM fdM ["draw"] spMixed := ok_mixed FM T
  refine F.ok scK (fun vs H Q E h => ?_) (fun cdv A outer s H vs Q E hr h => ?_)
  · obtain ⟨d, w, c, t, many, rfl, _⟩ := h
    rfl
  · obtain ⟨d, w, c, t, many, rfl, D0, tl, m0, m1, k⟩ := h
    have hu := hu_of hr
    refine ⟨_, pss_cons (ps_if (pt_cmpR op_eq (pe_dget hu (pv 0) pe_str (fun _ _ => rfl)) pe_int (nomark _))
        (pss_one (ps_dput hu (pv 0) pe_str (pe_ifExp (pt_cmpR (op_neD hr.units) (pe_dget hu (pv 0) pe_str (fun _ _ => rfl)) (pe_lst pa_nil) (nomark _))
          (pe_bm PySem.F.plainAttrs_list PySem.F.slot_list_pop PySem.F.type_list_pop mt_popAt (pe_dget hu (pv 0) pe_str (fun _ _ => rfl)) (pa_cons pe_int pa_nil))
          (pe_call GM hr rfl gM FM.kp bM .nil pass0 (pa_cons (pv 0) pa_nil))) rfl)) pss_nil)
      (pss_cons (ps_set (i := 2) scK.nd rfl (Or.inl rfl) (pe_op op_mod (pe_callTy call_int1 (by rfl) T.int (by decide +kernel) (pa_cons (pe_dget hu (pv 0) pe_str (fun _ _ => rfl)) pa_nil)) (pv 1)))
      (pss_cons (ps_dput hu (pv 0) pe_str (pe_op op_fdiv (pe_dget hu (pv 0) pe_str (fun _ _ => rfl)) (pv 1)) rfl)
      (pss_one (ps_ret (pv 2))))), ?_⟩
    obtain ⟨ws, cs, r, u, D, ut⟩ := D0.dx
    refine ⟨_, rfl, d, _, rfl, D.getR, rfl, _, rfl, ?_⟩
    refine ite2 (fun _ => ?_) (fun _ => ?_)
    · -- the rest is 0
      refine ⟨_, rfl, d, _, rfl, D.getW, by show 0 ≤ sizeLine; decide, fun e he => ?_⟩
      have wd := D.wd
      have cd := D.cd
      have de : d ≠ e := ne_of_none D.hd he
      have we : w ≠ e := ne_of_none D.hw he
      have ce : c ≠ e := ne_of_none D.hc he
      have De : DX (upd H e (.lst [])) d w c ws cs r u := ⟨by rw [upd_ne de]; exact D.hd, by rw [upd_ne we]; exact D.hw, by rw [upd_ne ce]; exact D.hc, D.wc, D.w0, D.c0, D.r0, D.u0, D.wl⟩
      refine ⟨.list (ws.map PyData.int), .list [], .lst (SqL.of De.hw) (dp_ints _), .lst (SqL.of upd_same) .nil, PySem.W.ke_shaped_ints ws, PySem.W.ke_shaped_ints [], _, rfl, ?_⟩
      cases ws with
      | nil =>
        refine iteF ?_
        refine ⟨_, rfl, d, w, c, t, rfl, De.draw ut, tl, fun x H1 x0 D1 B1 => ?_⟩
        obtain ⟨ws1, cs1, r1, u1, D1, ut1⟩ := D1.dx
        refine ⟨_, rfl, d, _, rfl, D1.putR _, ?_⟩
        have D2 := D1.set x0
        refine ⟨_, rfl, d, _, rfl, D2.getR, .inl ⟨_, rfl, _, rfl, _, _, rfl, rfl, m0, ?_⟩⟩
        refine ⟨_, rfl, d, _, rfl, D2.getR, _, rfl, _, _, rfl, rfl, ⟨m0, m1⟩, _, rfl, d, _, rfl, D2.putR _, _, rfl, ?_⟩
        exact k _ _ (Int.emod_nonneg _ (by omega)) (Int.emod_lt_of_pos _ m0) ((D2.set (Int.ediv_nonneg x0 (by omega))).draw ut1) ((((But.new he).trans B1).trans But.setD).trans But.setD)
      | cons z ws =>
        refine iteT ?_
        refine ⟨_, rfl, d, _, rfl, De.getW, .inl ⟨rfl, _, SqL.of De.hw⟩, w, _, _, 0, _, rfl, rfl, De.hw, by decide, by decide, (by simp [seqIndex?]), rfl, ?_⟩
        have x0 : 0 ≤ z := De.w0 z (List.mem_cons.mpr (.inl rfl))
        have D1 : DX (upd (upd H e (.lst [])) w (.lst ((List.map V.int (z :: ws)).eraseIdx 0))) d w c ws cs r u :=
          ⟨by rw [upd_ne wd.symm]; exact De.hd, upd_same, by rw [upd_ne D.wc.symm]; exact De.hc, D.wc, fun y hy => D.w0 y (List.mem_cons.mpr (.inr hy)), D.c0, D.r0, D.u0, Nat.le_trans (Nat.le_succ _) D.wl⟩
        refine ⟨_, rfl, d, _, rfl, D1.putR _, ?_⟩
        have D2 := D1.set x0
        refine ⟨_, rfl, d, _, rfl, D2.getR, .inl ⟨_, rfl, _, rfl, _, _, rfl, rfl, m0, ?_⟩⟩
        refine ⟨_, rfl, d, _, rfl, D2.getR, _, rfl, _, _, rfl, rfl, ⟨m0, m1⟩, _, rfl, d, _, rfl, D2.putR _, _, rfl, ?_⟩
        exact k _ _ (Int.emod_nonneg _ (by omega)) (Int.emod_lt_of_pos _ m0) ((D2.set (Int.ediv_nonneg x0 (by omega))).draw (by omega)) ((((But.new he).trans But.setW).trans But.setD).trans But.setD)
    · refine ⟨_, rfl, d, _, rfl, D.getR, .inl ⟨_, rfl, _, rfl, _, _, rfl, rfl, m0, ?_⟩⟩
      refine ⟨_, rfl, d, _, rfl, D.getR, _, rfl, _, _, rfl, rfl, ⟨m0, m1⟩, _, rfl, d, _, rfl, D.putR _, _, rfl, ?_⟩
      exact k _ _ (Int.emod_nonneg _ (by omega)) (Int.emod_lt_of_pos _ m0) ((D.set (Int.ediv_nonneg D.r0 (by omega))).draw (by omega)) But.setD
theorem scP : FnScope ["draw", "some"] ["draw", "some"] (defScope sPick) := ⟨rfl, rfl, rfl, by decide +kernel, rfl, by decide +kernel, by decide +kernel⟩
theorem ok_pick {f fT fM : Addr} {fd fdT fdM : FuncData} (F : Fun K "_law_pick" "_law_pick" sPick f fd) (T : DTxt mg) (FT : Fun K "_law_take" "_law_take" sTake fT fdT) (bT : Binds K fdT ["draw", "many"] []) (gT : mg "_law_take" = some (.ref fT))
    (FM : Fun K "_law_mixed" "_law_mixed" sMixed fM fdM) (bM : Binds K fdM ["draw"] []) (gM : mg "_law_mixed" = some (.ref fM)) : FnOk P w K mg base CX0 3 f fd ["draw", "some"] (spPick K) := by
  have GT : FnOk P w K mg base CX0 2 fT fdT ["draw", "many"] spTake := ok_take FT T FM bM gM
  refine F.ok scP (fun vs H Q E h => ?_) (fun cdv A outer s H vs Q E hr h => ?_)
  · obtain ⟨d, w, c, l, t, xs, rfl, _⟩ := h
    rfl
  · obtain ⟨d, w, c, l, t, xs, rfl, D, tl, hS, ld, lw, x0, x1, k⟩ := h
    refine ⟨_, pss_one (ps_ret (pe_ix ix_list (pv 1) (pe_call GT hr rfl gT FT.kp bT .nil pass0 (pa_cons (pv 0) (pa_cons (pe_callB call_len_seq (by rfl) T.len PySem.boot_len (pa_cons (pv 1) pa_nil)) pa_nil))) (fun _ _ => rfl))), ?_⟩
    have hpos : 0 < xs.length := List.length_pos_iff.mpr x0
    refine ⟨_, rfl, _, rfl, _, rfl, l, _, rfl, .inl hS, d, w, c, t, (xs.length : Int), rfl, D, tl, by omega, by omega, fun x H1 h0 h1 D1 B1 => ?_⟩
    have hS1 : SqL K H1 l xs := by
      rcases hS with (q | ⟨o, q⟩) | q
      · exact .inl (.inl (B1 _ _ q ld lw))
      · exact .inl (.inr ⟨o, B1 _ _ q ld lw⟩)
      · exact .inr q
    obtain ⟨n, rfl⟩ : ∃ n : Nat, x = (n : Int) := ⟨x.toNat, by omega⟩
    have hn : n < xs.length := by omega
    exact ⟨l, xs, _, xs[n], rfl, rfl, hS1, atI_nat (List.getElem?_eq_getElem hn), k _ _ (List.getElem_mem hn) D1 B1⟩
end
end Any
set_option Elab.async false
set_option linter.all false
set_option maxRecDepth 100000
set_option maxHeartbeats 4000000
/-! Defs whose promise holds where no repr is under way (repr looks at what is under way). -/
namespace Any
open PySem PySem.Spec PyProof.Rows L2
/-- nothing that repr guards against is under way -/
def Clr (A : Around) : Prop := A.guards = some []
theorem Clr.deep {A : Around} (c : Clr A) (env : Env) : Clr (A.deeper env) := c
theorem Clr.one {A : Around} (c : Clr A) : Clr A.in1 := c
theorem Clr.made {A : Around} (c : Clr A) (C : Addr) (us : List Value) : Clr (A.under (.builtin "type.__call__" ⟨.ref C :: us, []⟩)) := by
  unfold Clr at *
  first
    | exact c
    | (simp [Around.under, Code.guards, Code.isGuard, guardIds, pushGuards]; exact c)
/-- as FnOk, where nothing is under way -/
structure FnG (P : Program) (w : World) (K : PySem.W.Frag) (mg : Str → Option Value) (base : Heap) (CX : CXT) (k : Nat) (f : Addr) (fd : FuncData) (ps : List Str) (sp : Sp) : Prop where
  len : ∀ vs H Q E, sp vs H Q E → vs.length = ps.length
  go : ∀ (A : Around) (out : List Env) (s : Shared) (H : Hp) (args : Args) (us : List Value) (vs : List V) (Q : VK) (E : XK), Clr A → Room k A → Env0 P w K mg base A out s H → BindsTo s fd args (ps.zip us) → Vals vs us → sp vs H Q E →
    codeAny (model P w) A (.call (.ref f) args) (CR CX out P w H s Q E) s
section
variable {P : Program} {w : World} {K : PySem.W.Frag} {mg : Str → Option Value} {base : Heap} {CX : CXT} {k : Nat} {f : Addr} {fd : FuncData} {ps : List Str} {sp : Sp}
theorem FnG.of (F : FnOk P w K mg base CX k f fd ps sp) : FnG P w K mg base CX k f fd ps sp := ⟨F.len, fun A out s H args us vs Q E _ r e b v q => F.run A out s H args us vs Q E r e b v q⟩
/-- a def by its body, which may lean on nothing being under way -/
theorem okG {x q : Str} {st : Stmt} {N : List Str} (F : Fun K x q st f fd) (S : FnScope N ps (defScope st)) (len : ∀ vs H Q E, sp vs H Q E → vs.length = ps.length)
    (body : ∀ (cdv : Value) (A : Around) (out : List Env) (s : Shared) (H : Hp) (vs : List V) (Q : VK) (E : XK), Clr (A.deeper (envOfC q (defScope st) s.heap.objs.size f cdv)) → Room k (A.deeper (envOfC q (defScope st) s.heap.objs.size f cdv)) → sp vs H Q E →
      ∃ t, PSs (cxOf CX P w K mg base N q (defScope st) f cdv A out s H E).nox (defBody st) t ∧ t { nx := fun _ H' => Q .non H', rt := Q } (start N vs) H) : FnG P w K mg base CX (k + 1) f fd ps sp := by
  obtain ⟨oc, od, kV, doc, pm, an, cdv, ct, osl, rfl, lk, hcd⟩ := F.ex
  refine ⟨len, fun A out s H args us vs Q E cl hr e0 hb r hsp => ?_⟩
  have hl := len _ _ _ _ hsp
  have sub : ∀ b o, base.get? b = some o → s.heap.get? b = some o := fun b o e => (e0.bs b o e).1
  have KX : K.In s.heap := e0.mod.kin.keeps sub
  refine codeAny_call_function hr.depth (KX _ _ lk) rfl S.co S.gen rfl (PySem.W.codeRec_of KX hcd) (hb _ _ _ _ (wpAny_newFunctionEnv_cells S.kind (fun y hy => ?_) fun env he s1 x => ?_))
  · rcases S.par y.1 (List.of_mem_zip (show (y.1, y.2) ∈ ps.zip us from hy)).1 with z | z
    · exact .inl z
    · exact .inr ⟨z, PySem.W.cellsFrom_some _ _ _ (.inl z)⟩
  · subst he
    refine ⟨e0.mod.nolimit.keeps fun b o e => x.toInCall.keep b o (sub b o e), codeAny_func ?_⟩
    obtain ⟨t, ht, q⟩ := body cdv A out s H vs Q E (cl.deep _) (hr.deeper _) hsp
    replace ht := ht.nox
    refine wpAny_mono (ht.run [] s1 (start N vs) H _ (inv_start S hr.hd e0 hl r x) q) (fun fl s' z => ?_) fun _ _ z => z
    cases fl with
    | ret u =>
      obtain ⟨v, σ', H', J, rv, q⟩ := z
      exact ⟨v, H', J.os, J.bare, J.base, J.hok, rv, q⟩
    | next =>
      obtain ⟨σ', H', J, q⟩ := z
      exact ⟨V.non, H', J.os, J.bare, J.base, J.hok, rfl, q⟩
    | brk => exact z.elim fun _ z => z.elim fun _ z => z.2.elim
    | cont => exact z.elim fun _ z => z.elim fun _ z => z.2.elim
end
section
variable {X : Cx} {CX : CXT} {k : Nat} {f : Addr} {fd : FuncData} {ps : List Str} {sp : Sp} {dvs : List V} {ds : List Value} {E : XK} {x : Str} {p pos : Pos} {e : Expr} {es : List Expr} {t : TA}
theorem runG {pins : List (Addr × Obj)} {σ : L2.St} {H : Hp} {s : Shared} {Q : VK} {us : List Value} {vs : List V} (F : FnG X.prog X.w X.K X.mg X.base CX k f fd ps sp) (cl : Clr X.A) (hr : Room k X.A) (hb : Binds X.K fd ps ds) (hd : Vals dvs ds) (hx : Passes CX X E)
    (I : Inv X pins σ H s) (r : Vals vs us) (h : sp (vs ++ dvs) H Q E) : wpAny (model X.prog X.w) X.A (call (.ref f) us) (EP X pins σ Q) X.xe s := by
  have r2 := r.append hd
  refine wpAny_call (codeAny_mono (F.go X.A X.stack s H ⟨us, []⟩ (us ++ ds) (vs ++ dvs) Q E cl hr I.env0 (hb s us I.kIn (r2.length.symm.trans (F.len _ _ _ _ h))) r2 h) fun r s' z => ?_)
  match r, z with
  | .error e, z => exact hx pins σ H s e s' I z
  | .ok (.ret u), z => exact I.after z
/-- f(e, ..) -/
theorem pe_callG (F : FnG X.prog X.w X.K X.mg X.base CX k f fd ps sp) (cl : Clr X.A) (hr : Room k X.A) (hg : Gl X x) (hm : X.mg x = some (.ref f)) (hk : PySem.W.keepIn X.K (.ref f) = true) (hb : Binds X.K fd ps ds) (hd : Vals dvs ds) (hx : Passes CX X E)
    (ha : PA X (e :: es) t) (hdb : (x == ("__debug__" : Str)) = false := by decide) (he : starEach (e :: es) X.env = (false, eval e X.env) :: starEach es X.env := by rfl) (hpl : (backTo pos (starEach es X.env)).any (·.1) = false := by rfl) :
    PE X (.Call (.Name x p) (e :: es) [] pos) (tCall sp dvs E t) :=
  ⟨fun pins s σ H Q I h => wpAny_Call_Name_kw (ld_glob I hg hm (PySem.W.callWith_K (h₀ := X.base) I.ok.mod.kin hk
    (thn (ha.run pos pins s σ H _ I h) fun us s1 ⟨vs, H1, I1, r, q⟩ => ⟨I1.kIn, runG F cl hr hb hd hx I1 r q⟩) he hpl) hdb)⟩
/-- f() -/
theorem pe_callG0 (F : FnG X.prog X.w X.K X.mg X.base CX k f fd ps sp) (cl : Clr X.A) (hr : Room k X.A) (hg : Gl X x) (hm : X.mg x = some (.ref f)) (hk : PySem.W.keepIn X.K (.ref f) = true) (hb : Binds X.K fd ps ds) (hd : Vals dvs ds) (hx : Passes CX X E)
    (hdb : (x == ("__debug__" : Str)) = false := by decide) : PE X (.Call (.Name x p) [] [] pos) (tCall sp dvs E tNil) :=
  ⟨fun pins s σ H Q I h => wpAny_Call_Name_kw (ld_glob I hg hm (PySem.W.callWith_K0 I.kIn hk (runG (us := []) F cl hr hb hd hx I .nil h)) hdb)⟩
end
/-! ### the law's own call: nothing is under way -/
theorem clr_caller : Clr callerA := rfl
section
variable {P : Program} {w : World} {K : PySem.W.Frag} {mg mb : Str → Option Value} {k : Nat} {fa a : Addr} {fd : FuncData} {x : Str} {sp : Sp} {s₁ : Shared} {vs : List Value} {ns : List Int}
/-- from one abstract heap H that tracks the script at most -/
theorem law_at (KX : K.In s₁.heap) (hns : s₁.heap.Ns mainGlobals mg) (hb : s₁.heap.Ns builtinsNs mb) (hbb : ∀ x : Str, x ≠ "__name__" → mb x = bootBuiltins x) (hlim : s₁.heap.NoLimit) (hg : s₁.gens = #[])
    (ha : s₁.heap.get? a = some { cls := .type "list", data := .seq vs.toArray }) (hr : Room k callerA) (F : ∀ base : Heap, K.In base → base.Ns mainGlobals mg → FnG P w K mg base CX0 k fa fd [x] sp)
    (hbind : ∀ (s : Shared) (u : Value), BindsTo s fd ⟨[u], []⟩ [(x, u)]) {H : Hp} (hO : Only H) (hok : HOk P w H s₁.heap) (hA : ∀ b, H b ≠ none → b = a) (hK : H a ≠ none → K.lookup a = none)
    (hsp : sp [.ref a] H (fun v _ => v = .bl true) fun _ _ _ => False) :
    codeAny (model P w) callerA (.call (.ref fa) ⟨[.ref a], []⟩) (fun r s' => r = .ok (.ret (.bool true)) ∧ OldK s₁.heap s'.heap ∧ s'.os = s₁.os ∧ AllBare s'.gens) s₁ := by
  have trk : ∀ b, H b = none ∨ b = a := fun b => by
    cases q : H b with
    | none => exact .inl rfl
    | some u => exact .inr (hA b fun z => by rw [q] at z; cases z)
  have hid : ∀ {b : Addr} {o : Obj}, s₁.heap.get? b = some o → H b = none → (hidT s₁.heap H).get? b = some o := fun e n => hidT_get e n
  -- a dict is not the script
  have nd : ∀ {b : Addr} {o : Obj} {es : Array DictEntry} {ep : Nat}, s₁.heap.get? b = some o → o.data = .dict es ep → H b = none := fun {b o es ep} e d => by
    rcases trk b with z | rfl
    · exact z
    · rw [ha] at e
      cases e
      cases d
  have nsH : ∀ {b : Addr} {m : Str → Option Value}, s₁.heap.Ns b m → (hidT s₁.heap H).Ns b m := fun ⟨o, es, ep, e, d, r⟩ => ⟨o, es, ep, hid e (nd e d), d, r⟩
  have kH : K.In (hidT s₁.heap H) := fun b o e => hid (KX b o e) (by
    rcases trk b with z | rfl
    · exact z
    · cases q : H b with
      | none => rfl
      | some u =>
        rw [hK fun z => by rw [q] at z; cases z] at e
        cases e)
  obtain ⟨mc, l1, l2⟩ := hlim
  have e0 : Env0 P w K mg (hidT s₁.heap H) callerA [] s₁ H :=
    ⟨rfl, ⟨kH, nsH hns, ⟨mb, nsH hb, hbb⟩, mc, nsH l1, l2⟩, fun b o e => of_hidT e, Nat.le_of_eq (hidT_size _ _), True.intro, fun b z => absurd (show b ∈ ([] : List Addr) from z) List.not_mem_nil, hok, .of_eq hg⟩
  refine codeAny_mono ((F _ kH (nsH hns)).go callerA [] s₁ H ⟨[.ref a], []⟩ [.ref a] [.ref a] _ _ clr_caller hr e0 (hbind s₁ (.ref a)) (.cons rfl .nil) hsp) fun r s' z => ?_
  match r, z with
  | .error e, z => exact z.elim
  | .ok (.ret u), ⟨v, H', os, bare, un, hok', rv, q⟩ =>
    have q' : v = .bl true := q
    subst q'
    cases (show u = Value.bool true from rv)
    refine ⟨rfl, OldK.of_keep fun b o e => ?_, os, bare⟩
    cases q : H b with
    | none => exact un.keep b o e q (fun z => absurd (show b ∈ ([] : List Addr) from z) List.not_mem_nil) List.not_mem_nil
    | some u =>
      rcases hO b with z | ⟨ob, xs, z⟩
      · rw [q] at z
        cases z
      · obtain ⟨e1, _⟩ := hok b _ z
        obtain ⟨e2, _⟩ := hok' b _ (un.frzs b ob _ z)
        rw [e] at e1
        cases e1
        exact e2
end
/-- the goal that a head leaves -/
theorem walkG {l : PySem.W.OpenLaw} {n k : Nat} {q : Program} {loose : List Str} {XP : (Str → Option Value) → Heap → Prop} {YP : World → Heap → Prop} {d : DefRec} {x : Str} (hn : l.most = some n) (hn2 : n ≤ sizeLine) (hdf : d.params.defaults = []) (hr : Room k callerA)
    (F : ∀ (w : World) (mg : Str → Option Value) (fa : Addr) (h : Heap), YP w h → h.Ns mainGlobals mg → mg d.name = some (.ref fa) →
      ∃ (K : PySem.W.Frag) (fd : FuncData) (sp : Sp), K.In h ∧ (∀ (s : Shared) (u : Value), BindsTo s fd ⟨[u], []⟩ [(x, u)]) ∧
        (∀ (H : Hp) (a : Addr) (ns : List Int), ns.length ≤ n → (∀ z ∈ ns, Builtin.Int.intBits z ≤ 1048576) → Only H → SqL K H a (ns.map V.int) → sp [.ref a] H (fun v _ => v = .bl true) fun _ _ _ => False) ∧
        ∀ base : Heap, K.In base → base.Ns mainGlobals mg → FnG l.prog w K mg base CX0 k fa fd [x] sp) :
    PySem.W.WalkO q loose XP YP l.row.toRowW d [] (fun f vs => PySem.call f vs) := by
  refine Att.attach_callB hn hdf fun w s₀ s₁ mg mb fa o pm cd doc a vs ns G Y ho hd hcd hmg hobj hints hlen hbits hg => ?_
  obtain ⟨K, fd, sp, KX, hb, hsp, hF⟩ := F w mg fa _ Y G.T.g hmg
  have rv := vals_ints hints
  have lv := hints.length
  cases e : K.lookup a with
  | some o =>
    have e1 := KX a o e
    rw [hobj] at e1
    cases e1
    exact law_at KX G.T.g G.T.b G.T.builtins G.T.nolimit hg hobj hr hF hb (H := fun _ => none) (fun _ => .inl rfl) (fun b u z => nomatch (show (none : Option HO) = some u from z)) (fun b z => absurd rfl z) (fun z => absurd rfl z)
      (hsp _ a ns hlen hbits (fun _ => .inl rfl) (.inr ⟨_, vs.toArray, _, e, rfl, rfl, rfl, by rw [List.size_toArray, lv]; exact Nat.le_trans hlen hn2, by simpa using rv⟩))
  | none =>
    have hO : Only fun b => if b = a then some (.frz { cls := .type "list", data := .seq vs.toArray } (.lst (ns.map V.int))) else none := fun b => by
      by_cases z : b = a
      · exact .inr ⟨_, _, if_pos z⟩
      · exact .inl (if_neg z)
    refine law_at KX G.T.g G.T.b G.T.builtins G.T.nolimit hg hobj hr hF hb hO (fun b u z => ?_) (fun b z => ?_) (fun _ => e) (hsp _ a ns hlen hbits hO (.inl (.inr ⟨_, if_pos rfl⟩)))
    · by_cases q : b = a
      · subst q
        cases (if_pos rfl).symm.trans z
        exact ⟨hobj, by rw [List.length_map]; exact Nat.le_trans hlen hn2, vs, _, rv, hobj⟩
      · cases (if_neg q).symm.trans z
    · by_cases q : b = a
      · exact q
      · exact absurd (if_neg q) z
end Any
set_option Elab.async false
set_option linter.all false
set_option maxRecDepth 100000
set_option maxHeartbeats 4000000
/-! Errors of own classes held as values: made, asked by isinstance, read. -/
namespace Any
open PySem PySem.Spec PySem.W PySem.Calls PyProof.Rows
section
variable {prog : Program} {w : World} {A : Around} {E : Value → Shared → Prop} {K : Frag} {x D : Addr} {ox : Obj} {od : Option Obj}
/-- what the written part says of an error class at D, for its instances to be asked -/
structure ErrC (K : Frag) (D : Addr) : Prop where
  hg : findIn K (.ref D) "__getattribute__" = some (some (.builtin "BaseException.__getattribute__"))
  hk : findIn K (.ref D) "__getattr__" = some none
  hs : subIn K (.ref D) (.type "BaseException") = some true
  hd : hasDictIn K D = true
  ha : findIn K (.ref D) "__class__" = some (some (.builtin "object.__class__"))
  hn : specialIn K (.builtin "object.__class__") "__get__" = some (some (.builtin "getset_descriptor.__get__"))
  ht : takesIn K (.builtin "object.__class__") = some true
  hm : mroIn K D (.type "object") = some true
theorem ErrC.found (C : ErrC K D) : findObj K D od "__class__" = some (.bind (.builtin "getset_descriptor.__get__") (.builtin "object.__class__")) := by
  obtain ⟨cd, hc, _⟩ := any_some C.hd
  unfold findObj
  rw [hc, Option.bind_some, C.ha, Option.bind_some]
  simp [C.hn, C.ht]
/-- error.__class__, with a dict of its own or none -/
theorem ErrC.ask (C : ErrC K D) {s : Shared} {Q : Option Value → Shared → Prop} (X : K.In s.heap) (I : InstAt s.heap x ox D od) (h : Q (some (.ref D)) { s with toks := s.toks + 1 }) : wpAny (model prog w) A (getAttr? (.ref x) "__class__") Q E s := by
  obtain ⟨hh, gg, dd, tt, oo⟩ := s
  have T := I.type (M := model prog w)
  have below : Looks (model prog w) hh (isInstance (.ref x) (.type "BaseException")) true := T.andThen (looks_subIn X C.hs)
  have other : (onTheHeap (Value.ref D) && Value.builtin "BaseException.__getattribute__" == Value.builtin "object.__getattribute__") = false := by
    rw [show (Value.builtin "BaseException.__getattribute__" == Value.builtin "object.__getattribute__") = false by decide +kernel, Bool.and_false]
  unfold getAttr? getAttrBy? getAttrBy
  refine wpAny_bind (wpAny_mkText (wpAny_bind (wpAny_attempt (wpAny_holding (wpAny_bind (T.at (wpAny_bind ((looks_findIn X C.hg).at ?_))))))))
  show wpAny _ _ (if (onTheHeap (Value.ref D) && Value.builtin "BaseException.__getattribute__" == Value.builtin "object.__getattribute__") = true then _ else _) _ _ _
  rw [other, if_neg Bool.false_ne_true]
  unfold getAttrByItsOwn hookBefore
  refine wpAny_bind ?_
  rw [if_pos (show onTheHeap (Value.ref D) = true from rfl)]
  refine (looks_findIn X C.hk).at (wpAny_bind (wpAny_attempt (wpAny_holding ?_)))
  unfold callGetattribute
  rw [show (false && onTheHeap (Value.builtin "BaseException.__getattribute__")) = false from rfl, if_neg Bool.false_ne_true]
  unfold boundAndCalled
  rw [PySem.F.excAttr_ValueError.ga.bind (.ref x)]
  refine wpAny_bind (wpAny_pure (wpAny_call (codeAny_call_builtin PySem.F.excAttr_ValueError.ga.plain PySem.F.entry_bexc_ga ?_)))
  refine @check_slot (model prog w) _ _ ⟨hh, gg, dd, tt + 1, oo⟩ "BaseException.__getattribute__" "BaseException" "__getattribute__" (.ref x) [.str "__class__" tt] [] _ (by decide +kernel) (by decide +kernel) below (PySem.F.args_bexc_ga (.ref x) (.str "__class__" tt)) ?_
  unfold Builtin.«object.__getattribute__»
  refine wpAny_bind (wpAny_of_eq (a := ((Value.ref x : Value), [Value.str "__class__" tt])) (by first | rfl | (simp only [slotArgs]; rfl)) (wpAny_bind (wpAny_pure (wpAny_bind (T.at (wpAny_bind ((looks_find X I C.found).at ?_)))))))
  refine wpAny_bind (wpAny_holding (wpAny_call (class_get (s := ⟨hh, gg, dd, tt + 1, oo⟩) X I C.hm (wpAny_pure ?_))))
  show wpAny _ _ (handedOut (.ref D)) _ _ _
  rw [handedOut_of (v := .ref D) rfl]
  first
    | exact wpAny_pure (wpAny_pure h)
    | exact wpAny_pure h
    | exact wpAny_pure (wpAny_bind (wpAny_pure (wpAny_pure h)))
theorem ErrC.kit (C : ErrC K D) : KitX K (.ref x) (.ref D) (fun h => InstAt h x ox D od) where
  ty := fun _ _ _ I => I.type
  it := fun M h X _ => by
    obtain ⟨cd, hc, _⟩ := any_some C.hd
    unfold clsIn at hc
    split at hc
    · rename_i ho
      intro A' Q' E' s' k q
      unfold isType loadHead
      exact wpAny_bind (wpAny_loadPart (k _ _ (X _ _ ho)) (wpAny_pure q))
    · cases hc
  ne := fun h tp dd its n sl X htp => by
    obtain ⟨cd, hc, _⟩ := any_some C.hd
    refine Bool.eq_false_iff.mpr fun q => ?_
    have e : D = tp := Value.ref.inj (beq_iff_eq.mp q)
    subst e
    unfold clsIn at hc
    split at hc
    · rename_i ho
      cases (X _ _ ho).symm.trans htp
    · cases hc
  ca := fun X I k => C.ask X I k
end
/-! ### over the abstract heap -/
section
open L2
/-- at a stands an error of the class at C that bears fs -/
def ErrAt (H : Hp) (a C : Addr) (fs : List (Str × V)) : Prop := (fs = [] ∧ H a = some (ExO (.ref C) a)) ∨ ∃ dx, H a = some (exo a C (some dx)) ∧ H dx = some (exd dx fs)
theorem ErrAt.same {H H' : Hp} {a C : Addr} {fs : List (Str × V)} (e : ErrAt H a C fs) (s : Same H H') : ErrAt H' a C fs := by
  rcases e with ⟨z, e⟩ | ⟨dx, e1, e2⟩
  · exact .inl ⟨z, s _ _ e⟩
  · exact .inr ⟨dx, s _ _ e1, s _ _ e2⟩
theorem ErrAt.here {H : Hp} {a C : Addr} {fs : List (Str × V)} (e : ErrAt H a C fs) : ∃ o, H a = some o := by
  rcases e with ⟨_, e⟩ | ⟨dx, e1, _⟩
  · exact ⟨_, e⟩
  · exact ⟨_, e1⟩
section
variable {X : Cx} {pins : List (Addr × Obj)} {σ : L2.St} {H : Hp} {s : Shared} {a C : Addr} {fs : List (Str × V)}
theorem ErrAt.inst (I : Inv X pins σ H s) (e : ErrAt H a C fs) : ∃ ox od, InstAt s.heap a ox C od ∧ ∀ f v, fs.lookup f = some v → ∃ o u, od = some o ∧ lookIn f o = some (some u) ∧ RelV v u := by
  rcases e with ⟨rfl, e⟩ | ⟨dx, e1, e2⟩
  · obtain ⟨⟨oe, vs, ho, ⟨hc, hd⟩, hf, _⟩, _, _⟩ := (show ObjOk X.prog X.w H s.heap a (.ext _) from I.hok a _ e)
    refine ⟨oe, none, ⟨ho, hc, by unfold notCls; rw [hf], by rw [hd]; exact True.intro⟩, fun f v q => nomatch q⟩
  · obtain ⟨t1, ho⟩ := exo_at I.hok e1
    obtain ⟨mA, hn, hr⟩ := exd_at I.hok e2
    obtain ⟨od, hod, hl⟩ := lookIn_ns hn
    refine ⟨_, some od, ⟨ho, rfl, rfl, hod⟩, fun f v q => ?_⟩
    have r := hr f
    rw [q] at r
    obtain ⟨u, hu, ru⟩ := RelO.some_of (v := v) (o := mA f) r
    exact ⟨od, u, rfl, by rw [hl, hu], ru⟩
end
/-- isinstance(error, c) -/
def rIsErr (K : Frag) : List V → Hp → VK → Prop := fun xs H Q => ∃ (a C : Addr) (fs : List (Str × V)) (c : V) (u : Value) (b : Bool), xs = [.ref a, c] ∧ ErrAt H a C fs ∧ ErrC K C ∧ ClsV c u ∧ kitOne K (.ref C) u = some b ∧ Q (.bl b) H
theorem call_isErr {X : Cx} : CallR X (.builtin "isinstance") (rIsErr X.K) := by
  intro pins s σ H xs us Q I r h
  obtain ⟨a, C, fs, c, u, b, rfl, ea, T, k, e, q⟩ := h
  obtain ⟨u1, u2, rfl, r1, r2⟩ := vals2 r
  cases (show u1 = Value.ref a from r1)
  cases k.eq r2
  obtain ⟨ox, od, J, _⟩ := ea.inst I
  exact kia_one (T.kit (x := a) (ox := ox) (od := od)) I.kIn J e (fun z => nomatch z) fun tk => ⟨.bl b, H, I.tok tk, rfl, q⟩
/-- error.f -/
def tErrF (K : Frag) (te : TE) (f : Str) : TE := fun σ H Q => te σ H fun x H1 => ∃ (a C : Addr) (fs : List (Str × V)) (v : V), x = .ref a ∧ ErrAt H1 a C fs ∧ ErrC K C ∧ findIn K (.ref C) f = some none ∧ fs.lookup f = some v ∧ Q v H1
theorem pe_errF {X : Cx} {e : Expr} {te : TE} {f : Str} {pos : Pos} (he : PE X e te) (hb : attributeBase e f X.env (eval e X.env) = eval e X.env := by rfl) : PE X (.Attribute e f pos) (tErrF X.K te f) := by
  refine ⟨fun pins s σ H Q I h => attr_of hb (thn (he.run pins s σ H _ I h) fun u s1 hh => ?_)⟩
  obtain ⟨x, H1, I1, rx, a, C, fs, v, rfl, ea, T, hno, hl, q⟩ := hh
  cases (show u = Value.ref a from rx)
  obtain ⟨ox, od, J, hf⟩ := ea.inst I1
  obtain ⟨o, u, rfl, hlo, ru⟩ := hf f v hl
  exact HandSPX.exc_get I1.kIn J T.hg T.hk T.hs (findObj_own T.hd hno rfl hlo) (handed_of ru) ⟨v, H1, I1.tok _, ru, q⟩
/-- Base.__init__(self, ..), Base an own error class without an __init__ of its own -/
structure BaseI (K : Frag) (M : Addr) : Prop where
  rd : readsIn K M (.type "type") = true
  fd : findCls K (.ref M) (.type "type") "__init__" = some (.val (.builtin "ValueError.__init__"))
  sp : specialIn K (.ref M) "__getattribute__" = some (some (.builtin "type.__getattribute__"))
theorem pe_baseI {X : Cx} {M : Addr} {x : Str} {e : Expr} {es : List Expr} {ta : TA} {p1 p2 pos : Pos} {pl : Sem Bool} (B : BaseI X.K M) (hg : Gl X x) (hm : X.mg x = some (.ref M)) (ha : PA X (e :: es) ta) (hdb : (x == ("__debug__" : Str)) = false := by decide)
    (hc : eval (.Call (.Attribute (.Name x p1) "__init__" p2) (e :: es) [] pos) X.env = (do
      let ov ← eval (.Name x p1) X.env
      standAt p2.atName
      let (f, first) ← holding [ov] (getMethod ov "__init__" pl)
      callWith pos f first (backTo pos (starEach (e :: es) X.env)) (backToKw pos (keywordEach [] X.env))) := by rfl)
    (he : starEach (e :: es) X.env = (false, eval e X.env) :: starEach es X.env := by rfl) (hpl : (backTo pos (starEach es X.env)).any (·.1) = false := by rfl) :
    PE X (.Call (.Attribute (.Name x p1) "__init__" p2) (e :: es) [] pos) (tVeI X.K ta) := by
  refine ⟨fun pins s σ H Q I h => methodCall_KW (ld_glob I hg hm (method_cls I.kIn B.sp (cls_value I.kIn B.rd B.fd (by decide +kernel) ?_)) hdb) hc⟩
  show wpAny _ _ (callWith pos (Value.builtin "ValueError.__init__") [] (backTo pos (starEach (e :: es) X.env)) []) _ _ _
  refine callWith_method1 (thn (ha.run pos pins _ σ H _ (I.tok _) h) fun us s1 hh => ?_) he hpl
  obtain ⟨vs, H1, I1, r1, a, C, ws, rfl, hl, T, ea, q⟩ := hh
  cases r1 with
  | @cons _ u0 _ ur ra rw' =>
    cases (show u0 = Value.ref a from ra)
    refine oinit_ok T I1 ea ?_ fun s' J => ⟨.non, H1, J, rfl, q⟩
    have hz := Paired.length rw'
    rw [sizeLine_eq]
    omega
/-- C(e, ..) as a value, its own __init__ keeping sp -/
def tMkE (C : Addr) (sp : Sp) (ta : TA) : TE := fun σ H Q => ta σ H fun vs H1 => vs.length ≤ 1000 ∧ ∀ a, H1 a = none → sp (.ref a :: vs) (upd H1 a (exo a C none)) (fun v H2 => v = .non ∧ Q (.ref a) H2) fun _ _ _ => False
theorem pe_mkE {X : Cx} {CX : CXT} {x : Str} {C fI : Addr} {k : Nat} {fd : FuncData} {ps : List Str} {sp : Sp} {e : Expr} {es : List Expr} {ta : TA} {p pos : Pos} (T : OexC X.K C) (iC : findIn X.K (.ref C) "__init__" = some (some (.ref fI))) (tI : typeIn X.K (.ref fI) = some (.type "function"))
    (F1 : FnG X.prog X.w X.K X.mg X.base CX k fI fd ps sp) (cl : Clr X.A) (hr : Room (k + 1) X.A) (hb : Binds X.K fd ps []) (hx : Passes CX X (fun _ _ _ => False)) (hg : Gl X x) (hm : X.mg x = some (.ref C)) (ha : PA X (e :: es) ta)
    (hdb : (x == ("__debug__" : Str)) = false := by decide) (he : starEach (e :: es) X.env = (false, eval e X.env) :: starEach es X.env := by rfl) (hpl : (backTo pos (starEach es X.env)).any (·.1) = false := by rfl) :
    PE X (.Call (.Name x p) (e :: es) [] pos) (tMkE C sp ta) := by
  refine ⟨fun pins s σ H Q I h => ?_⟩
  obtain ⟨nm, q, N, bs, bm, sn, sub, ab, col, dd, k0, k1, k2, k3, k5, hC, hbm⟩ := T.cls
  refine wpAny_Call_Name_kw (ld_glob I hg hm (callWith_K (h₀ := X.base) I.ok.mod.kin T.kC (thn (ha.run pos pins s σ H _ I h) fun us s1 hh => ?_) he hpl) hdb)
  obtain ⟨vs, H1, I1, r1, hz, q1⟩ := hh
  refine ⟨I1.kIn, ?_⟩
  obtain ⟨hh, gg, dr, tk, oo⟩ := s1
  have hsz : hh.objs.size ≤ hh.objs.size + 1 := Nat.le_succ _
  have hq := q1 (hh.objs.size + 1) (I1.hok.fresh hsz)
  have kk : ∀ b o, hh.get? b = some o → ((hh.push (kdv_tup us)).push (HandSPX.excO C hh.objs.size)).get? b = some o := fun b o z => Heap.get?_push_of_some _ (Heap.get?_push_of_some _ z)
  have hget : ((hh.push (kdv_tup us)).push (HandSPX.excO C hh.objs.size)).get? (hh.objs.size + 1) = some (HandSPX.excO C hh.objs.size) := by heap_get
  have I2 : Inv X pins σ (upd H1 (hh.objs.size + 1) (exo (hh.objs.size + 1) C none)) ⟨(hh.push (kdv_tup us)).push (HandSPX.excO C hh.objs.size), gg, dr, tk, oo⟩ :=
    I1.laid (t' := tk) (a := hh.objs.size + 1) (o := exo (hh.objs.size + 1) C none) (h' := (hh.push (kdv_tup us)).push (HandSPX.excO C hh.objs.size)) kk hsz (exo_ok hget)
  have r2 : Vals (V.ref (hh.objs.size + 1) :: vs) (Value.ref (hh.objs.size + 1) :: us) := .cons rfl r1
  have hl : (Value.ref (hh.objs.size + 1) :: us ++ []).length = ps.length := by
    rw [List.append_nil, ← F1.len _ _ _ _ hq]
    exact r2.length.symm
  have hb2 := hb ⟨(hh.push (kdv_tup us)).push (HandSPX.excO C hh.objs.size), gg, dr, tk, oo⟩ (Value.ref (hh.objs.size + 1) :: us) I2.kIn hl
  rw [List.append_nil] at hb2
  have hus : us.length ≤ sizeLine := by
    have := Paired.length r1
    rw [sizeLine_eq]
    omega
  refine wpAny_call (HandSPX.call_own F.excBase_ValueError (fun Y => HandSPX.refsVE_contains Y bm hbm) (I1.kIn _ _ hC) (looks_findIn I1.kIn iC) (fun self => bind_fn I1.kIn self tI) hus
    (codeAny_mono (F1.go _ X.stack _ _ ⟨Value.ref (hh.objs.size + 1) :: us, []⟩ (Value.ref (hh.objs.size + 1) :: us) _ _ (fun _ _ _ => False) (cl.made C us) (hr.make C us []) (I2.env0.make C us []) hb2 r2 hq) fun r s' hq' => ?_))
  match r, hq' with
  | .error er, z => exact hx pins σ _ _ er s' I2 z
  | .ok (.ret u), z =>
    obtain ⟨v, H2, J, rv, rfl, q2⟩ := I2.after z
    exact ⟨rv, .ref _, H2, J, rfl, q2⟩
end
end Any
set_option Elab.async false
set_option linter.all false
set_option maxRecDepth 100000
set_option maxHeartbeats 4000000
/-! Data of any depth, dicts within: how it is read, its repr, its place in an f-string. -/
namespace Any
open PySem PySem.Spec PyProof.Rows L2
/-- a key as data -/
def keyD : Key → PyData
  | .inl i => .int i
  | .inr x => .str x
mutual
inductive Dx (K : PySem.W.Frag) (H : Hp) : V → PyData → Prop
  | non : Dx K H .non .none
  | bl (b : Bool) : Dx K H (.bl b) (.bool b)
  | int (i : Int) : Dx K H (.int i) (.int i)
  | str (x : Str) : Dx K H (.str x) (.str x)
  | lst {a : Addr} {xs : List V} {ds : List PyData} (e : SqL K H a xs) (r : DxAll K H xs ds) : Dx K H (.ref a) (.list ds)
  | tup {a : Addr} {xs : List V} {ds : List PyData} (e : SqT K H a xs) (r : DxAll K H xs ds) : Dx K H (.ref a) (.tuple ds)
  | dct {a : Addr} {kvs : List (Key × V)} {ds : List (PyData × PyData)} (e : H a = some (.dK kvs)) (r : DxKv K H kvs ds) : Dx K H (.ref a) (.dict ds)
inductive DxAll (K : PySem.W.Frag) (H : Hp) : List V → List PyData → Prop
  | nil : DxAll K H [] []
  | cons {v : V} {vs : List V} {d : PyData} {ds : List PyData} (h : Dx K H v d) (r : DxAll K H vs ds) : DxAll K H (v :: vs) (d :: ds)
inductive DxKv (K : PySem.W.Frag) (H : Hp) : List (Key × V) → List (PyData × PyData) → Prop
  | nil : DxKv K H [] []
  | cons {k : Key} {v : V} {vs : List (Key × V)} {d : PyData} {ds : List (PyData × PyData)} (h : Dx K H v d) (r : DxKv K H vs ds) : DxKv K H ((k, v) :: vs) ((keyD k, d) :: ds)
end
/-- the written part holds the modules' dict -/
def SysD (K : PySem.W.Frag) : Prop := ∃ o : Obj, K.lookup sysModules = some o ∧ o.cls = .type "dict"
section
variable {X : Cx} {pins : List (Addr × Obj)} {σ : L2.St} {H : Hp} {s : Shared}
theorem not_sys (hS : SysD X.K) (I : Inv X pins σ H s) {a : Addr} {o : Obj} (e : s.heap.get? a = some o) (c : o.cls ≠ .type "dict") : ¬ sysModules = a := fun z => by
  obtain ⟨u, hu, hc⟩ := hS
  have q := I.kIn _ _ hu
  rw [z, e] at q
  cases q
  exact c hc
mutual
theorem Dx.reads (hS : SysD X.K) (I : Inv X pins σ H s) : ∀ (d : PyData) (v : V) (u : Value), Dx X.K H v d → RelV v u → ∃ as, Reads s.heap u d as ∧ sysModules ∉ as
  | .none, _, _, h, r => by
    cases h
    cases r
    exact ⟨_, Reads.none, List.not_mem_nil⟩
  | .bool b, _, _, h, r => by
    cases h
    cases r
    exact ⟨_, Reads.bool b, List.not_mem_nil⟩
  | .int i, _, _, h, r => by
    cases h
    obtain ⟨t, rfl⟩ := r
    exact ⟨_, Reads.int i t, List.not_mem_nil⟩
  | .str x, _, _, h, r => by
    cases h
    obtain ⟨t, rfl⟩ := r
    exact ⟨_, Reads.str x t, List.not_mem_nil⟩
  | .list ds, _, _, h, r => by
    cases h with
    | lst hs ha =>
      cases r
      obtain ⟨its, rv, ⟨o, n, ho, hc, _, hd⟩, _⟩ := I.list hs
      obtain ⟨as, hr, hn⟩ := Dx.readsAll hS I ds _ its ha rv
      exact ⟨_, Reads.list ho hc hd hr, fun m => (List.mem_cons.mp m).elim (not_sys hS I ho (by rw [hc]; intro z; injection z with z; revert z; decide)) hn⟩
  | .tuple ds, _, _, h, r => by
    cases h with
    | tup hs ha =>
      cases r
      obtain ⟨its, rv, ⟨o, ho, hc, n, hd⟩, _⟩ := I.tuple hs
      obtain ⟨as, hr, hn⟩ := Dx.readsAll hS I ds _ its ha rv
      exact ⟨_, Reads.tuple ho hc hd hr, hn⟩
  | .dict ds, _, _, h, r => by
    cases h with
    | dct e hr =>
      cases r
      obtain ⟨_, hb, vs, kv, dd⟩ := (show ObjOk X.prog X.w H s.heap _ (.dK _) from I.hok _ _ e)
      obtain ⟨as, p, hn⟩ := Dx.readsKv hS I ds _ vs hr kv
      refine ⟨_, PyProof.V.reads_dictOf (knd := mixKind X.prog X.w) (fun k key hk => ?_) dd p, fun m => (List.mem_cons.mp m).elim (fun z => ?_) hn⟩
      · rcases keyIs_shape hk with ⟨i, t, rfl, rfl⟩ | ⟨x, t, rfl, rfl⟩
        · exact Reads.int i t
        · exact Reads.str x t
      · rw [← z] at hb
        simp at hb
theorem Dx.readsAll (hS : SysD X.K) (I : Inv X pins σ H s) : ∀ (ds : List PyData) (vs : List V) (us : List Value), DxAll X.K H vs ds → Vals vs us → ∃ as, ReadsAll s.heap us ds as ∧ sysModules ∉ as
  | [], _, _, h, r => by
    cases h
    cases r
    exact ⟨_, ReadsAll.nil, List.not_mem_nil⟩
  | d :: ds, _, _, h, r => by
    cases h with
    | cons h1 h2 =>
      cases r with
      | cons r1 r2 =>
        obtain ⟨as, q1, n1⟩ := Dx.reads hS I d _ _ h1 r1
        obtain ⟨bs, q2, n2⟩ := Dx.readsAll hS I ds _ _ h2 r2
        exact ⟨_, ReadsAll.cons q1 q2, fun m => (List.mem_append.mp m).elim n1 n2⟩
theorem Dx.readsKv (hS : SysD X.K) (I : Inv X pins σ H s) : ∀ (ds : List (PyData × PyData)) (kvs : List (Key × V)) (vs : List (Key × Value)), DxKv X.K H kvs ds → KV kvs vs → ∃ as, PyProof.V.PairsRead s.heap keyD vs ds as ∧ sysModules ∉ as
  | [], _, _, h, r => by
    cases h
    cases r
    exact ⟨_, .nil, List.not_mem_nil⟩
  | (_, d) :: ds, _, (k', u) :: vs, h, r => by
    cases h with
    | cons h1 h2 =>
      cases r with
      | cons r1 r2 =>
        obtain ⟨e, r1⟩ := r1
        have e' := e
        dsimp only at e'
        subst e'
        obtain ⟨as, q1, n1⟩ := Dx.reads hS I d _ _ h1 r1
        obtain ⟨bs, q2, n2⟩ := Dx.readsKv hS I ds _ _ h2 r2
        exact ⟨_, .cons q1 q2, fun m => (List.mem_append.mp m).elim n1 n2⟩
  | (_, _) :: _, _, [], h, r => by
    cases h
    cases r
end
end
/-- repr(x) -/
def rRepr (K : PySem.W.Frag) : List V → Hp → VK → Prop := fun xs H Q => ∃ (x : V) (d : PyData), xs = [x] ∧ Dx K H x d ∧ d.showable = true ∧ d.depth ≤ 60 ∧ d.shown.length ≤ sizeLine ∧ Q (.str d.shown) H
theorem call_repr {X : Cx} (hS : SysD X.K) (cl : Clr X.A) (hu : X.A.units + 64 < cLine) : CallR X (.builtin "repr") (rRepr X.K) := by
  intro pins s σ H xs us Q I r h
  obtain ⟨x, d, rfl, hd, hs, hp, hz, q⟩ := h
  obtain ⟨u, rfl, ru⟩ := vals1 r
  obtain ⟨as, rd, hn⟩ := Dx.reads hS I d x u hd ru
  have fin : ∀ t tk, EP X pins σ Q (.str d.shown t) { s with toks := tk } := fun t tk => ⟨.str d.shown, H, I.tok tk, ⟨t, rfl⟩, q⟩
  cases rd with
  | none => exact PySem.P.repr_of_none (fin _ _)
  | bool b => exact PySem.P.repr_of_bool (by cases b <;> exact fin _ _)
  | int i t => exact PySem.P.repr_of_int (by simpa [PyData.showable] using hs) (fin _ _)
  | str y t => exact PySem.P.repr_of_str (fin _ _) hz
  | list h1 h2 h3 h4 => exact repr_of_reads' (.list h1 h2 h3 h4) hs (fun _ => hn) cl (by omega) (fun _ _ e => e) (fun h' t tk k => ⟨.str _, H, I.kept (t' := tk) k, ⟨t, rfl⟩, q⟩) hz
  | tuple h1 h2 h3 h4 => exact repr_of_reads' (.tuple h1 h2 h3 h4) hs (fun _ => hn) cl (by omega) (fun _ _ e => e) (fun h' t tk k => ⟨.str _, H, I.kept (t' := tk) k, ⟨t, rfl⟩, q⟩) hz
  | dict h1 h2 h3 h4 h5 => exact repr_of_reads' (.dict h1 h2 h3 h4 h5) hs (fun _ => hn) cl (by omega) (fun _ _ e => e) (fun h' t tk k => ⟨.str _, H, I.kept (t' := tk) k, ⟨t, rfl⟩, q⟩) hz
/-- {x} in an f-string: some text of at most n signs -/
def tFmtX (K : PySem.W.Frag) (n : Nat) (te : TE) : TE := fun σ H Q => te σ H fun x H1 => ∃ d : PyData, Dx K H1 x d ∧ d.showable = true ∧ d.depth ≤ 60 ∧ d.shown.length ≤ n ∧ n ≤ sizeLine ∧ (∀ y, d = .str y → y.length ≤ n) ∧ ∀ m : Str, m.length ≤ n → Q (.str m) H1
theorem pe_fmtX {X : Cx} {n : Nat} {e : Expr} {te : TE} {pos : Pos} (hS : SysD X.K) (cl : Clr X.A) (hu : X.A.units + 64 < cLine) (he : PE X e te) : PE X (.FormattedValue e (-1) none pos) (tFmtX X.K n te) := by
  refine ⟨fun pins s σ H Q I h => wpAny_FormattedValue_plain (thn (he.run pins s σ H _ I h) fun u s1 hv => ?_)⟩
  obtain ⟨x, H1, I1, ru, d, hd, hs, hp, hz, hn0, hy, q⟩ := hv
  obtain ⟨as, rd, hn⟩ := Dx.reads hS I1 d x u hd ru
  have fin : ∀ (m : Str) t tk, m.length ≤ n → EP X pins σ Q (.str m t) { s1 with toks := tk } := fun m t tk hm => ⟨.str m, H1, I1.tok tk, ⟨t, rfl⟩, q m hm⟩
  have hz2 := Nat.le_trans hz hn0
  cases rd with
  | none => exact wpAny_formatField_none (fin _ _ _ hz)
  | bool b => exact wpAny_formatField_bool (fin _ _ _ (by cases b <;> exact hz))
  | int i t => exact wpAny_formatField_int (by simpa [PyData.showable] using hs) (fin _ _ _ hz)
  | str y t => exact wpAny_formatField_str ⟨.str y, H1, I1, ⟨t, rfl⟩, q y (hy y rfl)⟩ (fin _ _ _ (hy y rfl)) (Nat.le_trans (hy y rfl) hn0)
  | list h1 h2 h3 h4 => exact formatField_of_reads (.list h1 h2 h3 h4) hs (fun _ => hn) cl (by omega) (fun _ _ e => e) (fun h' t tk k => ⟨.str _, H1, I1.kept (t' := tk) k, ⟨t, rfl⟩, q _ hz⟩) hz2
  | tuple h1 h2 h3 h4 => exact formatField_of_reads (.tuple h1 h2 h3 h4) hs (fun _ => hn) cl (by omega) (fun _ _ e => e) (fun h' t tk k => ⟨.str _, H1, I1.kept (t' := tk) k, ⟨t, rfl⟩, q _ hz⟩) hz2
  | dict h1 h2 h3 h4 h5 => exact formatField_of_reads (.dict h1 h2 h3 h4 h5) hs (fun _ => hn) cl (by omega) (fun _ _ e => e) (fun h' t tk k => ⟨.str _, H1, I1.kept (t' := tk) k, ⟨t, rfl⟩, q _ hz⟩) hz2
end Any
set_option Elab.async false
set_option linter.all false
set_option maxRecDepth 100000
set_option maxHeartbeats 4000000
/-! The errors: made, told, asked. -/
namespace Any
open PySem PySem.Spec PyProof.Rows L2
open He (ga ma)
abbrev sPlain : Stmt := top 61
abbrev sTold : Stmt := top 62
abbrev sClasses : Stmt := top 63
abbrev sLaw : Stmt := top 64
abbrev iScope : Stmt := inClass (top 37) 0
abbrev iText : Stmt := inClass (top 42) 0
abbrev iMany : Stmt := inClass (top 54) 0
abbrev iUnnamed : Stmt := inClass (top 55) 0
def nms : List Str := (["BadBarred", "BadBase", "BadChoice", "BadContext", "BadContract", "BadDocument", "BadEnds", "BadEvents", "BadGoal", "BadGrouping", "BadHeld", "BadInputs", "BadKept", "BadKind", "BadLevel", "BadLot", "BadMachine", "BadMaker", "BadMany", "BadMemory", "BadModes", "BadMost", "BadNames", "BadNumber", "BadOptions", "BadPairs", "BadPart", "BadPath", "BadPiece", "BadPins", "BadProgram", "BadPrograms", "BadRecords", "BadRow", "BadRuin", "BadScope", "BadSecond", "BadShowing", "BadStanding", "BadTerms", "BadText", "BadThing", "BadTrace", "BadWidth", "FixedFill", "NotAhead", "NotTold", "NothingDone", "NothingUndone", "OtherChoice", "Ruined", "Tight", "TooMany", "Unnamed"] : List String).map Str.ofString
def plainN : List Str := (["BadBarred", "BadBase", "BadChoice", "BadContext", "BadContract", "BadDocument", "BadEnds", "BadEvents", "BadGoal", "BadGrouping", "BadHeld", "BadInputs", "BadKept", "BadKind", "BadLevel", "BadLot", "BadMachine", "BadMaker", "BadMany", "BadMemory", "BadModes", "BadMost", "BadNames", "BadNumber", "BadOptions", "BadPairs", "BadPart", "BadPath", "BadPiece", "BadPins", "BadProgram", "BadPrograms", "BadRecords", "BadRow", "BadRuin", "BadSecond", "BadShowing", "BadStanding", "BadTerms", "BadThing", "BadTrace", "BadWidth", "FixedFill", "NotAhead", "NotTold", "NothingDone", "NothingUndone", "OtherChoice", "Ruined", "Tight"] : List String).map Str.ofString
def toldN : List Str := (["BadScope", "BadText", "TooMany", "Unnamed"] : List String).map Str.ofString
theorem mem_n {x : Str} (h : (nms.any fun y => decide (y = x)) = true) : x ∈ nms := by
  obtain ⟨y, hy, e⟩ := List.any_eq_true.mp h
  rw [← of_decide_eq_true e]
  exact hy
theorem mem_p {x : Str} (h : (plainN.any fun y => decide (y = x)) = true) : x ∈ plainN := by
  obtain ⟨y, hy, e⟩ := List.any_eq_true.mp h
  rw [← of_decide_eq_true e]
  exact hy
/-- what the written part says -/
structure T16 (K : PySem.W.Frag) (mg : Str → Option Value) : Prop where
  d : DTxt mg
  isi : mg "isinstance" = none
  enu : mg "enumerate" = none
  set : mg "set" = none
  rpr : mg "repr" = none
  ve : mg "ValueError" = none
  sys : SysD K
  g : ∀ x ∈ nms, mg x = some (.ref (ga K x))
  gM : mg "MakerError" = some (.ref (ga K "MakerError"))
  kit : ∀ x ∈ nms, ∀ y ∈ nms, PySem.W.kitOne K (.ref (ga K x)) (.ref (ga K y)) = some (decide (x = y))
  kitM : ∀ x ∈ nms, PySem.W.kitOne K (.ref (ga K x)) (.ref (ga K "MakerError")) = some true
  kitV : ∀ x ∈ nms, PySem.W.kitOne K (.ref (ga K x)) (.type "ValueError") = some true
  err : ∀ x ∈ nms, ErrC K (ga K x)
  exc : ∀ x ∈ plainN, PySem.W.excIn K (ga K x) [.type "ValueError", .type "Exception", .type "BaseException", .type "object"] "ValueError.__new__" = true
  kep : ∀ x ∈ nms, PySem.W.keepIn K (.ref (ga K x)) = true
  oex : ∀ x ∈ toldN, OexC K (ga K x)
  ini : ∀ x ∈ toldN, PySem.W.findIn K (.ref (ga K x)) "__init__" = some (some (.ref (ma K (ga K x) "__init__"))) ∧ PySem.W.typeIn K (.ref (ma K (ga K x) "__init__")) = some (.type "function")
  base : BaseI K (ga K "MakerError")
  noS : PySem.W.findIn K (.ref (ga K "BadScope")) "kind" = some none
  noL : PySem.W.findIn K (.ref (ga K "BadText")) "line" = some none
  noC : PySem.W.findIn K (.ref (ga K "BadText")) "column" = some none
  noW : PySem.W.findIn K (.ref (ga K "BadText")) "wanted" = some none
  noM : PySem.W.findIn K (.ref (ga K "TooMany")) "most" = some none
  noN : PySem.W.findIn K (.ref (ga K "Unnamed")) "name" = some none
theorem PA.imp {X : Cx} {es : List Expr} {t t' : TA} (h : PA X es t) (i : ∀ σ H Q, t' σ H Q → t σ H Q) : PA X es t' := ⟨fun p pins s σ H Q I q => h.run p pins s σ H Q I (i σ H Q q)⟩
section
variable {X : Cx}
/-! ### rows of isinstance -/
def tIsis (K : PySem.W.Frag) (ys : List Str) : TA := fun σ H Q => ∃ (a : Addr) (x : Str) (fs : List (Str × V)), σ[0]? = some (some (.ref a)) ∧ x ∈ nms ∧ ErrAt H a (ga K x) fs ∧ Q (ys.map fun y => V.bl (decide (x = y))) H
theorem pa_isi0 {K : PySem.W.Frag} : PA X [] (tIsis K []) := PA.imp pa_nil fun _ _ _ ⟨_, _, _, _, _, _, q⟩ => q
theorem pa_isi {y : Str} {ys : List Str} {es : List Expr} {p q r pos : Pos} (T : T16 X.K X.mg) (hy : y ∈ nms) (h : PA X es (tIsis X.K ys)) (h0 : PE X (.Name "error" q) (tVar 0)) (gi : Gl X "isinstance") (gy : Gl X y) (dy : (y == ("__debug__" : Str)) = false)
    (he : starEach (.Name "error" q :: [.Name y r]) X.env = (false, eval (.Name "error" q) X.env) :: starEach [.Name y r] X.env := by rfl) (he2 : starEach (.Name y r :: []) X.env = (false, eval (.Name y r) X.env) :: starEach [] X.env := by rfl)
    (hpl : (backTo pos (starEach [.Name y r] X.env)).any (·.1) = false := by rfl)
    (hs : starEach (.Call (.Name "isinstance" p) [.Name "error" q, .Name y r] [] pos :: es) X.env = (false, eval (.Call (.Name "isinstance" p) [.Name "error" q, .Name y r] [] pos) X.env) :: starEach es X.env := by rfl) :
    PA X (.Call (.Name "isinstance" p) [.Name "error" q, .Name y r] [] pos :: es) (tIsis X.K (y :: ys)) := by
  refine PA.imp (pa_cons (pe_callB call_isErr gi T.isi (by decide +kernel) (pa_cons h0 (pa_cons (pe_glob (v := .ref (ga X.K y)) gy (T.g y hy) rfl dy) pa_nil he2) he) (by decide) (by decide) he hpl) h hs) fun σ H Q hh => ?_
  obtain ⟨a, x, fs, h0, hx, ea, q⟩ := hh
  exact ⟨_, h0, a, _, fs, _, _, _, rfl, ea, T.err x hx, .own _, T.kit x hx y hy, a, x, fs, h0, hx, ea, q⟩
/-! ### rows of plain errors -/
def tErrs (K : PySem.W.Frag) (ys : List Str) : TA := fun _ H Q => ∀ (as : List Addr) (H' : Hp), Paired (fun a y => ErrAt H' a (ga K y) []) as ys → Same H H' → Q (as.map V.ref) H'
theorem pairs_same {K : PySem.W.Frag} {H H' : Hp} {as : List Addr} {ys : List Str} (s : Same H H') (p : Paired (fun a y => ErrAt H a (ga K y) []) as ys) : Paired (fun a y => ErrAt H' a (ga K y) []) as ys := L2.Paired.mapP p fun _ _ e => e.same s
theorem same_new {H : Hp} {p : Addr} {o : HO} (h : H p = none) : Same H (upd H p o) := fun b q e => by
  rw [upd_ne (ne_of_none e h)]
  exact e
theorem pa_err0 {K : PySem.W.Frag} : PA X [] (tErrs K []) := PA.imp pa_nil fun _ H _ q => q [] H .nil (Same.refl H)
theorem pa_err {y : Str} {ys : List Str} {es : List Expr} {m : Str} {j : Nat} {p q pos : Pos} (T : T16 X.K X.mg) (hy : y ∈ nms) (hp : y ∈ plainN) (h : PA X es (tErrs X.K ys)) (gy : Gl X y) (dy : (y == ("__debug__" : Str)) = false)
    (he : starEach [.Constant (.str m) j q] X.env = (false, eval (.Constant (.str m) j q) X.env) :: starEach [] X.env := by rfl)
    (hs : starEach (.Call (.Name y p) [.Constant (.str m) j q] [] pos :: es) X.env = (false, eval (.Call (.Name y p) [.Constant (.str m) j q] [] pos) X.env) :: starEach es X.env := by rfl) :
    PA X (.Call (.Name y p) [.Constant (.str m) j q] [] pos :: es) (tErrs X.K (y :: ys)) := by
  refine PA.imp (pa_cons (pe_exc1 PySem.F.excBase_ValueError (T.exc y hp) (T.g y hy) (T.kep y hy) gy pe_str he dy) h hs) fun σ H Q hh => ?_
  intro a ha as H' pr sm
  exact hh (a :: as) H' (.cons (.inl ⟨rfl, sm _ _ upd_same⟩) pr) ((same_new ha).trans sm)
end
section
variable {P : Program} {w : World} {K : PySem.W.Frag} {mg : Str → Option Value} {base : Heap}
theorem scPl : FnScope ["found"] [] (defScope sPlain) := ⟨rfl, rfl, rfl, by decide +kernel, rfl, by decide +kernel, by decide +kernel⟩
def spPlain (K : PySem.W.Frag) : Sp := fun vs H Q _ => vs = [] ∧ ∀ (p : Addr) (as : List Addr) (H' : Hp), H' p = some (.lst (as.map V.ref)) → H p = none → Paired (fun a y => ErrAt H' a (ga K y) []) as plainN → Same H H' → Q (.ref p) H'
theorem paired_app {α β : Type} {F : α → β → Prop} : ∀ {a b : List α} {c d : List β}, Paired F a c → Paired F b d → Paired F (a ++ b) (c ++ d)
  | _, _, _, _, .nil, h => h
  | _, _, _, _, .cons r t, h => .cons r (paired_app t h)
theorem paired_len {α β : Type} {F : α → β → Prop} {a : List α} {c : List β} (h : Paired F a c) : a.length = c.length := Paired.length h
theorem ok_plain {f : Addr} {fd : FuncData} (F : Fun K "_law_plain_errors" "_law_plain_errors" sPlain f fd) (T : T16 K mg) : FnOk P w K mg base CX0 1 f fd [] (spPlain K) := by
  refine F.ok scPl (fun vs H Q E h => ?_) (fun cdv A outer s H vs Q E hr h => ?_)
  · rw [h.1]
    rfl
  · obtain ⟨rfl, k⟩ := h
    refine ⟨_, (pss_cons (ps_set (i := 0) scPl.nd rfl (Or.inl rfl) (pe_lst (pa_err (y := "BadBarred") T (mem_n (by decide +kernel)) (mem_p (by decide +kernel)) (pa_err (y := "BadBase") T (mem_n (by decide +kernel)) (mem_p (by decide +kernel)) (pa_err (y := "BadChoice") T (mem_n (by decide +kernel)) (mem_p (by decide +kernel)) (pa_err (y := "BadContext") T (mem_n (by decide +kernel)) (mem_p (by decide +kernel)) (pa_err (y := "BadContract") T (mem_n (by decide +kernel)) (mem_p (by decide +kernel)) (pa_err (y := "BadDocument") T (mem_n (by decide +kernel)) (mem_p (by decide +kernel)) (pa_err (y := "BadEnds") T (mem_n (by decide +kernel)) (mem_p (by decide +kernel)) (pa_err (y := "BadEvents") T (mem_n (by decide +kernel)) (mem_p (by decide +kernel)) (pa_err (y := "BadGoal") T (mem_n (by decide +kernel)) (mem_p (by decide +kernel)) pa_err0 rfl (by decide)) rfl (by decide)) rfl (by decide)) rfl (by decide)) rfl (by decide)) rfl (by decide)) rfl (by decide)) rfl (by decide)) rfl (by decide))))
      (pss_cons (ps_set (i := 0) scPl.nd rfl (Or.inl rfl) (pe_op op_cat (pv 0) (pe_lst (pa_err (y := "BadGrouping") T (mem_n (by decide +kernel)) (mem_p (by decide +kernel)) (pa_err (y := "BadHeld") T (mem_n (by decide +kernel)) (mem_p (by decide +kernel)) (pa_err (y := "BadInputs") T (mem_n (by decide +kernel)) (mem_p (by decide +kernel)) (pa_err (y := "BadKept") T (mem_n (by decide +kernel)) (mem_p (by decide +kernel)) (pa_err (y := "BadKind") T (mem_n (by decide +kernel)) (mem_p (by decide +kernel)) (pa_err (y := "BadLevel") T (mem_n (by decide +kernel)) (mem_p (by decide +kernel)) (pa_err (y := "BadLot") T (mem_n (by decide +kernel)) (mem_p (by decide +kernel)) (pa_err (y := "BadMachine") T (mem_n (by decide +kernel)) (mem_p (by decide +kernel)) (pa_err (y := "BadMaker") T (mem_n (by decide +kernel)) (mem_p (by decide +kernel)) (pa_err (y := "BadMany") T (mem_n (by decide +kernel)) (mem_p (by decide +kernel)) pa_err0 rfl (by decide)) rfl (by decide)) rfl (by decide)) rfl (by decide)) rfl (by decide)) rfl (by decide)) rfl (by decide)) rfl (by decide)) rfl (by decide)) rfl (by decide)))))
      (pss_cons (ps_set (i := 0) scPl.nd rfl (Or.inl rfl) (pe_op op_cat (pv 0) (pe_lst (pa_err (y := "BadMemory") T (mem_n (by decide +kernel)) (mem_p (by decide +kernel)) (pa_err (y := "BadModes") T (mem_n (by decide +kernel)) (mem_p (by decide +kernel)) (pa_err (y := "BadMost") T (mem_n (by decide +kernel)) (mem_p (by decide +kernel)) (pa_err (y := "BadNames") T (mem_n (by decide +kernel)) (mem_p (by decide +kernel)) (pa_err (y := "BadNumber") T (mem_n (by decide +kernel)) (mem_p (by decide +kernel)) (pa_err (y := "BadOptions") T (mem_n (by decide +kernel)) (mem_p (by decide +kernel)) (pa_err (y := "BadPairs") T (mem_n (by decide +kernel)) (mem_p (by decide +kernel)) (pa_err (y := "BadPart") T (mem_n (by decide +kernel)) (mem_p (by decide +kernel)) (pa_err (y := "BadPath") T (mem_n (by decide +kernel)) (mem_p (by decide +kernel)) (pa_err (y := "BadPiece") T (mem_n (by decide +kernel)) (mem_p (by decide +kernel)) pa_err0 rfl (by decide)) rfl (by decide)) rfl (by decide)) rfl (by decide)) rfl (by decide)) rfl (by decide)) rfl (by decide)) rfl (by decide)) rfl (by decide)) rfl (by decide)))))
      (pss_cons (ps_set (i := 0) scPl.nd rfl (Or.inl rfl) (pe_op op_cat (pv 0) (pe_lst (pa_err (y := "BadPins") T (mem_n (by decide +kernel)) (mem_p (by decide +kernel)) (pa_err (y := "BadProgram") T (mem_n (by decide +kernel)) (mem_p (by decide +kernel)) (pa_err (y := "BadPrograms") T (mem_n (by decide +kernel)) (mem_p (by decide +kernel)) (pa_err (y := "BadRecords") T (mem_n (by decide +kernel)) (mem_p (by decide +kernel)) (pa_err (y := "BadRow") T (mem_n (by decide +kernel)) (mem_p (by decide +kernel)) (pa_err (y := "BadRuin") T (mem_n (by decide +kernel)) (mem_p (by decide +kernel)) (pa_err (y := "BadSecond") T (mem_n (by decide +kernel)) (mem_p (by decide +kernel)) (pa_err (y := "BadShowing") T (mem_n (by decide +kernel)) (mem_p (by decide +kernel)) (pa_err (y := "BadStanding") T (mem_n (by decide +kernel)) (mem_p (by decide +kernel)) pa_err0 rfl (by decide)) rfl (by decide)) rfl (by decide)) rfl (by decide)) rfl (by decide)) rfl (by decide)) rfl (by decide)) rfl (by decide)) rfl (by decide)))))
      (pss_cons (ps_set (i := 0) scPl.nd rfl (Or.inl rfl) (pe_op op_cat (pv 0) (pe_lst (pa_err (y := "BadTerms") T (mem_n (by decide +kernel)) (mem_p (by decide +kernel)) (pa_err (y := "BadThing") T (mem_n (by decide +kernel)) (mem_p (by decide +kernel)) (pa_err (y := "BadTrace") T (mem_n (by decide +kernel)) (mem_p (by decide +kernel)) (pa_err (y := "BadWidth") T (mem_n (by decide +kernel)) (mem_p (by decide +kernel)) (pa_err (y := "FixedFill") T (mem_n (by decide +kernel)) (mem_p (by decide +kernel)) (pa_err (y := "NotAhead") T (mem_n (by decide +kernel)) (mem_p (by decide +kernel)) (pa_err (y := "NotTold") T (mem_n (by decide +kernel)) (mem_p (by decide +kernel)) (pa_err (y := "NothingDone") T (mem_n (by decide +kernel)) (mem_p (by decide +kernel)) (pa_err (y := "NothingUndone") T (mem_n (by decide +kernel)) (mem_p (by decide +kernel)) pa_err0 rfl (by decide)) rfl (by decide)) rfl (by decide)) rfl (by decide)) rfl (by decide)) rfl (by decide)) rfl (by decide)) rfl (by decide)) rfl (by decide)))))
      (pss_cons (ps_set (i := 0) scPl.nd rfl (Or.inl rfl) (pe_op op_cat (pv 0) (pe_lst (pa_err (y := "OtherChoice") T (mem_n (by decide +kernel)) (mem_p (by decide +kernel)) (pa_err (y := "Ruined") T (mem_n (by decide +kernel)) (mem_p (by decide +kernel)) (pa_err (y := "Tight") T (mem_n (by decide +kernel)) (mem_p (by decide +kernel)) pa_err0 rfl (by decide)) rfl (by decide)) rfl (by decide)))))
      (pss_one (ps_ret (pv 0))))))))), ?_⟩
    intro as0 H0 p0 s0
    refine ⟨by rw [List.length_map, paired_len p0]; decide, fun l0 hl0 => ?_⟩
    have sm0 : Same H (upd H0 l0 (.lst (as0.map V.ref))) := s0.trans (same_new hl0)
    have q0 := pairs_same (same_new (o := .lst (as0.map V.ref)) hl0) p0
    have e0 : (upd H0 l0 (.lst (as0.map V.ref))) l0 = some (.lst (as0.map V.ref)) := upd_same
    have f0 : H l0 = none := s0.free hl0
    generalize upd H0 l0 (.lst (as0.map V.ref)) = G0 at *
    -- row 1
    refine ⟨_, rfl, ?_⟩
    intro bs1 H1 p1 s1
    refine ⟨by rw [List.length_map, paired_len p1]; decide, fun m1 hm1 => ?_⟩
    have t1 := s1.trans (same_new (o := .lst (bs1.map V.ref)) hm1)
    refine ⟨l0, m1, _, _, rfl, rfl, t1 _ _ e0, upd_same, by rw [List.length_map, List.length_map, paired_len q0, paired_len p1]; decide, fun l1 hl1 => ?_⟩
    rw [← List.map_append]
    have u1 := t1.trans (same_new (o := .lst ((as0 ++ bs1).map V.ref)) hl1)
    have sm1 := sm0.trans u1
    have q1 := pairs_same (same_new (o := .lst ((as0 ++ bs1).map V.ref)) hl1) (paired_app (pairs_same t1 q0) (pairs_same (same_new (o := .lst (bs1.map V.ref)) hm1) p1))
    have e1 : (upd (upd H1 m1 (.lst (bs1.map V.ref))) l1 (.lst ((as0 ++ bs1).map V.ref))) l1 = some (.lst ((as0 ++ bs1).map V.ref)) := upd_same
    have f1 : H l1 = none := (sm0.trans t1).free hl1
    generalize upd (upd H1 m1 (.lst (bs1.map V.ref))) l1 (.lst ((as0 ++ bs1).map V.ref)) = G1 at *
    generalize as0 ++ bs1 = as1 at *
    -- row 2
    refine ⟨_, rfl, ?_⟩
    intro bs2 H2 p2 s2
    refine ⟨by rw [List.length_map, paired_len p2]; decide, fun m2 hm2 => ?_⟩
    have t2 := s2.trans (same_new (o := .lst (bs2.map V.ref)) hm2)
    refine ⟨l1, m2, _, _, rfl, rfl, t2 _ _ e1, upd_same, by rw [List.length_map, List.length_map, paired_len q1, paired_len p2]; decide, fun l2 hl2 => ?_⟩
    rw [← List.map_append]
    have u2 := t2.trans (same_new (o := .lst ((as1 ++ bs2).map V.ref)) hl2)
    have sm2 := sm1.trans u2
    have q2 := pairs_same (same_new (o := .lst ((as1 ++ bs2).map V.ref)) hl2) (paired_app (pairs_same t2 q1) (pairs_same (same_new (o := .lst (bs2.map V.ref)) hm2) p2))
    have e2 : (upd (upd H2 m2 (.lst (bs2.map V.ref))) l2 (.lst ((as1 ++ bs2).map V.ref))) l2 = some (.lst ((as1 ++ bs2).map V.ref)) := upd_same
    have f2 : H l2 = none := (sm1.trans t2).free hl2
    generalize upd (upd H2 m2 (.lst (bs2.map V.ref))) l2 (.lst ((as1 ++ bs2).map V.ref)) = G2 at *
    generalize as1 ++ bs2 = as2 at *
    -- row 3
    refine ⟨_, rfl, ?_⟩
    intro bs3 H3 p3 s3
    refine ⟨by rw [List.length_map, paired_len p3]; decide, fun m3 hm3 => ?_⟩
    have t3 := s3.trans (same_new (o := .lst (bs3.map V.ref)) hm3)
    refine ⟨l2, m3, _, _, rfl, rfl, t3 _ _ e2, upd_same, by rw [List.length_map, List.length_map, paired_len q2, paired_len p3]; decide, fun l3 hl3 => ?_⟩
    rw [← List.map_append]
    have u3 := t3.trans (same_new (o := .lst ((as2 ++ bs3).map V.ref)) hl3)
    have sm3 := sm2.trans u3
    have q3 := pairs_same (same_new (o := .lst ((as2 ++ bs3).map V.ref)) hl3) (paired_app (pairs_same t3 q2) (pairs_same (same_new (o := .lst (bs3.map V.ref)) hm3) p3))
    have e3 : (upd (upd H3 m3 (.lst (bs3.map V.ref))) l3 (.lst ((as2 ++ bs3).map V.ref))) l3 = some (.lst ((as2 ++ bs3).map V.ref)) := upd_same
    have f3 : H l3 = none := (sm2.trans t3).free hl3
    generalize upd (upd H3 m3 (.lst (bs3.map V.ref))) l3 (.lst ((as2 ++ bs3).map V.ref)) = G3 at *
    generalize as2 ++ bs3 = as3 at *
    -- row 4
    refine ⟨_, rfl, ?_⟩
    intro bs4 H4 p4 s4
    refine ⟨by rw [List.length_map, paired_len p4]; decide, fun m4 hm4 => ?_⟩
    have t4 := s4.trans (same_new (o := .lst (bs4.map V.ref)) hm4)
    refine ⟨l3, m4, _, _, rfl, rfl, t4 _ _ e3, upd_same, by rw [List.length_map, List.length_map, paired_len q3, paired_len p4]; decide, fun l4 hl4 => ?_⟩
    rw [← List.map_append]
    have u4 := t4.trans (same_new (o := .lst ((as3 ++ bs4).map V.ref)) hl4)
    have sm4 := sm3.trans u4
    have q4 := pairs_same (same_new (o := .lst ((as3 ++ bs4).map V.ref)) hl4) (paired_app (pairs_same t4 q3) (pairs_same (same_new (o := .lst (bs4.map V.ref)) hm4) p4))
    have e4 : (upd (upd H4 m4 (.lst (bs4.map V.ref))) l4 (.lst ((as3 ++ bs4).map V.ref))) l4 = some (.lst ((as3 ++ bs4).map V.ref)) := upd_same
    have f4 : H l4 = none := (sm3.trans t4).free hl4
    generalize upd (upd H4 m4 (.lst (bs4.map V.ref))) l4 (.lst ((as3 ++ bs4).map V.ref)) = G4 at *
    generalize as3 ++ bs4 = as4 at *
    -- row 5
    refine ⟨_, rfl, ?_⟩
    intro bs5 H5 p5 s5
    refine ⟨by rw [List.length_map, paired_len p5]; decide, fun m5 hm5 => ?_⟩
    have t5 := s5.trans (same_new (o := .lst (bs5.map V.ref)) hm5)
    refine ⟨l4, m5, _, _, rfl, rfl, t5 _ _ e4, upd_same, by rw [List.length_map, List.length_map, paired_len q4, paired_len p5]; decide, fun l5 hl5 => ?_⟩
    rw [← List.map_append]
    have u5 := t5.trans (same_new (o := .lst ((as4 ++ bs5).map V.ref)) hl5)
    have sm5 := sm4.trans u5
    have q5 := pairs_same (same_new (o := .lst ((as4 ++ bs5).map V.ref)) hl5) (paired_app (pairs_same t5 q4) (pairs_same (same_new (o := .lst (bs5.map V.ref)) hm5) p5))
    have e5 : (upd (upd H5 m5 (.lst (bs5.map V.ref))) l5 (.lst ((as4 ++ bs5).map V.ref))) l5 = some (.lst ((as4 ++ bs5).map V.ref)) := upd_same
    have f5 : H l5 = none := (sm4.trans t5).free hl5
    generalize upd (upd H5 m5 (.lst (bs5.map V.ref))) l5 (.lst ((as4 ++ bs5).map V.ref)) = G5 at *
    generalize as4 ++ bs5 = as5 at *
    refine ⟨_, rfl, ?_⟩
    exact k l5 as5 G5 e5 f5 q5 sm5
end
end Any
set_option Elab.async false
set_option linter.all false
set_option maxRecDepth 100000
set_option maxHeartbeats 4000000
/-! The errors that bear something. -/
namespace Any
open PySem PySem.Spec PyProof.Rows L2
open He (ga ma)
/-! ### data stays -/
theorem seqT_same {K : PySem.W.Frag} {H H' : Hp} {a : Addr} {xs : List V} (e : Same H H') (h : SqT K H a xs) : SqT K H' a xs := by
  rcases h with (h | ⟨o, h⟩) | h
  · exact .inl (.inl (e _ _ h))
  · exact .inl (.inr ⟨o, e _ _ h⟩)
  · exact .inr h
mutual
theorem Dx.same {K : PySem.W.Frag} {H H' : Hp} (s : Same H H') : ∀ (d : PyData) (v : V), Dx K H v d → Dx K H' v d
  | .none, _, h => by
    cases h
    exact .non
  | .bool b, _, h => by
    cases h
    exact .bl b
  | .int i, _, h => by
    cases h
    exact .int i
  | .str x, _, h => by
    cases h
    exact .str x
  | .list ds, _, h => by
    cases h with
    | lst e r => exact .lst (s.seq e) (Dx.sameAll s ds _ r)
  | .tuple ds, _, h => by
    cases h with
    | tup e r => exact .tup (seqT_same s e) (Dx.sameAll s ds _ r)
  | .dict ds, _, h => by
    cases h with
    | dct e r => exact .dct (s _ _ e) (Dx.sameKv s ds _ r)
theorem Dx.sameAll {K : PySem.W.Frag} {H H' : Hp} (s : Same H H') : ∀ (ds : List PyData) (vs : List V), DxAll K H vs ds → DxAll K H' vs ds
  | [], _, h => by
    cases h
    exact .nil
  | d :: ds, _, h => by
    cases h with
    | cons h r => exact .cons (Dx.same s d _ h) (Dx.sameAll s ds _ r)
theorem Dx.sameKv {K : PySem.W.Frag} {H H' : Hp} (s : Same H H') : ∀ (ds : List (PyData × PyData)) (vs : List (Key × V)), DxKv K H vs ds → DxKv K H' vs ds
  | [], _, h => by
    cases h
    exact .nil
  | (_, d) :: ds, _, h => by
    cases h with
    | cons h r => exact .cons (Dx.same s d _ h) (Dx.sameKv s ds _ r)
end
theorem Dx.sm {K : PySem.W.Frag} {H H' : Hp} {v : V} {d : PyData} (h : Dx K H v d) (s : Same H H') : Dx K H' v d := Dx.same s d v h
/-! ### the menu -/
def menuD : List PyData := [.none, .int 0, .int (-7), .str "x", .str "", .tuple [.int 1, .int 2], .list [.int 3], .dict [(.str "a", .int 4)], .bool true, .int (10 ^ 20)]
def smlB (d : PyData) : Bool := d.showable && (decide (d.depth ≤ 60) && (decide (d.shown.length ≤ 1000) && (match d with
  | .str y => decide (y.length ≤ 1000)
  | _ => true)))
structure Sml (d : PyData) : Prop where
  sh : d.showable = true
  dp : d.depth ≤ 60
  ln : d.shown.length ≤ 1000
  st : ∀ y, d = .str y → y.length ≤ 1000
theorem sml_of {d : PyData} (h : smlB d = true) : Sml d := by
  unfold smlB at h
  simp only [Bool.and_eq_true, decide_eq_true_eq] at h
  obtain ⟨h1, h2, h3, h4⟩ := h
  refine ⟨h1, h2, h3, fun y e => ?_⟩
  subst e
  exact of_decide_eq_true h4
theorem sml_one : (menuD.all fun d => smlB d && smlB (.list [d])) = true := by decide +kernel
theorem sml_two : (menuD.all fun d => menuD.all fun e => smlB (.tuple [d, e]) && smlB (.list [d, e, .tuple [d, e]])) = true := by decide +kernel
theorem sml1 {d : PyData} (h : d ∈ menuD) : Sml d ∧ Sml (.list [d]) := by
  have q := List.all_eq_true.mp sml_one d h
  rw [Bool.and_eq_true] at q
  exact ⟨sml_of q.1, sml_of q.2⟩
theorem sml2 {d e : PyData} (h : d ∈ menuD) (h' : e ∈ menuD) : Sml (.tuple [d, e]) ∧ Sml (.list [d, e, .tuple [d, e]]) := by
  have q := List.all_eq_true.mp (List.all_eq_true.mp sml_two d h) e h'
  rw [Bool.and_eq_true] at q
  exact ⟨sml_of q.1, sml_of q.2⟩
/-! ### __init__ -/
theorem app_le {a b : Str} {m n k : Nat} (ha : a.length ≤ m) (hb : b.length ≤ n) (h : m + n ≤ k) : (a ++ b).length ≤ k := by
  rw [strLen_append]
  omega
theorem line_le {n : Nat} (h : n ≤ 16777216) : n ≤ sizeLine := by
  rw [sizeLine_eq]
  exact h
def spInit1 (K : PySem.W.Frag) (C : Addr) (f : Str) : Sp := fun vs H Q _ => ∃ (a : Addr) (v : V) (d : PyData), vs = [.ref a, v] ∧ H a = some (exo a C none) ∧ Dx K H v d ∧ Sml d ∧
  ∀ H', ErrAt H' a C [(f, v)] → (∀ b o, H b = some o → b ≠ a → H' b = some o) → Q .non H'
def spInit3 (K : PySem.W.Frag) (C : Addr) (f g h : Str) : Sp := fun vs H Q _ => ∃ (a : Addr) (u v w : V) (du dv dw : PyData), vs = [.ref a, u, v, w] ∧ H a = some (exo a C none) ∧ Dx K H u du ∧ Sml du ∧ Dx K H v dv ∧ Sml dv ∧ Dx K H w dw ∧ Sml dw ∧
  ∀ H', ErrAt H' a C [(h, w), (g, v), (f, u)] → (∀ b o, H b = some o → b ≠ a → H' b = some o) → Q .non H'
section
variable {P : Program} {w : World} {K : PySem.W.Frag} {mg : Str → Option Value} {base : Heap} {f : Addr} {fd : FuncData}
theorem hu64 {k : Nat} {A : Around} (r : Room k A) : A.units + 64 < cLine := r.units
theorem scIS : FnScope ["self", "kind"] ["self", "kind"] (defScope iScope) := ⟨rfl, rfl, rfl, by decide +kernel, rfl, by decide +kernel, by decide +kernel⟩
theorem ok_scope (F : Fun K "__init__" "BadScope.__init__" iScope f fd) (T : T16 K mg) : FnG P w K mg base CX0 1 f fd ["self", "kind"] (spInit1 K (ga K "BadScope") "kind") := by
  refine okG F scIS (fun vs H Q E h => ?_) (fun cdv A outer s H vs Q E cl hr h => ?_)
  · obtain ⟨a, v, d, rfl, _⟩ := h
    rfl
  · obtain ⟨a, v, d, rfl, ha, hd, S, k⟩ := h
    refine ⟨_, pss_cons (ps_expr (pe_baseI T.base rfl T.gM (pa_cons (pv 0) (pa_cons (pe_joined (.cons pe_str (.cons (pe_fmtX (n := 1000) T.sys cl (hu64 hr) (pv 1)) (.cons pe_str .nil)))) pa_nil))))
      (pss_one (ps_ost (pv 0) (pv 1))), ?_⟩
    have ox := T.oex "BadScope" (by decide +kernel)
    refine ⟨_, rfl, _, rfl, by decide +kernel, _, rfl, d, hd, S.sh, S.dp, S.ln, line_le (by decide), S.st, fun m hm => ⟨_, rfl, app_le (m := 1000) (by decide +kernel) hm (line_le (by decide)), _, rfl, app_le (m := 2000) (app_le (m := 1000) (by decide +kernel) hm (by decide)) (n := 1000) (by decide +kernel) (line_le (by decide)), ?_⟩⟩
    refine ⟨a, _, _, rfl, by show 1 ≤ 1000; decide, ox, ha, _, rfl, _, rfl, a, _, rfl, ox, T.noS, .inl ⟨ha, fun dx hdx ne => ?_⟩⟩
    exact k _ (.inr ⟨dx, upd_same, by rw [upd_ne ne]; exact upd_same⟩) fun b o e hb => by rw [upd_ne hb, upd_ne (ne_of_none e hdx)]; exact e
theorem scIM : FnScope ["self", "most"] ["self", "most"] (defScope iMany) := ⟨rfl, rfl, rfl, by decide +kernel, rfl, by decide +kernel, by decide +kernel⟩
theorem ok_many (F : Fun K "__init__" "TooMany.__init__" iMany f fd) (T : T16 K mg) : FnG P w K mg base CX0 1 f fd ["self", "most"] (spInit1 K (ga K "TooMany") "most") := by
  refine okG F scIM (fun vs H Q E h => ?_) (fun cdv A outer s H vs Q E cl hr h => ?_)
  · obtain ⟨a, v, d, rfl, _⟩ := h
    rfl
  · obtain ⟨a, v, d, rfl, ha, hd, S, k⟩ := h
    refine ⟨_, pss_cons (ps_expr (pe_baseI T.base rfl T.gM (pa_cons (pv 0) (pa_cons (pe_joined (.cons pe_str (.cons (pe_fmtX (n := 1000) T.sys cl (hu64 hr) (pv 1)) .nil))) pa_nil))))
      (pss_one (ps_ost (pv 0) (pv 1))), ?_⟩
    have ox := T.oex "TooMany" (by decide +kernel)
    refine ⟨_, rfl, _, rfl, by decide +kernel, _, rfl, d, hd, S.sh, S.dp, S.ln, line_le (by decide), S.st, fun m hm => ⟨_, rfl, app_le (m := 1000) (by decide +kernel) hm (line_le (by decide)), ?_⟩⟩
    refine ⟨a, _, _, rfl, by show 1 ≤ 1000; decide, ox, ha, _, rfl, _, rfl, a, _, rfl, ox, T.noM, .inl ⟨ha, fun dx hdx ne => ?_⟩⟩
    exact k _ (.inr ⟨dx, upd_same, by rw [upd_ne ne]; exact upd_same⟩) fun b o e hb => by rw [upd_ne hb, upd_ne (ne_of_none e hdx)]; exact e
theorem scIU : FnScope ["self", "name"] ["self", "name"] (defScope iUnnamed) := ⟨rfl, rfl, rfl, by decide +kernel, rfl, by decide +kernel, by decide +kernel⟩
theorem ok_unnamed (F : Fun K "__init__" "Unnamed.__init__" iUnnamed f fd) (T : T16 K mg) : FnG P w K mg base CX0 1 f fd ["self", "name"] (spInit1 K (ga K "Unnamed") "name") := by
  refine okG F scIU (fun vs H Q E h => ?_) (fun cdv A outer s H vs Q E cl hr h => ?_)
  · obtain ⟨a, v, d, rfl, _⟩ := h
    rfl
  · obtain ⟨a, v, d, rfl, ha, hd, S, k⟩ := h
    refine ⟨_, pss_cons (ps_expr (pe_baseI T.base rfl T.gM (pa_cons (pv 0) (pa_cons (pe_joined (.cons pe_str (.cons (pe_fmtX (n := 1000) T.sys cl (hu64 hr) (pv 1)) (.cons pe_str .nil)))) pa_nil))))
      (pss_one (ps_ost (pv 0) (pv 1))), ?_⟩
    have ox := T.oex "Unnamed" (by decide +kernel)
    refine ⟨_, rfl, _, rfl, by decide +kernel, _, rfl, d, hd, S.sh, S.dp, S.ln, line_le (by decide), S.st, fun m hm => ⟨_, rfl, app_le (m := 1000) (by decide +kernel) hm (line_le (by decide)), _, rfl, app_le (m := 2000) (app_le (m := 1000) (by decide +kernel) hm (by decide)) (n := 1000) (by decide +kernel) (line_le (by decide)), ?_⟩⟩
    refine ⟨a, _, _, rfl, by show 1 ≤ 1000; decide, ox, ha, _, rfl, _, rfl, a, _, rfl, ox, T.noN, .inl ⟨ha, fun dx hdx ne => ?_⟩⟩
    exact k _ (.inr ⟨dx, upd_same, by rw [upd_ne ne]; exact upd_same⟩) fun b o e hb => by rw [upd_ne hb, upd_ne (ne_of_none e hdx)]; exact e
theorem scIT : FnScope ["self", "line", "column", "wanted"] ["self", "line", "column", "wanted"] (defScope iText) := ⟨rfl, rfl, rfl, by decide +kernel, rfl, by decide +kernel, by decide +kernel⟩
theorem ok_text (F : Fun K "__init__" "BadText.__init__" iText f fd) (T : T16 K mg) : FnG P w K mg base CX0 1 f fd ["self", "line", "column", "wanted"] (spInit3 K (ga K "BadText") "line" "column" "wanted") := by
  refine okG F scIT (fun vs H Q E h => ?_) (fun cdv A outer s H vs Q E cl hr h => ?_)
  · obtain ⟨a, u, v, x, du, dv, dw, rfl, _⟩ := h
    rfl
  · obtain ⟨a, u, v, x, du, dv, dw, rfl, ha, h1, S1, h2, S2, h3, S3, k⟩ := h
    refine ⟨_, pss_cons (ps_expr (pe_baseI T.base rfl T.gM (pa_cons (pv 0) (pa_cons (pe_joined (.cons pe_str (.cons (pe_fmtX (n := 1000) T.sys cl (hu64 hr) (pv 1)) (.cons pe_str (.cons (pe_fmtX (n := 1000) T.sys cl (hu64 hr) (pv 2))
        (.cons pe_str (.cons (pe_fmtX (n := 1000) T.sys cl (hu64 hr) (pv 3)) .nil))))))) pa_nil))))
      (pss_cons (ps_ost (pv 0) (pv 1)) (pss_cons (ps_ost (pv 0) (pv 2)) (pss_one (ps_ost (pv 0) (pv 3))))), ?_⟩
    have ox := T.oex "BadText" (by decide +kernel)
    refine ⟨_, rfl, _, rfl, by decide +kernel, _, rfl, du, h1, S1.sh, S1.dp, S1.ln, line_le (by decide), S1.st, fun m1 hm1 => ?_⟩
    have b1 : (Str.empty ++ "line ").length ≤ 1000 := by decide +kernel
    have b2 := app_le b1 hm1 (Nat.le_refl _)
    refine ⟨_, rfl, Nat.le_trans b2 (line_le (by decide)), ?_⟩
    have b3 := app_le b2 (show (", column " : Str).length ≤ 1000 by decide +kernel) (Nat.le_refl _)
    refine ⟨_, rfl, Nat.le_trans b3 (line_le (by decide)), _, rfl, dv, h2, S2.sh, S2.dp, S2.ln, line_le (by decide), S2.st, fun m2 hm2 => ?_⟩
    have b4 := app_le b3 hm2 (Nat.le_refl _)
    refine ⟨_, rfl, Nat.le_trans b4 (line_le (by decide)), ?_⟩
    have b5 := app_le b4 (show (": wanted is " : Str).length ≤ 1000 by decide +kernel) (Nat.le_refl _)
    refine ⟨_, rfl, Nat.le_trans b5 (line_le (by decide)), _, rfl, dw, h3, S3.sh, S3.dp, S3.ln, line_le (by decide), S3.st, fun m3 hm3 => ?_⟩
    refine ⟨_, rfl, app_le b5 hm3 (line_le (by decide)), ?_⟩
    refine ⟨a, _, _, rfl, by show 1 ≤ 1000; decide, ox, ha, _, rfl, _, rfl, a, _, rfl, ox, T.noL, .inl ⟨ha, fun dx hdx ne => ?_⟩⟩
    refine ⟨_, rfl, _, rfl, a, _, rfl, ox, T.noC, .inr ⟨dx, _, upd_same, by rw [upd_ne ne]; exact upd_same, by show 1 ≤ 900; decide, ?_⟩⟩
    refine ⟨_, rfl, _, rfl, a, _, rfl, ox, T.noW, .inr ⟨dx, _, by rw [upd_ne ne.symm]; exact upd_same, upd_same, by show 2 ≤ 900; decide, ?_⟩⟩
    refine k _ (.inr ⟨dx, by rw [upd_ne ne.symm, upd_ne ne.symm]; exact upd_same, upd_same⟩) fun b o e hb => ?_
    have n1 := ne_of_none e hdx
    rw [upd_ne n1, upd_ne n1, upd_ne hb, upd_ne n1]
    exact e
end
end Any
set_option Elab.async false
set_option linter.all false
set_option maxRecDepth 100000
set_option maxHeartbeats 4000000
/-! The errors told; which classes an error has. -/
namespace Any
open PySem PySem.Spec PyProof.Rows L2
open He (ga ma)
/-! ### a heap but one list -/
theorem del_same2 {H H' : Hp} {l : Addr} (k : ∀ b o, b ≠ l → H b = some o → H' b = some o) : Same (del H l) (del H' l) := fun b o e => by
  by_cases z : b = l
  · rw [z, del_same] at e
    cases e
  · rw [del_ne z] at e
    rw [del_ne z]
    exact k b o z e
theorem del_sub {H : Hp} {l : Addr} : Same (del H l) H := fun b o e => by
  by_cases z : b = l
  · rw [z, del_same] at e
    cases e
  · rw [del_ne z] at e
    exact e
theorem del_id {H : Hp} {l : Addr} (h : H l = none) : del H l = H := by
  funext b
  by_cases z : b = l
  · rw [z, del_same, h]
  · rw [del_ne z]
theorem del_upd {H : Hp} {l : Addr} {o : HO} : del (upd H l o) l = del H l := by
  funext b
  by_cases z : b = l
  · rw [z, del_same, del_same]
  · rw [del_ne z, del_ne z, upd_ne z]
theorem ErrAt.del {H : Hp} {a C l : Addr} {fs : List (Str × V)} {acc : List V} (e : ErrAt H a C fs) (hl : H l = some (.lst acc)) : ErrAt (L2.del H l) a C fs := by
  rcases e with ⟨z, e⟩ | ⟨dx, e1, e2⟩
  · exact .inl ⟨z, by rw [del_ne (ne_of e hl (by intro q; cases (show HO.ext _ = HO.lst acc from q)))]; exact e⟩
  · exact .inr ⟨dx, by rw [del_ne (ne_of e1 hl (by intro q; cases (show HO.ext _ = HO.lst acc from q)))]; exact e1, by rw [del_ne (ne_of e2 hl (by intro q; cases (show HO.ext _ = HO.lst acc from q)))]; exact e2⟩
/-- at t: an error, what it bears, what is due -/
def TT (K : PySem.W.Frag) (H : Hp) (t : Addr) (y : Str) : Prop := ∃ (e m u : Addr) (fs : List (Str × V)) (D : PyData), H t = some (.tup [.ref e, .ref m, .ref u]) ∧ ErrAt H e (ga K y) fs ∧ Dx K H (.ref m) D ∧ Dx K H (.ref u) D ∧ Sml D
theorem TT.same {K : PySem.W.Frag} {H H' : Hp} {t : Addr} {y : Str} (s : Same H H') (h : TT K H t y) : TT K H' t y := by
  obtain ⟨e, m, u, fs, D, h1, h2, h3, h4, h5⟩ := h
  exact ⟨e, m, u, fs, D, s _ _ h1, h2.same s, h3.sm s, h4.sm s, h5⟩
theorem tt_new {K : PySem.W.Frag} {H1 H2 : Hp} {l m u t a : Addr} {y : Str} {acc vs ws : List V} {fs : List (Str × V)} {Ds : List PyData} (hl : H1 l = some (.lst acc)) (ea : ErrAt H1 a (ga K y) fs) (hm : H1 m = none) (s12 : Same (upd H1 m (.lst vs)) H2)
    (hu : H2 u = none) (ht : upd H2 u (.lst ws) t = none) (d1 : DxAll K (del H1 l) vs Ds) (d2 : DxAll K (del H2 l) ws Ds) (S : Sml (.list Ds)) :
    TT K (del (upd (upd (upd H2 u (.lst ws)) t (.tup [.ref a, .ref m, .ref u])) l (.lst (acc ++ [.ref t]))) l) t y ∧
      Same (del H1 l) (del (upd (upd (upd H2 u (.lst ws)) t (.tup [.ref a, .ref m, .ref u])) l (.lst (acc ++ [.ref t]))) l) := by
  have ml : m ≠ l := fun z => by rw [z, hl] at hm; cases hm
  have hl2 : H2 l = some (.lst acc) := s12 _ _ (by rw [upd_ne (Ne.symm ml)]; exact hl)
  have ul : u ≠ l := fun z => by rw [z, hl2] at hu; cases hu
  have tl : t ≠ l := fun z => by
    rw [z, upd_ne (Ne.symm ul), hl2] at ht
    cases ht
  have hm2 : H2 m = some (.lst vs) := s12 _ _ upd_same
  have mu : m ≠ u := ne_of_none hm2 hu
  have tu : t ≠ u := fun z => by
    rw [z, upd_same] at ht
    cases ht
  have ht2 : H2 t = none := by rw [upd_ne tu] at ht; exact ht
  have mt : m ≠ t := ne_of_none hm2 ht2
  rw [del_upd]
  have sA : Same H1 H2 := (same_new hm).trans s12
  have sB : Same H2 (upd (upd H2 u (.lst ws)) t (.tup [.ref a, .ref m, .ref u])) := (same_new hu).trans (same_new ht)
  have s1 : Same (del H1 l) (del (upd (upd H2 u (.lst ws)) t (.tup [.ref a, .ref m, .ref u])) l) := del_same2 fun b o _ e => sB _ _ (sA _ _ e)
  have s2 : Same (del H2 l) (del (upd (upd H2 u (.lst ws)) t (.tup [.ref a, .ref m, .ref u])) l) := del_same2 fun b o _ e => sB _ _ e
  refine ⟨⟨a, m, u, fs, .list Ds, ?_, (ea.del hl).same s1, .lst (SqL.of ?_) (Dx.sameAll s1 _ _ d1), .lst (SqL.of ?_) (Dx.sameAll s2 _ _ d2), S⟩, s1⟩
  · rw [del_ne tl, upd_same]
  · rw [del_ne ml, upd_ne mt, upd_ne mu]
    exact hm2
  · rw [del_ne ul, upd_ne (Ne.symm tu), upd_same]
def spTold (K : PySem.W.Frag) : Sp := fun vs H Q _ => ∃ (x y : V) (d e : PyData), vs = [x, y] ∧ Dx K H x d ∧ d ∈ menuD ∧ Dx K H y e ∧ e ∈ menuD ∧
  ∀ (l t1 t2 t3 t4 : Addr) (H' : Hp), H' l = some (.lst [.ref t1, .ref t2, .ref t3, .ref t4]) → H l = none → TT K H' t1 "BadScope" → TT K H' t2 "BadText" → TT K H' t3 "TooMany" → TT K H' t4 "Unnamed" → Same H H' → Q (.ref l) H'
section
variable {P : Program} {w : World} {K : PySem.W.Frag} {mg : Str → Option Value} {base : Heap} {f : Addr} {fd : FuncData}
theorem scTo : FnScope ["one", "other", "found", "error"] ["one", "other"] (defScope sTold) := ⟨rfl, rfl, rfl, by decide +kernel, rfl, by decide +kernel, by decide +kernel⟩
/-- the four __init__ -/
structure F16 (K : PySem.W.Frag) (f1 f2 f3 f4 : FuncData) : Prop where
  s : Fun K "__init__" "BadScope.__init__" iScope (ma K (ga K "BadScope") "__init__") f1
  t : Fun K "__init__" "BadText.__init__" iText (ma K (ga K "BadText") "__init__") f2
  m : Fun K "__init__" "TooMany.__init__" iMany (ma K (ga K "TooMany") "__init__") f3
  u : Fun K "__init__" "Unnamed.__init__" iUnnamed (ma K (ga K "Unnamed") "__init__") f4
theorem ok_told {f1 f2 f3 f4 : FuncData} (F : Fun K "_law_told_errors" "_law_told_errors" sTold f fd) (T : T16 K mg) (I : F16 K f1 f2 f3 f4) : FnG P w K mg base CX0 3 f fd ["one", "other"] (spTold K) := by
  have GS : FnG P w K mg base CX0 1 _ f1 _ _ := ok_scope I.s T
  have GT : FnG P w K mg base CX0 1 _ f2 _ _ := ok_text I.t T
  have GM : FnG P w K mg base CX0 1 _ f3 _ _ := ok_many I.m T
  have GU : FnG P w K mg base CX0 1 _ f4 _ _ := ok_unnamed I.u T
  have bS := I.s.binds (ps := ["self", "kind"]) fun _ _ _ _ _ _ us hl => match us, hl with | [_, _], _ => rfl
  have bT := I.t.binds (ps := ["self", "line", "column", "wanted"]) fun _ _ _ _ _ _ us hl => match us, hl with | [_, _, _, _], _ => rfl
  have bM := I.m.binds (ps := ["self", "most"]) fun _ _ _ _ _ _ us hl => match us, hl with | [_, _], _ => rfl
  have bU := I.u.binds (ps := ["self", "name"]) fun _ _ _ _ _ _ us hl => match us, hl with | [_, _], _ => rfl
  have oS := T.ini "BadScope" (by decide +kernel)
  have oT := T.ini "BadText" (by decide +kernel)
  have oM := T.ini "TooMany" (by decide +kernel)
  have oU := T.ini "Unnamed" (by decide +kernel)
  refine okG F scTo (fun vs H Q E h => ?_) (fun cdv A outer s H vs Q E cl hr h => ?_)
  · obtain ⟨x, y, d, e, rfl, _⟩ := h
    rfl
  · obtain ⟨x, y, dd, ee, rfl, hx, mx, hy, my, k⟩ := h
    refine ⟨_, (pss_cons (ps_set (i := 2) scTo.nd rfl (Or.inl rfl) (pe_lst pa_nil))
      (pss_cons (ps_set (i := 3) scTo.nd rfl (Or.inl rfl) (pe_mkE (T.oex "BadScope" (by decide +kernel)) oS.1 oS.2 GS cl hr bS pass0 (by rfl) (T.g "BadScope" (mem_n (by decide +kernel))) (pa_cons (pv 0) pa_nil)))
      (pss_cons (ps_expr (pe_bm PySem.F.plainAttrs_list PySem.F.slot_list_append PySem.F.type_list_append mt_append (pv 2) (pa_cons (pe_tup (pa_cons (pv 3) (pa_cons (pe_lst (pa_cons (pe_errF (pv 3)) pa_nil)) (pa_cons (pe_lst (pa_cons (pv 0) pa_nil)) pa_nil)))) pa_nil)))
      (pss_cons (ps_set (i := 3) scTo.nd rfl (Or.inl rfl) (pe_mkE (T.oex "BadText" (by decide +kernel)) oT.1 oT.2 GT cl hr bT pass0 (by rfl) (T.g "BadText" (mem_n (by decide +kernel))) (pa_cons (pv 0) (pa_cons (pv 1) (pa_cons (pe_tup (pa_cons (pv 0) (pa_cons (pv 1) pa_nil))) pa_nil)))))
      (pss_cons (ps_expr (pe_bm PySem.F.plainAttrs_list PySem.F.slot_list_append PySem.F.type_list_append mt_append (pv 2) (pa_cons (pe_tup (pa_cons (pv 3) (pa_cons (pe_lst (pa_cons (pe_errF (pv 3)) (pa_cons (pe_errF (pv 3)) (pa_cons (pe_errF (pv 3)) pa_nil)))) (pa_cons (pe_lst (pa_cons (pv 0) (pa_cons (pv 1) (pa_cons (pe_tup (pa_cons (pv 0) (pa_cons (pv 1) pa_nil))) pa_nil)))) pa_nil)))) pa_nil)))
      (pss_cons (ps_set (i := 3) scTo.nd rfl (Or.inl rfl) (pe_mkE (T.oex "TooMany" (by decide +kernel)) oM.1 oM.2 GM cl hr bM pass0 (by rfl) (T.g "TooMany" (mem_n (by decide +kernel))) (pa_cons (pv 0) pa_nil)))
      (pss_cons (ps_expr (pe_bm PySem.F.plainAttrs_list PySem.F.slot_list_append PySem.F.type_list_append mt_append (pv 2) (pa_cons (pe_tup (pa_cons (pv 3) (pa_cons (pe_lst (pa_cons (pe_errF (pv 3)) pa_nil)) (pa_cons (pe_lst (pa_cons (pv 0) pa_nil)) pa_nil)))) pa_nil)))
      (pss_cons (ps_set (i := 3) scTo.nd rfl (Or.inl rfl) (pe_mkE (T.oex "Unnamed" (by decide +kernel)) oU.1 oU.2 GU cl hr bU pass0 (by rfl) (T.g "Unnamed" (mem_n (by decide +kernel))) (pa_cons (pv 0) pa_nil)))
      (pss_cons (ps_expr (pe_bm PySem.F.plainAttrs_list PySem.F.slot_list_append PySem.F.type_list_append mt_append (pv 2) (pa_cons (pe_tup (pa_cons (pv 3) (pa_cons (pe_lst (pa_cons (pe_errF (pv 3)) pa_nil)) (pa_cons (pe_lst (pa_cons (pv 0) pa_nil)) pa_nil)))) pa_nil)))
      (pss_one (ps_ret (pv 2)))))))))))), ?_⟩
    obtain ⟨s1, s1l⟩ := sml1 mx
    obtain ⟨s2, s2l⟩ := sml2 mx my
    have s3 := (sml1 my).1
    refine ⟨by show 0 ≤ sizeLine; decide, fun l hl0 => ?_⟩
    have gx := hx.sm (H' := del (upd H l (.lst [])) l) (by rw [del_upd, del_id hl0]; exact Same.refl _)
    have gy := hy.sm (H' := del (upd H l (.lst [])) l) (by rw [del_upd, del_id hl0]; exact Same.refl _)
    have hl : (upd H l (.lst [])) l = some (.lst []) := upd_same
    have sH : Same H (del (upd H l (.lst [])) l) := by rw [del_upd, del_id hl0]; exact Same.refl _
    generalize upd H l (.lst []) = G0 at *
    -- BadScope
    refine ⟨_, rfl, by show 1 ≤ 1000; decide, fun a1 ha => ⟨a1, x, dd, rfl, upd_same, (gx.sm del_sub).sm (same_new ha), s1, fun H1 ea k1 => ⟨rfl, ?_⟩⟩⟩
    have k1 : Same G0 H1 := fun b o e => k1 b o (by rw [upd_ne (ne_of_none e ha)]; exact e) (ne_of_none e ha)
    have hl1 := k1 _ _ hl
    have kd := del_same2 (l := l) fun b o _ e => k1 b o e
    replace gx := gx.sm kd
    replace gy := gy.sm kd
    replace sH := sH.trans kd
    refine ⟨_, rfl, .inl ⟨rfl, _, SqL.of hl1⟩, _, rfl, ⟨_, rfl, a1, _, _, _, rfl, ea, T.err "BadScope" (mem_n (by decide +kernel)), T.noS, rfl, by show 1 ≤ sizeLine; decide, fun m hm => ⟨_, rfl, by show 1 ≤ sizeLine; decide, fun u hu => ⟨by show 3 ≤ sizeLine; decide, fun t1 ht => ?_⟩⟩⟩⟩
    have nw := tt_new (y := "BadScope") hl1 ea hm (Same.refl _) hu ht (.cons gx .nil) (.cons (gx.sm (del_same2 fun b o _ e => same_new hm _ _ e)) .nil) s1l
    refine ⟨l, [], _, rfl, rfl, ?_, by show 0 < sizeLine; decide, ?_⟩
    · exact same_new ht _ _ (same_new hu _ _ (same_new hm _ _ hl1))
    have w1 := nw.1
    replace gx := gx.sm nw.2
    replace gy := gy.sm nw.2
    replace sH := sH.trans nw.2
    have hl' : ∀ (Z : Hp) (o : HO), (upd Z l o) l = some o := fun _ _ => upd_same
    replace hl := hl' (upd (upd (upd H1 m (.lst [x])) u (.lst [x])) t1 (.tup [.ref a1, .ref m, .ref u])) (.lst ([] ++ [.ref t1]))
    generalize upd (upd (upd (upd H1 m (.lst [x])) u (.lst [x])) t1 (.tup [.ref a1, .ref m, .ref u])) l (.lst ([] ++ [.ref t1])) = G1 at *
    clear hl' nw kd hl1 ea ha hm hu ht k1
    -- BadText
    refine ⟨_, rfl, _, rfl, ⟨_, rfl, _, rfl, by show 2 ≤ sizeLine; decide, fun p hp => ?_⟩⟩
    have pl : p ≠ l := fun z => by rw [z, hl] at hp; cases hp
    have kp := del_same2 (l := l) fun b o _ e => same_new (o := .tup [x, y]) hp b o e
    have hlp := same_new (o := .tup [x, y]) hp _ _ hl
    have gp : Dx K (del (upd G1 p (.tup [x, y])) l) (.ref p) (.tuple [dd, ee]) := .tup (SqT.of (by rw [del_ne pl]; exact upd_same)) (.cons (gx.sm kp) (.cons (gy.sm kp) .nil))
    replace gx := gx.sm kp
    replace gy := gy.sm kp
    replace sH := sH.trans kp
    replace w1 := w1.same kp
    generalize upd G1 p (.tup [x, y]) = Gp at *
    refine ⟨by show 3 ≤ 1000; decide, fun a2 ha => ⟨a2, x, y, .ref p, dd, ee, _, rfl, upd_same, (gx.sm del_sub).sm (same_new ha), s1, (gy.sm del_sub).sm (same_new ha), s3, (gp.sm del_sub).sm (same_new ha), s2, fun H2 ea k1 => ⟨rfl, ?_⟩⟩⟩
    have k1 : Same Gp H2 := fun b o e => k1 b o (by rw [upd_ne (ne_of_none e ha)]; exact e) (ne_of_none e ha)
    have hl1 := k1 _ _ hlp
    have kd := del_same2 (l := l) fun b o _ e => k1 b o e
    replace gx := gx.sm kd
    replace gy := gy.sm kd
    replace gp := gp.sm kd
    replace sH := sH.trans kd
    replace w1 := w1.same kd
    refine ⟨_, rfl, .inl ⟨rfl, _, SqL.of hl1⟩, _, rfl, ⟨_, rfl, a2, _, _, _, rfl, ea, T.err "BadText" (mem_n (by decide +kernel)), T.noL, rfl, _, rfl, a2, _, _, _, rfl, ea, T.err "BadText" (mem_n (by decide +kernel)), T.noC, rfl,
      _, rfl, a2, _, _, _, rfl, ea, T.err "BadText" (mem_n (by decide +kernel)), T.noW, rfl, by show 3 ≤ sizeLine; decide, fun m hm => ?_⟩⟩
    refine ⟨_, rfl, _, rfl, ⟨_, rfl, _, rfl, by show 2 ≤ sizeLine; decide, fun q hq => ⟨by show 3 ≤ sizeLine; decide, fun u hu => ⟨by show 3 ≤ sizeLine; decide, fun t2 ht => ?_⟩⟩⟩⟩
    have hlm := same_new (o := .lst [x, y, .ref p]) hm _ _ hl1
    have ql : q ≠ l := fun z => by rw [z, hlm] at hq; cases hq
    have km := del_same2 (l := l) fun b o _ e => same_new (o := .tup [x, y]) hq _ _ (same_new (o := .lst [x, y, .ref p]) hm b o e)
    have gq : Dx K (del (upd (upd H2 m (.lst [x, y, .ref p])) q (.tup [x, y])) l) (.ref q) (.tuple [dd, ee]) := .tup (SqT.of (by rw [del_ne ql]; exact upd_same)) (.cons (gx.sm km) (.cons (gy.sm km) .nil))
    have nw := tt_new (y := "BadText") hl1 ea hm (same_new hq) hu ht (.cons gx (.cons gy (.cons gp .nil))) (.cons (gx.sm km) (.cons (gy.sm km) (.cons gq .nil))) s2l
    refine ⟨l, [] ++ [.ref t1], _, rfl, rfl, ?_, by show 1 < sizeLine; decide, ?_⟩
    · exact same_new ht _ _ (same_new hu _ _ (same_new hq _ _ hlm))
    have w2 := nw.1
    replace gx := gx.sm nw.2
    replace gy := gy.sm nw.2
    replace sH := sH.trans nw.2
    replace w1 := w1.same nw.2
    have hl' : ∀ (Z : Hp) (o : HO), (upd Z l o) l = some o := fun _ _ => upd_same
    replace hl := hl' (upd (upd (upd (upd H2 m (.lst [x, y, .ref p])) q (.tup [x, y])) u (.lst [x, y, .ref q])) t2 (.tup [.ref a2, .ref m, .ref u])) (.lst ([] ++ [.ref t1] ++ [.ref t2]))
    generalize upd (upd (upd (upd (upd H2 m (.lst [x, y, .ref p])) q (.tup [x, y])) u (.lst [x, y, .ref q])) t2 (.tup [.ref a2, .ref m, .ref u])) l (.lst ([] ++ [.ref t1] ++ [.ref t2])) = G2 at *
    clear hl' nw kd hl1 ea ha hm hu ht k1 gq gp km hlm hq hlp kp hp
    -- TooMany
    refine ⟨_, rfl, by show 1 ≤ 1000; decide, fun a3 ha => ⟨a3, x, dd, rfl, upd_same, (gx.sm del_sub).sm (same_new ha), s1, fun H3 ea k1 => ⟨rfl, ?_⟩⟩⟩
    have k1 : Same G2 H3 := fun b o e => k1 b o (by rw [upd_ne (ne_of_none e ha)]; exact e) (ne_of_none e ha)
    have hl1 := k1 _ _ hl
    have kd := del_same2 (l := l) fun b o _ e => k1 b o e
    replace gx := gx.sm kd
    replace gy := gy.sm kd
    replace sH := sH.trans kd
    replace w1 := w1.same kd
    replace w2 := w2.same kd
    refine ⟨_, rfl, .inl ⟨rfl, _, SqL.of hl1⟩, _, rfl, ⟨_, rfl, a3, _, _, _, rfl, ea, T.err "TooMany" (mem_n (by decide +kernel)), T.noM, rfl, by show 1 ≤ sizeLine; decide, fun m hm => ⟨_, rfl, by show 1 ≤ sizeLine; decide, fun u hu => ⟨by show 3 ≤ sizeLine; decide, fun t3 ht => ?_⟩⟩⟩⟩
    have nw := tt_new (y := "TooMany") hl1 ea hm (Same.refl _) hu ht (.cons gx .nil) (.cons (gx.sm (del_same2 fun b o _ e => same_new hm _ _ e)) .nil) s1l
    refine ⟨l, [] ++ [.ref t1] ++ [.ref t2], _, rfl, rfl, ?_, by show 2 < sizeLine; decide, ?_⟩
    · exact same_new ht _ _ (same_new hu _ _ (same_new hm _ _ hl1))
    have w3 := nw.1
    replace gx := gx.sm nw.2
    replace gy := gy.sm nw.2
    replace sH := sH.trans nw.2
    replace w1 := w1.same nw.2
    replace w2 := w2.same nw.2
    have hl' : ∀ (Z : Hp) (o : HO), (upd Z l o) l = some o := fun _ _ => upd_same
    replace hl := hl' (upd (upd (upd H3 m (.lst [x])) u (.lst [x])) t3 (.tup [.ref a3, .ref m, .ref u])) (.lst ([] ++ [.ref t1] ++ [.ref t2] ++ [.ref t3]))
    generalize upd (upd (upd (upd H3 m (.lst [x])) u (.lst [x])) t3 (.tup [.ref a3, .ref m, .ref u])) l (.lst ([] ++ [.ref t1] ++ [.ref t2] ++ [.ref t3])) = G3 at *
    clear hl' nw kd hl1 ea ha hm hu ht k1
    -- Unnamed
    refine ⟨_, rfl, by show 1 ≤ 1000; decide, fun a4 ha => ⟨a4, x, dd, rfl, upd_same, (gx.sm del_sub).sm (same_new ha), s1, fun H4 ea k1 => ⟨rfl, ?_⟩⟩⟩
    have k1 : Same G3 H4 := fun b o e => k1 b o (by rw [upd_ne (ne_of_none e ha)]; exact e) (ne_of_none e ha)
    have hl1 := k1 _ _ hl
    have kd := del_same2 (l := l) fun b o _ e => k1 b o e
    replace gx := gx.sm kd
    replace gy := gy.sm kd
    replace sH := sH.trans kd
    replace w1 := w1.same kd
    replace w2 := w2.same kd
    replace w3 := w3.same kd
    refine ⟨_, rfl, .inl ⟨rfl, _, SqL.of hl1⟩, _, rfl, ⟨_, rfl, a4, _, _, _, rfl, ea, T.err "Unnamed" (mem_n (by decide +kernel)), T.noN, rfl, by show 1 ≤ sizeLine; decide, fun m hm => ⟨_, rfl, by show 1 ≤ sizeLine; decide, fun u hu => ⟨by show 3 ≤ sizeLine; decide, fun t4 ht => ?_⟩⟩⟩⟩
    have nw := tt_new (y := "Unnamed") hl1 ea hm (Same.refl _) hu ht (.cons gx .nil) (.cons (gx.sm (del_same2 fun b o _ e => same_new hm _ _ e)) .nil) s1l
    refine ⟨l, [] ++ [.ref t1] ++ [.ref t2] ++ [.ref t3], _, rfl, rfl, ?_, by show 3 < sizeLine; decide, ?_⟩
    · exact same_new ht _ _ (same_new hu _ _ (same_new hm _ _ hl1))
    have w4 := nw.1
    replace gx := gx.sm nw.2
    replace gy := gy.sm nw.2
    replace sH := sH.trans nw.2
    replace w1 := w1.same nw.2
    replace w2 := w2.same nw.2
    replace w3 := w3.same nw.2
    have hl' : ∀ (Z : Hp) (o : HO), (upd Z l o) l = some o := fun _ _ => upd_same
    replace hl := hl' (upd (upd (upd H4 m (.lst [x])) u (.lst [x])) t4 (.tup [.ref a4, .ref m, .ref u])) (.lst ([] ++ [.ref t1] ++ [.ref t2] ++ [.ref t3] ++ [.ref t4]))
    generalize upd (upd (upd (upd H4 m (.lst [x])) u (.lst [x])) t4 (.tup [.ref a4, .ref m, .ref u])) l (.lst ([] ++ [.ref t1] ++ [.ref t2] ++ [.ref t3] ++ [.ref t4])) = G4 at *
    clear hl' nw kd hl1 ea ha hm hu ht k1
    refine ⟨_, rfl, ?_⟩
    exact k l t1 t2 t3 t4 G4 hl hl0 (w1.same del_sub) (w2.same del_sub) (w3.same del_sub) (w4.same del_sub) (sH.trans del_sub)
end
end Any
set_option Elab.async false
set_option linter.all false
set_option maxRecDepth 100000
set_option maxHeartbeats 4000000
/-! Which classes an error has. -/
namespace Any
open PySem PySem.Spec PyProof.Rows L2
open He (ga ma)
/-- the place of a class among the names -/
def idx (x : Str) : Nat := nms.findIdx fun y => decide (x = y)
theorem nms_len : nms.length = 54 := by decide +kernel
theorem cls_all : (nms.all fun x => decide (((List.range 54).filter fun k => decide (x = nms.getD k Str.empty)) = [idx x])) = true := by decide +kernel
theorem cls_one {x : Str} (h : x ∈ nms) : ((List.range 54).filter fun k => decide (x = nms.getD k Str.empty)) = [idx x] := of_decide_eq_true (List.all_eq_true.mp cls_all x h)
/-- the places found among the first i -/
def plc (x : Str) (i : Nat) : List V := ((List.range i).filter fun k => decide (x = nms.getD k Str.empty)).map fun k => V.int (k : Nat)
theorem plc_0 (x : Str) : plc x 0 = [] := rfl
theorem plc_len (x : Str) (i : Nat) : (plc x i).length ≤ i := by
  unfold plc
  rw [List.length_map]
  exact Nat.le_trans (List.length_filter_le _ _) (Nat.le_of_eq List.length_range)
theorem plc_yes {x y : Str} {i : Nat} (hy : nms[i]? = some y) (c : x = y) : plc x (i + 1) = plc x i ++ [V.int (i : Nat)] := by
  have gd : nms.getD i Str.empty = y := by rw [List.getD_eq_getElem?_getD, hy]; rfl
  unfold plc
  rw [List.range_succ, List.filter_append, List.map_append, List.filter_cons, gd, if_pos (decide_eq_true c)]
  rfl
theorem plc_no {x y : Str} {i : Nat} (hy : nms[i]? = some y) (c : ¬ x = y) : plc x (i + 1) = plc x i := by
  have gd : nms.getD i Str.empty = y := by rw [List.getD_eq_getElem?_getD, hy]; rfl
  unfold plc
  rw [List.range_succ, List.filter_append, List.map_append, List.filter_cons, gd, if_neg (by rw [decide_eq_false c]; exact Bool.false_ne_true)]
  exact List.append_nil _
theorem plc_all {x : Str} (h : x ∈ nms) : plc x 54 = [V.int (idx x : Nat)] := by
  unfold plc
  rw [cls_one h]
  rfl
theorem if_true_of' {c : Bool} {A B : Prop} (hc : c = true) (h : A) : if c = true then A else B := by
  rw [if_pos hc]
  exact h
theorem if_false_of' {c : Bool} {A B : Prop} (hc : c = false) (h : B) : if c = true then A else B := by
  rw [hc, if_neg Bool.false_ne_true]
  exact h
def spClasses (K : PySem.W.Frag) : Sp := fun vs H Q _ => ∃ (a : Addr) (x : Str) (fs : List (Str × V)), vs = [.ref a] ∧ x ∈ nms ∧ ErrAt H a (ga K x) fs ∧ ∀ (p : Addr) (H' : Hp), H' p = some (.lst [.int (idx x : Nat)]) → H p = none → Same H H' → Q (.ref p) H'
section
variable {P : Program} {w : World} {K : PySem.W.Frag} {mg : Str → Option Value} {base : Heap} {f : Addr} {fd : FuncData}
theorem scCl : FnScope ["error", "found", "k", "is_one"] ["error"] (defScope sClasses) := ⟨rfl, rfl, rfl, by decide +kernel, rfl, by decide +kernel, by decide +kernel⟩
theorem ok_classes {f : Addr} {fd : FuncData} (F : Fun K "_law_classes" "_law_classes" sClasses f fd) (T : T16 K mg) : FnOk P w K mg base CX0 1 f fd ["error"] (spClasses K) := by
  refine F.ok scCl (fun vs H Q E h => ?_) (fun cdv A outer s H vs Q E hr h => ?_)
  · obtain ⟨a, x, fs, rfl, _⟩ := h
    rfl
  · obtain ⟨a, x, fs, rfl, hx, ea, k⟩ := h
    refine ⟨_, (pss_cons (ps_set (i := 1) scCl.nd rfl (Or.inl rfl) (pe_lst (pa_isi (y := "BadBarred") T (mem_n (by decide +kernel)) (pa_isi (y := "BadBase") T (mem_n (by decide +kernel)) (pa_isi (y := "BadChoice") T (mem_n (by decide +kernel)) (pa_isi (y := "BadContext") T (mem_n (by decide +kernel)) (pa_isi (y := "BadContract") T (mem_n (by decide +kernel)) pa_isi0 (pv 0) rfl rfl (by decide)) (pv 0) rfl rfl (by decide)) (pv 0) rfl rfl (by decide)) (pv 0) rfl rfl (by decide)) (pv 0) rfl rfl (by decide))))
      (pss_cons (ps_set (i := 1) scCl.nd rfl (Or.inl rfl) (pe_op op_cat (pv 1) (pe_lst (pa_isi (y := "BadDocument") T (mem_n (by decide +kernel)) (pa_isi (y := "BadEnds") T (mem_n (by decide +kernel)) (pa_isi (y := "BadEvents") T (mem_n (by decide +kernel)) (pa_isi (y := "BadGoal") T (mem_n (by decide +kernel)) (pa_isi (y := "BadGrouping") T (mem_n (by decide +kernel)) pa_isi0 (pv 0) rfl rfl (by decide)) (pv 0) rfl rfl (by decide)) (pv 0) rfl rfl (by decide)) (pv 0) rfl rfl (by decide)) (pv 0) rfl rfl (by decide)))))
      (pss_cons (ps_set (i := 1) scCl.nd rfl (Or.inl rfl) (pe_op op_cat (pv 1) (pe_lst (pa_isi (y := "BadHeld") T (mem_n (by decide +kernel)) (pa_isi (y := "BadInputs") T (mem_n (by decide +kernel)) (pa_isi (y := "BadKept") T (mem_n (by decide +kernel)) (pa_isi (y := "BadKind") T (mem_n (by decide +kernel)) (pa_isi (y := "BadLevel") T (mem_n (by decide +kernel)) pa_isi0 (pv 0) rfl rfl (by decide)) (pv 0) rfl rfl (by decide)) (pv 0) rfl rfl (by decide)) (pv 0) rfl rfl (by decide)) (pv 0) rfl rfl (by decide)))))
      (pss_cons (ps_set (i := 1) scCl.nd rfl (Or.inl rfl) (pe_op op_cat (pv 1) (pe_lst (pa_isi (y := "BadLot") T (mem_n (by decide +kernel)) (pa_isi (y := "BadMachine") T (mem_n (by decide +kernel)) (pa_isi (y := "BadMaker") T (mem_n (by decide +kernel)) (pa_isi (y := "BadMany") T (mem_n (by decide +kernel)) (pa_isi (y := "BadMemory") T (mem_n (by decide +kernel)) pa_isi0 (pv 0) rfl rfl (by decide)) (pv 0) rfl rfl (by decide)) (pv 0) rfl rfl (by decide)) (pv 0) rfl rfl (by decide)) (pv 0) rfl rfl (by decide)))))
      (pss_cons (ps_set (i := 1) scCl.nd rfl (Or.inl rfl) (pe_op op_cat (pv 1) (pe_lst (pa_isi (y := "BadModes") T (mem_n (by decide +kernel)) (pa_isi (y := "BadMost") T (mem_n (by decide +kernel)) (pa_isi (y := "BadNames") T (mem_n (by decide +kernel)) (pa_isi (y := "BadNumber") T (mem_n (by decide +kernel)) (pa_isi (y := "BadOptions") T (mem_n (by decide +kernel)) pa_isi0 (pv 0) rfl rfl (by decide)) (pv 0) rfl rfl (by decide)) (pv 0) rfl rfl (by decide)) (pv 0) rfl rfl (by decide)) (pv 0) rfl rfl (by decide)))))
      (pss_cons (ps_set (i := 1) scCl.nd rfl (Or.inl rfl) (pe_op op_cat (pv 1) (pe_lst (pa_isi (y := "BadPairs") T (mem_n (by decide +kernel)) (pa_isi (y := "BadPart") T (mem_n (by decide +kernel)) (pa_isi (y := "BadPath") T (mem_n (by decide +kernel)) (pa_isi (y := "BadPiece") T (mem_n (by decide +kernel)) (pa_isi (y := "BadPins") T (mem_n (by decide +kernel)) pa_isi0 (pv 0) rfl rfl (by decide)) (pv 0) rfl rfl (by decide)) (pv 0) rfl rfl (by decide)) (pv 0) rfl rfl (by decide)) (pv 0) rfl rfl (by decide)))))
      (pss_cons (ps_set (i := 1) scCl.nd rfl (Or.inl rfl) (pe_op op_cat (pv 1) (pe_lst (pa_isi (y := "BadProgram") T (mem_n (by decide +kernel)) (pa_isi (y := "BadPrograms") T (mem_n (by decide +kernel)) (pa_isi (y := "BadRecords") T (mem_n (by decide +kernel)) (pa_isi (y := "BadRow") T (mem_n (by decide +kernel)) (pa_isi (y := "BadRuin") T (mem_n (by decide +kernel)) pa_isi0 (pv 0) rfl rfl (by decide)) (pv 0) rfl rfl (by decide)) (pv 0) rfl rfl (by decide)) (pv 0) rfl rfl (by decide)) (pv 0) rfl rfl (by decide)))))
      (pss_cons (ps_set (i := 1) scCl.nd rfl (Or.inl rfl) (pe_op op_cat (pv 1) (pe_lst (pa_isi (y := "BadScope") T (mem_n (by decide +kernel)) (pa_isi (y := "BadSecond") T (mem_n (by decide +kernel)) (pa_isi (y := "BadShowing") T (mem_n (by decide +kernel)) (pa_isi (y := "BadStanding") T (mem_n (by decide +kernel)) (pa_isi (y := "BadTerms") T (mem_n (by decide +kernel)) pa_isi0 (pv 0) rfl rfl (by decide)) (pv 0) rfl rfl (by decide)) (pv 0) rfl rfl (by decide)) (pv 0) rfl rfl (by decide)) (pv 0) rfl rfl (by decide)))))
      (pss_cons (ps_set (i := 1) scCl.nd rfl (Or.inl rfl) (pe_op op_cat (pv 1) (pe_lst (pa_isi (y := "BadText") T (mem_n (by decide +kernel)) (pa_isi (y := "BadThing") T (mem_n (by decide +kernel)) (pa_isi (y := "BadTrace") T (mem_n (by decide +kernel)) (pa_isi (y := "BadWidth") T (mem_n (by decide +kernel)) (pa_isi (y := "FixedFill") T (mem_n (by decide +kernel)) pa_isi0 (pv 0) rfl rfl (by decide)) (pv 0) rfl rfl (by decide)) (pv 0) rfl rfl (by decide)) (pv 0) rfl rfl (by decide)) (pv 0) rfl rfl (by decide)))))
      (pss_cons (ps_set (i := 1) scCl.nd rfl (Or.inl rfl) (pe_op op_cat (pv 1) (pe_lst (pa_isi (y := "NotAhead") T (mem_n (by decide +kernel)) (pa_isi (y := "NotTold") T (mem_n (by decide +kernel)) (pa_isi (y := "NothingDone") T (mem_n (by decide +kernel)) (pa_isi (y := "NothingUndone") T (mem_n (by decide +kernel)) pa_isi0 (pv 0) rfl rfl (by decide)) (pv 0) rfl rfl (by decide)) (pv 0) rfl rfl (by decide)) (pv 0) rfl rfl (by decide)))))
      (pss_cons (ps_set (i := 1) scCl.nd rfl (Or.inl rfl) (pe_op op_cat (pv 1) (pe_lst (pa_isi (y := "OtherChoice") T (mem_n (by decide +kernel)) (pa_isi (y := "Ruined") T (mem_n (by decide +kernel)) (pa_isi (y := "Tight") T (mem_n (by decide +kernel)) (pa_isi (y := "TooMany") T (mem_n (by decide +kernel)) (pa_isi (y := "Unnamed") T (mem_n (by decide +kernel)) pa_isi0 (pv 0) rfl rfl (by decide)) (pv 0) rfl rfl (by decide)) (pv 0) rfl rfl (by decide)) (pv 0) rfl rfl (by decide)) (pv 0) rfl rfl (by decide)))))
      (pss_one (ps_ret (pe_lc (own := [("k", 2), ("is_one", 3)]) (g := gTup K 2 (gCons (gName 2) (gCons (gName 3) gNil))) rfl scCl.nd (pi_enum (by rfl) T.enu (pa_cons (pv 1) pa_nil)) (blkOk_by (own := [("k", 2), ("is_one", 3)]) (N := ["error", "found", "k", "is_one"]) (sc := defScope sClasses) (by decide +kernel))
        (fun _ _ _ _ _ => pg_tup rfl (pgs_cons (pg_name (i := 2) scCl.nd rfl (Or.inl rfl)) (pgs_cons (pg_name (i := 3) scCl.nd rfl (Or.inl rfl)) pgs_nil))) (fun _ _ _ _ _ => pts_one (pt_val (pv 3))) (fun _ _ _ _ _ => pv 2))))))))))))))), ?_⟩
    have e0 := ea
    have sm0 : Same H H := Same.refl H
    refine ⟨a, x, fs, rfl, hx, ea, by show 5 ≤ sizeLine; decide, fun l0 hl0 => ?_⟩
    replace sm0 := sm0.trans (same_new (o := .lst (((["BadBarred", "BadBase", "BadChoice", "BadContext", "BadContract"] : List Str)).map fun y => V.bl (decide (x = y)))) hl0)
    have q0 : (upd H l0 (.lst (((["BadBarred", "BadBase", "BadChoice", "BadContext", "BadContract"] : List Str)).map fun y => V.bl (decide (x = y))))) l0 = some (.lst (((["BadBarred", "BadBase", "BadChoice", "BadContext", "BadContract"] : List Str)).map fun y => V.bl (decide (x = y)))) := upd_same
    replace e0 := ea.same sm0
    have G0e : ∃ G0 : Hp, G0 = (upd H l0 (.lst (((["BadBarred", "BadBase", "BadChoice", "BadContext", "BadContract"] : List Str)).map fun y => V.bl (decide (x = y))))) := ⟨_, rfl⟩
    obtain ⟨G0, g0⟩ := G0e
    have y0 : ∃ Y : List Str, Y = (["BadBarred", "BadBase", "BadChoice", "BadContext", "BadContract"] : List Str) := ⟨_, rfl⟩
    obtain ⟨Y0, y0⟩ := y0
    rw [← g0] at sm0 q0 e0 ⊢
    rw [← y0] at q0
    -- row 1
    refine ⟨_, rfl, a, x, fs, rfl, hx, e0, by show 5 ≤ sizeLine; decide, fun m hm => ?_⟩
    have s1 : Same G0 (upd G0 m (.lst (((["BadDocument", "BadEnds", "BadEvents", "BadGoal", "BadGrouping"] : List Str)).map fun y => V.bl (decide (x = y))))) := same_new hm
    refine ⟨l0, m, _, _, rfl, rfl, s1 _ _ q0, upd_same, by rw [y0]; show 10 ≤ sizeLine; decide, fun l1 hl => ?_⟩
    have q1 : (upd (upd G0 m (.lst (((["BadDocument", "BadEnds", "BadEvents", "BadGoal", "BadGrouping"] : List Str)).map fun y => V.bl (decide (x = y))))) l1 (.lst ((Y0 ++ ((["BadDocument", "BadEnds", "BadEvents", "BadGoal", "BadGrouping"] : List Str))).map fun y => V.bl (decide (x = y))))) l1 = some (.lst ((Y0 ++ ((["BadDocument", "BadEnds", "BadEvents", "BadGoal", "BadGrouping"] : List Str))).map fun y => V.bl (decide (x = y)))) := upd_same
    rw [List.map_append] at q1
    have sm1 := (sm0.trans s1).trans (same_new (o := .lst (Y0.map (fun y => V.bl (decide (x = y))) ++ ((["BadDocument", "BadEnds", "BadEvents", "BadGoal", "BadGrouping"] : List Str)).map fun y => V.bl (decide (x = y)))) hl)
    have e1 := ea.same sm1
    have Ge : ∃ G : Hp, G = (upd (upd G0 m (.lst (((["BadDocument", "BadEnds", "BadEvents", "BadGoal", "BadGrouping"] : List Str)).map fun y => V.bl (decide (x = y))))) l1 (.lst (Y0.map (fun y => V.bl (decide (x = y))) ++ ((["BadDocument", "BadEnds", "BadEvents", "BadGoal", "BadGrouping"] : List Str)).map fun y => V.bl (decide (x = y))))) := ⟨_, rfl⟩
    obtain ⟨G1, g1⟩ := Ge
    rw [← g1] at sm1 q1 e1 ⊢
    rw [← List.map_append] at q1
    obtain ⟨Y1, y1⟩ : ∃ Y : List Str, Y = Y0 ++ ((["BadDocument", "BadEnds", "BadEvents", "BadGoal", "BadGrouping"] : List Str)) := ⟨_, rfl⟩
    rw [← y1] at q1
    rw [y0] at y1
    clear g0 hm s1 hl
    -- row 2
    refine ⟨_, rfl, a, x, fs, rfl, hx, e1, by show 5 ≤ sizeLine; decide, fun m hm => ?_⟩
    have s1 : Same G1 (upd G1 m (.lst (((["BadHeld", "BadInputs", "BadKept", "BadKind", "BadLevel"] : List Str)).map fun y => V.bl (decide (x = y))))) := same_new hm
    refine ⟨l1, m, _, _, rfl, rfl, s1 _ _ q1, upd_same, by rw [y1]; show 15 ≤ sizeLine; decide, fun l2 hl => ?_⟩
    have q2 : (upd (upd G1 m (.lst (((["BadHeld", "BadInputs", "BadKept", "BadKind", "BadLevel"] : List Str)).map fun y => V.bl (decide (x = y))))) l2 (.lst ((Y1 ++ ((["BadHeld", "BadInputs", "BadKept", "BadKind", "BadLevel"] : List Str))).map fun y => V.bl (decide (x = y))))) l2 = some (.lst ((Y1 ++ ((["BadHeld", "BadInputs", "BadKept", "BadKind", "BadLevel"] : List Str))).map fun y => V.bl (decide (x = y)))) := upd_same
    rw [List.map_append] at q2
    have sm2 := (sm1.trans s1).trans (same_new (o := .lst (Y1.map (fun y => V.bl (decide (x = y))) ++ ((["BadHeld", "BadInputs", "BadKept", "BadKind", "BadLevel"] : List Str)).map fun y => V.bl (decide (x = y)))) hl)
    have e2 := ea.same sm2
    have Ge : ∃ G : Hp, G = (upd (upd G1 m (.lst (((["BadHeld", "BadInputs", "BadKept", "BadKind", "BadLevel"] : List Str)).map fun y => V.bl (decide (x = y))))) l2 (.lst (Y1.map (fun y => V.bl (decide (x = y))) ++ ((["BadHeld", "BadInputs", "BadKept", "BadKind", "BadLevel"] : List Str)).map fun y => V.bl (decide (x = y))))) := ⟨_, rfl⟩
    obtain ⟨G2, g2⟩ := Ge
    rw [← g2] at sm2 q2 e2 ⊢
    rw [← List.map_append] at q2
    obtain ⟨Y2, y2⟩ : ∃ Y : List Str, Y = Y1 ++ ((["BadHeld", "BadInputs", "BadKept", "BadKind", "BadLevel"] : List Str)) := ⟨_, rfl⟩
    rw [← y2] at q2
    rw [y1] at y2
    clear g1 hm s1 hl
    -- row 3
    refine ⟨_, rfl, a, x, fs, rfl, hx, e2, by show 5 ≤ sizeLine; decide, fun m hm => ?_⟩
    have s1 : Same G2 (upd G2 m (.lst (((["BadLot", "BadMachine", "BadMaker", "BadMany", "BadMemory"] : List Str)).map fun y => V.bl (decide (x = y))))) := same_new hm
    refine ⟨l2, m, _, _, rfl, rfl, s1 _ _ q2, upd_same, by rw [y2]; show 20 ≤ sizeLine; decide, fun l3 hl => ?_⟩
    have q3 : (upd (upd G2 m (.lst (((["BadLot", "BadMachine", "BadMaker", "BadMany", "BadMemory"] : List Str)).map fun y => V.bl (decide (x = y))))) l3 (.lst ((Y2 ++ ((["BadLot", "BadMachine", "BadMaker", "BadMany", "BadMemory"] : List Str))).map fun y => V.bl (decide (x = y))))) l3 = some (.lst ((Y2 ++ ((["BadLot", "BadMachine", "BadMaker", "BadMany", "BadMemory"] : List Str))).map fun y => V.bl (decide (x = y)))) := upd_same
    rw [List.map_append] at q3
    have sm3 := (sm2.trans s1).trans (same_new (o := .lst (Y2.map (fun y => V.bl (decide (x = y))) ++ ((["BadLot", "BadMachine", "BadMaker", "BadMany", "BadMemory"] : List Str)).map fun y => V.bl (decide (x = y)))) hl)
    have e3 := ea.same sm3
    have Ge : ∃ G : Hp, G = (upd (upd G2 m (.lst (((["BadLot", "BadMachine", "BadMaker", "BadMany", "BadMemory"] : List Str)).map fun y => V.bl (decide (x = y))))) l3 (.lst (Y2.map (fun y => V.bl (decide (x = y))) ++ ((["BadLot", "BadMachine", "BadMaker", "BadMany", "BadMemory"] : List Str)).map fun y => V.bl (decide (x = y))))) := ⟨_, rfl⟩
    obtain ⟨G3, g3⟩ := Ge
    rw [← g3] at sm3 q3 e3 ⊢
    rw [← List.map_append] at q3
    obtain ⟨Y3, y3⟩ : ∃ Y : List Str, Y = Y2 ++ ((["BadLot", "BadMachine", "BadMaker", "BadMany", "BadMemory"] : List Str)) := ⟨_, rfl⟩
    rw [← y3] at q3
    rw [y2] at y3
    clear g2 hm s1 hl
    -- row 4
    refine ⟨_, rfl, a, x, fs, rfl, hx, e3, by show 5 ≤ sizeLine; decide, fun m hm => ?_⟩
    have s1 : Same G3 (upd G3 m (.lst (((["BadModes", "BadMost", "BadNames", "BadNumber", "BadOptions"] : List Str)).map fun y => V.bl (decide (x = y))))) := same_new hm
    refine ⟨l3, m, _, _, rfl, rfl, s1 _ _ q3, upd_same, by rw [y3]; show 25 ≤ sizeLine; decide, fun l4 hl => ?_⟩
    have q4 : (upd (upd G3 m (.lst (((["BadModes", "BadMost", "BadNames", "BadNumber", "BadOptions"] : List Str)).map fun y => V.bl (decide (x = y))))) l4 (.lst ((Y3 ++ ((["BadModes", "BadMost", "BadNames", "BadNumber", "BadOptions"] : List Str))).map fun y => V.bl (decide (x = y))))) l4 = some (.lst ((Y3 ++ ((["BadModes", "BadMost", "BadNames", "BadNumber", "BadOptions"] : List Str))).map fun y => V.bl (decide (x = y)))) := upd_same
    rw [List.map_append] at q4
    have sm4 := (sm3.trans s1).trans (same_new (o := .lst (Y3.map (fun y => V.bl (decide (x = y))) ++ ((["BadModes", "BadMost", "BadNames", "BadNumber", "BadOptions"] : List Str)).map fun y => V.bl (decide (x = y)))) hl)
    have e4 := ea.same sm4
    have Ge : ∃ G : Hp, G = (upd (upd G3 m (.lst (((["BadModes", "BadMost", "BadNames", "BadNumber", "BadOptions"] : List Str)).map fun y => V.bl (decide (x = y))))) l4 (.lst (Y3.map (fun y => V.bl (decide (x = y))) ++ ((["BadModes", "BadMost", "BadNames", "BadNumber", "BadOptions"] : List Str)).map fun y => V.bl (decide (x = y))))) := ⟨_, rfl⟩
    obtain ⟨G4, g4⟩ := Ge
    rw [← g4] at sm4 q4 e4 ⊢
    rw [← List.map_append] at q4
    obtain ⟨Y4, y4⟩ : ∃ Y : List Str, Y = Y3 ++ ((["BadModes", "BadMost", "BadNames", "BadNumber", "BadOptions"] : List Str)) := ⟨_, rfl⟩
    rw [← y4] at q4
    rw [y3] at y4
    clear g3 hm s1 hl
    -- row 5
    refine ⟨_, rfl, a, x, fs, rfl, hx, e4, by show 5 ≤ sizeLine; decide, fun m hm => ?_⟩
    have s1 : Same G4 (upd G4 m (.lst (((["BadPairs", "BadPart", "BadPath", "BadPiece", "BadPins"] : List Str)).map fun y => V.bl (decide (x = y))))) := same_new hm
    refine ⟨l4, m, _, _, rfl, rfl, s1 _ _ q4, upd_same, by rw [y4]; show 30 ≤ sizeLine; decide, fun l5 hl => ?_⟩
    have q5 : (upd (upd G4 m (.lst (((["BadPairs", "BadPart", "BadPath", "BadPiece", "BadPins"] : List Str)).map fun y => V.bl (decide (x = y))))) l5 (.lst ((Y4 ++ ((["BadPairs", "BadPart", "BadPath", "BadPiece", "BadPins"] : List Str))).map fun y => V.bl (decide (x = y))))) l5 = some (.lst ((Y4 ++ ((["BadPairs", "BadPart", "BadPath", "BadPiece", "BadPins"] : List Str))).map fun y => V.bl (decide (x = y)))) := upd_same
    rw [List.map_append] at q5
    have sm5 := (sm4.trans s1).trans (same_new (o := .lst (Y4.map (fun y => V.bl (decide (x = y))) ++ ((["BadPairs", "BadPart", "BadPath", "BadPiece", "BadPins"] : List Str)).map fun y => V.bl (decide (x = y)))) hl)
    have e5 := ea.same sm5
    have Ge : ∃ G : Hp, G = (upd (upd G4 m (.lst (((["BadPairs", "BadPart", "BadPath", "BadPiece", "BadPins"] : List Str)).map fun y => V.bl (decide (x = y))))) l5 (.lst (Y4.map (fun y => V.bl (decide (x = y))) ++ ((["BadPairs", "BadPart", "BadPath", "BadPiece", "BadPins"] : List Str)).map fun y => V.bl (decide (x = y))))) := ⟨_, rfl⟩
    obtain ⟨G5, g5⟩ := Ge
    rw [← g5] at sm5 q5 e5 ⊢
    rw [← List.map_append] at q5
    obtain ⟨Y5, y5⟩ : ∃ Y : List Str, Y = Y4 ++ ((["BadPairs", "BadPart", "BadPath", "BadPiece", "BadPins"] : List Str)) := ⟨_, rfl⟩
    rw [← y5] at q5
    rw [y4] at y5
    clear g4 hm s1 hl
    -- row 6
    refine ⟨_, rfl, a, x, fs, rfl, hx, e5, by show 5 ≤ sizeLine; decide, fun m hm => ?_⟩
    have s1 : Same G5 (upd G5 m (.lst (((["BadProgram", "BadPrograms", "BadRecords", "BadRow", "BadRuin"] : List Str)).map fun y => V.bl (decide (x = y))))) := same_new hm
    refine ⟨l5, m, _, _, rfl, rfl, s1 _ _ q5, upd_same, by rw [y5]; show 35 ≤ sizeLine; decide, fun l6 hl => ?_⟩
    have q6 : (upd (upd G5 m (.lst (((["BadProgram", "BadPrograms", "BadRecords", "BadRow", "BadRuin"] : List Str)).map fun y => V.bl (decide (x = y))))) l6 (.lst ((Y5 ++ ((["BadProgram", "BadPrograms", "BadRecords", "BadRow", "BadRuin"] : List Str))).map fun y => V.bl (decide (x = y))))) l6 = some (.lst ((Y5 ++ ((["BadProgram", "BadPrograms", "BadRecords", "BadRow", "BadRuin"] : List Str))).map fun y => V.bl (decide (x = y)))) := upd_same
    rw [List.map_append] at q6
    have sm6 := (sm5.trans s1).trans (same_new (o := .lst (Y5.map (fun y => V.bl (decide (x = y))) ++ ((["BadProgram", "BadPrograms", "BadRecords", "BadRow", "BadRuin"] : List Str)).map fun y => V.bl (decide (x = y)))) hl)
    have e6 := ea.same sm6
    have Ge : ∃ G : Hp, G = (upd (upd G5 m (.lst (((["BadProgram", "BadPrograms", "BadRecords", "BadRow", "BadRuin"] : List Str)).map fun y => V.bl (decide (x = y))))) l6 (.lst (Y5.map (fun y => V.bl (decide (x = y))) ++ ((["BadProgram", "BadPrograms", "BadRecords", "BadRow", "BadRuin"] : List Str)).map fun y => V.bl (decide (x = y))))) := ⟨_, rfl⟩
    obtain ⟨G6, g6⟩ := Ge
    rw [← g6] at sm6 q6 e6 ⊢
    rw [← List.map_append] at q6
    obtain ⟨Y6, y6⟩ : ∃ Y : List Str, Y = Y5 ++ ((["BadProgram", "BadPrograms", "BadRecords", "BadRow", "BadRuin"] : List Str)) := ⟨_, rfl⟩
    rw [← y6] at q6
    rw [y5] at y6
    clear g5 hm s1 hl
    -- row 7
    refine ⟨_, rfl, a, x, fs, rfl, hx, e6, by show 5 ≤ sizeLine; decide, fun m hm => ?_⟩
    have s1 : Same G6 (upd G6 m (.lst (((["BadScope", "BadSecond", "BadShowing", "BadStanding", "BadTerms"] : List Str)).map fun y => V.bl (decide (x = y))))) := same_new hm
    refine ⟨l6, m, _, _, rfl, rfl, s1 _ _ q6, upd_same, by rw [y6]; show 40 ≤ sizeLine; decide, fun l7 hl => ?_⟩
    have q7 : (upd (upd G6 m (.lst (((["BadScope", "BadSecond", "BadShowing", "BadStanding", "BadTerms"] : List Str)).map fun y => V.bl (decide (x = y))))) l7 (.lst ((Y6 ++ ((["BadScope", "BadSecond", "BadShowing", "BadStanding", "BadTerms"] : List Str))).map fun y => V.bl (decide (x = y))))) l7 = some (.lst ((Y6 ++ ((["BadScope", "BadSecond", "BadShowing", "BadStanding", "BadTerms"] : List Str))).map fun y => V.bl (decide (x = y)))) := upd_same
    rw [List.map_append] at q7
    have sm7 := (sm6.trans s1).trans (same_new (o := .lst (Y6.map (fun y => V.bl (decide (x = y))) ++ ((["BadScope", "BadSecond", "BadShowing", "BadStanding", "BadTerms"] : List Str)).map fun y => V.bl (decide (x = y)))) hl)
    have e7 := ea.same sm7
    have Ge : ∃ G : Hp, G = (upd (upd G6 m (.lst (((["BadScope", "BadSecond", "BadShowing", "BadStanding", "BadTerms"] : List Str)).map fun y => V.bl (decide (x = y))))) l7 (.lst (Y6.map (fun y => V.bl (decide (x = y))) ++ ((["BadScope", "BadSecond", "BadShowing", "BadStanding", "BadTerms"] : List Str)).map fun y => V.bl (decide (x = y))))) := ⟨_, rfl⟩
    obtain ⟨G7, g7⟩ := Ge
    rw [← g7] at sm7 q7 e7 ⊢
    rw [← List.map_append] at q7
    obtain ⟨Y7, y7⟩ : ∃ Y : List Str, Y = Y6 ++ ((["BadScope", "BadSecond", "BadShowing", "BadStanding", "BadTerms"] : List Str)) := ⟨_, rfl⟩
    rw [← y7] at q7
    rw [y6] at y7
    clear g6 hm s1 hl
    -- row 8
    refine ⟨_, rfl, a, x, fs, rfl, hx, e7, by show 5 ≤ sizeLine; decide, fun m hm => ?_⟩
    have s1 : Same G7 (upd G7 m (.lst (((["BadText", "BadThing", "BadTrace", "BadWidth", "FixedFill"] : List Str)).map fun y => V.bl (decide (x = y))))) := same_new hm
    refine ⟨l7, m, _, _, rfl, rfl, s1 _ _ q7, upd_same, by rw [y7]; show 45 ≤ sizeLine; decide, fun l8 hl => ?_⟩
    have q8 : (upd (upd G7 m (.lst (((["BadText", "BadThing", "BadTrace", "BadWidth", "FixedFill"] : List Str)).map fun y => V.bl (decide (x = y))))) l8 (.lst ((Y7 ++ ((["BadText", "BadThing", "BadTrace", "BadWidth", "FixedFill"] : List Str))).map fun y => V.bl (decide (x = y))))) l8 = some (.lst ((Y7 ++ ((["BadText", "BadThing", "BadTrace", "BadWidth", "FixedFill"] : List Str))).map fun y => V.bl (decide (x = y)))) := upd_same
    rw [List.map_append] at q8
    have sm8 := (sm7.trans s1).trans (same_new (o := .lst (Y7.map (fun y => V.bl (decide (x = y))) ++ ((["BadText", "BadThing", "BadTrace", "BadWidth", "FixedFill"] : List Str)).map fun y => V.bl (decide (x = y)))) hl)
    have e8 := ea.same sm8
    have Ge : ∃ G : Hp, G = (upd (upd G7 m (.lst (((["BadText", "BadThing", "BadTrace", "BadWidth", "FixedFill"] : List Str)).map fun y => V.bl (decide (x = y))))) l8 (.lst (Y7.map (fun y => V.bl (decide (x = y))) ++ ((["BadText", "BadThing", "BadTrace", "BadWidth", "FixedFill"] : List Str)).map fun y => V.bl (decide (x = y))))) := ⟨_, rfl⟩
    obtain ⟨G8, g8⟩ := Ge
    rw [← g8] at sm8 q8 e8 ⊢
    rw [← List.map_append] at q8
    obtain ⟨Y8, y8⟩ : ∃ Y : List Str, Y = Y7 ++ ((["BadText", "BadThing", "BadTrace", "BadWidth", "FixedFill"] : List Str)) := ⟨_, rfl⟩
    rw [← y8] at q8
    rw [y7] at y8
    clear g7 hm s1 hl
    -- row 9
    refine ⟨_, rfl, a, x, fs, rfl, hx, e8, by show 4 ≤ sizeLine; decide, fun m hm => ?_⟩
    have s1 : Same G8 (upd G8 m (.lst (((["NotAhead", "NotTold", "NothingDone", "NothingUndone"] : List Str)).map fun y => V.bl (decide (x = y))))) := same_new hm
    refine ⟨l8, m, _, _, rfl, rfl, s1 _ _ q8, upd_same, by rw [y8]; show 49 ≤ sizeLine; decide, fun l9 hl => ?_⟩
    have q9 : (upd (upd G8 m (.lst (((["NotAhead", "NotTold", "NothingDone", "NothingUndone"] : List Str)).map fun y => V.bl (decide (x = y))))) l9 (.lst ((Y8 ++ ((["NotAhead", "NotTold", "NothingDone", "NothingUndone"] : List Str))).map fun y => V.bl (decide (x = y))))) l9 = some (.lst ((Y8 ++ ((["NotAhead", "NotTold", "NothingDone", "NothingUndone"] : List Str))).map fun y => V.bl (decide (x = y)))) := upd_same
    rw [List.map_append] at q9
    have sm9 := (sm8.trans s1).trans (same_new (o := .lst (Y8.map (fun y => V.bl (decide (x = y))) ++ ((["NotAhead", "NotTold", "NothingDone", "NothingUndone"] : List Str)).map fun y => V.bl (decide (x = y)))) hl)
    have e9 := ea.same sm9
    have Ge : ∃ G : Hp, G = (upd (upd G8 m (.lst (((["NotAhead", "NotTold", "NothingDone", "NothingUndone"] : List Str)).map fun y => V.bl (decide (x = y))))) l9 (.lst (Y8.map (fun y => V.bl (decide (x = y))) ++ ((["NotAhead", "NotTold", "NothingDone", "NothingUndone"] : List Str)).map fun y => V.bl (decide (x = y))))) := ⟨_, rfl⟩
    obtain ⟨G9, g9⟩ := Ge
    rw [← g9] at sm9 q9 e9 ⊢
    rw [← List.map_append] at q9
    obtain ⟨Y9, y9⟩ : ∃ Y : List Str, Y = Y8 ++ ((["NotAhead", "NotTold", "NothingDone", "NothingUndone"] : List Str)) := ⟨_, rfl⟩
    rw [← y9] at q9
    rw [y8] at y9
    clear g8 hm s1 hl
    -- row 10
    refine ⟨_, rfl, a, x, fs, rfl, hx, e9, by show 5 ≤ sizeLine; decide, fun m hm => ?_⟩
    have s1 : Same G9 (upd G9 m (.lst (((["OtherChoice", "Ruined", "Tight", "TooMany", "Unnamed"] : List Str)).map fun y => V.bl (decide (x = y))))) := same_new hm
    refine ⟨l9, m, _, _, rfl, rfl, s1 _ _ q9, upd_same, by rw [y9]; show 54 ≤ sizeLine; decide, fun l10 hl => ?_⟩
    have q10 : (upd (upd G9 m (.lst (((["OtherChoice", "Ruined", "Tight", "TooMany", "Unnamed"] : List Str)).map fun y => V.bl (decide (x = y))))) l10 (.lst ((Y9 ++ ((["OtherChoice", "Ruined", "Tight", "TooMany", "Unnamed"] : List Str))).map fun y => V.bl (decide (x = y))))) l10 = some (.lst ((Y9 ++ ((["OtherChoice", "Ruined", "Tight", "TooMany", "Unnamed"] : List Str))).map fun y => V.bl (decide (x = y)))) := upd_same
    rw [List.map_append] at q10
    have sm10 := (sm9.trans s1).trans (same_new (o := .lst (Y9.map (fun y => V.bl (decide (x = y))) ++ ((["OtherChoice", "Ruined", "Tight", "TooMany", "Unnamed"] : List Str)).map fun y => V.bl (decide (x = y)))) hl)
    have e10 := ea.same sm10
    have Ge : ∃ G : Hp, G = (upd (upd G9 m (.lst (((["OtherChoice", "Ruined", "Tight", "TooMany", "Unnamed"] : List Str)).map fun y => V.bl (decide (x = y))))) l10 (.lst (Y9.map (fun y => V.bl (decide (x = y))) ++ ((["OtherChoice", "Ruined", "Tight", "TooMany", "Unnamed"] : List Str)).map fun y => V.bl (decide (x = y))))) := ⟨_, rfl⟩
    obtain ⟨G10, g10⟩ := Ge
    rw [← g10] at sm10 q10 e10 ⊢
    rw [← List.map_append] at q10
    obtain ⟨Y10, y10⟩ : ∃ Y : List Str, Y = Y9 ++ ((["OtherChoice", "Ruined", "Tight", "TooMany", "Unnamed"] : List Str)) := ⟨_, rfl⟩
    rw [← y10] at q10
    rw [y9] at y10
    clear g9 hm s1 hl
    have yN : Y10 = nms := by
      rw [y10]
      decide +kernel
    rw [yN] at q10
    have hlen : (nms.map fun y => V.bl (decide (x = y))).length = 54 := by rw [List.length_map, nms_len]
    dsimp only [gName]
    show tRet _ _ ([some (V.ref a), some (V.ref l10), none, none] : L2.St) G10
    refine ⟨_, rfl, l10, _, rfl, SqL.of q10, fun D hD => lc_it (walk_enum (K := K) (a := l10) (xs := nms.map fun y => V.bl (decide (x = y))))
      (fun i H1 => Same G10 H1 ∧ H1 D = some (.lst (plc x i))) ⟨same_new hD, upd_same⟩ (fun i H1 _ p => SqL.of (p.1 _ _ q10)) ?_ ?_⟩
    · clear y0 y1 y2 y3 y4 y5 y6 y7 y8 y9 y10 q0 q1 q2 q3 q4 q5 q6 q7 q8 q9 e0 e1 e2 e3 e4 e5 e6 e7 e8 e9 sm0 sm1 sm2 sm3 sm4 sm5 sm6 sm7 sm8 sm9
      rintro i v H1 H2 hi ⟨s1, hD1⟩ ⟨t, u, z, rfl, ht, rfl, hu, hz⟩
      cases Option.some.inj hu
      replace hz : (nms.map fun y => V.bl (decide (x = y)))[i]? = some z := hz
      rw [List.getElem?_map] at hz
      obtain ⟨y, hy, rfl⟩ := Option.map_eq_some_iff.mp hz
      have dt : D ≠ t := ne_of_none hD1 ht
      have sl := plc_len x i
      rw [hlen] at hi
      refine ⟨t, _, rfl, SqT.of upd_same, rfl, _, _, rfl, _, _, rfl, rfl, rfl, _, rfl, _, rfl, ?_⟩
      by_cases c : x = y
      · refine if_true_of' (decide_eq_true c) ?_
        refine ⟨_, rfl, plc x i, (by rw [upd_ne dt]; exact hD1), small1000 (by omega), fun b o e => ?_, ?_⟩
        · rw [upd_ne (ne_of_none e hD)]
          exact same_new ht _ _ (s1 _ _ e)
        · rw [upd_same, plc_yes hy c]
      · refine if_false_of' (decide_eq_false c) ⟨fun b o e => same_new ht _ _ (s1 _ _ e), ?_⟩
        rw [upd_ne dt, hD1, plc_no hy c]
    · rintro H1 ⟨s1, hD1⟩
      rw [hlen, plc_all hx] at hD1
      exact k D H1 hD1 (sm10.free hD) (sm10.trans s1)
end
end Any
set_option Elab.async false
set_option linter.all false
set_option maxRecDepth 100000
set_option maxHeartbeats 4000000
/-! The law over the errors. -/
namespace Any
open PySem PySem.Spec PyProof.Rows L2
open He (ga ma)
/-! ### a heap but the draw -/
def gh (d w : Addr) (H : Hp) : Hp := del (del H d) w
theorem gh_sub {d w : Addr} {H : Hp} : Same (gh d w H) H := del_sub.trans del_sub
theorem gh_but {d w : Addr} {H H' : Hp} (k : But d w H H') : Same (gh d w H) (gh d w H') := fun b o e => by
  unfold gh at *
  by_cases z : b = w
  · rw [z, del_same] at e
    cases e
  · rw [del_ne z] at e
    rw [del_ne z]
    by_cases y : b = d
    · rw [y, del_same] at e
      cases e
    · rw [del_ne y] at e
      rw [del_ne y]
      exact k b o e y z
theorem gh_same {d w : Addr} {H H' : Hp} (k : Same H H') : Same (gh d w H) (gh d w H') := gh_but fun b o e _ _ => k b o e
theorem gh_at {d w p : Addr} {H : Hp} (h1 : p ≠ d) (h2 : p ≠ w) : gh d w H p = H p := by
  unfold gh
  rw [del_ne h2, del_ne h1]
theorem Draw.same {H H' : Hp} {d w c : Addr} {t : Int} (D : Draw H d w c t) (s : Same H H') : Draw H' d w c t := by
  obtain ⟨ws, cs, r, u, h1, h2, h3, z⟩ := D
  exact ⟨ws, cs, r, u, s _ _ h1, s _ _ h2, s _ _ h3, z⟩
theorem Draw.fresh {H : Hp} {d w c p : Addr} {t : Int} (D : Draw H d w c t) (h : H p = none) : p ≠ d ∧ p ≠ w := by
  obtain ⟨ws, cs, r, u, h1, h2, _⟩ := D
  exact ⟨(ne_of_none h1 h).symm, (ne_of_none h2 h).symm⟩
/-! ### the row of all names -/
def ordN : List Str := plainN ++ toldN
theorem ord_in : (ordN.all fun x => nms.any fun y => decide (y = x)) = true := by decide +kernel
theorem ord_mem {x : Str} (h : x ∈ ordN) : x ∈ nms := mem_n (List.all_eq_true.mp ord_in x h)
def ordI : List Int := ordN.map fun x => (idx x : Int)
theorem ord_nd : ordI.Nodup := by decide +kernel
theorem ord_len : ordN.length = 54 := by decide +kernel
theorem plain_len : plainN.length = 50 := by decide +kernel
/-- the errors stand -/
def Errs (K : PySem.W.Frag) (H : Hp) (as : List Addr) (ys : List Str) : Prop := Paired (fun a y => ∃ fs, ErrAt H a (ga K y) fs) as ys
theorem Errs.same {K : PySem.W.Frag} {H H' : Hp} {as : List Addr} {ys : List Str} (s : Same H H') (h : Errs K H as ys) : Errs K H' as ys := L2.Paired.mapP h fun _ _ ⟨fs, e⟩ => ⟨fs, e.same s⟩
theorem paired_at {α β : Type} {F : α → β → Prop} : ∀ {a : List α} {c : List β} {i : Nat} {x : α}, Paired F a c → a[i]? = some x → ∃ y, c[i]? = some y ∧ F x y
  | _, _, _, _, .nil, h => by simp at h
  | _, _, 0, _, .cons r _, h => by
    cases Option.some.inj h
    exact ⟨_, rfl, r⟩
  | _, _, i + 1, x, .cons _ t, h => by
    obtain ⟨y, h1, h2⟩ := paired_at (i := i) (x := x) t (by simpa using h)
    exact ⟨y, by simpa using h1, h2⟩
/-- lists of one place each -/
def Clss (H : Hp) (cs : List Addr) (ys : List Str) : Prop := Paired (fun c y => H c = some (.lst [.int (idx y : Nat)])) cs ys
theorem Clss.same {H H' : Hp} {cs : List Addr} {ys : List Str} (s : Same H H') (h : Clss H cs ys) : Clss H' cs ys := L2.Paired.mapP h fun _ _ e => s _ _ e
def spLaw (K : PySem.W.Frag) : Sp := fun vs H Q _ => ∃ (a : Addr) (ns : List Int), vs = [.ref a] ∧ SqL K H a (ns.map V.int) ∧ ns.length ≤ 63 ∧ ∀ H', Q (.bl true) H'
section
variable {P : Program} {w : World} {K : PySem.W.Frag} {mg : Str → Option Value} {base : Heap}
abbrev NL : List Str := ["script", "draw", "some", "one", "other", "told", "errors_here", "classes", "error", "mine", "due", "entry", "found"]
theorem scLw : FnScope NL ["script"] (defScope sLaw) := ⟨rfl, rfl, rfl, by decide +kernel, rfl, by decide +kernel, by decide +kernel⟩
/-- the law's callees -/
structure C16 (K : PySem.W.Frag) (mg : Str → Option Value) (fB fM fT fP fPl fTo fC : FuncData) (f1 f2 f3 f4 : FuncData) : Prop where
  b : Fun K "_law_begun" "_law_begun" sBegun (ga K "_law_begun") fB
  m : Fun K "_law_mixed" "_law_mixed" sMixed (ga K "_law_mixed") fM
  t : Fun K "_law_take" "_law_take" sTake (ga K "_law_take") fT
  p : Fun K "_law_pick" "_law_pick" sPick (ga K "_law_pick") fP
  pl : Fun K "_law_plain_errors" "_law_plain_errors" sPlain (ga K "_law_plain_errors") fPl
  to : Fun K "_law_told_errors" "_law_told_errors" sTold (ga K "_law_told_errors") fTo
  c : Fun K "_law_classes" "_law_classes" sClasses (ga K "_law_classes") fC
  i : F16 K f1 f2 f3 f4
  gb : mg "_law_begun" = some (.ref (ga K "_law_begun"))
  gm : mg "_law_mixed" = some (.ref (ga K "_law_mixed"))
  gt : mg "_law_take" = some (.ref (ga K "_law_take"))
  gp : mg "_law_pick" = some (.ref (ga K "_law_pick"))
  gpl : mg "_law_plain_errors" = some (.ref (ga K "_law_plain_errors"))
  gto : mg "_law_told_errors" = some (.ref (ga K "_law_told_errors"))
  gc : mg "_law_classes" = some (.ref (ga K "_law_classes"))
theorem menu_some {G : Hp} {p1 p2 p3 : Addr} (h1 : G p1 = some (.tup [.int 1, .int 2])) (h2 : G p2 = some (.lst [.int 3])) (h3 : G p3 = some (.dK [(Sum.inr ("a" : Str), .int 4)])) :
    ∀ v ∈ [V.non, .int 0, .int (-7), .str ("x" : Str), .str ("" : Str), .ref p1, .ref p2, .ref p3, .bl true, .int (10 ^ 20)], ∃ d ∈ menuD, Dx K G v d := by
  intro v hv
  simp only [List.mem_cons, List.not_mem_nil, or_false] at hv
  rcases hv with rfl | rfl | rfl | rfl | rfl | rfl | rfl | rfl | rfl | rfl
  · exact ⟨_, by unfold menuD; simp, .non⟩
  · exact ⟨.int 0, by unfold menuD; simp, .int 0⟩
  · exact ⟨.int (-7), by unfold menuD; simp, .int (-7)⟩
  · exact ⟨.str "x", by unfold menuD; simp, .str "x"⟩
  · exact ⟨.str "", by unfold menuD; simp, .str ""⟩
  · exact ⟨.tuple [.int 1, .int 2], by unfold menuD; simp, .tup (SqT.of h1) (.cons (.int 1) (.cons (.int 2) .nil))⟩
  · exact ⟨.list [.int 3], by unfold menuD; simp, .lst (SqL.of h2) (.cons (.int 3) .nil)⟩
  · exact ⟨.dict [(.str "a", .int 4)], by unfold menuD; simp, .dct h3 (.cons (k := Sum.inr ("a" : Str)) (.int 4) .nil)⟩
  · exact ⟨.bool true, by unfold menuD; simp, .bl true⟩
  · exact ⟨.int (10 ^ 20), by unfold menuD; simp, .int (10 ^ 20)⟩
def rLenQ (K : PySem.W.Frag) : List V → Hp → VK → Prop := fun xs H Q => ∃ p ys, xs = [V.ref p] ∧ (SqL K H p ys ∨ SqT K H p ys) ∧ Q (.int ys.length) H
theorem call_lenQ {X : Cx} : CallR X (.builtin "len") (rLenQ X.K) := call_len_seq
theorem ok_law {f : Addr} {fd fB fM fT fP fPl fTo fC f1 f2 f3 f4 : FuncData} (F : Fun K "law" "law" sLaw f fd) (T : T16 K mg) (C : C16 K mg fB fM fT fP fPl fTo fC f1 f2 f3 f4) : FnG P w K mg base CX0 4 f fd ["script"] (spLaw K) := by
  have bM := C.m.binds (ps := ["draw"]) fun _ _ _ _ _ _ us hl => match us, hl with | [_], _ => rfl
  have bT := C.t.binds (ps := ["draw", "many"]) fun _ _ _ _ _ _ us hl => match us, hl with | [_, _], _ => rfl
  have bB := C.b.binds (ps := ["script"]) fun _ _ _ _ _ _ us hl => match us, hl with | [_], _ => rfl
  have bP := C.p.binds (ps := ["draw", "some"]) fun _ _ _ _ _ _ us hl => match us, hl with | [_, _], _ => rfl
  have bPl := C.pl.binds (ps := []) fun _ _ _ _ _ _ us hl => match us, hl with | [], _ => rfl
  have bTo := C.to.binds (ps := ["one", "other"]) fun _ _ _ _ _ _ us hl => match us, hl with | [_, _], _ => rfl
  have bC := C.c.binds (ps := ["error"]) fun _ _ _ _ _ _ us hl => match us, hl with | [_], _ => rfl
  have GB : FnOk P w K mg base CX0 1 _ fB _ _ := ok_begun C.b T.d
  have GP : FnOk P w K mg base CX0 3 _ fP _ _ := ok_pick C.p T.d C.t bT C.gt C.m bM C.gm
  have GPl : FnOk P w K mg base CX0 1 _ fPl _ _ := ok_plain C.pl T
  have GTo : FnG P w K mg base CX0 3 _ fTo _ _ := ok_told C.to T C.i
  have GC : FnOk P w K mg base CX0 1 _ fC _ _ := ok_classes C.c T
  refine okG F scLw (fun vs H Q E h => ?_) (fun cdv A outer s H vs Q E cl hr h => ?_)
  · obtain ⟨a, ns, rfl, _⟩ := h
    rfl
  · obtain ⟨a, ns, rfl, hS, hl, k⟩ := h
    have hr1 : Room 1 _ := hr.mono (by decide)
    refine ⟨_, (pss_cons (ps_set (i := 1) scLw.nd rfl (Or.inl rfl) (pe_call GB hr1 (by rfl) C.gb C.b.kp bB .nil pass0 (pa_cons (pv 0) pa_nil)))
      (pss_cons (ps_set (i := 2) scLw.nd rfl (Or.inl rfl) (pe_lst (pa_cons pe_non (pa_cons pe_int (pa_cons (pe_un un_neg pe_int) (pa_cons pe_str (pa_cons pe_str (pa_cons (pe_tup (pa_cons pe_int (pa_cons pe_int pa_nil))) (pa_cons (pe_lst (pa_cons pe_int pa_nil)) (pa_cons (pe_disp (pps_cons pe_str pe_int pps_nil) (by rfl) (by rfl) (fun z => by cases z) (by decide)) (pa_cons pe_bl (pa_cons (pe_op op_pow pe_int pe_int) pa_nil))))))))))))
      (pss_cons (ps_par (i := 3) (j := 4) rfl scLw.nd rfl rfl (by decide) rfl rfl (pa_cons (pe_call GP hr (by rfl) C.gp C.p.kp bP .nil pass0 (pa_cons (pv 1) (pa_cons (pv 2) pa_nil))) (pa_cons (pe_call GP hr (by rfl) C.gp C.p.kp bP .nil pass0 (pa_cons (pv 1) (pa_cons (pv 2) pa_nil))) pa_nil)) (by rfl))
      (pss_cons (ps_set (i := 5) scLw.nd rfl (Or.inl rfl) (pe_callG GTo cl hr (by rfl) C.gto C.to.kp bTo .nil pass0 (pa_cons (pv 3) (pa_cons (pv 4) pa_nil))))
      (pss_cons (ps_set (i := 6) scLw.nd rfl (Or.inl rfl) (pe_op op_cat (pe_call0 GPl hr1 (by rfl) C.gpl C.pl.kp bPl .nil pass0) (pe_lc (te := tOp (rIxT K) (tVar 11) (tC (.int 0))) (own := [("entry", 11)]) (g := gName 11) rfl scLw.nd (pi_list (pv 5)) (blkOk_by (own := [("entry", 11)]) (N := NL) (sc := defScope sLaw) (by decide +kernel)) (fun _ _ _ _ _ => pg_name (i := 11) scLw.nd rfl (Or.inl rfl)) (fun _ _ _ _ _ => pts_nil) (fun _ _ _ _ _ => pe_ix ix_tup (pv 11) pe_int (fun _ _ => rfl)))))
      (pss_cons (ps_setLc (i := 7) (own := [("error", 8)]) (g := gName 8) rfl scLw.nd rfl rfl (sw_true rfl rfl rfl (by decide +kernel)) (pi_list (pv 6)) (blkOk_by (own := [("error", 8)]) (N := NL) (sc := defScope sLaw) (by decide +kernel)) (fun _ _ _ _ _ => pg_name (i := 8) scLw.nd rfl (Or.inl rfl)) (fun _ _ _ _ _ => pts_nil) (fun _ _ _ _ _ => pe_call GC hr1 (by rfl) C.gc C.c.kp bC .nil pass0 (pa_cons (pv 8) pa_nil)))
      (pss_cons (ps_if (PW.pt (pw_or (pt_cmpR (op_neD hr.units) (pe_lc (tt := tTest (tOp rNe (tCB (rLenQ K) (tCons (tVar 12) tNil)) (tC (.int 1)))) (own := [("found", 12)]) (g := gName 12) rfl scLw.nd (pi_list (pv 7)) (blkOk_by (own := [("found", 12)]) (N := NL) (sc := defScope sLaw) (by decide +kernel)) (fun _ _ _ _ _ => pg_name (i := 12) scLw.nd rfl (Or.inl rfl)) (fun _ _ _ _ _ => pts_one (pt_cmpR op_ne (pe_callB call_lenQ (by rfl) T.d.len PySem.boot_len (pa_cons (pv 12) pa_nil)) pe_int (nomark _))) (fun _ _ _ _ _ => pe_int)) (pe_lst pa_nil) (nomark _)) (pw_or1 (pt_cmpR op_ne (RZ.pe_lenSetI (by rfl) T.d.len (by rfl) T.set (pe_lc (te := tOp (rIxL K) (tVar 12) (tC (.int 0))) (own := [("found", 12)]) (g := gName 12) rfl scLw.nd (pi_list (pv 7)) (blkOk_by (own := [("found", 12)]) (N := NL) (sc := defScope sLaw) (by decide +kernel)) (fun _ _ _ _ _ => pg_name (i := 12) scLw.nd rfl (Or.inl rfl)) (fun _ _ _ _ _ => pts_nil) (fun _ _ _ _ _ => pe_ix ix_list (pv 12) pe_int (fun _ _ => rfl)))) (pe_callB call_len_seq (by rfl) T.d.len PySem.boot_len (pa_cons (pv 6) pa_nil)) (nomark _))))) (pss_one (ps_ret pe_bl)) pss_nil)
      (pss_cons (ps_for PassesOwn.never rfl (pi_list (pv 5)) (pg_tup rfl (pgs_cons (pg_name (i := 8) scLw.nd rfl (Or.inl rfl)) (pgs_cons (pg_name (i := 9) scLw.nd rfl (Or.inl rfl)) (pgs_cons (pg_name (i := 10) scLw.nd rfl (Or.inl rfl)) pgs_nil)))) (pss_one (ps_if (pt_cmpR op_ne (pe_callB (call_repr T.sys cl hr.units) (by rfl) T.rpr (by decide +kernel) (pa_cons (pv 9) pa_nil)) (pe_callB (call_repr T.sys cl hr.units) (by rfl) T.rpr (by decide +kernel) (pa_cons (pv 10) pa_nil)) (nomark _)) (pss_one (ps_ret pe_bl)) pss_nil)))
      (pss_cons (ps_for PassesOwn.never rfl (pi_list (pv 6)) (pg_name (i := 8) scLw.nd rfl (Or.inl rfl)) (pss_one (ps_if (PW.pt (pw_or (pt_not (pt_val (pe_callB call_isErr (by rfl) T.isi (by decide +kernel) (pa_cons (pv 8) (pa_cons (pe_glob (v := .ref (ga K "MakerError")) (by rfl) T.gM rfl) pa_nil))))) (pw_or1 (pt_not (pt_val (pe_callB call_isErr (by rfl) T.isi (by decide +kernel) (pa_cons (pv 8) (pa_cons (pe_bltn (v := .ty "ValueError") (by rfl) T.ve (by decide +kernel) rfl) pa_nil)))))))) (pss_one (ps_ret pe_bl)) pss_nil)))
      (pss_one (ps_ret pe_bl))))))))))), ?_⟩
    -- the draw
    refine ⟨_, rfl, a, ns, rfl, hS, hl, fun d w c H1 D1 s1 hd0 hw0 hc0 => ?_⟩
    -- the menu
    refine ⟨_, rfl, by show 2 ≤ sizeLine; decide, fun p1 h1 => ?_⟩
    refine ⟨by show 1 ≤ sizeLine; decide, fun p2 h2 => ?_⟩
    intro p3 h3
    refine ⟨upd_same, [(Sum.inr ("a" : Str), .int 4)], rfl, by decide, ?_⟩
    refine ⟨_, _, rfl, rfl, ⟨by decide, by decide, by decide⟩, by show 10 ≤ sizeLine; decide, fun l hl0 => ?_⟩
    obtain ⟨d1, w1⟩ := D1.fresh h1
    have S1 : Same H1 (upd H1 p1 (.tup [.int 1, .int 2])) := same_new h1
    obtain ⟨d2, w2⟩ := (D1.same S1).fresh h2
    have S2 := S1.trans (same_new (o := .lst [.int 3]) h2)
    obtain ⟨d3, w3⟩ := (D1.same S2).fresh h3
    have h3' : ∀ o o', upd (upd (upd (upd H1 p1 (.tup [.int 1, .int 2])) p2 (.lst [.int 3])) p3 o) p3 o' = upd (upd (upd H1 p1 (.tup [.int 1, .int 2])) p2 (.lst [.int 3])) p3 o' := fun _ _ => upd_upd
    rw [h3'] at hl0 ⊢
    have em : mergeK [] [((Sum.inr ("a" : Str) : Key), V.int 4)] = [(Sum.inr ("a" : Str), .int 4)] := rfl
    rw [em] at hl0 ⊢
    have S3 := S2.trans (same_new (o := .dK [(Sum.inr ("a" : Str), .int 4)]) h3)
    obtain ⟨dl, wl⟩ := (D1.same S3).fresh hl0
    have S4 := S3.trans (same_new (o := .lst [V.non, .int 0, .int (-7), .str ("x" : Str), .str ("" : Str), .ref p1, .ref p2, .ref p3, .bl true, .int (10 ^ 20)]) hl0)
    have g1 := same_new (o := .lst [V.non, .int 0, .int (-7), .str ("x" : Str), .str ("" : Str), .ref p1, .ref p2, .ref p3, .bl true, .int (10 ^ 20)]) hl0 _ _ (same_new (o := .dK [(Sum.inr ("a" : Str), .int 4)]) h3 _ _ (same_new (o := .lst [.int 3]) h2 p1 _ upd_same))
    have g2 := same_new (o := .lst [V.non, .int 0, .int (-7), .str ("x" : Str), .str ("" : Str), .ref p1, .ref p2, .ref p3, .bl true, .int (10 ^ 20)]) hl0 _ _ (same_new (o := .dK [(Sum.inr ("a" : Str), .int 4)]) h3 p2 _ upd_same)
    have g3 := same_new (o := .lst [V.non, .int 0, .int (-7), .str ("x" : Str), .str ("" : Str), .ref p1, .ref p2, .ref p3, .bl true, .int (10 ^ 20)]) hl0 p3 _ upd_same
    have gl : (upd (upd (upd (upd H1 p1 (.tup [.int 1, .int 2])) p2 (.lst [.int 3])) p3 (.dK [(Sum.inr ("a" : Str), .int 4)])) l (.lst [V.non, .int 0, .int (-7), .str ("x" : Str), .str ("" : Str), .ref p1, .ref p2, .ref p3, .bl true, .int (10 ^ 20)])) l = some (.lst [V.non, .int 0, .int (-7), .str ("x" : Str), .str ("" : Str), .ref p1, .ref p2, .ref p3, .bl true, .int (10 ^ 20)]) := upd_same
    have D4 := D1.same S4
    dsimp only [gName]
    rw [show ((10 : Int) ^ Int.toNat 20) = 10 ^ 20 from rfl]
    show tSeq _ _ _ ([some (.ref a), some (.ref d), some (.ref l), none, none, none, none, none, none, none, none, none, none] : L2.St) _
    generalize upd (upd (upd (upd H1 p1 (.tup [.int 1, .int 2])) p2 (.lst [.int 3])) p3 (.dK [(Sum.inr ("a" : Str), .int 4)])) l (.lst [V.non, .int 0, .int (-7), .str ("x" : Str), .str ("" : Str), .ref p1, .ref p2, .ref p3, .bl true, .int (10 ^ 20)]) = Hs at *
    have mn := menu_some (K := K) (G := gh d w Hs) (by rw [gh_at d1 w1]; exact g1) (by rw [gh_at d2 w2]; exact g2) (by rw [gh_at d3 w3]; exact g3)
    clear h1 h2 h3 hl0 h3' em S1 S2 S3 S4 g1 g2 g3 D1
    -- one, other
    refine ⟨_, rfl, _, rfl, d, w, c, l, 0, _, rfl, D4, by decide, SqL.of gl, dl, wl, by simp, by show 10 < 1073741824; decide, fun x Ha hx Da Ba => ?_⟩
    refine ⟨_, rfl, _, rfl, d, w, c, l, 0 + 1, _, rfl, Da, by decide, SqL.of (Ba _ _ gl dl wl), dl, wl, by simp, by show 10 < 1073741824; decide, fun y Hb hy Db Bb => ⟨_, _, rfl, ?_⟩⟩
    obtain ⟨dx, mx, ex⟩ := mn x hx
    obtain ⟨dy, my, ey⟩ := mn y hy
    replace ex := (ex.sm ((gh_but Ba).trans (gh_but Bb))).sm gh_sub
    replace ey := (ey.sm ((gh_but Ba).trans (gh_but Bb))).sm gh_sub
    -- told
    refine ⟨_, rfl, _, rfl, x, y, dx, dy, rfl, ex, mx, ey, my, fun l4 t1 t2 t3 t4 H4 hl4 hn4 T1 T2 T3 T4 s4 => ?_⟩
    clear ex ey mx my mn Ba Bb Da Db D4 gl hx hy s4 hn4
    dsimp only [gName]
    show tSeq _ _ _ ([some (.ref a), some (.ref d), some (.ref l), some x, some y, some (.ref l4), none, none, none, none, none, none, none] : L2.St) _
    have key : ∀ (i : Nat) (z : V), [V.ref t1, .ref t2, .ref t3, .ref t4][i]? = some z → ∃ t y, z = V.ref t ∧ toldN[i]? = some y ∧ TT K H4 t y := by
      intro i z hz
      match i, hz with
      | 0, hz => cases Option.some.inj hz; exact ⟨t1, _, rfl, rfl, T1⟩
      | 1, hz => cases Option.some.inj hz; exact ⟨t2, _, rfl, rfl, T2⟩
      | 2, hz => cases Option.some.inj hz; exact ⟨t3, _, rfl, rfl, T3⟩
      | 3, hz => cases Option.some.inj hz; exact ⟨t4, _, rfl, rfl, T4⟩
      | n + 4, hz => simp at hz
    -- errors_here
    refine ⟨rfl, fun pp as H5 hp hp0 pr s5 => ?_⟩
    refine ⟨_, rfl, l4, rfl, ⟨_, SqL.of (s5 _ _ hl4)⟩, fun D hD => lc_list (K := K) (a := l4) (xs := [V.ref t1, .ref t2, .ref t3, .ref t4])
      (fun i G => ∃ es : List Addr, Same H5 G ∧ G D = some (.lst (es.map V.ref)) ∧ Errs K H4 es (toldN.take i)) ⟨[], same_new hD, upd_same, .nil⟩ (fun i G _ ⟨_, p, _⟩ => SqL.of (p _ _ (s5 _ _ hl4))) ?_ ?_⟩
    · rintro i z G hi ⟨es, sG, hDG, eG⟩
      obtain ⟨t, yy, rfl, hyy, e, m, u, fs, DD, q1, q2, _⟩ := key i z hi
      have il : i < 4 := (List.getElem?_eq_some_iff.mp hi).1
      have el := paired_len eG
      rw [List.length_take] at el
      refine ⟨rfl, yes_if ?_⟩
      refine ⟨_, rfl, t, _, 0, .ref e, rfl, rfl, SqT.of (sG _ _ (s5 _ _ q1)), at_of (j := 0) rfl rfl, _, hDG, by rw [List.length_map]; exact small1000 (by omega), es ++ [e], fun b o ee => ?_, ?_, ?_⟩
      · rw [upd_ne (ne_of_none ee hD)]
        exact sG b o ee
      · rw [upd_same, List.map_append]
        rfl
      · rw [List.take_add_one, hyy]
        exact paired_app eG (.cons ⟨fs, q2⟩ .nil)
    rintro G ⟨es, sG, hDG, eG⟩
    have eG' : Errs K H4 es toldN := by
      have e4 : toldN.take [V.ref t1, V.ref t2, V.ref t3, V.ref t4].length = toldN := by rfl
      rwa [e4] at eG
    refine ⟨pp, D, _, _, rfl, rfl, sG _ _ hp, hDG, by rw [List.length_map, List.length_map, paired_len pr, paired_len eG', plain_len]; decide, fun q hq => ?_⟩
    rw [← List.map_append]
    have sQ := sG.trans (same_new (o := .lst ((as ++ es).map V.ref)) hq)
    have hq6 : (upd G q (.lst ((as ++ es).map V.ref))) q = some (.lst ((as ++ es).map V.ref)) := upd_same
    have er : Errs K (upd G q (.lst ((as ++ es).map V.ref))) (as ++ es) ordN := paired_app (L2.Paired.mapP pr fun _ _ e => ⟨[], e.same sQ⟩) (eG'.same (s5.trans sQ))
    have s46 := s5.trans sQ
    dsimp only [gName]
    show tSeq _ _ _ ([some (.ref a), some (.ref d), some (.ref l), some x, some y, some (.ref l4), some (.ref q), none, none, none, none, none, none] : L2.St) _
    generalize upd G q (.lst ((as ++ es).map V.ref)) = H6 at *
    generalize as ++ es = al at *
    clear eG eG' hDG sG hD hq sQ s5 pr hp hp0
    have all : al.length = 54 := by rw [paired_len er, ord_len]
    -- classes
    refine ⟨_, rfl, q, rfl, ⟨_, SqL.of hq6⟩, fun D2 hD2 => lc_list (K := K) (a := q) (xs := al.map V.ref)
      (fun i G => ∃ cs : List Addr, Same H6 G ∧ G D2 = some (.lst (cs.map V.ref)) ∧ Clss (del G D2) cs (ordN.take i)) ⟨[], same_new hD2, upd_same, .nil⟩ (fun i G _ ⟨_, p, _⟩ => SqL.of (p _ _ hq6)) ?_ ?_⟩
    · rintro i z G hi ⟨cs, sG, hDG, cG⟩
      rw [List.getElem?_map] at hi
      obtain ⟨b, hb, rfl⟩ := Option.map_eq_some_iff.mp hi
      obtain ⟨yy, hyy, fs, ee⟩ := paired_at er hb
      have il : i < 54 := by
        have := (List.getElem?_eq_some_iff.mp hb).1
        omega
      have cl2 := paired_len cG
      rw [List.length_take] at cl2
      refine ⟨rfl, yes_if ?_⟩
      refine ⟨_, rfl, b, yy, fs, rfl, ord_mem (List.mem_of_getElem? hyy), ee.same sG, fun p Gp hp hp0 sp => ?_⟩
      have pD : p ≠ D2 := (ne_of_none hDG hp0).symm
      refine ⟨_, sp _ _ hDG, by rw [List.length_map]; exact small1000 (by omega), cs ++ [p], fun b o ee => ?_, ?_, ?_⟩
      · rw [upd_ne (ne_of_none ee hD2)]
        exact sp _ _ (sG b o ee)
      · rw [upd_same, List.map_append]
        rfl
      · rw [del_upd, List.take_add_one, hyy]
        exact paired_app (cG.same (del_same2 fun b o _ e => sp b o e)) (.cons (by rw [del_ne pD]; exact hp) .nil)
    rintro H7 ⟨cs, s67, hC7, c7⟩
    rw [List.length_map, all, List.take_of_length_le (Nat.le_of_eq ord_len)] at c7
    replace c7 := c7.same del_sub
    have cl7 := paired_len c7
    rw [ord_len] at cl7
    dsimp only [gName]
    show tSeq _ _ _ ([some (.ref a), some (.ref d), some (.ref l), some x, some y, some (.ref l4), some (.ref q), some (.ref D2), none, none, none, none, none] : L2.St) _
    -- one class each
    refine ⟨_, rfl, D2, rfl, ⟨_, SqL.of hC7⟩, fun D3 hD3 => lc_list (K := K) (a := D2) (xs := cs.map V.ref) (fun i G => Same H7 G ∧ G D3 = some (.lst [])) ⟨same_new hD3, upd_same⟩ (fun i G _ p => SqL.of (p.1 _ _ hC7)) ?_ ?_⟩
    · rintro i z G hi ⟨sG, hDG⟩
      rw [List.getElem?_map] at hi
      obtain ⟨b, hb, rfl⟩ := Option.map_eq_some_iff.mp hi
      obtain ⟨yy, hyy, ee⟩ := paired_at c7 hb
      exact ⟨rfl, _, rfl, b, [.int (idx yy : Nat)], rfl, .inl (SqL.of (sG _ _ ee)), rfl, _, rfl, iteNS rfl ⟨sG, hDG⟩⟩
    rintro H8 ⟨s78, hD8⟩
    have hC8 := s78 _ _ hC7
    refine ⟨by show 0 ≤ sizeLine; decide, fun e he => ?_⟩
    have s79 := s78.trans (same_new (o := .lst []) he)
    refine ⟨.list [], .list [], .lst (SqL.of (same_new he _ _ hD8)) .nil, .lst (SqL.of upd_same) .nil, PySem.W.ke_shaped_ints [], PySem.W.ke_shaped_ints [], _, rfl, ?_⟩
    refine if_false_of' (by simp [PyData.eqv, PyData.eqvAll]) ?_
    generalize upd H8 e (.lst []) = H9 at *
    clear hD8 he hC8 s78
    have hC9 := s79 _ _ hC7
    have c9 := c7.same s79
    -- all unlike
    refine ⟨_, rfl, D2, rfl, ⟨_, SqL.of hC9⟩, fun D4 hD4 => lc_list (K := K) (a := D2) (xs := cs.map V.ref) (fun i G => Same H9 G ∧ G D4 = some (.lst ((ordI.take i).map V.int))) ⟨same_new hD4, upd_same⟩ (fun i G _ p => SqL.of (p.1 _ _ hC9)) ?_ ?_⟩
    · rintro i z G hi ⟨sG, hDG⟩
      rw [List.getElem?_map] at hi
      obtain ⟨b, hb, rfl⟩ := Option.map_eq_some_iff.mp hi
      obtain ⟨yy, hyy, ee⟩ := paired_at c9 hb
      have il : i < 54 := by
        have := (List.getElem?_eq_some_iff.mp hb).1
        omega
      refine ⟨rfl, yes_if ?_⟩
      refine ⟨_, rfl, b, _, 0, .int (idx yy : Nat), rfl, rfl, SqL.of (sG _ _ ee), at_of (j := 0) rfl rfl, _, hDG, ?_, fun b o ee => ?_, ?_⟩
      · rw [List.length_map, List.length_take]
        exact small1000 (by omega)
      · rw [upd_ne (ne_of_none ee hD4)]
        exact sG b o ee
      · have e1 : ordI[i]? = some (idx yy : Int) := by
          unfold ordI
          rw [List.getElem?_map, hyy]
          rfl
        rw [upd_same, List.take_add_one, e1, List.map_append]
        rfl
    rintro H10 ⟨s910, hD10⟩
    have li : ordI.length = 54 := by unfold ordI; rw [List.length_map, ord_len]
    rw [List.length_map, cl7, List.take_of_length_le (Nat.le_of_eq li)] at hD10
    have hq10 := s910 _ _ (s79 _ _ (s67 _ _ hq6))
    refine ⟨D4, ordI, rfl, SqL.of hD10, ord_nd, by rw [li]; decide, _, rfl, q, _, rfl, .inl (SqL.of hq10), rfl, _, rfl, ?_⟩
    refine if_false_of' (by rw [li, List.length_map, all]; rfl) ?_
    have s410 := ((s46.trans s67).trans s79).trans s910
    have e10 := er.same ((s67.trans s79).trans s910)
    have hl10 := s410 _ _ hl4
    -- what they bear
    refine ⟨_, rfl, l4, rfl, ⟨_, SqL.of hl10⟩, for_list (K := K) (a := l4) (xs := [V.ref t1, .ref t2, .ref t3, .ref t4])
      (fun i σ G => ∃ v8 v9 v10 : Option V, σ = [some (.ref a), some (.ref d), some (.ref l), some x, some y, some (.ref l4), some (.ref q), some (.ref D2), v8, v9, v10, none, none] ∧ Same H10 G)
      ⟨none, none, none, rfl, Same.refl _⟩ (fun i σ G _ ⟨_, _, _, _, p⟩ => SqL.of (p _ _ hl10)) ?_ ?_⟩
    · rintro i z σ G hi ⟨v8, v9, v10, rfl, sG⟩
      obtain ⟨t, yy, rfl, hyy, TT0⟩ := key i z hi
      obtain ⟨e, m, u, fs, DD, q1, q2, q3, q4, q5⟩ := (TT0.same s410).same sG
      refine ⟨t, _, rfl, SqT.of q1, rfl, _, _, rfl, _, _, rfl, _, _, rfl, rfl, ?_⟩
      refine ⟨_, rfl, _, DD, rfl, q3, q5.sh, q5.dp, Nat.le_trans q5.ln (line_le (by decide)), _, rfl, _, DD, rfl, q4, q5.sh, q5.dp, Nat.le_trans q5.ln (line_le (by decide)), rfl, _, rfl, iteNS rfl ?_⟩
      exact ⟨_, _, _, rfl, sG⟩
    rintro σ H11 ⟨v8, v9, v10, rfl, s1011⟩
    have e11 := e10.same s1011
    have hq11 := s1011 _ _ hq10
    -- below both
    refine ⟨_, rfl, q, rfl, ⟨_, SqL.of hq11⟩, for_list (K := K) (a := q) (xs := al.map V.ref)
      (fun i σ G => ∃ v8 : Option V, σ = [some (.ref a), some (.ref d), some (.ref l), some x, some y, some (.ref l4), some (.ref q), some (.ref D2), v8, v9, v10, none, none] ∧ Same H11 G)
      ⟨v8, rfl, Same.refl _⟩ (fun i σ G _ ⟨_, _, p⟩ => SqL.of (p _ _ hq11)) ?_ ?_⟩
    · rintro i z σ G hi ⟨v8, rfl, sG⟩
      rw [List.getElem?_map] at hi
      obtain ⟨b, hb, rfl⟩ := Option.map_eq_some_iff.mp hi
      obtain ⟨yy, hyy, fs, ee⟩ := paired_at e11 hb
      have my := ord_mem (List.mem_of_getElem? hyy)
      refine ⟨_, rfl, b, _, fs, _, _, _, rfl, ee.same sG, T.err yy my, .own _, T.kitM yy my, _, rfl, ?_⟩
      refine if_false_of' rfl ?_
      refine ⟨_, rfl, b, _, fs, _, _, _, rfl, ee.same sG, T.err yy my, .ty _, T.kitV yy my, _, rfl, ?_⟩
      refine if_false_of' rfl ?_
      exact ⟨_, rfl, sG⟩
    rintro σ H12 ⟨v8, rfl, _⟩
    exact k H12
end
end Any
set_option Elab.async false
set_option linter.all false
set_option maxRecDepth 100000
set_option maxHeartbeats 4000000
/-! A head whose facts are one Bool over the written part, and the defs of the text. -/
namespace Any
open PySem PySem.Spec PyProof.Rows L2
open He (ga ma)
/-- what the head reads -/
def adrs (g : Addr → Option Obj) (n : Nat) : List Addr := sysModules :: cStatics :: He.asD g n
abbrev AlX : Type := Bool × List He.FnW
def obsX (chk : PySem.W.Frag → Bool) (fn : List He.DefD) (K : PySem.W.Frag) : AlX := (chk K && fn.all fun d => d.ok K, fn.map fun d => He.fnW K d.at_)
def valX (fn : List He.DefD) : AlX := (true, fn.map He.DefD.val)
def hookX (n : Nat) (chk : PySem.W.Frag → Bool) (fn : List He.DefD) : PySem.W.Hook where
  α := AlX
  obs := fun s => obsX chk fn (He.frG s.heap.get? (adrs s.heap.get? n))
  val := fun _ => valX fn
  says := fun _ h => ∃ K : PySem.W.Frag, K.In h ∧ obsX chk fn K = valX fn
  of := fun _ _ e => ⟨_, He.frG_in, e⟩
  keeps := fun _ _ _ ⟨K, hK, c⟩ k => ⟨K, PySem.W.Frag.In.keeps hK k, c⟩
theorem obsX_eq {n : Nat} {chk : PySem.W.Frag → Bool} {fn : List He.DefD} (s : PySem.W.SharedT) : obsX chk fn (He.frG (HandSHeadRun.getT s) (adrs (HandSHeadRun.getT s) n)) = (hookX n chk fn).obs s.abs := by
  have e : HandSHeadRun.getT s = s.abs.heap.get? := funext (HandSHeadRun.getT_eq s)
  rw [e]
  rfl
section
variable {chk : PySem.W.Frag → Bool} {fn : List He.DefD} {K : PySem.W.Frag}
theorem saysX_chk (c : obsX chk fn K = valX fn) : chk K = true := (Bool.and_eq_true_iff.mp (congrArg (fun z : AlX => z.1) c : (chk K && fn.all fun d => d.ok K) = true)).1
theorem saysX_def (c : obsX chk fn K = valX fn) (i : Nat) {d : He.DefD} (h : fn[i]? = some d := by rfl) : ∃ fd, L2.FunD K d.name d.qual d.params d.body d.scope (d.dvs K) (d.kws K) (He.fAd K d.at_) fd := by
  have c1 := (Bool.and_eq_true_iff.mp (congrArg (fun z : AlX => z.1) c : (chk K && fn.all fun d => d.ok K) = true)).2
  have e : fn.map (fun d => He.fnW K d.at_) = fn.map He.DefD.val := congrArg (fun z : AlX => z.2) c
  have e2 : (fn.map fun d => He.fnW K d.at_)[i]? = (fn.map He.DefD.val)[i]? := by rw [e]
  rw [List.getElem?_map, List.getElem?_map, h] at e2
  exact He.DefD.funD (Option.some.inj e2) (List.all_eq_true.mp c1 d (List.mem_of_getElem? h))
end
/-- a def of the text, without defaults -/
def defD (at_ : Str × Option Str) (x q : Str) (st : Stmt) : He.DefD := ⟨at_, x, q, defArgs st, defBody st, defScope st, [], []⟩
theorem fun_ofD {K : PySem.W.Frag} {x q : Str} {st : Stmt} {f : Addr} {fd : FuncData} (F : L2.FunD K x q (defArgs st) (defBody st) (defScope st) [] [] f fd) : Fun K x q st f fd := by
  obtain ⟨oc, od, dV, kV, doc, pm, an, cdv, ct, osl, e, lk, hc, hd, _⟩ := F.ex
  rcases hd with ⟨_, rfl⟩ | ⟨z, _⟩
  · exact ⟨⟨oc, od, kV, doc, pm, an, cdv, ct, osl, e, lk, hc⟩, F.kp⟩
  · exact absurd rfl z
/-! ### facts as Bools -/
section
variable {K : PySem.W.Frag}
theorem band {a b : Bool} (h : (a && b) = true) : a = true ∧ b = true := Bool.and_eq_true_iff.mp h
def sysB (K : PySem.W.Frag) : Bool := match K.lookup sysModules with
  | some o => decide (o.cls = .type "dict")
  | none => false
theorem sysB_ok (h : sysB K = true) : SysD K := by
  unfold sysB at h
  cases e : K.lookup sysModules with
  | none =>
    rw [e] at h
    cases h
  | some o =>
    rw [e] at h
    exact ⟨o, e, of_decide_eq_true h⟩
def errB (K : PySem.W.Frag) (D : Addr) : Bool :=
  He.eqO (PySem.W.findIn K (.ref D) "__getattribute__") (some (some (.builtin "BaseException.__getattribute__"))) && (He.eqO (PySem.W.findIn K (.ref D) "__getattr__") (some none) &&
    (decide (PySem.W.subIn K (.ref D) (.type "BaseException") = some true) && (PySem.W.hasDictIn K D && (He.eqO (PySem.W.findIn K (.ref D) "__class__") (some (some (.builtin "object.__class__"))) &&
      (He.eqO (PySem.W.specialIn K (.builtin "object.__class__") "__get__") (some (some (.builtin "getset_descriptor.__get__"))) && (decide (PySem.W.takesIn K (.builtin "object.__class__") = some true) && decide (PySem.W.mroIn K D (.type "object") = some true)))))))
theorem errB_ok {D : Addr} (h : errB K D = true) : ErrC K D := by
  obtain ⟨h1, h⟩ := band h
  obtain ⟨h2, h⟩ := band h
  obtain ⟨h3, h⟩ := band h
  obtain ⟨h4, h⟩ := band h
  obtain ⟨h5, h⟩ := band h
  obtain ⟨h6, h⟩ := band h
  obtain ⟨h7, h8⟩ := band h
  exact ⟨He.eqO_ok h1, He.eqO_ok h2, of_decide_eq_true h3, h4, He.eqO_ok h5, He.eqO_ok h6, of_decide_eq_true h7, of_decide_eq_true h8⟩
def oexB (K : PySem.W.Frag) (C : Addr) : Bool := (match K.lookup C with
  | some ⟨.type t, _, .cls cd, sl⟩ => decide (t = "type") && (match cd.mro, sl.toList with
    | .ref C' :: bm, [_, _, _, _, some (.builtin n), _] => decide (C' = C) && (decide (n = "ValueError.__new__") && (!cd.hasDel && (cd.hasDict && HandSPX.refsVE bm)))
    | _, _ => false)
  | _ => false) && (He.eqO (PySem.W.findIn K (.ref C) "__setattr__") (some (some (.builtin "object.__setattr__"))) && (decide (PySem.W.subIn K (.ref C) (.type "BaseException") = some true) &&
    (decide (PySem.W.typeIn K (.ref C) = some (.type "type")) && PySem.W.keepIn K (.ref C))))
theorem oexB_ok {C : Addr} (h : oexB K C = true) : OexC K C := by
  obtain ⟨h1, h⟩ := band h
  obtain ⟨h2, h⟩ := band h
  obtain ⟨h3, h⟩ := band h
  obtain ⟨h4, h5⟩ := band h
  refine ⟨?_, He.eqO_ok h2, of_decide_eq_true h3, of_decide_eq_true h4, h5⟩
  cases e : K.lookup C with
  | none =>
    rw [e] at h1
    cases h1
  | some o =>
    rw [e] at h1
    obtain ⟨oc, od, dt, sl⟩ := o
    cases oc with
    | type t =>
      cases dt with
      | cls cd =>
        obtain ⟨nm, bs, mro, ns, qn, hd, sn, sb, ab, col, del⟩ := cd
        obtain ⟨ht, h1⟩ := band h1
        cases of_decide_eq_true ht
        dsimp only at h1
        obtain ⟨sl⟩ := sl
        split at h1
        · rename_i C' bm k0 k1 k2 k3 n k5 hs _
          obtain ⟨_, h1⟩ := band h1
          obtain ⟨q1, h1⟩ := band h1
          obtain ⟨q2, h1⟩ := band h1
          obtain ⟨q3, h1⟩ := band h1
          obtain ⟨q4, q5⟩ := band h1
          cases of_decide_eq_true q1
          cases of_decide_eq_true q2
          have q3' : del = false := by simpa using q3
          have q4' : hd = true := q4
          subst q3' q4'
          have hs' : sl = [k0, k1, k2, k3, some (.builtin "ValueError.__new__"), k5] := hs
          subst hs'
          exact ⟨nm, qn, ns, bs, bm, sn, sb, ab, col, od, k0, k1, k2, k3, k5, rfl, q5⟩
        · cases h1
      | _ => cases h1
    | _ => cases h1
def baseB (K : PySem.W.Frag) (M : Addr) : Bool := PySem.W.readsIn K M (.type "type") && ((match PySem.W.findCls K (.ref M) (.type "type") "__init__" with
  | some (.val v) => decide (v = .builtin "ValueError.__init__")
  | _ => false) && He.eqO (PySem.W.specialIn K (.ref M) "__getattribute__") (some (some (.builtin "type.__getattribute__"))))
theorem baseB_ok {M : Addr} (h : baseB K M = true) : BaseI K M := by
  obtain ⟨h1, h⟩ := band h
  obtain ⟨h2, h3⟩ := band h
  refine ⟨h1, ?_, He.eqO_ok h3⟩
  cases e : PySem.W.findCls K (.ref M) (.type "type") "__init__" with
  | none =>
    rw [e] at h2
    cases h2
  | some c =>
    rw [e] at h2
    cases c with
    | val v => rw [of_decide_eq_true h2]
    | get g a o t => cases h2
end
end Any
set_option Elab.async false
set_option linter.all false
set_option maxRecDepth 100000
set_option maxHeartbeats 0
namespace Any
open PySem PySem.Spec PyProof.Rows L2
open He (ga ma)
def free16 : List Str := (["abs", "int", "len", "isinstance", "enumerate", "set", "repr", "ValueError"] : List String).map Str.ofString
def defs16 : List Str := (["_law_begun", "_law_mixed", "_law_take", "_law_pick", "_law_plain_errors", "_law_told_errors", "_law_classes", "law"] : List String).map Str.ofString
def gloB (K : PySem.W.Frag) (x : Str) : Bool := He.eqO (PySem.W.nsIn K mainGlobals x) (some (some (.ref (ga K x))))
def chk16 (K : PySem.W.Frag) : Bool :=
  (free16.all fun x => He.eqO (PySem.W.nsIn K mainGlobals x) (some none)) && (sysB K && ((nms.all (gloB K)) && (gloB K "MakerError" && ((defs16.all (gloB K)) &&
    ((nms.all fun x => nms.all fun y => decide (PySem.W.kitOne K (.ref (ga K x)) (.ref (ga K y)) = some (decide (x = y)))) &&
      ((nms.all fun x => decide (PySem.W.kitOne K (.ref (ga K x)) (.ref (ga K "MakerError")) = some true) && decide (PySem.W.kitOne K (.ref (ga K x)) (.type "ValueError") = some true)) &&
        ((nms.all fun x => errB K (ga K x) && PySem.W.keepIn K (.ref (ga K x))) && ((plainN.all fun x => PySem.W.excIn K (ga K x) [.type "ValueError", .type "Exception", .type "BaseException", .type "object"] "ValueError.__new__") &&
          ((toldN.all fun x => oexB K (ga K x) && (He.eqO (PySem.W.findIn K (.ref (ga K x)) "__init__") (some (some (.ref (ma K (ga K x) "__init__")))) && decide (PySem.W.typeIn K (.ref (ma K (ga K x) "__init__")) = some (.type "function")))) &&
            (baseB K (ga K "MakerError") && (He.eqO (PySem.W.findIn K (.ref (ga K "BadScope")) "kind") (some none) && (He.eqO (PySem.W.findIn K (.ref (ga K "BadText")) "line") (some none) && (He.eqO (PySem.W.findIn K (.ref (ga K "BadText")) "column") (some none) &&
              (He.eqO (PySem.W.findIn K (.ref (ga K "BadText")) "wanted") (some none) && (He.eqO (PySem.W.findIn K (.ref (ga K "TooMany")) "most") (some none) && He.eqO (PySem.W.findIn K (.ref (ga K "Unnamed")) "name") (some none))))))))))))))))
def fn16 : List He.DefD := [defD ("_law_begun", none) "_law_begun" "_law_begun" sBegun, defD ("_law_mixed", none) "_law_mixed" "_law_mixed" sMixed, defD ("_law_take", none) "_law_take" "_law_take" sTake,
  defD ("_law_pick", none) "_law_pick" "_law_pick" sPick, defD ("_law_plain_errors", none) "_law_plain_errors" "_law_plain_errors" sPlain, defD ("_law_told_errors", none) "_law_told_errors" "_law_told_errors" sTold,
  defD ("_law_classes", none) "_law_classes" "_law_classes" sClasses, defD ("law", none) "law" "law" sLaw,
  defD ("BadScope", some "__init__") "__init__" "BadScope.__init__" iScope, defD ("BadText", some "__init__") "__init__" "BadText.__init__" iText, defD ("TooMany", some "__init__") "__init__" "TooMany.__init__" iMany, defD ("Unnamed", some "__init__") "__init__" "Unnamed.__init__" iUnnamed]
theorem t16_of {K : PySem.W.Frag} {h : Heap} {mg : Str → Option Value} (X : K.In h) (G : h.Ns mainGlobals mg) (c : chk16 K = true) : T16 K mg ∧ ∀ x ∈ defs16, mg x = some (.ref (ga K x)) := by
  obtain ⟨c1, c⟩ := band c
  obtain ⟨c2, c⟩ := band c
  obtain ⟨c3, c⟩ := band c
  obtain ⟨c4, c⟩ := band c
  obtain ⟨c5, c⟩ := band c
  obtain ⟨c6, c⟩ := band c
  obtain ⟨c7, c⟩ := band c
  obtain ⟨c8, c⟩ := band c
  obtain ⟨c9, c⟩ := band c
  obtain ⟨c10, c⟩ := band c
  obtain ⟨c11, c⟩ := band c
  obtain ⟨c12, c⟩ := band c
  obtain ⟨c13, c⟩ := band c
  obtain ⟨c14, c⟩ := band c
  obtain ⟨c15, c⟩ := band c
  obtain ⟨c16, c17⟩ := band c
  have fr : ∀ x ∈ free16, mg x = none := fun x hx => PySem.W.mg_none_of X G (He.eqO_ok (List.all_eq_true.mp c1 x hx))
  have gl : ∀ x, gloB K x = true → mg x = some (.ref (ga K x)) := fun x hx => PySem.W.mg_of X G (He.eqO_ok hx)
  refine ⟨{
    d := ⟨fr _ (by decide +kernel), fr _ (by decide +kernel), fr _ (by decide +kernel)⟩, isi := fr _ (by decide +kernel), enu := fr _ (by decide +kernel), «set» := fr _ (by decide +kernel), rpr := fr _ (by decide +kernel), ve := fr _ (by decide +kernel),
    sys := sysB_ok c2, g := fun x hx => gl x (List.all_eq_true.mp c3 x hx), gM := gl _ c4,
    kit := fun x hx y hy => of_decide_eq_true (List.all_eq_true.mp (List.all_eq_true.mp c6 x hx) y hy),
    kitM := fun x hx => of_decide_eq_true (band (List.all_eq_true.mp c7 x hx)).1, kitV := fun x hx => of_decide_eq_true (band (List.all_eq_true.mp c7 x hx)).2,
    err := fun x hx => errB_ok (band (List.all_eq_true.mp c8 x hx)).1, kep := fun x hx => (band (List.all_eq_true.mp c8 x hx)).2, exc := fun x hx => List.all_eq_true.mp c9 x hx,
    oex := fun x hx => oexB_ok (band (List.all_eq_true.mp c10 x hx)).1,
    ini := fun x hx => ⟨He.eqO_ok (band (band (List.all_eq_true.mp c10 x hx)).2).1, of_decide_eq_true (band (band (List.all_eq_true.mp c10 x hx)).2).2⟩,
    base := baseB_ok c11, noS := He.eqO_ok c12, noL := He.eqO_ok c13, noC := He.eqO_ok c14, noW := He.eqO_ok c15, noM := He.eqO_ok c16, noN := He.eqO_ok c17 }, fun x hx => gl x (List.all_eq_true.mp c5 x hx)⟩
theorem saysF {K : PySem.W.Frag} {chk : PySem.W.Frag → Bool} {fns : List He.DefD} (c : obsX chk fns K = valX fns) (n : Nat) (at_ : Str × Option Str) (x q : Str) (st : Stmt) (e : fns[n]? = some (defD at_ x q st)) : ∃ fd, Fun K x q st (He.fAd K at_) fd := by
  obtain ⟨d, F⟩ := saysX_def c n e
  exact ⟨d, fun_ofD (x := x) (q := q) (st := st) F⟩
theorem facts16 {P : Program} {w : World} {K : PySem.W.Frag} {h : Heap} {mg : Str → Option Value} {f : Addr} (X : K.In h) (G : h.Ns mainGlobals mg) (hfa : mg ("law" : Str) = some (.ref f)) (c : obsX chk16 fn16 K = valX fn16) :
    ∃ fd : FuncData, (∀ (s : Shared) (v : Value), BindsTo s fd ⟨[v], []⟩ [("script", v)]) ∧ ∀ base : Heap, K.In base → base.Ns mainGlobals mg → FnG P w K mg base CX0 4 f fd ["script"] (spLaw K) := by
  obtain ⟨T, gd⟩ := t16_of X G (saysX_chk c)
  obtain ⟨d0, F0⟩ := saysF c 0 ("_law_begun", none) "_law_begun" "_law_begun" sBegun rfl
  obtain ⟨d1, F1⟩ := saysF c 1 ("_law_mixed", none) "_law_mixed" "_law_mixed" sMixed rfl
  obtain ⟨d2, F2⟩ := saysF c 2 ("_law_take", none) "_law_take" "_law_take" sTake rfl
  obtain ⟨d3, F3⟩ := saysF c 3 ("_law_pick", none) "_law_pick" "_law_pick" sPick rfl
  obtain ⟨d4, F4⟩ := saysF c 4 ("_law_plain_errors", none) "_law_plain_errors" "_law_plain_errors" sPlain rfl
  obtain ⟨d5, F5⟩ := saysF c 5 ("_law_told_errors", none) "_law_told_errors" "_law_told_errors" sTold rfl
  obtain ⟨d6, F6⟩ := saysF c 6 ("_law_classes", none) "_law_classes" "_law_classes" sClasses rfl
  obtain ⟨d7, F7⟩ := saysX_def c 7 (d := defD ("law", none) "law" "law" sLaw) rfl
  have FL : Fun K "law" "law" sLaw (ga K "law") d7 := fun_ofD (x := "law") (q := "law") (st := sLaw) F7
  obtain ⟨d8, F8⟩ := saysF c 8 ("BadScope", some "__init__") "__init__" "BadScope.__init__" iScope rfl
  obtain ⟨d9, F9⟩ := saysF c 9 ("BadText", some "__init__") "__init__" "BadText.__init__" iText rfl
  obtain ⟨d10, F10⟩ := saysF c 10 ("TooMany", some "__init__") "__init__" "TooMany.__init__" iMany rfl
  obtain ⟨d11, F11⟩ := saysF c 11 ("Unnamed", some "__init__") "__init__" "Unnamed.__init__" iUnnamed rfl
  have e := hfa.symm.trans (gd "law" (by decide +kernel))
  cases e
  exact ⟨d7, fun s v => (L2.FunD.bindsA (ps := ["script"]) F7 fun _ _ _ _ _ _ us hl => match us, hl with | [_], _ => rfl) s [v] rfl, fun base _ _ => ok_law FL T
    ⟨F0, F1, F2, F3, F4, F5, F6, ⟨F8, F9, F10, F11⟩,
      gd _ (by decide +kernel), gd _ (by decide +kernel), gd _ (by decide +kernel), gd _ (by decide +kernel), gd _ (by decide +kernel), gd _ (by decide +kernel), gd _ (by decide +kernel)⟩⟩
abbrev R16 : PySem.W.OpenRow := PySem.W.OpenLaw.row PySem.Challenge.rw_anymaker_k16_errors_made_and_bases
def names1 : List Str := (["MakerError", "BadBarred", "BadBase", "BadChoice", "BadContext", "BadContract", "BadDocument", "BadEnds", "BadEvents", "BadGoal", "BadGrouping", "BadHeld", "BadInputs", "BadKept", "BadKind", "BadLevel", "BadLot", "BadMachine", "BadMaker", "BadMany", "BadMemory", "BadModes", "BadMost", "BadNames", "BadNumber", "BadOptions", "BadPairs", "BadPart", "BadPath", "BadPiece", "BadPins", "BadProgram", "BadPrograms", "BadRecords", "BadRow", "BadRuin", "BadScope", "BadSecond", "BadShowing", "BadStanding"] : List String).map Str.ofString
def names2 : List Str := (["BadTerms", "BadText", "BadThing", "BadTrace", "BadWidth", "FixedFill", "NotAhead", "NotTold", "NothingDone", "NothingUndone", "OtherChoice", "Ruined", "Tight", "TooMany", "Unnamed", "_law_begun", "_law_mixed", "_law_take", "_law_pick", "_law_plain_errors", "_law_told_errors", "_law_classes"] : List String).map Str.ofString
abbrev names16 : List Str := names1 ++ names2
abbrev hk16 : PySem.W.Hook := hookX 6 chk16 fn16
def ob16 (s : PySem.W.SharedT) : AlX := obsX chk16 fn16 (He.frG (HandSHeadRun.getT s) (adrs (HandSHeadRun.getT s) 6))
theorem ob16_eq (s : PySem.W.SharedT) : ob16 s = hk16.obs s.abs := obsX_eq s
theorem run16 (w : World) : HandSHeadRun.RunEq R16 (PySem.W.view R16.prog [64]) hk16 ob16 16000 names16 w := by
  intro os
  kernel_rfl
end Any
open PySem PySem.W PySem.Calls PyProof.Rows
theorem PySem.Challenge.cw_anymaker_k16_errors_made_and_bases_holds : PySem.Challenge.rw_anymaker_k16_errors_made_and_bases.Holds := by
  w_on; o_law
  refine HandSHeadRun.head_any (r := OpenLaw.row PySem.Challenge.rw_anymaker_k16_errors_made_and_bases) (q := view (OpenLaw.row PySem.Challenge.rw_anymaker_k16_errors_made_and_bases).prog [64]) (H := Any.hk16) (ob := Any.ob16) (M := 16000) (loose := Any.names16) (d := HandSHeadRun.topDef (OpenLaw.row PySem.Challenge.rw_anymaker_k16_errors_made_and_bases).prog 64) (kwd := []) Any.ob16_eq
    (by kernel_rfl) (fun s => by kernel_rfl) Any.run16 (by kernel_rfl) (by kernel_rfl) (by kernel_rfl) (by rfl) (by first | assumption | decide +kernel) (by decide +kernel) ⟨rfl, rfl, rfl, rfl, rfl, by decide +kernel⟩ ?hw ?hc
  case hw => w_witness2
  case hc =>
    refine Any.walkG (l := PySem.Challenge.rw_anymaker_k16_errors_made_and_bases) (n := 63) (k := 4) (x := "script") rfl (by decide) (by kernel_rfl) ⟨rfl, by decide, by decide⟩ ?F
    intro w mg fa h Y G hmg0
    obtain ⟨K, KX, c⟩ := Y
    have hmg : mg ("law" : PySem.Str) = some (.ref fa) := by
      have e : (HandSHeadRun.topDef (OpenLaw.row PySem.Challenge.rw_anymaker_k16_errors_made_and_bases).prog 64).name = ("law" : PySem.Str) := by kernel_rfl
      rw [← e]
      exact hmg0
    obtain ⟨fd, hb, hF⟩ := Any.facts16 (P := (PySem.Challenge.rw_anymaker_k16_errors_made_and_bases).prog) (w := w) KX G hmg c
    exact ⟨K, fd, Any.spLaw K, KX, hb, fun H a ns hl _ _ hS => ⟨a, ns, rfl, hS, hl, fun _ => rfl⟩, hF⟩
