import PyProof.Rows.All
import Wide.All
import OpenK.AllK
import Wide.FinOn
import HandS.ForMost
import HandS.ForExc
import HandS.EndBits
import KE.GoesEnumKw
import HandS.Walk
import HandS.IsInst
import HandS.ExcInit
import HandS.ExcIs
import HandS.ExcField
import HandS.ExcOwn
import HandS.ExcValue
import HandS.FStr
import PyProof.FString2
import PyProof.ReprRoads
import PyProof.RowDictHeap
import PyProof.CallFns
import HandS.Text
import HandS.Zip
import HandS.HeadHook1
import HandS.StrMore
import PyProof.StrLawsRepr
import KE.KStateDown
import HandS.Defaults
import HandS.Head0
import HandS.Head1
import HandS.Head2
import HandS.HeadHook2
import PySem.Challenge.RW_anymaker_k00_names_and_words
set_option Elab.async false
set_option maxRecDepth 100000
set_option maxHeartbeats 4000000
/-! The draws of a law: what begun, mixed, take and pick promise. -/
namespace Any
open PySem L2
def top (i : Nat) : Stmt := PySem.Challenge.pw_anymaker_k00_names_and_words.main.body.getD i (.Pass ⟨0, 0, 0, 0⟩)
abbrev sBegun : Stmt := top 11
abbrev sMixed : Stmt := top 12
abbrev sTake : Stmt := top 13
abbrev sPick : Stmt := top 14

/-! ### a dict of four written keys -/
theorem valHit {k : Key} {v : V} {r : List (Key × V)} : valV ((k, v) :: r) k = some v := by
  unfold valV
  rw [List.find?_cons_of_pos (by simp)]
  rfl
theorem valMiss {k j : Key} {v : V} {r : List (Key × V)} (h : ¬ k = j) : valV ((k, v) :: r) j = valV r j := by
  unfold valV
  rw [List.find?_cons_of_neg (by simpa using h)]
theorem sw_c : ¬ ("wide" : Str) = "cells" := by decide +kernel
theorem sw_r : ¬ ("wide" : Str) = "rest" := by decide +kernel
theorem sw_t : ¬ ("wide" : Str) = "turn" := by decide +kernel
theorem sc_r : ¬ ("cells" : Str) = "rest" := by decide +kernel
theorem sc_t : ¬ ("cells" : Str) = "turn" := by decide +kernel
theorem sr_t : ¬ ("rest" : Str) = "turn" := by decide +kernel
theorem kne {x y : Str} (h : ¬ x = y) : ¬ (Sum.inr x : Key) = Sum.inr y := fun e => h (Sum.inr.inj e)
def dkv (w c : Addr) (r t : Int) : List (Key × V) := [(.inr "wide", .ref w), (.inr "cells", .ref c), (.inr "rest", .int r), (.inr "turn", .int t)]
theorem dkv_w {w c : Addr} {r t : Int} : valV (dkv w c r t) (Sum.inr ("wide" : Str)) = some (.ref w) := valHit
theorem dkv_c {w c : Addr} {r t : Int} : valV (dkv w c r t) (Sum.inr ("cells" : Str)) = some (.ref c) := (valMiss (kne sw_c)).trans valHit
theorem dkv_r {w c : Addr} {r t : Int} : valV (dkv w c r t) (Sum.inr ("rest" : Str)) = some (.int r) := (valMiss (kne sw_r)).trans ((valMiss (kne sc_r)).trans valHit)
theorem dkv_t {w c : Addr} {r t : Int} : valV (dkv w c r t) (Sum.inr ("turn" : Str)) = some (.int t) := (valMiss (kne sw_t)).trans ((valMiss (kne sc_t)).trans ((valMiss (kne sr_t)).trans valHit))
theorem dkv_putR {w c : Addr} {r t z : Int} : putK (dkv w c r t) (Sum.inr ("rest" : Str)) (.int z) = dkv w c z t := by
  unfold putK dkv
  simp [sw_r, sc_r, Ne.symm sr_t]
theorem dkv_putT {w c : Addr} {r t z : Int} : putK (dkv w c r t) (Sum.inr ("turn" : Str)) (.int z) = dkv w c r z := by
  unfold putK dkv
  simp [sw_t, sc_t, sr_t]
theorem dkv_merge {w c : Addr} {r t : Int} : mergeK [] (dkv w c r t) = dkv w c r t := by
  unfold mergeK dkv putK
  simp [sw_t, sc_t, sr_t, sw_r, sc_r, sw_c]
theorem yes_if {A B : Hp → Prop} {σ : St} {H : Hp} (h : A H) : tYes σ H (fun b H' => if b = true then A H' else B H') := by
  show (if true = true then A H else B H)
  rw [if_pos rfl]
  exact h
/-! ### what a draw is, as it stands -/
/-- the draw at d: its two lists at w and c; it has taken no more than t turns -/
def Draw (H : Hp) (d w c : Addr) (t : Int) : Prop := ∃ (ws cs : List Int) (r u : Int), H d = some (.dK (dkv w c r u)) ∧ H w = some (.lst (ws.map V.int)) ∧ H c = some (.lst (cs.map V.int)) ∧ w ≠ c ∧
  (∀ z ∈ ws, 0 ≤ z) ∧ (∀ z ∈ cs, 0 ≤ z ∧ z < 2147483629) ∧ 0 ≤ r ∧ 0 ≤ u ∧ u ≤ t ∧ ws.length ≤ 63
/-- all that was tracked stands as it stood, but what is at d and w -/
def But (d w : Addr) (H H' : Hp) : Prop := ∀ b o, H b = some o → b ≠ d → b ≠ w → H' b = some o
def spBegun (K : PySem.W.Frag) : Sp := fun vs H Q _ => ∃ (a : Addr) (ns : List Int), vs = [.ref a] ∧ SqL K H a (ns.map V.int) ∧ ns.length ≤ 63 ∧
  ∀ (d w c : Addr) (H' : Hp), Draw H' d w c 0 → Same H H' → H d = none → H w = none → H c = none → Q (.ref d) H'
/-- a number from 0 on, of some size -/
def spMixed : Sp := fun vs H Q _ => ∃ (d w c : Addr) (t : Int), vs = [.ref d] ∧ Draw H d w c t ∧ t < 1099511627776 ∧
  ∀ (x : Int) (H' : Hp), 0 ≤ x → Draw H' d w c (t + 1) → But d w H H' → Q (.int x) H'
def spTake : Sp := fun vs H Q _ => ∃ (d w c : Addr) (t many : Int), vs = [.ref d, .int many] ∧ Draw H d w c t ∧ t < 1099511627776 ∧ 0 < many ∧ many < 1073741824 ∧
  ∀ (x : Int) (H' : Hp), 0 ≤ x → x < many → Draw H' d w c (t + 1) → But d w H H' → Q (.int x) H'
def spPick (K : PySem.W.Frag) : Sp := fun vs H Q _ => ∃ (d w c l : Addr) (t : Int) (xs : List V), vs = [.ref d, .ref l] ∧ Draw H d w c t ∧ t < 1099511627776 ∧ SqL K H l xs ∧ l ≠ d ∧ l ≠ w ∧ xs ≠ [] ∧ xs.length < 1073741824 ∧
  ∀ (x : V) (H' : Hp), x ∈ xs → Draw H' d w c (t + 1) → But d w H H' → Q x H'
/-- what the walk asks of the names -/
structure DTxt (mg : Str → Option Value) : Prop where
  abs : mg "abs" = none
  int : mg "int" = none
  len : mg "len" = none
section
variable {P : Program} {w : World} {K : PySem.W.Frag} {mg : Str → Option Value} {base : Heap}
theorem scB : FnScope ["script", "wide", "grain"] ["script"] (defScope sBegun) := ⟨rfl, rfl, rfl, by decide +kernel, rfl, by decide +kernel, by decide +kernel⟩
theorem int_at {ns : List Int} {i : Nat} {x : V} (h : (ns.map V.int)[i]? = some x) : ∃ z, ns[i]? = some z ∧ x = V.int z := by
  rw [List.getElem?_map] at h
  cases e : ns[i]? with
  | none =>
    rw [e] at h
    cases h
  | some z =>
    rw [e] at h
    exact ⟨z, rfl, (Option.some.inj h).symm⟩
theorem ok_begun {f : Addr} {fd : FuncData} (F : Fun K "_law_begun" "_law_begun" sBegun f fd) (T : DTxt mg) : FnOk P w K mg base CX0 1 f fd ["script"] (spBegun K) := by
  refine F.ok scB (fun vs H Q E h => ?_) (fun cdv A outer s H vs Q E hr h => ?_)
  · obtain ⟨a, ns, rfl, _⟩ := h
    rfl
  · obtain ⟨a, ns, rfl, hS, hl, k⟩ := h
    refine ⟨_, pss_cons (ps_setLc (i := 1) (own := [("grain", 2)]) (g := gName 2) rfl scB.nd rfl rfl (sw_true rfl rfl rfl (by decide +kernel)) (pi_list (pv 0))
        (blkOk_by (own := [("grain", 2)]) (N := ["script", "wide", "grain"]) (sc := defScope sBegun) (by decide +kernel))
        (fun _ _ _ _ _ => pg_name (i := 2) scB.nd rfl (Or.inl rfl))
        (fun _ _ _ _ _ => pts_one (pt_cmpR op_ge (pe_callB call_abs (by rfl) T.abs (by decide +kernel) (pa_cons (pv 2) pa_nil)) (pe_op op_pow pe_int pe_int) (nomark _)))
        (fun _ _ _ _ _ => pe_op op_sub (pe_callB call_abs (by rfl) T.abs (by decide +kernel) (pa_cons (pv 2) pa_nil)) (pe_op op_pow pe_int pe_int)))
      (pss_one (ps_ret (pe_disp (pps_cons pe_str (pv 1) (pps_cons pe_str
        (pe_lc (own := [("grain", 2)]) (g := gName 2) rfl scB.nd (pi_list (pv 0)) (blkOk_by (own := [("grain", 2)]) (N := ["script", "wide", "grain"]) (sc := defScope sBegun) (by decide +kernel))
          (fun _ _ _ _ _ => pg_name (i := 2) scB.nd rfl (Or.inl rfl)) (fun _ _ _ _ _ => pts_nil)
          (fun _ _ _ _ _ => pe_op op_mod (pe_callTy call_int1 (by rfl) T.int (by decide +kernel) (pa_cons (pe_callB call_abs (by rfl) T.abs (by decide +kernel) (pa_cons (pv 2) pa_nil)) pa_nil)) pe_int))
        (pps_cons pe_str pe_int (pps_cons pe_str pe_int pps_nil)))) (by rfl) (by rfl) (fun z => by cases z) (by decide)))), ?_⟩
    refine ⟨_, rfl, a, rfl, ⟨_, hS⟩, fun D hD => lc_list (K := K) (a := a) (xs := ns.map V.int)
      (fun i H1 => ∃ ws : List Int, (∀ z ∈ ws, 0 ≤ z) ∧ ws.length ≤ i ∧ H1 D = some (.lst (ws.map V.int)) ∧ Same H H1) ?_ (fun i H1 _ ⟨_, _, _, _, s1⟩ => s1.seq hS) ?_ ?_⟩
    · exact ⟨[], by simp, Nat.le_refl _, upd_same, fun b o e => by rw [upd_ne (ne_of_none e hD)]; exact e⟩
    · rintro i x H1 hi ⟨ws, w0, wl, hD1, s1⟩
      have hil : i < ns.length := by
        have := (List.getElem?_eq_some_iff.mp hi).1
        rwa [List.length_map] at this
      obtain ⟨z, hz, rfl⟩ := int_at hi
      refine ⟨rfl, _, rfl, z, rfl, _, _, rfl, rfl, ⟨by decide, by decide, by decide⟩, _, _, rfl, rfl, _, rfl, ?_⟩
      refine ite2 (fun c => ?_) (fun c => ⟨ws, w0, by omega, hD1, s1⟩)
      have c := of_decide_eq_true c
      refine ⟨_, rfl, z, rfl, _, _, rfl, rfl, ⟨by decide, by decide, by decide⟩, _, _, rfl, rfl, _, hD1, ?_, ws ++ [(if z < 0 then -z else z) - 10 ^ (18 : Int).toNat], ?_, ?_, ?_, ?_⟩
      · rw [List.length_map]
        exact small1000 (by omega)
      · intro y hy
        rcases List.mem_append.mp hy with q | q
        · exact w0 y q
        · rw [List.mem_singleton.mp q]
          exact Int.sub_nonneg_of_le c
      · rw [List.length_append]
        show ws.length + 1 ≤ i + 1
        omega
      · rw [upd_same, List.map_append]
        rfl
      · intro b o e
        rw [upd_ne (ne_of_none e hD)]
        exact s1 b o e
    · rintro H1 ⟨ws, w0, wl, hD1, s1⟩
      rw [List.length_map] at wl
      -- the dict, then the cells
      intro d hd
      have dD : D ≠ d := ne_of_none hD1 hd
      have sd : Same H1 (upd H1 d (.dK [])) := fun b o e => by
        rw [upd_ne (ne_of_none e hd)]
        exact e
      refine ⟨_, rfl, _, rfl, a, rfl, ⟨_, (s1.trans sd).seq hS⟩, fun C hC => lc_list (K := K) (a := a) (xs := ns.map V.int)
        (fun i H2 => ∃ cs : List Int, (∀ z ∈ cs, 0 ≤ z ∧ z < 2147483629) ∧ cs.length ≤ i ∧ H2 C = some (.lst (cs.map V.int)) ∧ Same (upd H1 d (.dK [])) H2) ?_ (fun i H2 _ ⟨_, _, _, _, s2⟩ => ((s1.trans sd).trans s2).seq hS) ?_ ?_⟩
      · exact ⟨[], by simp, Nat.le_refl _, upd_same, fun b o e => by rw [upd_ne (ne_of_none e hC)]; exact e⟩
      · rintro i x H2 hi ⟨cs, c0, cl, hC2, s2⟩
        have hil : i < ns.length := by
          have := (List.getElem?_eq_some_iff.mp hi).1
          rwa [List.length_map] at this
        obtain ⟨z, hz, rfl⟩ := int_at hi
        refine ⟨rfl, yes_if ?_⟩
        refine ⟨_, rfl, z, rfl, .inl ⟨_, rfl, ?_⟩⟩
        refine ⟨_, _, rfl, rfl, (by show (0 : Int) < 2147483629; decide), _, hC2, ?_, cs ++ [(if z < 0 then -z else z) % 2147483629], ?_, ?_, ?_, ?_⟩
        · rw [List.length_map]
          exact small1000 (by omega)
        · intro y hy
          rcases List.mem_append.mp hy with q | q
          · exact c0 y q
          · rw [List.mem_singleton.mp q]
            exact ⟨Int.emod_nonneg _ (by decide), Int.emod_lt_of_pos _ (by decide)⟩
        · rw [List.length_append]
          show cs.length + 1 ≤ i + 1
          omega
        · rw [upd_same, List.map_append]
          rfl
        · intro b o e
          rw [upd_ne (ne_of_none e hC)]
          exact s2 b o e
      · rintro H2 ⟨cs, c0, cl, hC2, s2⟩
        have hd2 : H2 d = some (.dK []) := s2 _ _ upd_same
        have hD2 : H2 D = some (.lst (ws.map V.int)) := s2 _ _ (by rw [upd_ne dD]; exact hD1)
        have Cd : C ≠ d := ne_of hC2 hd2 (by intro q; cases q)
        have DC : D ≠ C := fun e => by
          rw [← e] at hC
          rw [upd_ne dD, hD1] at hC
          cases hC
        refine ⟨hd2, dkv D C 0 0, rfl, by show 4 ≤ 15; decide, ?_⟩
        have s3 : Same H H2 := (s1.trans sd).trans s2
        have hd0 : H d = none := s1.free hd
        refine k d D C _ ⟨ws, cs, 0, 0, ?_, ?_, ?_, DC, w0, c0, Int.le_refl _, Int.le_refl _, Int.le_refl _, by omega⟩ ?_ hd0 hD ?_
        · rw [upd_same, dkv_merge]
        · rw [upd_ne dD]
          exact hD2
        · rw [upd_ne Cd]
          exact hC2
        · intro b o e
          rw [upd_ne (ne_of_none e hd0)]
          exact s3 b o e
        · exact (s1.trans sd).free hC
theorem scM : FnScope ["draw", "turn", "found", "prime", "blend", "grain"] ["draw"] (defScope sMixed) := ⟨rfl, rfl, rfl, by decide +kernel, rfl, by decide +kernel, by decide +kernel⟩
theorem prime_at {i : Nat} {x : V} (h : [V.int 2147483647, V.int 2147483629, V.int 2147483587, V.int 2147483579][i]? = some x) : ∃ p : Int, x = V.int p ∧ 2147483579 ≤ p ∧ p ≤ 2147483647 := by
  have m := List.mem_of_getElem? h
  simp only [List.mem_cons, List.not_mem_nil, or_false] at m
  rcases m with rfl | rfl | rfl | rfl
  · exact ⟨_, rfl, by decide, by decide⟩
  · exact ⟨_, rfl, by decide, by decide⟩
  · exact ⟨_, rfl, by decide, by decide⟩
  · exact ⟨_, rfl, by decide, by decide⟩
theorem ok_mixed {f : Addr} {fd : FuncData} (F : Fun K "_law_mixed" "_law_mixed" sMixed f fd) (T : DTxt mg) : FnOk P w K mg base CX0 1 f fd ["draw"] spMixed := by
  refine F.ok scM (fun vs H Q E h => ?_) (fun cdv A outer s H vs Q E hr h => ?_)
  · obtain ⟨d, w, c, t, rfl, _⟩ := h
    rfl
  · obtain ⟨d, w, c, t, rfl, ⟨ws, cs, r, u, hd, hw, hc, wc, w0, c0, r0, u0, ut, wl⟩, tl, k⟩ := h
    have hu := hu_of hr
    refine ⟨_, pss_cons (ps_par (i := 1) (j := 2) rfl scM.nd rfl rfl (by decide) rfl rfl (pa_cons (pe_op op_add (pe_dget hu (pv 0) pe_str (fun _ _ => rfl)) pe_int) (pa_cons pe_int pa_nil)) (by rfl))
      (pss_cons (ps_dput hu (pv 0) pe_str (pv 1) rfl)
      (pss_cons (ps_for PassesOwn.never rfl (pi_list (pe_lst (pa_cons pe_int (pa_cons pe_int (pa_cons pe_int (pa_cons pe_int pa_nil)))))) (pg_name (i := 3) scM.nd rfl (Or.inl rfl))
        (pss_cons (ps_set (i := 4) scM.nd rfl (Or.inl rfl) (pe_op op_add (pe_op op_mul pe_int (pv 1)) (pe_op op_fdiv (pv 3) pe_int)))
        (pss_cons (ps_for PassesOwn.never rfl (pi_list (pe_dget hu (pv 0) pe_str (fun _ _ => rfl))) (pg_name (i := 5) scM.nd rfl (Or.inl rfl))
          (pss_one (ps_set (i := 4) scM.nd rfl (Or.inl rfl) (pe_op op_mod (pe_callTy call_int1 (by rfl) T.int (by decide +kernel) (pa_cons (pe_op op_add (pe_op op_add (pe_op op_mul (pv 4) pe_int) (pv 5)) (pv 1)) pa_nil)) (pv 3)))))
        (pss_one (ps_set (i := 2) scM.nd rfl (Or.inl rfl) (pe_op op_add (pe_op op_mul (pv 2) pe_int) (pe_op op_mod (pe_callTy call_int1 (by rfl) T.int (by decide +kernel) (pa_cons (pe_op op_pow (pv 4) pe_int) pa_nil)) (pv 3))))))))
      (pss_one (ps_ret (pv 2))))), ?_⟩
    -- turn, found = draw['turn'] + 1, 0
    refine ⟨_, rfl, d, _, rfl, (by rw [← dkv_t (w := w) (c := c) (r := r) (t := u)]; exact DGet.k (k := Sum.inr ("turn" : Str)) hd), _, _, rfl, rfl, _, _, rfl, ?_⟩
    -- draw['turn'] = turn
    refine ⟨_, rfl, _, rfl, d, _, rfl, DPut.k (k := Sum.inr ("turn" : Str)) hd (by show 4 < sizeLine; decide), ?_⟩
    rw [dkv_putT]
    refine ⟨by show 4 ≤ sizeLine; decide, fun L hL => ?_⟩
    have wd : w ≠ d := ne_of hw hd (by intro q; cases q)
    have cd : c ≠ d := ne_of hc hd (by intro q; cases q)
    have Ld : L ≠ d := fun e => by rw [e, upd_same] at hL; cases hL
    have hL0 : H L = none := by
      have e := hL
      rw [upd_ne Ld] at e
      exact e
    have wL : w ≠ L := ne_of_none hw hL0
    have cL : c ≠ L := ne_of_none hc hL0
    have g1 : ∀ o, (upd (upd H d (.dK (dkv w c r (u + 1)))) L o) d = some (.dK (dkv w c r (u + 1))) := fun o => by rw [upd_ne Ld.symm, upd_same]
    have g2 : ∀ o, (upd (upd H d (.dK (dkv w c r (u + 1)))) L o) w = some (.lst (ws.map V.int)) := fun o => by rw [upd_ne wL, upd_ne wd]; exact hw
    have g3 : ∀ o, (upd (upd H d (.dK (dkv w c r (u + 1)))) L o) c = some (.lst (cs.map V.int)) := fun o => by rw [upd_ne cL, upd_ne cd]; exact hc
    refine ⟨L, rfl, ⟨_, SqL.of upd_same⟩, for_list (K := K) (a := L) (xs := [V.int 2147483647, V.int 2147483629, V.int 2147483587, V.int 2147483579])
      (fun i σ H2 => ∃ (z : Int) (v3 v4 v5 : Option V), 0 ≤ z ∧ σ = [some (.ref d), some (.int (u + 1)), some (.int z), v3, v4, v5] ∧ H2 = upd (upd H d (.dK (dkv w c r (u + 1)))) L (.lst [V.int 2147483647, V.int 2147483629, V.int 2147483587, V.int 2147483579]))
      ⟨0, none, none, none, Int.le_refl _, rfl, rfl⟩ (fun i σ H2 _ ⟨_, _, _, _, _, _, e⟩ => by rw [e]; exact SqL.of upd_same) ?_ ?_⟩
    · rintro i x σ H2 hi ⟨z, v3, v4, v5, z0, rfl, rfl⟩
      obtain ⟨p, rfl, p1, p2⟩ := prime_at hi
      refine ⟨_, rfl, _, _, rfl, rfl, .inl ⟨by decide, by decide⟩, _, rfl, _, _, rfl, rfl, ⟨by decide, by decide⟩, _, _, rfl, rfl, ?_⟩
      -- for grain in draw['cells']
      refine ⟨_, rfl, d, _, rfl, (by rw [← dkv_c (w := w) (c := c) (r := r) (t := u + 1)]; exact DGet.k (k := Sum.inr ("cells" : Str)) (g1 _)), c, rfl, ⟨_, SqL.of (g3 _)⟩, for_list (K := K) (a := c) (xs := cs.map V.int)
        (fun i σ H2 => ∃ (b : Int) (v5 : Option V), 0 ≤ b ∧ b < 18446744073709551616 ∧ σ = [some (.ref d), some (.int (u + 1)), some (.int z), some (.int p), some (.int b), v5] ∧ H2 = upd (upd H d (.dK (dkv w c r (u + 1)))) L (.lst [V.int 2147483647, V.int 2147483629, V.int 2147483587, V.int 2147483579]))
        ⟨48271 * (u + 1) + p / 37, v5, by omega, by omega, rfl, rfl⟩ (fun i σ H2 _ ⟨_, _, _, _, _, e⟩ => by rw [e]; exact SqL.of (g3 _)) ?_ ?_⟩
      · rintro j y σ H2 hj ⟨b, v5, b0, b1, rfl, rfl⟩
        obtain ⟨y, hy, rfl⟩ := int_at hj
        refine ⟨_, rfl, _, _, rfl, rfl, .inr ⟨by decide, by decide⟩, _, rfl, _, _, rfl, rfl, _, rfl, _, _, rfl, rfl, .inl ⟨_, rfl, ?_⟩⟩
        refine ⟨_, rfl, _, _, rfl, rfl, by omega, ?_⟩
        have e0 := Int.emod_nonneg (b * 69621 + y + (u + 1)) (show p ≠ 0 by omega)
        have e1 := Int.emod_lt_of_pos (b * 69621 + y + (u + 1)) (show (0 : Int) < p by omega)
        exact ⟨_, _, e0, by omega, rfl, rfl⟩
      · rintro σ H2 ⟨b, v5, b0, b1, rfl, rfl⟩
        refine ⟨_, rfl, _, _, rfl, rfl, .inr ⟨by decide, by decide⟩, _, rfl, _, _, rfl, rfl, ⟨by decide, by decide, by omega⟩, .inl ⟨_, rfl, ?_⟩⟩
        refine ⟨_, rfl, _, _, rfl, rfl, by omega, _, _, rfl, rfl, ?_⟩
        have e0 := Int.emod_nonneg (b ^ (5 : Int).toNat) (show p ≠ 0 by omega)
        have e1 : 0 ≤ z * 2147483647 := Int.mul_nonneg z0 (by decide)
        exact ⟨_, _, _, _, Int.add_nonneg e1 e0, rfl, rfl⟩
    · rintro σ H2 ⟨z, v3, v4, v5, z0, rfl, rfl⟩
      refine ⟨_, rfl, ?_⟩
      refine k z _ z0 ⟨ws, cs, r, u + 1, g1 _, g2 _, g3 _, wc, w0, c0, r0, by omega, by omega, wl⟩ fun b o e hb hw' => ?_
      rw [upd_ne (ne_of_none e hL0), upd_ne hb]
      exact e
theorem scK : FnScope ["draw", "many", "found"] ["draw", "many"] (defScope sTake) := ⟨rfl, rfl, rfl, by decide +kernel, rfl, by decide +kernel, by decide +kernel⟩
/-- the draw with its parts told -/
structure DX (H : Hp) (d w c : Addr) (ws cs : List Int) (r u : Int) : Prop where
  hd : H d = some (.dK (dkv w c r u))
  hw : H w = some (.lst (ws.map V.int))
  hc : H c = some (.lst (cs.map V.int))
  wc : w ≠ c
  w0 : ∀ z ∈ ws, 0 ≤ z
  c0 : ∀ z ∈ cs, 0 ≤ z ∧ z < 2147483629
  r0 : 0 ≤ r
  u0 : 0 ≤ u
  wl : ws.length ≤ 63
theorem DX.draw {H : Hp} {d w c : Addr} {ws cs : List Int} {r u t : Int} (D : DX H d w c ws cs r u) (h : u ≤ t) : Draw H d w c t := ⟨ws, cs, r, u, D.hd, D.hw, D.hc, D.wc, D.w0, D.c0, D.r0, D.u0, h, D.wl⟩
theorem Draw.dx {H : Hp} {d w c : Addr} {t : Int} (D : Draw H d w c t) : ∃ ws cs r u, DX H d w c ws cs r u ∧ u ≤ t := by
  obtain ⟨ws, cs, r, u, hd, hw, hc, wc, w0, c0, r0, u0, ut, wl⟩ := D
  exact ⟨ws, cs, r, u, ⟨hd, hw, hc, wc, w0, c0, r0, u0, wl⟩, ut⟩
theorem Draw.mono {H : Hp} {d w c : Addr} {t t' : Int} (D : Draw H d w c t) (h : t ≤ t') : Draw H d w c t' := by
  obtain ⟨ws, cs, r, u, D, ut⟩ := D.dx
  exact D.draw (Int.le_trans ut h)
section
variable {H : Hp} {d w c : Addr} {ws cs : List Int} {r u : Int}
theorem DX.getR (D : DX H d w c ws cs r u) : DGet H d (V.str ("rest" : Str)) (some (.int r)) := by
  rw [← dkv_r (w := w) (c := c) (r := r) (t := u)]
  exact DGet.k (k := Sum.inr ("rest" : Str)) D.hd
theorem DX.getW (D : DX H d w c ws cs r u) : DGet H d (V.str ("wide" : Str)) (some (.ref w)) := by
  rw [← dkv_w (w := w) (c := c) (r := r) (t := u)]
  exact DGet.k (k := Sum.inr ("wide" : Str)) D.hd
theorem DX.putR (D : DX H d w c ws cs r u) (z : Int) : DPut H d (V.str ("rest" : Str)) (.int z) (upd H d (.dK (dkv w c z u))) := by
  rw [← dkv_putR (w := w) (c := c) (r := r) (t := u)]
  exact DPut.k (k := Sum.inr ("rest" : Str)) D.hd (by show 4 < sizeLine; decide)
theorem DX.wd (D : DX H d w c ws cs r u) : w ≠ d := ne_of D.hw D.hd (by intro q; cases q)
theorem DX.cd (D : DX H d w c ws cs r u) : c ≠ d := ne_of D.hc D.hd (by intro q; cases q)
theorem DX.set (D : DX H d w c ws cs r u) {z : Int} (hz : 0 ≤ z) : DX (upd H d (.dK (dkv w c z u))) d w c ws cs z u :=
  ⟨upd_same, by rw [upd_ne D.wd]; exact D.hw, by rw [upd_ne D.cd]; exact D.hc, D.wc, D.w0, D.c0, hz, D.u0, D.wl⟩
end
theorem dp_ints {K : PySem.W.Frag} {H : Hp} : ∀ ns : List Int, DpAll K H (ns.map V.int) (ns.map PyData.int)
  | [] => .nil
  | n :: ns => .cons (.int n) (dp_ints ns)
theorem But.refl {d w : Addr} {H : Hp} : But d w H H := fun _ _ e _ _ => e
theorem But.trans {d w : Addr} {H H1 H2 : Hp} (a : But d w H H1) (b : But d w H1 H2) : But d w H H2 := fun p o e h1 h2 => b p o (a p o e h1 h2) h1 h2
theorem But.setD {d w : Addr} {H : Hp} {o : HO} : But d w H (upd H d o) := fun p q e h1 _ => by
  rw [upd_ne h1]
  exact e
theorem But.setW {d w : Addr} {H : Hp} {o : HO} : But d w H (upd H w o) := fun p q e _ h1 => by
  rw [upd_ne h1]
  exact e
theorem But.new {d w p : Addr} {H : Hp} {o : HO} (h : H p = none) : But d w H (upd H p o) := fun b q e _ _ => by
  rw [upd_ne (ne_of_none e h)]
  exact e
theorem ok_take {f fM : Addr} {fd fdM : FuncData} (F : Fun K "_law_take" "_law_take" sTake f fd) (T : DTxt mg) (FM : Fun K "_law_mixed" "_law_mixed" sMixed fM fdM) (bM : Binds K fdM ["draw"] []) (gM : mg "_law_mixed" = some (.ref fM)) :
    FnOk P w K mg base CX0 2 f fd ["draw", "many"] spTake := by
  have GM : FnOk P w K mg base CX0 1 fM fdM ["draw"] spMixed := ok_mixed FM T
  refine F.ok scK (fun vs H Q E h => ?_) (fun cdv A outer s H vs Q E hr h => ?_)
  · obtain ⟨d, w, c, t, many, rfl, _⟩ := h
    rfl
  · obtain ⟨d, w, c, t, many, rfl, D0, tl, m0, m1, k⟩ := h
    have hu := hu_of hr
    refine ⟨_, pss_cons (ps_if (pt_cmpR op_eq (pe_dget hu (pv 0) pe_str (fun _ _ => rfl)) pe_int (nomark _))
        (pss_one (ps_dput hu (pv 0) pe_str (pe_ifExp (pt_cmpR (op_neD hr.units) (pe_dget hu (pv 0) pe_str (fun _ _ => rfl)) (pe_lst pa_nil) (nomark _))
          (pe_bm PySem.F.plainAttrs_list PySem.F.slot_list_pop PySem.F.type_list_pop mt_popAt (pe_dget hu (pv 0) pe_str (fun _ _ => rfl)) (pa_cons pe_int pa_nil))
          (pe_call GM hr rfl gM FM.kp bM .nil pass0 (pa_cons (pv 0) pa_nil))) rfl)) pss_nil)
      (pss_cons (ps_set (i := 2) scK.nd rfl (Or.inl rfl) (pe_op op_mod (pe_callTy call_int1 (by rfl) T.int (by decide +kernel) (pa_cons (pe_dget hu (pv 0) pe_str (fun _ _ => rfl)) pa_nil)) (pv 1)))
      (pss_cons (ps_dput hu (pv 0) pe_str (pe_op op_fdiv (pe_dget hu (pv 0) pe_str (fun _ _ => rfl)) (pv 1)) rfl)
      (pss_one (ps_ret (pv 2))))), ?_⟩
    obtain ⟨ws, cs, r, u, D, ut⟩ := D0.dx
    refine ⟨_, rfl, d, _, rfl, D.getR, rfl, _, rfl, ?_⟩
    refine ite2 (fun _ => ?_) (fun _ => ?_)
    · -- the rest is 0
      refine ⟨_, rfl, d, _, rfl, D.getW, by show 0 ≤ sizeLine; decide, fun e he => ?_⟩
      have wd := D.wd
      have cd := D.cd
      have de : d ≠ e := ne_of_none D.hd he
      have we : w ≠ e := ne_of_none D.hw he
      have ce : c ≠ e := ne_of_none D.hc he
      have De : DX (upd H e (.lst [])) d w c ws cs r u := ⟨by rw [upd_ne de]; exact D.hd, by rw [upd_ne we]; exact D.hw, by rw [upd_ne ce]; exact D.hc, D.wc, D.w0, D.c0, D.r0, D.u0, D.wl⟩
      refine ⟨.list (ws.map PyData.int), .list [], .lst (SqL.of De.hw) (dp_ints _), .lst (SqL.of upd_same) .nil, PySem.W.ke_shaped_ints ws, PySem.W.ke_shaped_ints [], _, rfl, ?_⟩
      cases ws with
      | nil =>
        refine iteF ?_
        refine ⟨_, rfl, d, w, c, t, rfl, De.draw ut, tl, fun x H1 x0 D1 B1 => ?_⟩
        obtain ⟨ws1, cs1, r1, u1, D1, ut1⟩ := D1.dx
        refine ⟨_, rfl, d, _, rfl, D1.putR _, ?_⟩
        have D2 := D1.set x0
        refine ⟨_, rfl, d, _, rfl, D2.getR, .inl ⟨_, rfl, _, rfl, _, _, rfl, rfl, m0, ?_⟩⟩
        refine ⟨_, rfl, d, _, rfl, D2.getR, _, rfl, _, _, rfl, rfl, ⟨m0, m1⟩, _, rfl, d, _, rfl, D2.putR _, _, rfl, ?_⟩
        exact k _ _ (Int.emod_nonneg _ (by omega)) (Int.emod_lt_of_pos _ m0) ((D2.set (Int.ediv_nonneg x0 (by omega))).draw ut1) ((((But.new he).trans B1).trans But.setD).trans But.setD)
      | cons z ws =>
        refine iteT ?_
        refine ⟨_, rfl, d, _, rfl, De.getW, .inl ⟨rfl, _, SqL.of De.hw⟩, w, _, _, 0, _, rfl, rfl, De.hw, by decide, by decide, (by simp [seqIndex?]), rfl, ?_⟩
        have x0 : 0 ≤ z := De.w0 z (List.mem_cons.mpr (.inl rfl))
        have D1 : DX (upd (upd H e (.lst [])) w (.lst ((List.map V.int (z :: ws)).eraseIdx 0))) d w c ws cs r u :=
          ⟨by rw [upd_ne wd.symm]; exact De.hd, upd_same, by rw [upd_ne D.wc.symm]; exact De.hc, D.wc, fun y hy => D.w0 y (List.mem_cons.mpr (.inr hy)), D.c0, D.r0, D.u0, Nat.le_trans (Nat.le_succ _) D.wl⟩
        refine ⟨_, rfl, d, _, rfl, D1.putR _, ?_⟩
        have D2 := D1.set x0
        refine ⟨_, rfl, d, _, rfl, D2.getR, .inl ⟨_, rfl, _, rfl, _, _, rfl, rfl, m0, ?_⟩⟩
        refine ⟨_, rfl, d, _, rfl, D2.getR, _, rfl, _, _, rfl, rfl, ⟨m0, m1⟩, _, rfl, d, _, rfl, D2.putR _, _, rfl, ?_⟩
        exact k _ _ (Int.emod_nonneg _ (by omega)) (Int.emod_lt_of_pos _ m0) ((D2.set (Int.ediv_nonneg x0 (by omega))).draw (by omega)) ((((But.new he).trans But.setW).trans But.setD).trans But.setD)
    · refine ⟨_, rfl, d, _, rfl, D.getR, .inl ⟨_, rfl, _, rfl, _, _, rfl, rfl, m0, ?_⟩⟩
      refine ⟨_, rfl, d, _, rfl, D.getR, _, rfl, _, _, rfl, rfl, ⟨m0, m1⟩, _, rfl, d, _, rfl, D.putR _, _, rfl, ?_⟩
      exact k _ _ (Int.emod_nonneg _ (by omega)) (Int.emod_lt_of_pos _ m0) ((D.set (Int.ediv_nonneg D.r0 (by omega))).draw (by omega)) But.setD
theorem scP : FnScope ["draw", "some"] ["draw", "some"] (defScope sPick) := ⟨rfl, rfl, rfl, by decide +kernel, rfl, by decide +kernel, by decide +kernel⟩
theorem ok_pick {f fT fM : Addr} {fd fdT fdM : FuncData} (F : Fun K "_law_pick" "_law_pick" sPick f fd) (T : DTxt mg) (FT : Fun K "_law_take" "_law_take" sTake fT fdT) (bT : Binds K fdT ["draw", "many"] []) (gT : mg "_law_take" = some (.ref fT))
    (FM : Fun K "_law_mixed" "_law_mixed" sMixed fM fdM) (bM : Binds K fdM ["draw"] []) (gM : mg "_law_mixed" = some (.ref fM)) : FnOk P w K mg base CX0 3 f fd ["draw", "some"] (spPick K) := by
  have GT : FnOk P w K mg base CX0 2 fT fdT ["draw", "many"] spTake := ok_take FT T FM bM gM
  refine F.ok scP (fun vs H Q E h => ?_) (fun cdv A outer s H vs Q E hr h => ?_)
  · obtain ⟨d, w, c, l, t, xs, rfl, _⟩ := h
    rfl
  · obtain ⟨d, w, c, l, t, xs, rfl, D, tl, hS, ld, lw, x0, x1, k⟩ := h
    refine ⟨_, pss_one (ps_ret (pe_ix ix_list (pv 1) (pe_call GT hr rfl gT FT.kp bT .nil pass0 (pa_cons (pv 0) (pa_cons (pe_callB call_len_seq (by rfl) T.len PySem.boot_len (pa_cons (pv 1) pa_nil)) pa_nil))) (fun _ _ => rfl))), ?_⟩
    have hpos : 0 < xs.length := List.length_pos_iff.mpr x0
    refine ⟨_, rfl, _, rfl, _, rfl, l, _, rfl, .inl hS, d, w, c, t, (xs.length : Int), rfl, D, tl, by omega, by omega, fun x H1 h0 h1 D1 B1 => ?_⟩
    have hS1 : SqL K H1 l xs := by
      rcases hS with (q | ⟨o, q⟩) | q
      · exact .inl (.inl (B1 _ _ q ld lw))
      · exact .inl (.inr ⟨o, B1 _ _ q ld lw⟩)
      · exact .inr q
    obtain ⟨n, rfl⟩ : ∃ n : Nat, x = (n : Int) := ⟨x.toNat, by omega⟩
    have hn : n < xs.length := by omega
    exact ⟨l, xs, _, xs[n], rfl, rfl, hS1, atI_nat (List.getElem?_eq_getElem hn), k _ _ (List.getElem_mem hn) D1 B1⟩
end
end Any
set_option Elab.async false
set_option linter.all false
set_option maxRecDepth 100000
set_option maxHeartbeats 4000000
/-! Defs whose promise holds where no repr is under way (repr looks at what is under way). -/
namespace Any
open PySem PySem.Spec PyProof.Rows L2
/-- nothing that repr guards against is under way -/
def Clr (A : Around) : Prop := A.guards = some []
theorem Clr.deep {A : Around} (c : Clr A) (env : Env) : Clr (A.deeper env) := c
theorem Clr.one {A : Around} (c : Clr A) : Clr A.in1 := c
theorem Clr.made {A : Around} (c : Clr A) (C : Addr) (us : List Value) : Clr (A.under (.builtin "type.__call__" ⟨.ref C :: us, []⟩)) := by
  unfold Clr at *
  first
    | exact c
    | (simp [Around.under, Code.guards, Code.isGuard, guardIds, pushGuards]; exact c)
/-- as FnOk, where nothing is under way -/
structure FnG (P : Program) (w : World) (K : PySem.W.Frag) (mg : Str → Option Value) (base : Heap) (CX : CXT) (k : Nat) (f : Addr) (fd : FuncData) (ps : List Str) (sp : Sp) : Prop where
  len : ∀ vs H Q E, sp vs H Q E → vs.length = ps.length
  go : ∀ (A : Around) (out : List Env) (s : Shared) (H : Hp) (args : Args) (us : List Value) (vs : List V) (Q : VK) (E : XK), Clr A → Room k A → Env0 P w K mg base A out s H → BindsTo s fd args (ps.zip us) → Vals vs us → sp vs H Q E →
    codeAny (model P w) A (.call (.ref f) args) (CR CX out P w H s Q E) s
section
variable {P : Program} {w : World} {K : PySem.W.Frag} {mg : Str → Option Value} {base : Heap} {CX : CXT} {k : Nat} {f : Addr} {fd : FuncData} {ps : List Str} {sp : Sp}
theorem FnG.of (F : FnOk P w K mg base CX k f fd ps sp) : FnG P w K mg base CX k f fd ps sp := ⟨F.len, fun A out s H args us vs Q E _ r e b v q => F.run A out s H args us vs Q E r e b v q⟩
/-- a def by its body, which may lean on nothing being under way -/
theorem okG {x q : Str} {st : Stmt} {N : List Str} (F : Fun K x q st f fd) (S : FnScope N ps (defScope st)) (len : ∀ vs H Q E, sp vs H Q E → vs.length = ps.length)
    (body : ∀ (cdv : Value) (A : Around) (out : List Env) (s : Shared) (H : Hp) (vs : List V) (Q : VK) (E : XK), Clr (A.deeper (envOfC q (defScope st) s.heap.objs.size f cdv)) → Room k (A.deeper (envOfC q (defScope st) s.heap.objs.size f cdv)) → sp vs H Q E →
      ∃ t, PSs (cxOf CX P w K mg base N q (defScope st) f cdv A out s H E).nox (defBody st) t ∧ t { nx := fun _ H' => Q .non H', rt := Q } (start N vs) H) : FnG P w K mg base CX (k + 1) f fd ps sp := by
  obtain ⟨oc, od, kV, doc, pm, an, cdv, ct, osl, rfl, lk, hcd⟩ := F.ex
  refine ⟨len, fun A out s H args us vs Q E cl hr e0 hb r hsp => ?_⟩
  have hl := len _ _ _ _ hsp
  have sub : ∀ b o, base.get? b = some o → s.heap.get? b = some o := fun b o e => (e0.bs b o e).1
  have KX : K.In s.heap := e0.mod.kin.keeps sub
  refine codeAny_call_function hr.depth (KX _ _ lk) rfl S.co S.gen rfl (PySem.W.codeRec_of KX hcd) (hb _ _ _ _ (wpAny_newFunctionEnv_cells S.kind (fun y hy => ?_) fun env he s1 x => ?_))
  · rcases S.par y.1 (List.of_mem_zip (show (y.1, y.2) ∈ ps.zip us from hy)).1 with z | z
    · exact .inl z
    · exact .inr ⟨z, PySem.W.cellsFrom_some _ _ _ (.inl z)⟩
  · subst he
    refine ⟨e0.mod.nolimit.keeps fun b o e => x.toInCall.keep b o (sub b o e), codeAny_func ?_⟩
    obtain ⟨t, ht, q⟩ := body cdv A out s H vs Q E (cl.deep _) (hr.deeper _) hsp
    replace ht := ht.nox
    refine wpAny_mono (ht.run [] s1 (start N vs) H _ (inv_start S hr.hd e0 hl r x) q) (fun fl s' z => ?_) fun _ _ z => z
    cases fl with
    | ret u =>
      obtain ⟨v, σ', H', J, rv, q⟩ := z
      exact ⟨v, H', J.os, J.bare, J.base, J.hok, rv, q⟩
    | next =>
      obtain ⟨σ', H', J, q⟩ := z
      exact ⟨V.non, H', J.os, J.bare, J.base, J.hok, rfl, q⟩
    | brk => exact z.elim fun _ z => z.elim fun _ z => z.2.elim
    | cont => exact z.elim fun _ z => z.elim fun _ z => z.2.elim
end
section
variable {X : Cx} {CX : CXT} {k : Nat} {f : Addr} {fd : FuncData} {ps : List Str} {sp : Sp} {dvs : List V} {ds : List Value} {E : XK} {x : Str} {p pos : Pos} {e : Expr} {es : List Expr} {t : TA}
theorem runG {pins : List (Addr × Obj)} {σ : L2.St} {H : Hp} {s : Shared} {Q : VK} {us : List Value} {vs : List V} (F : FnG X.prog X.w X.K X.mg X.base CX k f fd ps sp) (cl : Clr X.A) (hr : Room k X.A) (hb : Binds X.K fd ps ds) (hd : Vals dvs ds) (hx : Passes CX X E)
    (I : Inv X pins σ H s) (r : Vals vs us) (h : sp (vs ++ dvs) H Q E) : wpAny (model X.prog X.w) X.A (call (.ref f) us) (EP X pins σ Q) X.xe s := by
  have r2 := r.append hd
  refine wpAny_call (codeAny_mono (F.go X.A X.stack s H ⟨us, []⟩ (us ++ ds) (vs ++ dvs) Q E cl hr I.env0 (hb s us I.kIn (r2.length.symm.trans (F.len _ _ _ _ h))) r2 h) fun r s' z => ?_)
  match r, z with
  | .error e, z => exact hx pins σ H s e s' I z
  | .ok (.ret u), z => exact I.after z
/-- f(e, ..) -/
theorem pe_callG (F : FnG X.prog X.w X.K X.mg X.base CX k f fd ps sp) (cl : Clr X.A) (hr : Room k X.A) (hg : Gl X x) (hm : X.mg x = some (.ref f)) (hk : PySem.W.keepIn X.K (.ref f) = true) (hb : Binds X.K fd ps ds) (hd : Vals dvs ds) (hx : Passes CX X E)
    (ha : PA X (e :: es) t) (hdb : (x == ("__debug__" : Str)) = false := by decide) (he : starEach (e :: es) X.env = (false, eval e X.env) :: starEach es X.env := by rfl) (hpl : (backTo pos (starEach es X.env)).any (·.1) = false := by rfl) :
    PE X (.Call (.Name x p) (e :: es) [] pos) (tCall sp dvs E t) :=
  ⟨fun pins s σ H Q I h => wpAny_Call_Name_kw (ld_glob I hg hm (PySem.W.callWith_K (h₀ := X.base) I.ok.mod.kin hk
    (thn (ha.run pos pins s σ H _ I h) fun us s1 ⟨vs, H1, I1, r, q⟩ => ⟨I1.kIn, runG F cl hr hb hd hx I1 r q⟩) he hpl) hdb)⟩
/-- f() -/
theorem pe_callG0 (F : FnG X.prog X.w X.K X.mg X.base CX k f fd ps sp) (cl : Clr X.A) (hr : Room k X.A) (hg : Gl X x) (hm : X.mg x = some (.ref f)) (hk : PySem.W.keepIn X.K (.ref f) = true) (hb : Binds X.K fd ps ds) (hd : Vals dvs ds) (hx : Passes CX X E)
    (hdb : (x == ("__debug__" : Str)) = false := by decide) : PE X (.Call (.Name x p) [] [] pos) (tCall sp dvs E tNil) :=
  ⟨fun pins s σ H Q I h => wpAny_Call_Name_kw (ld_glob I hg hm (PySem.W.callWith_K0 I.kIn hk (runG (us := []) F cl hr hb hd hx I .nil h)) hdb)⟩
end
/-! ### the law's own call: nothing is under way -/
theorem clr_caller : Clr callerA := rfl
section
variable {P : Program} {w : World} {K : PySem.W.Frag} {mg mb : Str → Option Value} {k : Nat} {fa a : Addr} {fd : FuncData} {x : Str} {sp : Sp} {s₁ : Shared} {vs : List Value} {ns : List Int}
/-- from one abstract heap H that tracks the script at most -/
theorem law_at (KX : K.In s₁.heap) (hns : s₁.heap.Ns mainGlobals mg) (hb : s₁.heap.Ns builtinsNs mb) (hbb : ∀ x : Str, x ≠ "__name__" → mb x = bootBuiltins x) (hlim : s₁.heap.NoLimit) (hg : s₁.gens = #[])
    (ha : s₁.heap.get? a = some { cls := .type "list", data := .seq vs.toArray }) (hr : Room k callerA) (F : ∀ base : Heap, K.In base → base.Ns mainGlobals mg → FnG P w K mg base CX0 k fa fd [x] sp)
    (hbind : ∀ (s : Shared) (u : Value), BindsTo s fd ⟨[u], []⟩ [(x, u)]) {H : Hp} (hO : Only H) (hok : HOk P w H s₁.heap) (hA : ∀ b, H b ≠ none → b = a) (hK : H a ≠ none → K.lookup a = none)
    (hsp : sp [.ref a] H (fun v _ => v = .bl true) fun _ _ _ => False) :
    codeAny (model P w) callerA (.call (.ref fa) ⟨[.ref a], []⟩) (fun r s' => r = .ok (.ret (.bool true)) ∧ OldK s₁.heap s'.heap ∧ s'.os = s₁.os ∧ AllBare s'.gens) s₁ := by
  have trk : ∀ b, H b = none ∨ b = a := fun b => by
    cases q : H b with
    | none => exact .inl rfl
    | some u => exact .inr (hA b fun z => by rw [q] at z; cases z)
  have hid : ∀ {b : Addr} {o : Obj}, s₁.heap.get? b = some o → H b = none → (hidT s₁.heap H).get? b = some o := fun e n => hidT_get e n
  -- a dict is not the script
  have nd : ∀ {b : Addr} {o : Obj} {es : Array DictEntry} {ep : Nat}, s₁.heap.get? b = some o → o.data = .dict es ep → H b = none := fun {b o es ep} e d => by
    rcases trk b with z | rfl
    · exact z
    · rw [ha] at e
      cases e
      cases d
  have nsH : ∀ {b : Addr} {m : Str → Option Value}, s₁.heap.Ns b m → (hidT s₁.heap H).Ns b m := fun ⟨o, es, ep, e, d, r⟩ => ⟨o, es, ep, hid e (nd e d), d, r⟩
  have kH : K.In (hidT s₁.heap H) := fun b o e => hid (KX b o e) (by
    rcases trk b with z | rfl
    · exact z
    · cases q : H b with
      | none => rfl
      | some u =>
        rw [hK fun z => by rw [q] at z; cases z] at e
        cases e)
  obtain ⟨mc, l1, l2⟩ := hlim
  have e0 : Env0 P w K mg (hidT s₁.heap H) callerA [] s₁ H :=
    ⟨rfl, ⟨kH, nsH hns, ⟨mb, nsH hb, hbb⟩, mc, nsH l1, l2⟩, fun b o e => of_hidT e, Nat.le_of_eq (hidT_size _ _), True.intro, fun b z => absurd (show b ∈ ([] : List Addr) from z) List.not_mem_nil, hok, .of_eq hg⟩
  refine codeAny_mono ((F _ kH (nsH hns)).go callerA [] s₁ H ⟨[.ref a], []⟩ [.ref a] [.ref a] _ _ clr_caller hr e0 (hbind s₁ (.ref a)) (.cons rfl .nil) hsp) fun r s' z => ?_
  match r, z with
  | .error e, z => exact z.elim
  | .ok (.ret u), ⟨v, H', os, bare, un, hok', rv, q⟩ =>
    have q' : v = .bl true := q
    subst q'
    cases (show u = Value.bool true from rv)
    refine ⟨rfl, OldK.of_keep fun b o e => ?_, os, bare⟩
    cases q : H b with
    | none => exact un.keep b o e q (fun z => absurd (show b ∈ ([] : List Addr) from z) List.not_mem_nil) List.not_mem_nil
    | some u =>
      rcases hO b with z | ⟨ob, xs, z⟩
      · rw [q] at z
        cases z
      · obtain ⟨e1, _⟩ := hok b _ z
        obtain ⟨e2, _⟩ := hok' b _ (un.frzs b ob _ z)
        rw [e] at e1
        cases e1
        exact e2
end
/-- the goal that a head leaves -/
theorem walkG {l : PySem.W.OpenLaw} {n k : Nat} {q : Program} {loose : List Str} {XP : (Str → Option Value) → Heap → Prop} {YP : World → Heap → Prop} {d : DefRec} {x : Str} (hn : l.most = some n) (hn2 : n ≤ sizeLine) (hdf : d.params.defaults = []) (hr : Room k callerA)
    (F : ∀ (w : World) (mg : Str → Option Value) (fa : Addr) (h : Heap), YP w h → h.Ns mainGlobals mg → mg d.name = some (.ref fa) →
      ∃ (K : PySem.W.Frag) (fd : FuncData) (sp : Sp), K.In h ∧ (∀ (s : Shared) (u : Value), BindsTo s fd ⟨[u], []⟩ [(x, u)]) ∧
        (∀ (H : Hp) (a : Addr) (ns : List Int), ns.length ≤ n → (∀ z ∈ ns, Builtin.Int.intBits z ≤ 1048576) → Only H → SqL K H a (ns.map V.int) → sp [.ref a] H (fun v _ => v = .bl true) fun _ _ _ => False) ∧
        ∀ base : Heap, K.In base → base.Ns mainGlobals mg → FnG l.prog w K mg base CX0 k fa fd [x] sp) :
    PySem.W.WalkO q loose XP YP l.row.toRowW d [] (fun f vs => PySem.call f vs) := by
  refine Att.attach_callB hn hdf fun w s₀ s₁ mg mb fa o pm cd doc a vs ns G Y ho hd hcd hmg hobj hints hlen hbits hg => ?_
  obtain ⟨K, fd, sp, KX, hb, hsp, hF⟩ := F w mg fa _ Y G.T.g hmg
  have rv := vals_ints hints
  have lv := hints.length
  cases e : K.lookup a with
  | some o =>
    have e1 := KX a o e
    rw [hobj] at e1
    cases e1
    exact law_at KX G.T.g G.T.b G.T.builtins G.T.nolimit hg hobj hr hF hb (H := fun _ => none) (fun _ => .inl rfl) (fun b u z => nomatch (show (none : Option HO) = some u from z)) (fun b z => absurd rfl z) (fun z => absurd rfl z)
      (hsp _ a ns hlen hbits (fun _ => .inl rfl) (.inr ⟨_, vs.toArray, _, e, rfl, rfl, rfl, by rw [List.size_toArray, lv]; exact Nat.le_trans hlen hn2, by simpa using rv⟩))
  | none =>
    have hO : Only fun b => if b = a then some (.frz { cls := .type "list", data := .seq vs.toArray } (.lst (ns.map V.int))) else none := fun b => by
      by_cases z : b = a
      · exact .inr ⟨_, _, if_pos z⟩
      · exact .inl (if_neg z)
    refine law_at KX G.T.g G.T.b G.T.builtins G.T.nolimit hg hobj hr hF hb hO (fun b u z => ?_) (fun b z => ?_) (fun _ => e) (hsp _ a ns hlen hbits hO (.inl (.inr ⟨_, if_pos rfl⟩)))
    · by_cases q : b = a
      · subst q
        cases (if_pos rfl).symm.trans z
        exact ⟨hobj, by rw [List.length_map]; exact Nat.le_trans hlen hn2, vs, _, rv, hobj⟩
      · cases (if_neg q).symm.trans z
    · by_cases q : b = a
      · exact q
      · exact absurd (if_neg q) z
end Any
set_option Elab.async false
set_option linter.all false
set_option maxRecDepth 100000
set_option maxHeartbeats 4000000
/-! all over a list, enumerate over a text and from a number, calls by name alone. -/
namespace Any
open PySem PySem.Spec PyProof.Rows L2
/-! ### all of a list of truths -/
def rAll (K : PySem.W.Frag) : List V → Hp → VK → Prop := fun vs H Q => ∃ (a : Addr) (bs : List Bool), vs = [V.ref a] ∧ SqL K H a (bs.map V.bl) ∧ Q (.bl (bs.all id)) H
theorem vals_bools : ∀ {bs : List Bool} {us : List Value}, Vals (bs.map V.bl) us → us = bs.map Value.bool
  | [], _, .nil => rfl
  | _ :: _, _, .cons h r => by
    rw [vals_bools r, show _ = Value.bool _ from h]
    rfl
theorem all_at (bs : List Bool) : (List.range bs.length).all (fun i => bs.getD i false) = bs.all id := by
  induction bs with
  | nil => rfl
  | cons b bs ih =>
    rw [List.length_cons, List.range_succ_eq_map, List.all_cons, List.all_map, List.all_cons, ← ih]
    rfl
theorem call_allL {X : Cx} (hc : X.calm = true) : CallR X (.builtin "all") (rAll X.K) := by
  intro pins s σ H vs us Q I r h
  obtain ⟨a, bs, rfl, hs, q⟩ := h
  obtain ⟨its, rv, hl, _⟩ := I.list hs
  have e := vals_bools rv
  subst e
  rw [Vals.ref1 r]
  have hL : s.heap.IsList a (bs.map Value.bool).toArray := hl.isList
  refine call_all_walk (wpAny_pyIter_list hL ?_)
  have la : a < s.heap.objs.size := by
    obtain ⟨o, ho, _⟩ := hL
    exact Heap.lt_size ho
  refine ⟨s.heap.objs.size, _, _, _, _, _, fun i => bs.getD i false, rfl, Walks.list (A := X.A.in1) (I.ok.hd hc) _ a (Nat.ne_of_lt la) (bs.map Value.bool).toArray, ⟨⟨_, Heap.get?_push_size _ rfl, rfl, rfl⟩, hL.at fun o z => Heap.get?_push_of_some _ z⟩, ?_, ?_⟩
  · intro i v s2 Q2 E2 hv hq
    have hv' : (bs.map Value.bool)[i]? = some v := by simpa using hv
    rw [List.getElem?_map] at hv'
    cases eb : bs[i]? with
    | none =>
      rw [eb] at hv'
      cases hv'
    | some b =>
      rw [eb] at hv'
      cases hv'
      refine wpAny_truthy_bool ?_
      have : bs.getD i false = b := by rw [List.getD_eq_getElem?_getD, eb]; rfl
      rw [← this]
      exact hq
  · intro h' tk hk
    refine ⟨.bl (bs.all id), H, I.kept (t' := tk) fun b o z => hk b o (fun m => ?_) (Heap.get?_push_of_some _ z), ?_, q⟩
    · have e : b = s.heap.objs.size := by simpa using m
      rw [e] at z
      exact absurd (Heap.lt_size z) (Nat.lt_irrefl _)
    · show Value.bool _ = Value.bool _
      rw [← all_at bs]
      congr 2
      simp
/-! ### enumerate, by the library's walk of counted items -/
section
variable {X : Cx} {pins : List (Addr × Obj)} {σ : L2.St} {H : Hp} {s : Shared} {e it : Addr} {fp : List Addr} {n i : Nat} {k : Int} {Pv : Nat → Value → Prop} {Sh : Nat → Heap → Prop} {Mid : Nat → Addr → Heap → Prop} {elts : List Expr} {kk : Nat} {tpos : Pos} {E : Value → Shared → Prop}
/-- one turn: the pair is a new tuple of ours -/
theorem enum_item {F : V → Prop} (W : WalksT X.prog X.w X.A e fp [e, it] n (fun i vals => ∃ t x, Pv i x ∧ vals = #[.int (k + (i : Int)) t, x]) Sh Mid) (I : Inv X pins σ H s) (hi : i < n) (st : Sh i s.heap)
    (own : ∀ b ∈ [e, it], FpOk X pins H b ∧ b < s.heap.objs.size) (rel : ∀ x, Pv i x → ∃ y, RelV y x ∧ F y) :
    wpAny (model X.prog X.w) X.A (pyNext (.ref e)) (fun r s1 => ∃ u, r = some u ∧ wpAny (model X.prog X.w) X.A (letOwnedTupleGo (.Tuple elts kk tpos) (.ref e) u)
      (fun _ s2 => ∃ x H', Inv X pins σ H' s2 ∧ RelV x u ∧ (∃ T y, x = .ref T ∧ H T = none ∧ H' = upd H T (.tup [.int (k + (i : Nat)), y]) ∧ F y) ∧ Sh (i + 1) s2.heap ∧ ∀ b ∈ [e, it], H' b = none) E s1) E s := by
  refine W.item i s _ _ hi st fun T vals h1 t1 hp above tup mid keep1 => ⟨.ref T, rfl, W.go elts kk tpos i T { s with heap := h1, toks := t1 } _ _ mid fun h2 st2 keep2 => ?_⟩
  obtain ⟨tk, v, hv, rfl⟩ := hp
  obtain ⟨y, ry, fy⟩ := rel v hv
  obtain ⟨o, ho, oc, m, od⟩ := tup
  have laid : ObjOk X.prog X.w (upd H T (.tup [.int (k + (i : Nat)), y])) h2 T (.tup [.int (k + (i : Nat)), y]) :=
    ⟨by show 2 ≤ sizeLine; decide, [.int (k + (i : Int)) tk, v], .cons ⟨tk, rfl⟩ (.cons ry .nil), ⟨o, keep2 T o (W.apart i T h1 mid) ho, oc, m, od⟩⟩
  refine ⟨.ref T, _, I.turnedNew (t' := t1) (ch := [e, it]) (fun b u nb z => keep2 b u nb (keep1 b u nb z)) (fun b hb => (own b hb).1) above laid, rfl, ⟨T, y, rfl, I.hok.fresh above, rfl, fy⟩, st2, fun b hb => ?_⟩
  rw [upd_ne (Nat.ne_of_lt (Nat.lt_of_lt_of_le (own b hb).2 above))]
  exact (own b hb).1.1
/-- the end -/
theorem enum_done (W : WalksT X.prog X.w X.A e fp [e, it] n (fun i vals => ∃ t x, Pv i x ∧ vals = #[.int (k + (i : Int)) t, x]) Sh Mid) (I : Inv X pins σ H s) (st : Sh n s.heap) (own : ∀ b ∈ [e, it], FpOk X pins H b) :
    wpAny (model X.prog X.w) X.A (pyNext (.ref e)) (fun r s1 => r = none ∧ Inv X pins σ H s1) E s :=
  W.done s _ _ st fun h' tk keep => ⟨rfl, I.turnedL (t' := tk) (ch := [e, it]) keep own⟩
end
/-- the two records of an enumerate are records -/
theorem enum_obj {h : Heap} {e it : Addr} {c : Int} {old : Value} {o : Obj} {vs : Array Value} (he : IsEnum h e it c old) (ho : h.get? it = some o) (hd : o.data = .fields vs) : ∀ b ∈ [e, it], ∃ u, h.get? b = some u ∧ ∀ v, u.data ≠ .cell v := by
  intro b hb
  rcases List.mem_cons.mp hb with rfl | hb
  · exact ⟨_, he, fun v z => nomatch z⟩
  · cases List.mem_singleton.mp hb
    exact ⟨o, ho, fun v z => by rw [hd] at z; cases z⟩
theorem enum_lt {h : Heap} {e it : Addr} {c : Int} {old : Value} {o : Obj} (he : IsEnum h e it c old) (ho : h.get? it = some o) : ∀ b ∈ [e, it], b < h.objs.size := by
  intro b hb
  rcases List.mem_cons.mp hb with rfl | hb
  · exact Heap.lt_size he
  · cases List.mem_singleton.mp hb
    exact Heap.lt_size ho
/-- an enumerate just laid, its iterator under it -/
theorem enum_laid {X : Cx} {pins : List (Addr × Obj)} {σ : L2.St} {H : Hp} {s : Shared} {tg : Expr} {R : It → Hp → Prop} {J : It} {tn : Nat → Heap → Prop} {h' : Heap} (I : Inv X pins σ H s) (keep : ∀ b u, s.heap.get? b = some u → h'.get? b = some u)
    (tu : Turn X.prog X.w X.K tg J [s.heap.objs.size + 1, s.heap.objs.size] (s.heap.objs.size + 1) tn) (t0 : tn 0 h') (q : R J H) : PIE X pins σ tg R (.ref (s.heap.objs.size + 1)) { s with heap := h' } := by
  refine ⟨_, _, tn, J, H, rfl, I.kept (t' := s.toks) keep, tu, t0, fun b hb => ?_, q⟩
  have le : s.heap.objs.size ≤ b := by
    rcases List.mem_cons.mp hb with rfl | hb
    · exact Nat.le_succ _
    · exact Nat.le_of_eq (List.mem_singleton.mp hb).symm
  exact I.fpOk le (I.hok.fresh le)
/-! #### over a text -/
def Ites (x : Str) : It :=
  ⟨fun i _ => i < x.cps.size, fun i H v H' => ∃ T y, v = .ref T ∧ H T = none ∧ H' = upd H T (.tup [.int (0 + (i : Nat)), y]) ∧ ∃ c, x.cps[i]? = some c ∧ y = .str ⟨#[c]⟩, fun i _ => i = x.cps.size⟩
theorem turn_enumS {P : Program} {w : World} {K : PySem.W.Frag} {elts : List Expr} {kk : Nat} {tpos : Pos} (x : Str) (t : Tok) (e it : Addr) (ne : e ≠ it) :
    Turn P w K (.Tuple elts kk tpos) (Ites x) [e, it] e (fun i h => (∃ old, IsEnum h e it (0 + (i : Int)) old) ∧ h.IsStrIter it (strIterType x) x t i) where
  mem := List.mem_cons_self ..
  obj := fun _ _ ⟨⟨_, a⟩, ⟨_, b, _, c⟩⟩ => enum_obj a b c
  keep := fun _ _ _ ⟨⟨old, a⟩, ⟨o, b, c⟩⟩ same => ⟨⟨old, same e (List.mem_cons_self ..) _ a⟩, ⟨o, same it (List.mem_cons_of_mem _ (List.mem_singleton.mpr rfl)) o b, c⟩⟩
  item := by
    intro X eP ew eK calm i pins s σ H E I own st go
    subst eP ew eK
    have W := WalksT.enumFrom (prog := X.prog) (w := X.w) 0 (Draws.text (A := X.A.in1) (I.ok.hd calm) it x t) e ne (by simpa using ne) (List.mem_singleton.mpr rfl)
    obtain ⟨⟨old, a⟩, ⟨o, b, c⟩⟩ := id st
    exact enum_item (F := fun y => ∃ c, x.cps[i]? = some c ∧ y = .str ⟨#[c]⟩) W I go st (fun q hq => ⟨own q hq, enum_lt a b q hq⟩) fun v ⟨c, u, hc, ev⟩ => ⟨.str ⟨#[c]⟩, ⟨u, ev⟩, c, hc, rfl⟩
  done := by
    intro X eP ew eK calm i pins s σ H E I own st stop
    subst eP ew eK
    have W := WalksT.enumFrom (prog := X.prog) (w := X.w) 0 (Draws.text (A := X.A.in1) (I.ok.hd calm) it x t) e ne (by simpa using ne) (List.mem_singleton.mpr rfl)
    have ei : i = x.cps.size := stop
    rw [ei] at st
    exact enum_done W I st own
  self := fun _ _ _ _ _ ⟨⟨_, a⟩, _⟩ q => wpAny_pyIter_enum a q
def iEnumS (ta : TA) : TI := fun σ H R => ta σ H fun vs H1 => ∃ x, vs = [.str x] ∧ R (Ites x) H1
theorem pi_enumS {X : Cx} {e : Expr} {ta : TA} {p pos tpos : Pos} {elts : List Expr} {kk : Nat} (hg : Gl X "enumerate") (hm : X.mg "enumerate" = none) (ha : PA X [e] ta) (one : starEach [e] X.env = [(false, eval e X.env)] := by rfl) :
    PI X (.Tuple elts kk tpos) (.Call (.Name "enumerate" p) [e] [] pos) (iEnumS ta) :=
  ⟨fun pins s σ H R I h => Call_ (ld_blt I hg hm boot_enumerate (PyProof.Rows.callWith_type1 (thn (ha.run pos pins s σ H _ I h) fun us s1 ⟨vs, H1, I1, rv, x, ev, q⟩ => by
    subst ev
    obtain ⟨u, rfl, t, rfl⟩ := vals1 rv
    exact call_enumerate_str fun h' a b _ keep => wpAny_pyIter_enum a (enum_laid I1 keep (turn_enumS x t _ _ (Nat.succ_ne_self _)) ⟨⟨.none, a⟩, b⟩ q)) one rfl))⟩
theorem walk_enumS {x : Str} : Walk (Ites x) x.cps.size (fun _ => True) (fun i H v H' => ∃ T c, v = .ref T ∧ H T = none ∧ H' = upd H T (.tup [.int (i : Nat), .str ⟨#[c]⟩]) ∧ x.cps[i]? = some c) := by
  refine ⟨fun _ _ lt _ => lt, fun _ _ => rfl, fun i H v H' _ _ y => ?_⟩
  obtain ⟨T, y, ev, hT, eH, c, hc, ey⟩ := y
  rw [ey, Int.zero_add] at eH
  exact ⟨T, c, ev, hT, eH, hc⟩
/-! #### over a list, from a number on -/
def Itek (K : PySem.W.Frag) (a : Addr) (k : Int) : It :=
  ⟨fun i H => ∃ xs : List V, SqL K H a xs ∧ i < xs.length, fun i H v H' => ∃ T y, v = .ref T ∧ H T = none ∧ H' = upd H T (.tup [.int (k + (i : Nat)), y]) ∧ ∀ xs, SqL K H a xs → xs[i]? = some y, fun i H => ∃ xs : List V, SqL K H a xs ∧ i = xs.length⟩
theorem turn_enumK {P : Program} {w : World} {K : PySem.W.Frag} {elts : List Expr} {kk : Nat} {tpos : Pos} (k : Int) (a e it : Addr) (ne : e ≠ it) (nae : a ≠ e) (nai : a ≠ it) :
    Turn P w K (.Tuple elts kk tpos) (Itek K a k) [e, it] e (fun i h => (∃ old, IsEnum h e it (k + (i : Int)) old) ∧ h.IsListIter it a i) where
  mem := List.mem_cons_self ..
  obj := fun _ _ ⟨⟨_, p⟩, ⟨_, b, _, c⟩⟩ => enum_obj p b c
  keep := fun _ _ _ ⟨⟨old, p⟩, b⟩ same => ⟨⟨old, same e (List.mem_cons_self ..) _ p⟩, b.at fun o z => same it (List.mem_cons_of_mem _ (List.mem_singleton.mpr rfl)) o z⟩
  item := by
    intro X eP ew eK calm i pins s σ H E I own st go
    subst eP ew eK
    obtain ⟨xs, hq, lt⟩ := go
    obtain ⟨its, rv, li, _⟩ := I.list hq
    have len := rv.length
    have W := WalksT.enumFrom (prog := X.prog) (w := X.w) k (Draws.list (A := X.A.in1) (I.ok.hd calm) it a nai its.toArray) e ne (by simp [ne, Ne.symm nae]) (List.mem_cons_self ..)
    obtain ⟨⟨old, p⟩, b⟩ := id st
    obtain ⟨o, ho, _⟩ := id b
    refine wpAny_mono (enum_item (F := fun y => ∀ ys, SqL X.K H a ys → ys[i]? = some y) W I (by simp; omega) ⟨⟨old, p⟩, b, li.isList⟩ (fun q hq => ⟨own q hq, enum_lt p ho q hq⟩) fun v hv => ?_) (fun r s1 ⟨u, er, z⟩ => ⟨u, er, wpAny_mono z (fun _ s2 ⟨x, H', J, rx, y, st2, fr⟩ => ⟨x, H', J, rx, y, ⟨st2.1, st2.2.1⟩, fr⟩) fun _ _ z => z⟩) fun _ _ z => z
    have hx : xs[i]? = some xs[i] := List.getElem?_eq_getElem lt
    obtain ⟨u, hu, ru⟩ := rv.get hx
    have ev : its[i]? = some v := by simpa using hv
    cases hu.symm.trans ev
    exact ⟨xs[i], ru, fun ys hy => by rw [I.list_inj hy hq, hx]⟩
  done := by
    intro X eP ew eK calm i pins s σ H E I own st stop
    subst eP ew eK
    obtain ⟨xs, hq, ei⟩ := stop
    obtain ⟨its, rv, li, _⟩ := I.list hq
    have len := rv.length
    have W := WalksT.enumFrom (prog := X.prog) (w := X.w) k (Draws.list (A := X.A.in1) (I.ok.hd calm) it a nai its.toArray) e ne (by simp [ne, Ne.symm nae]) (List.mem_cons_self ..)
    have en : i = its.toArray.size := by simp; omega
    rw [en] at st
    exact enum_done W I ⟨st.1, st.2, li.isList⟩ own
  self := fun _ _ _ _ _ ⟨⟨_, p⟩, _⟩ q => wpAny_pyIter_enum p q
section
variable {M : Model} {A : Around} {E : Value → Shared → Prop} {s : Shared} {env : Env}
/-- T(e, .., k = v, ..), T a built-in class -/
theorem callWith_tyKw {pos : Pos} {T : String} {e : Expr} {rest : List Expr} {kws : List Keyword} {Q : Value → Shared → Prop}
    (h : wpAny M A (spliced (backTo pos (starEach (e :: rest) env))) (fun vs s₁ => wpAny M A (evalAll ((backToKw pos (keywordEach kws env)).map (·.2))) (fun kvs s₂ => wpAny M A (call (.type T) vs (((backToKw pos (keywordEach kws env)).filterMap (·.1)).zip kvs)) Q E s₂) E s₁) E s)
    (first : backTo pos (starEach (e :: rest) env) = (false, eval e env) :: backTo pos (starEach rest env) := by rfl) (nostar : (backTo pos (starEach (e :: rest) env)).any (·.1) = false := by rfl)
    (named : (backToKw pos (keywordEach kws env)).all (·.1.isSome) = true := by rfl) (nodouble : (backToKw pos (keywordEach kws env)).any (·.1.isNone) = false := by rfl) :
    wpAny M A (callWith pos (.type T) [] (backTo pos (starEach (e :: rest) env)) (backToKw pos (keywordEach kws env))) Q E s := by
  have args : wpAny M A (evalArgs (.type T) true (backTo pos (starEach (e :: rest) env)) (backToKw pos (keywordEach kws env))) (fun a s₁ => wpAny M A (call (.type T) ([] ++ a.pos) a.kw) Q E s₁) E s := by
    rw [first] at h ⊢
    exact evalArgs_kwB named h
  unfold callWith
  refine wpAny_bind (wpAny_holding (wpAny_mono args (fun a s₁ run => wpAny_bind (wpAny_standAt ?_)) fun _ _ z => z))
  simp only [nostar, nodouble, Bool.or_false]
  exact wpAny_bind (wpAny_pure (wpAny_bind (wpAny_mono run (fun r s₂ z => wpAny_bind (wpAny_holding (wpAny_point (wpAny_pure z)))) fun _ _ z => z)))
end
def iEnumK (K : PySem.W.Frag) (ta tk : TA) : TI := fun σ H R => ta σ H fun vs H1 => tk σ H1 fun zs H2 => ∃ a xs k, vs = [.ref a] ∧ zs = [.int k] ∧ SqL K H2 a xs ∧ 0 ≤ k ∧ k < 1000 ∧ R (Itek K a k) H2
theorem pi_enumK {X : Cx} {e e2 : Expr} {ta tk : TA} {p pos tpos kp : Pos} {elts : List Expr} {kk : Nat} (hg : Gl X "enumerate") (hm : X.mg "enumerate" = none) (ha : PA X [e] ta) (hk : PK X [⟨some (Str.ofString "start"), e2, kp⟩] tk)
    (first : backTo pos (starEach [e] X.env) = (false, eval e X.env) :: backTo pos (starEach [] X.env) := by rfl) (nostar : (backTo pos (starEach [e] X.env)).any (·.1) = false := by rfl) :
    PI X (.Tuple elts kk tpos) (.Call (.Name "enumerate" p) [e] [⟨some (Str.ofString "start"), e2, kp⟩] pos) (iEnumK X.K ta tk) :=
  ⟨fun pins s σ H R I h => wpAny_Call_Name_kw (ld_blt I hg hm boot_enumerate (callWith_tyKw (thn (ha.run pos pins s σ H _ I h) fun us s1 ⟨vs, H1, I1, rv, q1⟩ => thn (hk.run pos pins s1 σ H1 _ I1 q1) fun ws s2 ⟨zs, H2, I2, rz, q2⟩ => by
    obtain ⟨a, xs, k, ev, ez, hq, k0, k1, q⟩ := q2
    subst ev ez
    obtain ⟨u, rfl, eu⟩ := vals1 rv
    obtain ⟨z, rfl, t, rfl⟩ := vals1 rz
    cases (show u = Value.ref a from eu)
    obtain ⟨its, _, li, _⟩ := I2.list hq
    obtain ⟨o, ho, _⟩ := id li.isList
    have la := Heap.lt_size ho
    refine enum_begins_start (begins_list a its.toArray) li.isList (by omega) (by omega) fun h' p b _ keep => wpAny_pyIter_enum p (enum_laid I2 keep (turn_enumK k a _ _ (Nat.succ_ne_self _) (Nat.ne_of_lt (Nat.lt_succ_of_lt la)) (Nat.ne_of_lt la)) ⟨⟨.none, ?_⟩, ⟨_, b, rfl, rfl⟩⟩ q)
    simpa using p) first nostar))⟩
theorem walk_enumK {K : PySem.W.Frag} {a : Addr} {k : Int} {xs : List V} : Walk (Itek K a k) xs.length (fun H => SqL K H a xs) (YPair (fun i => some (.int (k + (i : Nat)))) (fun i => xs[i]?)) :=
  ⟨fun _ _ lt q => ⟨xs, q, lt⟩, fun _ q => ⟨xs, q, rfl⟩, fun i _ _ _ _ q ⟨T, y, ev, hT, eH, at_⟩ => ⟨T, .int (k + (i : Nat)), y, ev, hT, eH, rfl, at_ xs q⟩⟩
/-! ### f(k = v) -/
section
variable {X : Cx} {CX : CXT} {k : Nat} {f : Addr} {fd : FuncData} {ps ks : List Str} {sp : Sp} {E : XK} {x : Str} {p pos : Pos} {kws : List Keyword} {tk : TA} {g : List Value → List Value → List Value} {gV : List V → List V → List V}
theorem pe_callK0 (F : FnOk X.prog X.w X.K X.mg X.base CX k f fd ps sp) (hr : Room k X.A) (hg : Gl X x) (hm : X.mg x = some (.ref f)) (hk : PySem.W.keepIn X.K (.ref f) = true)
    (hb : ∀ (s : Shared) (ws : List Value), ws.length = ps.length → BindsTo s fd ⟨[], ks.zip ws⟩ (ps.zip ws)) (hx : Passes CX X E)
    (hkw : PK X kws tk) (hall : (backToKw pos (keywordEach kws X.env)).all (·.1.isSome) = true := by rfl) (hks : (backToKw pos (keywordEach kws X.env)).filterMap (·.1) = ks := by rfl)
    (hdb : (x == ("__debug__" : Str)) = false := by decide)
    (hpl : ((backTo pos (starEach [] X.env)).any (·.1) || (backToKw pos (keywordEach kws X.env)).any (·.1.isNone)) = false := by rfl) :
    PE X (.Call (.Name x p) [] kws pos) (tCall sp [] E tk) := by
  refine ⟨fun pins s σ H Q I h => ?_⟩
  refine wpAny_Call_Name_kw (ld_glob I hg hm ?_ hdb)
  refine PySem.W.callWith_KW0 (h₀ := X.base) I.ok.mod.kin hk hall (thn (hkw.run pos pins s σ H _ I h) fun ws s2 ⟨zs, H2, I2, rz, q2⟩ => ⟨I2.kIn, ?_⟩) hpl
  rw [hks]
  have q2' : sp zs H2 Q E := by
    have : sp (zs ++ []) H2 Q E := q2
    rwa [List.append_nil] at this
  have hl : ws.length = ps.length := by rw [← rz.length]; exact F.len _ _ _ _ q2'
  refine wpAny_call (codeAny_mono (F.run X.A X.stack s2 H2 ⟨[], ks.zip ws⟩ ws zs Q E hr I2.env0 (hb s2 ws hl) rz q2') fun r s' z => ?_)
  match r, z with
  | .error e, z => exact hx pins σ H2 s2 e s' I2 z
  | .ok (.ret u), z => exact I2.after z
end
end Any
set_option Elab.async false
set_option linter.all false
set_option maxRecDepth 100000
set_option maxHeartbeats 4000000
/-! Errors of own classes held as values: made, asked by isinstance, read. -/
namespace Any
open PySem PySem.Spec PySem.W PySem.Calls PyProof.Rows
section
variable {prog : Program} {w : World} {A : Around} {E : Value → Shared → Prop} {K : Frag} {x D : Addr} {ox : Obj} {od : Option Obj}
/-- what the written part says of an error class at D, for its instances to be asked -/
structure ErrC (K : Frag) (D : Addr) : Prop where
  hg : findIn K (.ref D) "__getattribute__" = some (some (.builtin "BaseException.__getattribute__"))
  hk : findIn K (.ref D) "__getattr__" = some none
  hs : subIn K (.ref D) (.type "BaseException") = some true
  hd : hasDictIn K D = true
  ha : findIn K (.ref D) "__class__" = some (some (.builtin "object.__class__"))
  hn : specialIn K (.builtin "object.__class__") "__get__" = some (some (.builtin "getset_descriptor.__get__"))
  ht : takesIn K (.builtin "object.__class__") = some true
  hm : mroIn K D (.type "object") = some true
theorem ErrC.found (C : ErrC K D) : findObj K D od "__class__" = some (.bind (.builtin "getset_descriptor.__get__") (.builtin "object.__class__")) := by
  obtain ⟨cd, hc, _⟩ := any_some C.hd
  unfold findObj
  rw [hc, Option.bind_some, C.ha, Option.bind_some]
  simp [C.hn, C.ht]
/-- error.__class__, with a dict of its own or none -/
theorem ErrC.ask (C : ErrC K D) {s : Shared} {Q : Option Value → Shared → Prop} (X : K.In s.heap) (I : InstAt s.heap x ox D od) (h : Q (some (.ref D)) { s with toks := s.toks + 1 }) : wpAny (model prog w) A (getAttr? (.ref x) "__class__") Q E s := by
  obtain ⟨hh, gg, dd, tt, oo⟩ := s
  have T := I.type (M := model prog w)
  have below : Looks (model prog w) hh (isInstance (.ref x) (.type "BaseException")) true := T.andThen (looks_subIn X C.hs)
  have other : (onTheHeap (Value.ref D) && Value.builtin "BaseException.__getattribute__" == Value.builtin "object.__getattribute__") = false := by
    rw [show (Value.builtin "BaseException.__getattribute__" == Value.builtin "object.__getattribute__") = false by decide +kernel, Bool.and_false]
  unfold getAttr? getAttrBy? getAttrBy
  refine wpAny_bind (wpAny_mkText (wpAny_bind (wpAny_attempt (wpAny_holding (wpAny_bind (T.at (wpAny_bind ((looks_findIn X C.hg).at ?_))))))))
  show wpAny _ _ (if (onTheHeap (Value.ref D) && Value.builtin "BaseException.__getattribute__" == Value.builtin "object.__getattribute__") = true then _ else _) _ _ _
  rw [other, if_neg Bool.false_ne_true]
  unfold getAttrByItsOwn hookBefore
  refine wpAny_bind ?_
  rw [if_pos (show onTheHeap (Value.ref D) = true from rfl)]
  refine (looks_findIn X C.hk).at (wpAny_bind (wpAny_attempt (wpAny_holding ?_)))
  unfold callGetattribute
  rw [show (false && onTheHeap (Value.builtin "BaseException.__getattribute__")) = false from rfl, if_neg Bool.false_ne_true]
  unfold boundAndCalled
  rw [PySem.F.excAttr_ValueError.ga.bind (.ref x)]
  refine wpAny_bind (wpAny_pure (wpAny_call (codeAny_call_builtin PySem.F.excAttr_ValueError.ga.plain PySem.F.entry_bexc_ga ?_)))
  refine @check_slot (model prog w) _ _ ⟨hh, gg, dd, tt + 1, oo⟩ "BaseException.__getattribute__" "BaseException" "__getattribute__" (.ref x) [.str "__class__" tt] [] _ (by decide +kernel) (by decide +kernel) below (PySem.F.args_bexc_ga (.ref x) (.str "__class__" tt)) ?_
  unfold Builtin.«object.__getattribute__»
  refine wpAny_bind (wpAny_of_eq (a := ((Value.ref x : Value), [Value.str "__class__" tt])) (by first | rfl | (simp only [slotArgs]; rfl)) (wpAny_bind (wpAny_pure (wpAny_bind (T.at (wpAny_bind ((looks_find X I C.found).at ?_)))))))
  refine wpAny_bind (wpAny_holding (wpAny_call (class_get (s := ⟨hh, gg, dd, tt + 1, oo⟩) X I C.hm (wpAny_pure ?_))))
  show wpAny _ _ (handedOut (.ref D)) _ _ _
  rw [handedOut_of (v := .ref D) rfl]
  first
    | exact wpAny_pure (wpAny_pure h)
    | exact wpAny_pure h
    | exact wpAny_pure (wpAny_bind (wpAny_pure (wpAny_pure h)))
theorem ErrC.kit (C : ErrC K D) : KitX K (.ref x) (.ref D) (fun h => InstAt h x ox D od) where
  ty := fun _ _ _ I => I.type
  it := fun M h X _ => by
    obtain ⟨cd, hc, _⟩ := any_some C.hd
    unfold clsIn at hc
    split at hc
    · rename_i ho
      intro A' Q' E' s' k q
      unfold isType loadHead
      exact wpAny_bind (wpAny_loadPart (k _ _ (X _ _ ho)) (wpAny_pure q))
    · cases hc
  ne := fun h tp dd its n sl X htp => by
    obtain ⟨cd, hc, _⟩ := any_some C.hd
    refine Bool.eq_false_iff.mpr fun q => ?_
    have e : D = tp := Value.ref.inj (beq_iff_eq.mp q)
    subst e
    unfold clsIn at hc
    split at hc
    · rename_i ho
      cases (X _ _ ho).symm.trans htp
    · cases hc
  ca := fun X I k => C.ask X I k
end
/-! ### over the abstract heap -/
section
open L2
/-- at a stands an error of the class at C that bears fs -/
def ErrAt (H : Hp) (a C : Addr) (fs : List (Str × V)) : Prop := (fs = [] ∧ H a = some (ExO (.ref C) a)) ∨ ∃ dx, H a = some (exo a C (some dx)) ∧ H dx = some (exd dx fs)
theorem ErrAt.same {H H' : Hp} {a C : Addr} {fs : List (Str × V)} (e : ErrAt H a C fs) (s : Same H H') : ErrAt H' a C fs := by
  rcases e with ⟨z, e⟩ | ⟨dx, e1, e2⟩
  · exact .inl ⟨z, s _ _ e⟩
  · exact .inr ⟨dx, s _ _ e1, s _ _ e2⟩
theorem ErrAt.here {H : Hp} {a C : Addr} {fs : List (Str × V)} (e : ErrAt H a C fs) : ∃ o, H a = some o := by
  rcases e with ⟨_, e⟩ | ⟨dx, e1, _⟩
  · exact ⟨_, e⟩
  · exact ⟨_, e1⟩
section
variable {X : Cx} {pins : List (Addr × Obj)} {σ : L2.St} {H : Hp} {s : Shared} {a C : Addr} {fs : List (Str × V)}
theorem ErrAt.inst (I : Inv X pins σ H s) (e : ErrAt H a C fs) : ∃ ox od, InstAt s.heap a ox C od ∧ ∀ f v, fs.lookup f = some v → ∃ o u, od = some o ∧ lookIn f o = some (some u) ∧ RelV v u := by
  rcases e with ⟨rfl, e⟩ | ⟨dx, e1, e2⟩
  · obtain ⟨⟨oe, vs, ho, ⟨hc, hd⟩, hf, _⟩, _, _⟩ := (show ObjOk X.prog X.w H s.heap a (.ext _) from I.hok a _ e)
    refine ⟨oe, none, ⟨ho, hc, by unfold notCls; rw [hf], by rw [hd]; exact True.intro⟩, fun f v q => nomatch q⟩
  · obtain ⟨t1, ho⟩ := exo_at I.hok e1
    obtain ⟨mA, hn, hr⟩ := exd_at I.hok e2
    obtain ⟨od, hod, hl⟩ := lookIn_ns hn
    refine ⟨_, some od, ⟨ho, rfl, rfl, hod⟩, fun f v q => ?_⟩
    have r := hr f
    rw [q] at r
    obtain ⟨u, hu, ru⟩ := RelO.some_of (v := v) (o := mA f) r
    exact ⟨od, u, rfl, by rw [hl, hu], ru⟩
end
/-- isinstance(error, c) -/
def rIsErr (K : Frag) : List V → Hp → VK → Prop := fun xs H Q => ∃ (a C : Addr) (fs : List (Str × V)) (c : V) (u : Value) (b : Bool), xs = [.ref a, c] ∧ ErrAt H a C fs ∧ ErrC K C ∧ ClsV c u ∧ kitOne K (.ref C) u = some b ∧ Q (.bl b) H
theorem call_isErr {X : Cx} : CallR X (.builtin "isinstance") (rIsErr X.K) := by
  intro pins s σ H xs us Q I r h
  obtain ⟨a, C, fs, c, u, b, rfl, ea, T, k, e, q⟩ := h
  obtain ⟨u1, u2, rfl, r1, r2⟩ := vals2 r
  cases (show u1 = Value.ref a from r1)
  cases k.eq r2
  obtain ⟨ox, od, J, _⟩ := ea.inst I
  exact kia_one (T.kit (x := a) (ox := ox) (od := od)) I.kIn J e (fun z => nomatch z) fun tk => ⟨.bl b, H, I.tok tk, rfl, q⟩
/-- error.f -/
def tErrF (K : Frag) (te : TE) (f : Str) : TE := fun σ H Q => te σ H fun x H1 => ∃ (a C : Addr) (fs : List (Str × V)) (v : V), x = .ref a ∧ ErrAt H1 a C fs ∧ ErrC K C ∧ findIn K (.ref C) f = some none ∧ fs.lookup f = some v ∧ Q v H1
theorem pe_errF {X : Cx} {e : Expr} {te : TE} {f : Str} {pos : Pos} (he : PE X e te) (hb : attributeBase e f X.env (eval e X.env) = eval e X.env := by rfl) : PE X (.Attribute e f pos) (tErrF X.K te f) := by
  refine ⟨fun pins s σ H Q I h => attr_of hb (thn (he.run pins s σ H _ I h) fun u s1 hh => ?_)⟩
  obtain ⟨x, H1, I1, rx, a, C, fs, v, rfl, ea, T, hno, hl, q⟩ := hh
  cases (show u = Value.ref a from rx)
  obtain ⟨ox, od, J, hf⟩ := ea.inst I1
  obtain ⟨o, u, rfl, hlo, ru⟩ := hf f v hl
  exact HandSPX.exc_get I1.kIn J T.hg T.hk T.hs (findObj_own T.hd hno rfl hlo) (handed_of ru) ⟨v, H1, I1.tok _, ru, q⟩
/-- Base.__init__(self, ..), Base an own error class without an __init__ of its own -/
structure BaseI (K : Frag) (M : Addr) : Prop where
  rd : readsIn K M (.type "type") = true
  fd : findCls K (.ref M) (.type "type") "__init__" = some (.val (.builtin "ValueError.__init__"))
  sp : specialIn K (.ref M) "__getattribute__" = some (some (.builtin "type.__getattribute__"))
theorem pe_baseI {X : Cx} {M : Addr} {x : Str} {e : Expr} {es : List Expr} {ta : TA} {p1 p2 pos : Pos} {pl : Sem Bool} (B : BaseI X.K M) (hg : Gl X x) (hm : X.mg x = some (.ref M)) (ha : PA X (e :: es) ta) (hdb : (x == ("__debug__" : Str)) = false := by decide)
    (hc : eval (.Call (.Attribute (.Name x p1) "__init__" p2) (e :: es) [] pos) X.env = (do
      let ov ← eval (.Name x p1) X.env
      standAt p2.atName
      let (f, first) ← holding [ov] (getMethod ov "__init__" pl)
      callWith pos f first (backTo pos (starEach (e :: es) X.env)) (backToKw pos (keywordEach [] X.env))) := by rfl)
    (he : starEach (e :: es) X.env = (false, eval e X.env) :: starEach es X.env := by rfl) (hpl : (backTo pos (starEach es X.env)).any (·.1) = false := by rfl) :
    PE X (.Call (.Attribute (.Name x p1) "__init__" p2) (e :: es) [] pos) (tVeI X.K ta) := by
  refine ⟨fun pins s σ H Q I h => methodCall_KW (ld_glob I hg hm (method_cls I.kIn B.sp (cls_value I.kIn B.rd B.fd (by decide +kernel) ?_)) hdb) hc⟩
  show wpAny _ _ (callWith pos (Value.builtin "ValueError.__init__") [] (backTo pos (starEach (e :: es) X.env)) []) _ _ _
  refine callWith_method1 (thn (ha.run pos pins _ σ H _ (I.tok _) h) fun us s1 hh => ?_) he hpl
  obtain ⟨vs, H1, I1, r1, a, C, ws, rfl, hl, T, ea, q⟩ := hh
  cases r1 with
  | @cons _ u0 _ ur ra rw' =>
    cases (show u0 = Value.ref a from ra)
    refine oinit_ok T I1 ea ?_ fun s' J => ⟨.non, H1, J, rfl, q⟩
    have hz := Paired.length rw'
    rw [sizeLine_eq]
    omega
/-- C(e, ..) as a value, its own __init__ keeping sp -/
def tMkE (C : Addr) (sp : Sp) (ta : TA) : TE := fun σ H Q => ta σ H fun vs H1 => vs.length ≤ 1000 ∧ ∀ a, H1 a = none → sp (.ref a :: vs) (upd H1 a (exo a C none)) (fun v H2 => v = .non ∧ Q (.ref a) H2) fun _ _ _ => False
theorem pe_mkE {X : Cx} {CX : CXT} {x : Str} {C fI : Addr} {k : Nat} {fd : FuncData} {ps : List Str} {sp : Sp} {e : Expr} {es : List Expr} {ta : TA} {p pos : Pos} (T : OexC X.K C) (iC : findIn X.K (.ref C) "__init__" = some (some (.ref fI))) (tI : typeIn X.K (.ref fI) = some (.type "function"))
    (F1 : FnG X.prog X.w X.K X.mg X.base CX k fI fd ps sp) (cl : Clr X.A) (hr : Room (k + 1) X.A) (hb : Binds X.K fd ps []) (hx : Passes CX X (fun _ _ _ => False)) (hg : Gl X x) (hm : X.mg x = some (.ref C)) (ha : PA X (e :: es) ta)
    (hdb : (x == ("__debug__" : Str)) = false := by decide) (he : starEach (e :: es) X.env = (false, eval e X.env) :: starEach es X.env := by rfl) (hpl : (backTo pos (starEach es X.env)).any (·.1) = false := by rfl) :
    PE X (.Call (.Name x p) (e :: es) [] pos) (tMkE C sp ta) := by
  refine ⟨fun pins s σ H Q I h => ?_⟩
  obtain ⟨nm, q, N, bs, bm, sn, sub, ab, col, dd, k0, k1, k2, k3, k5, hC, hbm⟩ := T.cls
  refine wpAny_Call_Name_kw (ld_glob I hg hm (callWith_K (h₀ := X.base) I.ok.mod.kin T.kC (thn (ha.run pos pins s σ H _ I h) fun us s1 hh => ?_) he hpl) hdb)
  obtain ⟨vs, H1, I1, r1, hz, q1⟩ := hh
  refine ⟨I1.kIn, ?_⟩
  obtain ⟨hh, gg, dr, tk, oo⟩ := s1
  have hsz : hh.objs.size ≤ hh.objs.size + 1 := Nat.le_succ _
  have hq := q1 (hh.objs.size + 1) (I1.hok.fresh hsz)
  have kk : ∀ b o, hh.get? b = some o → ((hh.push (kdv_tup us)).push (HandSPX.excO C hh.objs.size)).get? b = some o := fun b o z => Heap.get?_push_of_some _ (Heap.get?_push_of_some _ z)
  have hget : ((hh.push (kdv_tup us)).push (HandSPX.excO C hh.objs.size)).get? (hh.objs.size + 1) = some (HandSPX.excO C hh.objs.size) := by heap_get
  have I2 : Inv X pins σ (upd H1 (hh.objs.size + 1) (exo (hh.objs.size + 1) C none)) ⟨(hh.push (kdv_tup us)).push (HandSPX.excO C hh.objs.size), gg, dr, tk, oo⟩ :=
    I1.laid (t' := tk) (a := hh.objs.size + 1) (o := exo (hh.objs.size + 1) C none) (h' := (hh.push (kdv_tup us)).push (HandSPX.excO C hh.objs.size)) kk hsz (exo_ok hget)
  have r2 : Vals (V.ref (hh.objs.size + 1) :: vs) (Value.ref (hh.objs.size + 1) :: us) := .cons rfl r1
  have hl : (Value.ref (hh.objs.size + 1) :: us ++ []).length = ps.length := by
    rw [List.append_nil, ← F1.len _ _ _ _ hq]
    exact r2.length.symm
  have hb2 := hb ⟨(hh.push (kdv_tup us)).push (HandSPX.excO C hh.objs.size), gg, dr, tk, oo⟩ (Value.ref (hh.objs.size + 1) :: us) I2.kIn hl
  rw [List.append_nil] at hb2
  have hus : us.length ≤ sizeLine := by
    have := Paired.length r1
    rw [sizeLine_eq]
    omega
  refine wpAny_call (HandSPX.call_own F.excBase_ValueError (fun Y => HandSPX.refsVE_contains Y bm hbm) (I1.kIn _ _ hC) (looks_findIn I1.kIn iC) (fun self => bind_fn I1.kIn self tI) hus
    (codeAny_mono (F1.go _ X.stack _ _ ⟨Value.ref (hh.objs.size + 1) :: us, []⟩ (Value.ref (hh.objs.size + 1) :: us) _ _ (fun _ _ _ => False) (cl.made C us) (hr.make C us []) (I2.env0.make C us []) hb2 r2 hq) fun r s' hq' => ?_))
  match r, hq' with
  | .error er, z => exact hx pins σ _ _ er s' I2 z
  | .ok (.ret u), z =>
    obtain ⟨v, H2, J, rv, rfl, q2⟩ := I2.after z
    exact ⟨rv, .ref _, H2, J, rfl, q2⟩
end
end Any
set_option Elab.async false
set_option linter.all false
set_option maxRecDepth 100000
set_option maxHeartbeats 4000000
/-! An error that a try keeps by a name of its own: what follows the try knows it. -/
namespace Any
open PySem PySem.Spec PySem.W PyProof.Rows L2
/-- {x} in an f-string, x None -/
def tFmtN (te : TE) : TE := fun σ H Q => te σ H fun x H1 => x = .non ∧ Q (.str PyData.none.shown) H1
theorem pe_fmtN {X : Cx} {e : Expr} {te : TE} {pos : Pos} (he : PE X e te) : PE X (.FormattedValue e (-1) none pos) (tFmtN te) := by
  refine ⟨fun pins s σ H Q I h => wpAny_FormattedValue_plain (thn (he.run pins s σ H _ I h) fun u s1 hv => ?_)⟩
  obtain ⟨x, H1, I1, ru, rfl, q⟩ := hv
  cases (show u = Value.none from ru)
  exact wpAny_formatField_none ⟨.str _, H1, I1.tok _, ⟨_, rfl⟩, q⟩
/-- what the clause 'except x as n' wishes, where what follows the try knows the error by its pin -/
def wKeep (K : PySem.W.Frag) (c : Value) (i : Nat) (ts trP : Addr → Value → Option Addr → TS) (Wout : WX) (D : Ends) : WX := fun cls d σ H =>
  ∃ b, PySem.W.exmOne K cls c = some b ∧ (b = true → ∀ a, H a = none → ts a cls d { nx := fun σ' H' => H' a = none → trP a cls d D (σ'.set i none) H', rt := D.rt, bk := fun σ' H' => D.bk (σ'.set i none) H', ct := fun σ' H' => D.ct (σ'.set i none) H' } (σ.set i (some (.ref a))) H) ∧
    (b = false → Wout cls d σ H)
section
variable {X : Cx} {L pins : List (Addr × Obj)} {σ : L2.St} {H : Hp} {s : Shared} {a : Addr} {q : Addr × Obj} {xe : Value → Shared → Prop}
/-- what holds in the suite holds behind it, the pins kept -/
theorem behind (I : Inv (X.suite a L) [] σ H s) (ok : X.Ok) : Inv (X.tr L xe) [] σ H s where
  ok := ok.toTry _ _
  os := I.os
  bare := I.bare
  base := I.base
  loc := I.loc
  cell := I.cell
  free := I.free
  freeC := I.freeC
  pin := I.pin
  hok := I.hok
  len := I.len
/-- .. and without the first pin in the def at large -/
theorem forget (I : Inv (X.tr (q :: (X.pn ++ pins)) xe) [] σ H s) (ok : X.Ok) : Inv X pins σ H s where
  ok := ok
  os := I.os
  bare := I.bare
  base := I.base
  loc := I.loc
  cell := I.cell
  free := I.free
  freeC := I.freeC
  pin := fun p m => I.pin p (by simp only [List.append_nil]; exact List.mem_cons_of_mem _ m)
  hok := I.hok
  len := I.len
/-- the ends of a block under more pins are its ends -/
theorem forgetSP {D : Ends} {fl : Flow} (ok : X.Ok) (h : SP (X.tr (q :: (X.pn ++ pins)) xe) [] D fl s) : SP X pins D fl s := by
  cases fl with
  | ret u => exact let ⟨v, σ', H', I, r, z⟩ := h; ⟨v, σ', H', forget I ok, r, z⟩
  | _ => exact let ⟨σ', H', I, z⟩ := h; ⟨σ', H', forget I ok, z⟩
/-- an error on the ground: the def's state with it pinned, the suite's too -/
theorem grounded {sI : Shared} {h : Heap} {B : Heap} {cls : Value} {d : Option Addr} (onTop : X.stack = X.env :: X.outer) (frm : X.env.frame = some X.env.locals) (I : Inv X pins σ H sI) (kept : ∀ b o, sI.heap.get? b = some o → b ∉ frs X.stack → B.get? b = some o)
    (fl : PySem.HandSPX.FlyingZ B (X.env :: X.outer) a (Zc cls d) h) (up : sI.heap.UpToSlots h) (new : H a = none) (os : s.os = sI.os) (bare : AllBare s.gens) :
    ∃ oe : Obj, h.get? a = some oe ∧ Zc cls d oe ∧ (∃ vs, oe.data = .fields vs) ∧ Inv X pins σ H { s with heap := h } ∧ Inv (X.suite a ((a, oe) :: (X.pn ++ pins))) [] σ H { s with heap := h } := by
  obtain ⟨oe, vs, at_, z, dat⟩ := fl.there
  have apart : ∀ env ∈ X.env :: X.outer, env.frame ≠ some a := fun env m e => by
    obtain ⟨_, u, eu, no⟩ := fl.2.2.1.mem (List.mem_filterMap.mpr ⟨env, m, e⟩)
    cases at_.symm.trans eu
    exact no _ dat
  have J := I.landed (s' := { s with heap := h }) kept fl.1 up os bare
  refine ⟨oe, at_, z, ⟨vs, dat⟩, J, J.suite at_ dat new (fun e => apart X.env (List.mem_cons_self ..) (by rw [frm, e])) fun m => ?_⟩
  obtain ⟨env, me, e⟩ := List.mem_filterMap.mp m
  exact apart env (List.mem_cons_of_mem _ me) e
/-- the class that the clause names, looked up in the suite's state -/
theorem clause_class {x : Str} {c : Value} {np : Pos} {Q E : Value → Shared → Prop} (hc : Names X x c) (I : Inv (X.suite a L) [] σ H s) (q : Q c s) : wpAny (model X.prog X.w) (X.A.mark (some (.ref a))) (eval (.Name x np) X.env) Q E s := by
  obtain ⟨g, db, own | ⟨no, blt, nn⟩⟩ := hc
  · exact ld_glob (X := X.suite a L) I g own q db
  · exact ld_blt (X := X.suite a L) I g no blt q nn db
end
/-- behind a try: the next row, or an end -/
def Onward (X : Cx) (pins : List (Addr × Obj)) (rest : List Stmt) (D : Ends) : Flow → Shared → Prop
  | .next, s => wpAny (model X.prog X.w) X.A (execs rest X.env) (SP X pins D) X.xe s
  | .brk, s => SP X pins D .brk s
  | .cont, s => SP X pins D .cont s
  | .ret u, s => SP X pins D (.ret u) s
section
variable {X : Cx} {x n : Str} {c : Value} {i : Nat} {body suite rest : List Stmt} {b₀ : Stmt} {np pos pos' : Pos} {tb : WX → TS} {ts trP : Addr → Value → Option Addr → TS} {tr : TS} {Wout : WX}
/-- the clause's work on an error in the air -/
theorem caught_as {pins : List (Addr × Obj)} {u : Value} {s : Shared} {D : Ends} (ok : X.Ok) (onTop : X.stack = X.env :: X.outer) (frm : X.env.frame = some X.env.locals) (nd : X.N.Nodup) (at_ : X.N[i]? = some n) (loc : X.env.kindOf n = some .local) (hc : Names X x c) (tk : Takes X Wout)
    (inSuite : ∀ (a : Addr) (oe : Obj) (cls : Value) (d : Option Addr) (pn : List (Addr × Obj)), Zc cls d oe → (∃ vs, oe.data = .fields vs) → PSs (X.suite a ((a, oe) :: pn)) (b₀ :: suite) (ts a cls d))
    (then_ : ∀ (a : Addr) (oe : Obj) (cls : Value) (d : Option Addr) (pn : List (Addr × Obj)), Zc cls d oe → (∃ vs, oe.data = .fields vs) → PSs (X.tr ((a, oe) :: pn) X.xe) rest (trP a cls d))
    (air : XE (X.tr (X.pn ++ pins) fun e s₁ => wpAny (model X.prog X.w) X.A (noteFrame e X.env) (fun _ s₂ => wpAny (model X.prog X.w) X.A (setFlight e none) (fun _ s₃ => wpAny (model X.prog X.w) X.A (handleBy e X.env [.ExceptHandler (some (.Name x np)) (some n) (b₀ :: suite) pos']) (Onward X pins rest D) X.xe s₃) X.xe s₂) X.xe s₁)
      (wKeep X.K c i ts trP Wout D) u s) :
    wpAny (model X.prog X.w) X.A (noteFrame u X.env) (fun _ s₂ => wpAny (model X.prog X.w) X.A (setFlight u none) (fun _ s₃ => wpAny (model X.prog X.w) X.A (handleBy u X.env [.ExceptHandler (some (.Name x np)) (some n) (b₀ :: suite) pos']) (Onward X pins rest D) X.xe s₃) X.xe s₂) X.xe s := by
  obtain ⟨a, B, sI, pins', σ, H, cls, d, eu, I', kept, up, sky, new, os, bare, b, is_, yes, no⟩ := air
  subst eu
  have I : Inv X pins σ H sI := I'.ofTry ok
  have tops : X.A.frames = some (X.env :: X.outer) := ok.frames.trans (by rw [onTop])
  refine Sky.land (Z := Zc cls d) Zc.steady tops frm (onTop ▸ sky) fun h fly up1 => ?_
  obtain ⟨o1, at1, z1, _, J1, S1⟩ := grounded (s := s) onTop frm I kept fly (up.trans up1) new os bare
  have looks : PySem.W.Looks (model X.prog X.w) h (typeOf (.ref a)) cls := fun _ _ _ _ same q => wpAny_typeOf_ref (same a o1 at1) (z1.1 ▸ q)
  refine wpAny_handleBy_cons (codeAny_handlers_test (clause_class hc S1 ((PySem.W.exm_one (M := model X.prog X.w) J1.kIn looks is_).here ?_))) fun z => nomatch z
  cases b with
  | false =>
    refine (show wpAny (model X.prog X.w) X.A (handleBy (.ref a) X.env []) _ _ _ from wpAny_handleBy_nil ?_)
    have out : wpAny (model X.prog X.w) X.A (setFlight (.ref a) X.env.frame) (fun _ s4 => wpAny (model X.prog X.w) X.A (throw (.ref a) : Sem Flow) (Onward X pins rest D) X.xe s4) X.xe { s with heap := h } := by
      rw [frm]
      exact PySem.HandSPX.setFlight_upZ fly fun h2 held up2 => wpAny_throw (tk _ _ ⟨a, B, sI, pins, σ, H, cls, d, rfl, I, kept, (up.trans up1).trans up2, .inr (.inr (onTop ▸ held)), new, os, bare, no rfl⟩)
    obtain ⟨_, _, _, o, vs, T, _, _, ao, _, dat, v1, _⟩ := id fly
    unfold PySem.passOn
    refine wpAny_bind (wpAny_field ao dat v1 ?_)
    have some_ : (Value.ref T == Value.none) = false := rfl
    simp only [some_, Bool.false_eq_true, if_false]
    first
      | exact wpAny_bind out
      | exact wpAny_bind (wpAny_pure (wpAny_bind out))
  | true =>
    refine codeAny_handlers_suite_as (PySem.HandSPX.lands_againZ fly fun h2 fly2 up2 => ?_)
    obtain ⟨o2, _, z2, dat2, _, S2⟩ := grounded (s := s) onTop frm I kept fly2 ((up.trans up1).trans up2) new os bare
    refine store_ok (X := X.suite a ((a, o2) :: (X.pn ++ pins))) (v := .ref a) S2 nd at_ (.inl loc) rfl (fun s5 S5 => ?_) (.inr loc)
    refine wpAny_mono ((inSuite a o2 cls d (X.pn ++ pins) z2 dat2).run [] s5 _ H _ S5 (yes rfl a new)) (fun fl s6 q => ?_) fun _ _ z => z.elim
    have gone : ∀ {σ6 : L2.St} {H6 : Hp} {Q : Shared → Prop}, Inv (X.suite a ((a, o2) :: (X.pn ++ pins))) [] σ6 H6 s6 → (∀ s7, Inv (X.tr ((a, o2) :: (X.pn ++ pins)) X.xe) [] (σ6.set i none) H6 s7 → Q s7) →
        wpAny (model X.prog X.w) X.A (do bindName X.env n .none; unbindBehindTheSuite X.env n pos') (fun _ => Q) X.xe s6 := fun S k => gone_ok (X := X.tr ((a, o2) :: (X.pn ++ pins)) X.xe) (behind S ok) nd at_ loc k
    cases fl with
    | next =>
      obtain ⟨σ6, H6, S6, k⟩ := q
      refine gone S6 fun s7 J7 => wpAny_mono ((then_ a o2 cls d (X.pn ++ pins) z2 dat2).run [] s7 _ H6 D J7 (k (S6.pin (a, o2) (List.mem_cons_self ..)).2.1)) (fun _ _ z => forgetSP ok z) fun _ _ z => z
    | ret v => exact let ⟨y, σ6, H6, S6, r, k⟩ := q; gone S6 fun _ J7 => ⟨y, _, _, forget J7 ok, r, k⟩
    | _ => exact let ⟨σ6, H6, S6, k⟩ := q; gone S6 fun _ J7 => ⟨_, _, forget J7 ok, k⟩
/-- try: body / except x as n: suite / rest, the rest knowing the error by its pin -/
theorem pss_try_keep (onTop : X.stack = X.env :: X.outer) (frm : X.env.frame = some X.env.locals) (nd : X.N.Nodup) (at_ : X.N[i]? = some n) (loc : X.env.kindOf n = some .local) (hc : Names X x c) (tk : Takes X Wout)
    (inBody : ∀ (W : WX) (pn : List (Addr × Obj)) (xe : Value → Shared → Prop), Takes (X.tr pn xe) W → PassesOwn (model X.prog X.w) X.A X.env xe → PSs (X.tr pn xe) body (tb W))
    (inSuite : ∀ (a : Addr) (oe : Obj) (cls : Value) (d : Option Addr) (pn : List (Addr × Obj)), Zc cls d oe → (∃ vs, oe.data = .fields vs) → PSs (X.suite a ((a, oe) :: pn)) (b₀ :: suite) (ts a cls d))
    (plain : PSs X rest tr)
    (then_ : ∀ (a : Addr) (oe : Obj) (cls : Value) (d : Option Addr) (pn : List (Addr × Obj)), Zc cls d oe → (∃ vs, oe.data = .fields vs) → PSs (X.tr ((a, oe) :: pn) X.xe) rest (trP a cls d)) :
    PSs X (.Try body [.ExceptHandler (some (.Name x np)) (some n) (b₀ :: suite) pos'] [] [] pos :: rest) (fun D σ H => tb (wKeep X.K c i ts trP Wout D) { D with nx := tr D } σ H) := by
  refine ⟨fun pins s σ H D I reading => wpAny_execs_cons (wpAny_mono (Q := Onward X pins rest D) ?_ (fun fl s1 q => ?_) fun _ _ z => z)⟩
  · have ok := I.ok
    refine wpAny_Try_except (wpAny_mono ((inBody (wKeep X.K c i ts trP Wout D) (X.pn ++ pins) (fun e s₁ => wpAny (model X.prog X.w) X.A (noteFrame e X.env) (fun _ s₂ => wpAny (model X.prog X.w) X.A (setFlight e none) (fun _ s₃ =>
      wpAny (model X.prog X.w) X.A (handleBy e X.env [.ExceptHandler (some (.Name x np)) (some n) (b₀ :: suite) pos']) (Onward X pins rest D) X.xe s₃) X.xe s₂) X.xe s₁) (fun u s' air => caught_as ok onTop frm nd at_ loc hc tk inSuite then_ air) PassesOwn.looking).run [] s σ H { D with nx := tr D } (I.toTry _) reading) (fun fl s1 q => ?_) fun _ _ z => z)
    cases fl with
    | next => exact let ⟨σ1, H1, I1, k⟩ := q; wpAny_execs_nil (plain.run pins s1 σ1 H1 D (I1.ofTry ok) k)
    | ret v => exact let ⟨y, σ1, H1, I1, r, k⟩ := q; ⟨y, σ1, H1, I1.ofTry ok, r, k⟩
    | _ => exact let ⟨σ1, H1, I1, k⟩ := q; ⟨σ1, H1, I1.ofTry ok, k⟩
  · cases fl <;> exact q
end
/-! ### the pinned error is asked and read -/
section
variable {X : Cx} {a C dd : Addr} {oe : Obj} {d : Option Addr} {cls : Value} {pn : List (Addr × Obj)} {xe : Value → Shared → Prop}
theorem pin_inst {pins : List (Addr × Obj)} {σ : L2.St} {H : Hp} {s : Shared} {fs : List (Str × V)} (I : Inv (X.tr ((a, oe) :: pn) xe) pins σ H s) (hz : Zc cls d oe) (hf : ∃ vs, oe.data = .fields vs) (ec : cls = .ref C) (ed : d = some dd) (e : H dd = some (.xd fs)) :
    ∃ od, InstAt s.heap a oe C (some od) ∧ ∀ f v, fs.lookup f = some v → ∃ u, lookIn f od = some (some u) ∧ RelV v u := by
  subst ec ed
  obtain ⟨ha, _⟩ := I.pin (a, oe) (List.mem_append_left _ List.mem_cons_self)
  obtain ⟨vs, hd⟩ := hf
  have hx : ObjOk X.prog X.w H s.heap dd (.xd fs) := I.hok dd _ e
  obtain ⟨mA, hns, hr⟩ := hx
  obtain ⟨od, ho, hl⟩ := lookIn_ns hns
  refine ⟨od, ⟨ha, hz.1, by unfold PySem.W.notCls; rw [hd], by rw [hz.2]; exact ho⟩, fun f v q => ?_⟩
  obtain ⟨u, hu, ru⟩ := RelO.some_of (v := v) (o := mA f) (by rw [← q]; exact hr f)
  exact ⟨u, by rw [hl, hu], ru⟩
/-- isinstance(error, c) -/
def rIsPin (K : Frag) (a : Addr) (cls : Value) (d : Option Addr) : List V → Hp → VK → Prop := fun xs H Q => ∃ (C dd : Addr) (fs : List (Str × V)) (c : V) (u : Value) (b : Bool), xs = [.ref a, c] ∧ cls = .ref C ∧ d = some dd ∧ H dd = some (.xd fs) ∧ ErrC K C ∧ ClsV c u ∧ kitOne K (.ref C) u = some b ∧ Q (.bl b) H
theorem call_isPin (hz : Zc cls d oe) (hf : ∃ vs, oe.data = .fields vs) : CallR (X.tr ((a, oe) :: pn) xe) (.builtin "isinstance") (rIsPin X.K a cls d) := by
  intro pins s σ H xs us Q I r h
  obtain ⟨C, dd, fs, c, u, b, rfl, ec, ed, e, T, k, ek, q⟩ := h
  obtain ⟨u1, u2, rfl, r1, r2⟩ := vals2 r
  cases (show u1 = Value.ref a from r1)
  cases k.eq r2
  obtain ⟨od, J, _⟩ := pin_inst I hz hf ec ed e
  exact kia_one (T.kit (x := a) (ox := oe) (od := some od)) I.kIn J ek (fun z => nomatch z) fun tk => ⟨.bl b, H, I.tok tk, rfl, q⟩
/-- error.f -/
def tPinF (K : Frag) (a : Addr) (cls : Value) (d : Option Addr) (te : TE) (f : Str) : TE := fun σ H Q => te σ H fun x H1 => ∃ (C dd : Addr) (fs : List (Str × V)) (v : V), x = .ref a ∧ cls = .ref C ∧ d = some dd ∧ H1 dd = some (.xd fs) ∧ ErrC K C ∧ findIn K (.ref C) f = some none ∧ fs.lookup f = some v ∧ Q v H1
theorem pe_pinF {e : Expr} {te : TE} {f : Str} {pos : Pos} (hz : Zc cls d oe) (hf : ∃ vs, oe.data = .fields vs) (he : PE (X.tr ((a, oe) :: pn) xe) e te) (hb : attributeBase e f X.env (eval e X.env) = eval e X.env := by rfl) :
    PE (X.tr ((a, oe) :: pn) xe) (.Attribute e f pos) (tPinF X.K a cls d te f) := by
  refine ⟨fun pins s σ H Q I h => attr_of hb (thn (he.run pins s σ H _ I h) fun u s1 hh => ?_)⟩
  obtain ⟨x, H1, I1, rx, C, dd, fs, v, rfl, ec, ed, e, T, hno, hl, q⟩ := hh
  cases (show u = Value.ref a from rx)
  obtain ⟨od, J, hlk⟩ := pin_inst I1 hz hf ec ed e
  obtain ⟨u, hlo, ru⟩ := hlk f v hl
  exact PySem.HandSPX.exc_get I1.kIn J T.hg T.hk T.hs (findObj_own T.hd hno rfl hlo) (handed_of ru) ⟨v, H1, I1.tok _, ru, q⟩
end
end Any
set_option Elab.async false
set_option linter.all false
set_option maxRecDepth 100000
set_option maxHeartbeats 4000000
/-! Data of any depth, dicts within: how it is read, its repr, its place in an f-string. -/
namespace Any
open PySem PySem.Spec PyProof.Rows L2
/-- a key as data -/
def keyD : Key → PyData
  | .inl i => .int i
  | .inr x => .str x
mutual
inductive Dx (K : PySem.W.Frag) (H : Hp) : V → PyData → Prop
  | non : Dx K H .non .none
  | bl (b : Bool) : Dx K H (.bl b) (.bool b)
  | int (i : Int) : Dx K H (.int i) (.int i)
  | str (x : Str) : Dx K H (.str x) (.str x)
  | lst {a : Addr} {xs : List V} {ds : List PyData} (e : SqL K H a xs) (r : DxAll K H xs ds) : Dx K H (.ref a) (.list ds)
  | tup {a : Addr} {xs : List V} {ds : List PyData} (e : SqT K H a xs) (r : DxAll K H xs ds) : Dx K H (.ref a) (.tuple ds)
  | dct {a : Addr} {kvs : List (Key × V)} {ds : List (PyData × PyData)} (e : H a = some (.dK kvs)) (r : DxKv K H kvs ds) : Dx K H (.ref a) (.dict ds)
inductive DxAll (K : PySem.W.Frag) (H : Hp) : List V → List PyData → Prop
  | nil : DxAll K H [] []
  | cons {v : V} {vs : List V} {d : PyData} {ds : List PyData} (h : Dx K H v d) (r : DxAll K H vs ds) : DxAll K H (v :: vs) (d :: ds)
inductive DxKv (K : PySem.W.Frag) (H : Hp) : List (Key × V) → List (PyData × PyData) → Prop
  | nil : DxKv K H [] []
  | cons {k : Key} {v : V} {vs : List (Key × V)} {d : PyData} {ds : List (PyData × PyData)} (h : Dx K H v d) (r : DxKv K H vs ds) : DxKv K H ((k, v) :: vs) ((keyD k, d) :: ds)
end
/-- the written part holds the modules' dict -/
def SysD (K : PySem.W.Frag) : Prop := ∃ o : Obj, K.lookup sysModules = some o ∧ o.cls = .type "dict"
section
variable {X : Cx} {pins : List (Addr × Obj)} {σ : L2.St} {H : Hp} {s : Shared}
theorem not_sys (hS : SysD X.K) (I : Inv X pins σ H s) {a : Addr} {o : Obj} (e : s.heap.get? a = some o) (c : o.cls ≠ .type "dict") : ¬ sysModules = a := fun z => by
  obtain ⟨u, hu, hc⟩ := hS
  have q := I.kIn _ _ hu
  rw [z, e] at q
  cases q
  exact c hc
mutual
theorem Dx.reads (hS : SysD X.K) (I : Inv X pins σ H s) : ∀ (d : PyData) (v : V) (u : Value), Dx X.K H v d → RelV v u → ∃ as, Reads s.heap u d as ∧ sysModules ∉ as
  | .none, _, _, h, r => by
    cases h
    cases r
    exact ⟨_, Reads.none, List.not_mem_nil⟩
  | .bool b, _, _, h, r => by
    cases h
    cases r
    exact ⟨_, Reads.bool b, List.not_mem_nil⟩
  | .int i, _, _, h, r => by
    cases h
    obtain ⟨t, rfl⟩ := r
    exact ⟨_, Reads.int i t, List.not_mem_nil⟩
  | .str x, _, _, h, r => by
    cases h
    obtain ⟨t, rfl⟩ := r
    exact ⟨_, Reads.str x t, List.not_mem_nil⟩
  | .list ds, _, _, h, r => by
    cases h with
    | lst hs ha =>
      cases r
      obtain ⟨its, rv, ⟨o, n, ho, hc, _, hd⟩, _⟩ := I.list hs
      obtain ⟨as, hr, hn⟩ := Dx.readsAll hS I ds _ its ha rv
      exact ⟨_, Reads.list ho hc hd hr, fun m => (List.mem_cons.mp m).elim (not_sys hS I ho (by rw [hc]; intro z; injection z with z; revert z; decide)) hn⟩
  | .tuple ds, _, _, h, r => by
    cases h with
    | tup hs ha =>
      cases r
      obtain ⟨its, rv, ⟨o, ho, hc, n, hd⟩, _⟩ := I.tuple hs
      obtain ⟨as, hr, hn⟩ := Dx.readsAll hS I ds _ its ha rv
      exact ⟨_, Reads.tuple ho hc hd hr, hn⟩
  | .dict ds, _, _, h, r => by
    cases h with
    | dct e hr =>
      cases r
      obtain ⟨_, hb, vs, kv, dd⟩ := (show ObjOk X.prog X.w H s.heap _ (.dK _) from I.hok _ _ e)
      obtain ⟨as, p, hn⟩ := Dx.readsKv hS I ds _ vs hr kv
      refine ⟨_, PyProof.V.reads_dictOf (knd := mixKind X.prog X.w) (fun k key hk => ?_) dd p, fun m => (List.mem_cons.mp m).elim (fun z => ?_) hn⟩
      · rcases keyIs_shape hk with ⟨i, t, rfl, rfl⟩ | ⟨x, t, rfl, rfl⟩
        · exact Reads.int i t
        · exact Reads.str x t
      · rw [← z] at hb
        simp at hb
theorem Dx.readsAll (hS : SysD X.K) (I : Inv X pins σ H s) : ∀ (ds : List PyData) (vs : List V) (us : List Value), DxAll X.K H vs ds → Vals vs us → ∃ as, ReadsAll s.heap us ds as ∧ sysModules ∉ as
  | [], _, _, h, r => by
    cases h
    cases r
    exact ⟨_, ReadsAll.nil, List.not_mem_nil⟩
  | d :: ds, _, _, h, r => by
    cases h with
    | cons h1 h2 =>
      cases r with
      | cons r1 r2 =>
        obtain ⟨as, q1, n1⟩ := Dx.reads hS I d _ _ h1 r1
        obtain ⟨bs, q2, n2⟩ := Dx.readsAll hS I ds _ _ h2 r2
        exact ⟨_, ReadsAll.cons q1 q2, fun m => (List.mem_append.mp m).elim n1 n2⟩
theorem Dx.readsKv (hS : SysD X.K) (I : Inv X pins σ H s) : ∀ (ds : List (PyData × PyData)) (kvs : List (Key × V)) (vs : List (Key × Value)), DxKv X.K H kvs ds → KV kvs vs → ∃ as, PyProof.V.PairsRead s.heap keyD vs ds as ∧ sysModules ∉ as
  | [], _, _, h, r => by
    cases h
    cases r
    exact ⟨_, .nil, List.not_mem_nil⟩
  | (_, d) :: ds, _, (k', u) :: vs, h, r => by
    cases h with
    | cons h1 h2 =>
      cases r with
      | cons r1 r2 =>
        obtain ⟨e, r1⟩ := r1
        have e' := e
        dsimp only at e'
        subst e'
        obtain ⟨as, q1, n1⟩ := Dx.reads hS I d _ _ h1 r1
        obtain ⟨bs, q2, n2⟩ := Dx.readsKv hS I ds _ _ h2 r2
        exact ⟨_, .cons q1 q2, fun m => (List.mem_append.mp m).elim n1 n2⟩
  | (_, _) :: _, _, [], h, r => by
    cases h
    cases r
end
end
/-- repr(x) -/
def rRepr (K : PySem.W.Frag) : List V → Hp → VK → Prop := fun xs H Q => ∃ (x : V) (d : PyData), xs = [x] ∧ Dx K H x d ∧ d.showable = true ∧ d.depth ≤ 60 ∧ d.shown.length ≤ sizeLine ∧ Q (.str d.shown) H
theorem call_repr {X : Cx} (hS : SysD X.K) (cl : Clr X.A) (hu : X.A.units + 64 < cLine) : CallR X (.builtin "repr") (rRepr X.K) := by
  intro pins s σ H xs us Q I r h
  obtain ⟨x, d, rfl, hd, hs, hp, hz, q⟩ := h
  obtain ⟨u, rfl, ru⟩ := vals1 r
  obtain ⟨as, rd, hn⟩ := Dx.reads hS I d x u hd ru
  have fin : ∀ t tk, EP X pins σ Q (.str d.shown t) { s with toks := tk } := fun t tk => ⟨.str d.shown, H, I.tok tk, ⟨t, rfl⟩, q⟩
  cases rd with
  | none => exact PySem.P.repr_of_none (fin _ _)
  | bool b => exact PySem.P.repr_of_bool (by cases b <;> exact fin _ _)
  | int i t => exact PySem.P.repr_of_int (by simpa [PyData.showable] using hs) (fin _ _)
  | str y t => exact PySem.P.repr_of_str (fin _ _) hz
  | list h1 h2 h3 h4 => exact repr_of_reads' (.list h1 h2 h3 h4) hs (fun _ => hn) cl (by omega) (fun _ _ e => e) (fun h' t tk k => ⟨.str _, H, I.kept (t' := tk) k, ⟨t, rfl⟩, q⟩) hz
  | tuple h1 h2 h3 h4 => exact repr_of_reads' (.tuple h1 h2 h3 h4) hs (fun _ => hn) cl (by omega) (fun _ _ e => e) (fun h' t tk k => ⟨.str _, H, I.kept (t' := tk) k, ⟨t, rfl⟩, q⟩) hz
  | dict h1 h2 h3 h4 h5 => exact repr_of_reads' (.dict h1 h2 h3 h4 h5) hs (fun _ => hn) cl (by omega) (fun _ _ e => e) (fun h' t tk k => ⟨.str _, H, I.kept (t' := tk) k, ⟨t, rfl⟩, q⟩) hz
/-- {x} in an f-string: some text of at most n signs -/
def tFmtX (K : PySem.W.Frag) (n : Nat) (te : TE) : TE := fun σ H Q => te σ H fun x H1 => ∃ d : PyData, Dx K H1 x d ∧ d.showable = true ∧ d.depth ≤ 60 ∧ d.shown.length ≤ n ∧ n ≤ sizeLine ∧ (∀ y, d = .str y → y.length ≤ n) ∧ ∀ m : Str, m.length ≤ n → Q (.str m) H1
theorem pe_fmtX {X : Cx} {n : Nat} {e : Expr} {te : TE} {pos : Pos} (hS : SysD X.K) (cl : Clr X.A) (hu : X.A.units + 64 < cLine) (he : PE X e te) : PE X (.FormattedValue e (-1) none pos) (tFmtX X.K n te) := by
  refine ⟨fun pins s σ H Q I h => wpAny_FormattedValue_plain (thn (he.run pins s σ H _ I h) fun u s1 hv => ?_)⟩
  obtain ⟨x, H1, I1, ru, d, hd, hs, hp, hz, hn0, hy, q⟩ := hv
  obtain ⟨as, rd, hn⟩ := Dx.reads hS I1 d x u hd ru
  have fin : ∀ (m : Str) t tk, m.length ≤ n → EP X pins σ Q (.str m t) { s1 with toks := tk } := fun m t tk hm => ⟨.str m, H1, I1.tok tk, ⟨t, rfl⟩, q m hm⟩
  have hz2 := Nat.le_trans hz hn0
  cases rd with
  | none => exact wpAny_formatField_none (fin _ _ _ hz)
  | bool b => exact wpAny_formatField_bool (fin _ _ _ (by cases b <;> exact hz))
  | int i t => exact wpAny_formatField_int (by simpa [PyData.showable] using hs) (fin _ _ _ hz)
  | str y t => exact wpAny_formatField_str ⟨.str y, H1, I1, ⟨t, rfl⟩, q y (hy y rfl)⟩ (fin _ _ _ (hy y rfl)) (Nat.le_trans (hy y rfl) hn0)
  | list h1 h2 h3 h4 => exact formatField_of_reads (.list h1 h2 h3 h4) hs (fun _ => hn) cl (by omega) (fun _ _ e => e) (fun h' t tk k => ⟨.str _, H1, I1.kept (t' := tk) k, ⟨t, rfl⟩, q _ hz⟩) hz2
  | tuple h1 h2 h3 h4 => exact formatField_of_reads (.tuple h1 h2 h3 h4) hs (fun _ => hn) cl (by omega) (fun _ _ e => e) (fun h' t tk k => ⟨.str _, H1, I1.kept (t' := tk) k, ⟨t, rfl⟩, q _ hz⟩) hz2
  | dict h1 h2 h3 h4 h5 => exact formatField_of_reads (.dict h1 h2 h3 h4 h5) hs (fun _ => hn) cl (by omega) (fun _ _ e => e) (fun h' t tk k => ⟨.str _, H1, I1.kept (t' := tk) k, ⟨t, rfl⟩, q _ hz⟩) hz2
end Any
set_option Elab.async false
set_option linter.all false
set_option maxRecDepth 100000
set_option maxHeartbeats 4000000
/-! The words of a text, as a walk over its signs; and line by line. -/
namespace Any
abbrev Wd := List Nat × Nat × Nat
structure Wk where
  fin : List Wd
  cur : Option Wd
  ln : Nat
  cl : Nat
def Wk.all (s : Wk) : List Wd := s.fin ++ s.cur.toList
def gap (c : Nat) : Bool := c == 32 || c == 10
def wnew (s : Wk) (c : Nat) : Wd := match s.cur with
  | none => ([c], s.ln, s.cl)
  | some w => (w.1 ++ [c], w.2)
def stp (s : Wk) (c : Nat) : Wk :=
  if gap c = true then ⟨s.all, none, if c = 10 then s.ln + 1 else s.ln, if c = 10 then 1 else s.cl + 1⟩
  else ⟨s.fin, some (wnew s c), s.ln, s.cl + 1⟩
def wk0 (r : Nat) : Wk := ⟨[], none, r, 1⟩
def run (r : Nat) (t : List Nat) : Wk := t.foldl stp (wk0 r)
def wordsL (t : List Nat) : List Wd := (run 1 t).all
def lineL (r : Nat) (t : List Nat) : List Wd := (run r (t ++ [32])).fin
def linesL : Nat → List (List Nat) → List Wd
  | _, [] => []
  | r, p :: ps => lineL r p ++ linesL (r + 1) ps
theorem gap32 : gap 32 = true := rfl
theorem gap10 : gap 10 = true := rfl
theorem lineL_all (r : Nat) (t : List Nat) : lineL r t = (run r t).all := by
  unfold lineL run
  rw [List.foldl_append]
  rfl
/-- what is finished is only added to -/
def Wk.pre (A : List Wd) (s : Wk) : Wk := ⟨A ++ s.fin, s.cur, s.ln, s.cl⟩
theorem stp_pre (A : List Wd) (s : Wk) (c : Nat) : stp (s.pre A) c = (stp s c).pre A := by
  unfold stp Wk.pre Wk.all wnew
  cases gap c
  · rfl
  · simp [List.append_assoc]
theorem fold_pre (A : List Wd) : ∀ (t : List Nat) (s : Wk), t.foldl stp (s.pre A) = (t.foldl stp s).pre A
  | [], _ => rfl
  | c :: t, s => by
    rw [List.foldl_cons, List.foldl_cons, stp_pre]
    exact fold_pre A t _
theorem fold_ln : ∀ (t : List Nat) (s : Wk), 10 ∉ t → (t.foldl stp s).ln = s.ln
  | [], _, _ => rfl
  | c :: t, s, h => by
    rw [List.foldl_cons, fold_ln t _ (fun m => h (List.mem_cons_of_mem _ m))]
    have hc : ¬ c = 10 := fun e => h (by rw [e]; exact List.mem_cons_self ..)
    unfold stp
    cases gap c
    · rfl
    · simp [hc]
theorem pre_no {c : Nat} {r : List Nat} (e : ¬ c = 10) : TL.pre [10] (c :: r) = false := by
  unfold TL.pre
  simp
  exact e
theorem pieces : ∀ (r acc : List Nat) (F : List Wd) (L : Nat), 10 ∉ acc → ((acc ++ r).foldl stp ((wk0 L).pre F)).all = F ++ linesL L (TL.spl [10] 0 acc r)
  | [], acc, F, L, _ => by
    rw [List.append_nil, fold_pre, TL.spl_nil]
    show F ++ _ ++ _ = F ++ (lineL L acc ++ [])
    rw [lineL_all, List.append_nil, List.append_assoc]
    rfl
  | c :: r, acc, F, L, h => by
    by_cases e : c = 10
    · subst e
      rw [TL.spl_hit rfl]
      show (((acc ++ 10 :: r).foldl stp ((wk0 L).pre F))).all = F ++ (lineL L acc ++ linesL (L + 1) (TL.spl [10] 0 [] r))
      have ih := pieces r [] (F ++ lineL L acc) (L + 1) List.not_mem_nil
      rw [List.append_assoc, List.nil_append] at ih
      rw [← ih, List.foldl_append, List.foldl_cons, fold_pre]
      have hl := fold_ln acc (wk0 L) h
      have e2 : stp ((acc.foldl stp (wk0 L)).pre F) 10 = (wk0 (L + 1)).pre (F ++ lineL L acc) := by
        rw [lineL_all]
        unfold stp
        rw [if_pos gap10]
        show Wk.mk (F ++ _ ++ _) none (if 10 = 10 then (acc.foldl stp (wk0 L)).ln + 1 else _) (if 10 = 10 then 1 else _) = _
        rw [if_pos rfl, if_pos rfl, hl]
        show Wk.mk _ none (L + 1) 1 = Wk.mk (F ++ _ ++ []) none (L + 1) 1
        rw [List.append_nil, List.append_assoc]
        rfl
      rw [e2]
    · have hp : TL.pre [10] (c :: r) = false := pre_no e
      rw [TL.spl_miss hp]
      have ih := pieces r (acc ++ [c]) F L (fun m => (List.mem_append.mp m).elim h fun m => e (List.mem_singleton.mp m).symm)
      rw [List.append_assoc] at ih
      exact ih
theorem words_lines (t : List Nat) : linesL 1 (TL.spl [10] 0 [] t) = wordsL t := by
  have := pieces t [] [] 1 List.not_mem_nil
  exact this.symm
/-- the pieces have no line feed -/
theorem spl_no : ∀ (r acc : List Nat), 10 ∉ acc → ∀ p ∈ TL.spl [10] 0 acc r, 10 ∉ p
  | [], acc, h, p, hp => by
    rw [TL.spl_nil] at hp
    rw [List.mem_singleton.mp hp]
    exact h
  | c :: r, acc, h, p, hp => by
    by_cases e : c = 10
    · subst e
      rw [TL.spl_hit rfl] at hp
      rcases List.mem_cons.mp hp with z | z
      · rw [z]; exact h
      · exact spl_no r [] List.not_mem_nil p z
    · rw [TL.spl_miss (pre_no e)] at hp
      exact spl_no r (acc ++ [c]) (fun m => (List.mem_append.mp m).elim h fun m => e (List.mem_singleton.mp m).symm) p hp
/-- .. together as long as the text at most -/
theorem spl_len : ∀ (r acc : List Nat), (∀ p ∈ TL.spl [10] 0 acc r, p.length ≤ acc.length + r.length) ∧ (TL.spl [10] 0 acc r).length ≤ r.length + 1
  | [], acc => by
    rw [TL.spl_nil]
    exact ⟨fun p hp => by rw [List.mem_singleton.mp hp]; simp, by simp⟩
  | c :: r, acc => by
    by_cases e : c = 10
    · subst e
      rw [TL.spl_hit rfl]
      obtain ⟨h1, h2⟩ := spl_len r []
      refine ⟨fun p hp => ?_, ?_⟩
      · rcases List.mem_cons.mp hp with z | z
        · rw [z]; simp
        · have := h1 p z
          simp only [List.length_nil, List.length_cons] at *
          omega
      · show (TL.spl [10] 0 [] r).length + 1 ≤ _
        simp only [List.length_cons]
        omega
    · rw [TL.spl_miss (pre_no e)]
      obtain ⟨h1, h2⟩ := spl_len r (acc ++ [c])
      refine ⟨fun p hp => ?_, by simp only [List.length_cons]; omega⟩
      have := h1 p hp
      simp only [List.length_append, List.length_cons, List.length_nil] at *
      omega
/-- within a line: where the walk stands -/
structure LineAt (r : Nat) (t : List Nat) (j : Nat) (s : Wk) : Prop where
  ln : s.ln = r
  cl : s.cl = j + 1
  cur : ∀ w, s.cur = some w → w.2.1 = r ∧ ∃ b, w.2.2 = b + 1 ∧ b < j ∧ w.1 = (t.drop b).take (j - b)
theorem run_snoc (r : Nat) (t : List Nat) (j : Nat) (c : Nat) (h : t[j]? = some c) : run r (t.take (j + 1)) = stp (run r (t.take j)) c := by
  unfold run
  rw [List.take_succ, h, Option.toList_some, List.foldl_append]
  rfl
theorem line_at (r : Nat) (t : List Nat) (h10 : 10 ∉ t) : ∀ j, j ≤ t.length → LineAt r t j (run r (t.take j))
  | 0, _ => ⟨rfl, rfl, fun w e => nomatch (show (none : Option Wd) = some w from e)⟩
  | j + 1, hj => by
    have ih := line_at r t h10 j (by omega)
    have hc : t[j]? = some t[j] := List.getElem?_eq_getElem hj
    have n10 : ¬ t[j] = 10 := fun e => h10 (e ▸ List.getElem_mem hj)
    rw [run_snoc r t j _ hc]
    unfold stp
    cases hg : gap t[j]
    · refine ⟨ih.ln, by show _ + 1 = _; rw [ih.cl], fun w e => ?_⟩
      have e' : w = wnew (run r (t.take j)) t[j] := (Option.some.inj e).symm
      subst e'
      unfold wnew
      cases hcur : (run r (t.take j)).cur with
      | none =>
        refine ⟨ih.ln, j, ih.cl, by omega, ?_⟩
        show [t[j]] = _
        rw [show j + 1 - j = 1 by omega, List.drop_eq_getElem_cons hj]
        rfl
      | some w =>
        obtain ⟨h1, b, h2, h3, h4⟩ := ih.cur w hcur
        refine ⟨h1, b, h2, by omega, ?_⟩
        show w.1 ++ [t[j]] = _
        rw [h4, show j + 1 - b = (j - b) + 1 by omega, List.take_succ, List.getElem?_drop, show b + (j - b) = j by omega, hc]
        rfl
    · refine ⟨?_, ?_, fun w e => nomatch (show (none : Option Wd) = some w from e)⟩
      · show (if t[j] = 10 then _ else _) = r
        rw [if_neg n10]
        exact ih.ln
      · show (if t[j] = 10 then _ else _) = _
        rw [if_neg n10, ih.cl]
/-- sizes -/
theorem stp_many (s : Wk) (c : Nat) : (stp s c).all.length ≤ s.all.length + 1 := by
  unfold stp Wk.all wnew
  cases gap c
  · cases s.cur <;> simp
  · simp
theorem fold_many : ∀ (t : List Nat) (s : Wk), (t.foldl stp s).all.length ≤ s.all.length + t.length
  | [], s => by simp
  | c :: t, s => by
    rw [List.foldl_cons, List.length_cons]
    have h1 := fold_many t (stp s c)
    have h2 := stp_many s c
    omega
theorem run_many (r : Nat) (t : List Nat) : (run r t).all.length ≤ t.length := by
  have := fold_many t (wk0 r)
  simpa [run, wk0, Wk.all] using this
theorem fin_all (s : Wk) : s.fin.length ≤ s.all.length := by
  unfold Wk.all
  simp
theorem lineL_many (r : Nat) (t : List Nat) : (lineL r t).length ≤ t.length := by
  rw [lineL_all]
  exact run_many r t
/-- words are short, stand early -/
def Wok (n : Nat) (w : Wd) : Prop := w.1.length ≤ n ∧ w.2.1 ≤ n + 1 ∧ w.2.2 ≤ n + 1
theorem Wok.mono {n m : Nat} {w : Wd} (h : Wok n w) (e : n ≤ m) : Wok m w := ⟨Nat.le_trans h.1 e, Nat.le_trans h.2.1 (Nat.succ_le_succ e), Nat.le_trans h.2.2 (Nat.succ_le_succ e)⟩
theorem stp_ok {s : Wk} {n c : Nat} (h : (∀ w ∈ s.all, Wok n w) ∧ s.ln ≤ n + 1 ∧ s.cl ≤ n + 1) : (∀ w ∈ (stp s c).all, Wok (n + 1) w) ∧ (stp s c).ln ≤ n + 2 ∧ (stp s c).cl ≤ n + 2 := by
  obtain ⟨h1, h2, h3⟩ := h
  unfold stp
  cases hg : gap c
  · refine ⟨fun w hw => ?_, by show s.ln ≤ _; omega, by show s.cl + 1 ≤ _; omega⟩
    rcases List.mem_append.mp (show w ∈ s.fin ++ [wnew s c] from hw) with m | m
    · exact (h1 w (List.mem_append_left _ m)).mono (by omega)
    · rw [List.mem_singleton.mp m]
      unfold wnew
      cases hcur : s.cur with
      | none => exact ⟨by simp, by show s.ln ≤ _; omega, by show s.cl ≤ _; omega⟩
      | some v =>
        have := h1 v (List.mem_append_right _ (by rw [hcur]; simp))
        exact ⟨by simp only [List.length_append, List.length_singleton]; have := this.1; omega, by have := this.2.1; show v.2.1 ≤ _; omega, by have := this.2.2; show v.2.2 ≤ _; omega⟩
  · refine ⟨fun w hw => ?_, ?_, ?_⟩
    · have hw' : w ∈ s.all := by simpa [Wk.all] using hw
      exact (h1 w hw').mono (by omega)
    · show (if c = 10 then _ else _) ≤ _
      split <;> omega
    · show (if c = 10 then _ else _) ≤ _
      split <;> omega
theorem fold_ok : ∀ (t : List Nat) (s : Wk) (n : Nat), (∀ w ∈ s.all, Wok n w) ∧ s.ln ≤ n + 1 ∧ s.cl ≤ n + 1 → (∀ w ∈ (t.foldl stp s).all, Wok (n + t.length) w) ∧ (t.foldl stp s).ln ≤ n + t.length + 1 ∧ (t.foldl stp s).cl ≤ n + t.length + 1
  | [], s, n, h => h
  | c :: t, s, n, h => by
    have := fold_ok t (stp s c) (n + 1) (stp_ok h)
    rw [List.foldl_cons, List.length_cons, show n + (t.length + 1) = n + 1 + t.length by omega]
    exact this
theorem run1_ok (t : List Nat) : (∀ w ∈ (run 1 t).all, Wok t.length w) ∧ (run 1 t).ln ≤ t.length + 1 ∧ (run 1 t).cl ≤ t.length + 1 := by
  have := fold_ok t (wk0 1) 0 ⟨fun w h => (nomatch (show w ∈ ([] : List Wd) from h)), Nat.le_refl 1, Nat.le_refl 1⟩
  rwa [Nat.zero_add] at this
end Any
set_option Elab.async false
set_option linter.all false
set_option maxRecDepth 100000
set_option maxHeartbeats 4000000
/-! Names told. -/
namespace Any
open PySem PySem.Spec PyProof.Rows L2
open He (ga ma)
abbrev sIsName : Stmt := top 6
abbrev sIsText : Stmt := top 7
abbrev sWords : Stmt := top 8
abbrev sLine : Stmt := top 9
abbrev sLIsName : Stmt := top 15
abbrev sReserved : Stmt := top 16
abbrev sAnyName : Stmt := top 17
abbrev sWalked : Stmt := top 18
abbrev sPiece : Stmt := top 19
abbrev sRight : Stmt := top 20
abbrev sLaw : Stmt := top 21
abbrev iText : Stmt := inClass (top 2) 0
def keptA : List V := [V.str "ahead", V.str "anew", V.str "ask", V.str "body", V.str "call", V.str "do", V.str "document", V.str "down", V.str "each", V.str "else", V.str "ever", V.str "fill", V.str "group", V.str "if"]
def keptB : List V := [V.str "left", V.str "less", V.str "minus", V.str "none", V.str "order", V.str "over", V.str "part", V.str "place", V.str "plus", V.str "program", V.str "reads", V.str "right"]
def keptC : List V := [V.str "run", V.str "same", V.str "set", V.str "show", V.str "then", V.str "times", V.str "up", V.str "walk", V.str "while", V.str "whole", V.str "width"]
def keptV : List V := keptA ++ keptB ++ keptC
def letS : Str := "abcdefghijklmnopqrstuvwxyz"
/-- what the written part says -/
structure T00 (K : PySem.W.Frag) (mg : Str → Option Value) : Prop where
  d : DTxt mg
  isi : mg "isinstance" = none
  enu : mg "enumerate" = none
  all : mg "all" = none
  rpr : mg "repr" = none
  tup : mg "tuple" = none
  rng : mg "range" = none
  str : mg "str" = none
  min : mg "min" = none
  ve : mg "ValueError" = none
  sys : SysD K
  let_ : ∃ t, mg "LETTERS" = some (.str letS t)
  kept : mg "KEPT" = some (.ref (ga K "KEPT"))
  keptT : ∀ H, SqT K H (ga K "KEPT") keptV
  gT : mg "BadText" = some (.ref (ga K "BadText"))
  gM : mg "MakerError" = some (.ref (ga K "MakerError"))
  err : ErrC K (ga K "BadText")
  kit : PySem.W.kitOne K (.ref (ga K "BadText")) (.ref (ga K "BadText")) = some true
  exm : PySem.W.exmOne K (.ref (ga K "BadText")) (.ref (ga K "MakerError")) = some true
  oex : OexC K (ga K "BadText")
  ini : PySem.W.findIn K (.ref (ga K "BadText")) "__init__" = some (some (.ref (ma K (ga K "BadText") "__init__"))) ∧ PySem.W.typeIn K (.ref (ma K (ga K "BadText") "__init__")) = some (.type "function")
  base : BaseI K (ga K "MakerError")
  noL : PySem.W.findIn K (.ref (ga K "BadText")) "line" = some none
  noC : PySem.W.findIn K (.ref (ga K "BadText")) "column" = some none
  noW : PySem.W.findIn K (.ref (ga K "BadText")) "wanted" = some none
def Asc (x : Str) : Prop := ∀ c ∈ x.cps.toList, c < 128
/-- no text -/
def Odd (K : PySem.W.Frag) (H : Hp) (v : V) : Prop := ∃ t, TyX K H v (.type t) ∧ kitB t "str" = some false
def inLet (c : Nat) : Bool := decide (c ∈ letS.cps.toList)
def inKept (x : Str) : Bool := inV (.str x) keptV
def lenOk (x : Str) : Bool := decide ((1 : Int) ≤ (x.length : Int)) && decide ((x.length : Int) ≤ 8)
def isNm (x : Str) : Bool := lenOk x && (x.cps.toList.all inLet && !inKept x)
def spIsName (K : PySem.W.Frag) : Sp := fun vs H Q _ => ∃ v, vs = [v] ∧ ((∃ x : Str, v = .str x ∧ x.length ≤ 100000 ∧ Asc x ∧ ∀ H', Same H H' → Q (.bl (isNm x)) H') ∨ (Odd K H v ∧ ∀ H', Same H H' → Q (.bl false) H'))
theorem rsame {H : Hp} : Same H H := fun _ _ e => e
theorem snew {H : Hp} {p : Addr} {o : HO} (h : H p = none) : Same H (upd H p o) := fun b u e => by
  rw [upd_ne (ne_of_none e h)]
  exact e
theorem kept_flat : keptV.all flatV = true := by decide +kernel
theorem line_le {n : Nat} (h : n ≤ 1000000) : n ≤ sizeLine := by
  rw [sizeLine_eq]
  omega
theorem take_map {f : Nat → V} {x : Str} {i c : Nat} (h : x.cps[i]? = some c) : (x.cps.toList.take (i + 1)).map f = (x.cps.toList.take i).map f ++ [f c] := by
  have h2 : x.cps.toList[i]? = some c := by simpa using h
  rw [List.take_succ, h2, List.map_append]
  rfl
theorem size_len (x : Str) : x.cps.size = x.length := rfl
section
variable {P : Program} {w : World} {K : PySem.W.Frag} {mg : Str → Option Value} {base : Heap}
theorem scR : FnScope ["some"] [] (defScope sReserved) := ⟨rfl, rfl, rfl, by decide +kernel, rfl, by decide +kernel, by decide +kernel⟩
def spRes (K : PySem.W.Frag) : Sp := fun vs H Q _ => vs = [] ∧ ∀ l H', H l = none → Same H H' → H' l = some (.lst keptV) → Q (.ref l) H'
theorem ok_res {f : Addr} {fd : FuncData} (F : Fun K "_law_reserved" "_law_reserved" sReserved f fd) : FnOk P w K mg base CX0 1 f fd [] (spRes K) := by
  refine F.ok scR (fun vs H Q E h => ?_) (fun cdv A outer s H vs Q E hr h => ?_)
  · obtain ⟨rfl, _⟩ := h
    rfl
  · obtain ⟨rfl, k⟩ := h
    refine ⟨_, pss_cons (ps_set (i := 0) scR.nd rfl (Or.inl rfl) (pe_lst (pa_cons pe_str (pa_cons pe_str (pa_cons pe_str (pa_cons pe_str (pa_cons pe_str (pa_cons pe_str (pa_cons pe_str (pa_cons pe_str (pa_cons pe_str (pa_cons pe_str (pa_cons pe_str (pa_cons pe_str (pa_cons pe_str (pa_cons pe_str pa_nil))))))))))))))))
      (pss_cons (ps_set (i := 0) scR.nd rfl (Or.inl rfl) (pe_op op_cat (pv 0) (pe_lst (pa_cons pe_str (pa_cons pe_str (pa_cons pe_str (pa_cons pe_str (pa_cons pe_str (pa_cons pe_str (pa_cons pe_str (pa_cons pe_str (pa_cons pe_str (pa_cons pe_str (pa_cons pe_str (pa_cons pe_str pa_nil)))))))))))))))
      (pss_one (ps_ret (pe_op op_cat (pv 0) (pe_lst (pa_cons pe_str (pa_cons pe_str (pa_cons pe_str (pa_cons pe_str (pa_cons pe_str (pa_cons pe_str (pa_cons pe_str (pa_cons pe_str (pa_cons pe_str (pa_cons pe_str (pa_cons pe_str pa_nil)))))))))))))))), ?_⟩
    refine ⟨by show 14 ≤ sizeLine; decide, fun l1 h1 => ?_⟩
    refine ⟨_, rfl, by show 12 ≤ sizeLine; decide, fun l2 h2 => ?_⟩
    refine ⟨_, _, _, _, rfl, rfl, snew h2 _ _ upd_same, upd_same, by show 26 ≤ sizeLine; decide, fun l3 h3 => ?_⟩
    refine ⟨_, rfl, by show 11 ≤ sizeLine; decide, fun l4 h4 => ?_⟩
    refine ⟨_, _, _, _, rfl, rfl, snew h4 _ _ upd_same, upd_same, by show 37 ≤ sizeLine; decide, fun l5 h5 => ?_⟩
    exact k l5 _ ((((snew h1).trans (snew h2)).trans (snew h3)).trans (snew h4) |>.free h5) (((((snew h1).trans (snew h2)).trans (snew h3)).trans (snew h4)).trans (snew h5)) upd_same
theorem scN : FnScope ["thing", "letter"] ["thing"] (defScope sIsName) := ⟨rfl, rfl, rfl, by decide +kernel, rfl, by decide +kernel, by decide +kernel⟩
theorem ok_isname {f : Addr} {fd : FuncData} (F : Fun K "is_name" "is_name" sIsName f fd) (T : T00 K mg) : FnOk P w K mg base CX0 1 f fd ["thing"] (spIsName K) := by
  refine F.ok scN (fun vs H Q E h => ?_) (fun cdv A outer s H vs Q E hr h => ?_)
  · obtain ⟨v, rfl, _⟩ := h
    rfl
  · obtain ⟨v, rfl, h⟩ := h
    obtain ⟨t, hL⟩ := T.let_
    refine ⟨_, pss_cons (ps_if (PW.pt (pw_or (pt_not (pt_val (pe_callB call_isi (by rfl) T.isi (by decide +kernel) (pa_cons (pv 0) (pa_cons (pe_bltn (v := .ty "str") (by rfl) T.str (by decide +kernel) rfl) pa_nil)))))
        (pw_or1 (pt_not (pt_chain op_le op_le pe_int (pe_callB call_len_str (by rfl) T.d.len PySem.boot_len (pa_cons (pv 0) pa_nil)) pe_int))))) (pss_one (ps_ret pe_bl)) pss_nil)
      (pss_one (ps_ret (pe_and (pe_callB (call_allL rfl) (by rfl) T.all (by decide +kernel) (pa_cons (pe_lc (own := [("letter", 1)]) (g := gName 1) rfl scN.nd (pi_str (pv 0)) (blkOk_by (own := [("letter", 1)]) (N := ["thing", "letter"]) (sc := defScope sIsName) (by decide +kernel))
          (fun _ _ _ _ _ => pg_name (i := 1) scN.nd rfl (Or.inl rfl)) (fun _ _ _ _ _ => pts_nil) (fun _ _ _ _ _ => pe_cmpR op_in_sign (pv 1) (pe_glob (v := .str letS) (by rfl) hL ⟨_, rfl⟩) rfl)) pa_nil))
        (pe_one (pe_cmpR op_notIn_seq (pv 0) (pe_glob (v := .ref (ga K "KEPT")) (by rfl) T.kept rfl) (by rfl)))))), ?_⟩
    rcases h with ⟨x, rfl, hx, _, k⟩ | ⟨⟨t, ty, kt⟩, k⟩
    · refine ⟨_, rfl, _, _, _, _, true, rfl, .ty "str", .base (.str x), kit_ty (by decide +kernel), true, rfl, ?_⟩
      refine iteF ?_
      have hz : x.length ≤ sizeLine := line_le (by omega)
      refine ⟨_, rfl, _, rfl, hz, _, _, rfl, rfl, _, rfl, ?_⟩
      have stop : lenOk x = false → Q (.bl false) H := fun e => by
        have := k H rsame
        unfold isNm at this
        rw [e, Bool.false_and] at this
        exact this
      refine ite2 (fun c1 => ?_) (fun c1 => ?_)
      · refine ⟨_, _, rfl, rfl, _, rfl, ?_⟩
        refine ite2 (fun c2 => ?_) (fun c2 => ?_)
        · have c2' : ¬ (x.length : Int) ≤ 8 := by simpa using c2
          exact stop (by unfold lenOk; rw [decide_eq_false c2', Bool.and_false])
        · have c2' : (x.length : Int) ≤ 8 := by simpa using c2
          have c1' : (1 : Int) ≤ (x.length : Int) := of_decide_eq_true c1
          have lk : lenOk x = true := by unfold lenOk; rw [decide_eq_true c1', decide_eq_true c2']; rfl
          refine ⟨_, rfl, x, rfl, fun D hD => lc_it walk_str (fun i H1 => H1 = upd H D (.lst ((x.cps.toList.take i).map fun c => V.bl (inLet c)))) rfl (fun _ _ _ _ => True.intro) ?_ ?_⟩
          · rintro i v H1 H2 hi rfl ⟨rfl, c, hc, rfl⟩
            refine ⟨rfl, yes_if ⟨_, rfl, c, _, rfl, rfl, _, upd_same, ?_, ?_⟩⟩
            · rw [List.length_map, List.length_take]
              have hi' : i < x.length := hi
              exact small1000 (Nat.le_trans (Nat.min_le_left _ _) (by omega))
            · rw [upd_upd, take_map (f := fun c => V.bl (inLet c)) hc]
              rfl
          · rintro H1 rfl
            have e1 : x.cps.toList.take x.cps.size = x.cps.toList := List.take_of_length_le (by simp)
            rw [e1]
            refine ⟨D, x.cps.toList.map inLet, rfl, ?_, _, rfl, ?_⟩
            · rw [List.map_map]
              exact SqL.of upd_same
            · have e2 : (x.cps.toList.map inLet).all id = x.cps.toList.all inLet := by
                rw [List.all_map]
                rfl
              rw [e2]
              refine ite2 (fun c3 => ?_) (fun c3 => ?_)
              · refine ⟨_, rfl, _, _, rfl, .inr (T.keptT _), rfl, kept_flat, ?_⟩
                have := k _ (snew hD (o := .lst (x.cps.toList.map fun c => V.bl (inLet c))))
                unfold isNm at this
                rw [lk, c3, Bool.true_and, Bool.true_and] at this
                exact this
              · have := k _ (snew hD (o := .lst (x.cps.toList.map fun c => V.bl (inLet c))))
                unfold isNm at this
                rw [Bool.eq_false_iff.mpr c3, Bool.false_and, Bool.and_false] at this
                exact this
      · have c1' : ¬ (1 : Int) ≤ (x.length : Int) := by simpa using c1
        exact ⟨_, rfl, stop (by unfold lenOk; rw [decide_eq_false c1']; rfl)⟩
    · refine ⟨_, rfl, _, _, _, _, false, rfl, .ty "str", ty, kit_ty kt, false, rfl, ?_⟩
      exact k _ rsame
end
end Any
set_option Elab.async false
set_option linter.all false
set_option maxRecDepth 100000
set_option maxHeartbeats 4000000
/-! Words as data: their shape, how long they are when shown. -/
namespace Any
open PySem PySem.Spec PyProof.Rows L2
def wdD (w : Wd) : PyData := .tuple [.str ⟨w.1.toArray⟩, .int (w.2.1 : Nat), .int (w.2.2 : Nat)]
def wdV (w : Wd) : List V := [.str ⟨w.1.toArray⟩, .int (w.2.1 : Nat), .int (w.2.2 : Nat)]
theorem canAll {α : Type} {f : α → PyData} : ∀ {xs : List α}, (∀ x ∈ xs, (f x).canLay0 = true) → PyData.canLayAll0 (xs.map f) = true
  | [], _ => rfl
  | x :: xs, h => by
    show (PyData.canLay0 (f x) && PyData.canLayAll0 (xs.map f)) = true
    rw [h x (List.mem_cons_self ..), canAll fun y hy => h y (List.mem_cons_of_mem _ hy)]
    rfl
theorem depthAll_le {α : Type} {f : α → PyData} {n : Nat} : ∀ {xs : List α}, (∀ x ∈ xs, (f x).depth ≤ n) → PyData.depthAll (xs.map f) ≤ n
  | [], _ => Nat.zero_le _
  | x :: xs, h => Nat.max_le.mpr ⟨h x (List.mem_cons_self ..), depthAll_le fun y hy => h y (List.mem_cons_of_mem _ hy)⟩
theorem showAll {α : Type} {f : α → PyData} : ∀ {xs : List α}, (∀ x ∈ xs, (f x).showable = true) → PyData.showableAll (xs.map f) = true
  | [], _ => rfl
  | x :: xs, h => by
    show (PyData.showable (f x) && PyData.showableAll (xs.map f)) = true
    rw [h x (List.mem_cons_self ..), showAll fun y hy => h y (List.mem_cons_of_mem _ hy)]
    rfl
theorem shownAll_map {α : Type} {f : α → PyData} : ∀ {xs : List α}, PyData.shownAll (xs.map f) = xs.map fun x => (f x).shown
  | [] => rfl
  | x :: xs => by
    show (f x).shown :: PyData.shownAll (xs.map f) = _
    rw [shownAll_map]
    rfl
theorem asc_ok {x : Str} (h : Asc x) : PyData.strOk x = true := by
  unfold PyData.strOk
  rw [← Array.all_toList]
  exact List.all_eq_true.mpr fun c hc => decide_eq_true (Nat.lt_trans (h c hc) (by decide))
theorem shaped_strs {xs : List Str} (h : ∀ x ∈ xs, Asc x) : SeqAt.shaped (.list (xs.map PyData.str)) = true := by
  unfold SeqAt.shaped
  rw [Bool.and_eq_true]
  refine ⟨canAll fun x hx => asc_ok (h x hx), decide_eq_true ?_⟩
  show PyData.depthAll _ + 1 ≤ 64
  have := depthAll_le (f := PyData.str) (n := 0) (xs := xs) fun x _ => Nat.le_refl _
  omega
/-- a list of words that is good data -/
structure WsOk (ws : List Wd) : Prop where
  many : ws.length ≤ 700
  each : ∀ w ∈ ws, Wok 700 w
  asc : ∀ w ∈ ws, ∀ c ∈ w.1, c < 128
theorem asc_mk {l : List Nat} (h : ∀ c ∈ l, c < 128) : Asc ⟨l.toArray⟩ := fun c hc => h c (by simpa using hc)
def wsD (ws : List Wd) : PyData := .list (ws.map wdD)
theorem wsD_shaped {ws : List Wd} (h : WsOk ws) : SeqAt.shaped (wsD ws) = true := by
  unfold SeqAt.shaped
  rw [Bool.and_eq_true]
  refine ⟨canAll fun w hw => ?_, decide_eq_true ?_⟩
  · show (PyData.strOk _ && (true && (true && true))) = true
    rw [asc_ok (asc_mk (h.asc w hw))]
    rfl
  · show PyData.depthAll _ + 1 ≤ 64
    have := depthAll_le (f := wdD) (n := 1) (xs := ws) fun w _ => (by show max 0 (max 0 (max 0 0)) + 1 ≤ 1; decide)
    omega
theorem wsD_canLay {ws : List Wd} (h : WsOk ws) : (wsD ws).canLay0 = true := (Bool.and_eq_true_iff.mp (wsD_shaped h)).1
theorem int_log {n : Nat} (h : n ≤ 1000000) : ((n : Int).natAbs).log2 < 1920 := by
  rw [Int.natAbs_natCast]
  rcases Nat.eq_zero_or_pos n with e | e
  · rw [e]
    decide
  · have : n < 2 ^ 20 := Nat.lt_of_le_of_lt h (by decide)
    exact Nat.lt_trans ((Nat.log2_lt (by omega)).mpr this) (by decide)
theorem wsD_show {ws : List Wd} (h : WsOk ws) : (wsD ws).showable = true := by
  refine showAll fun w hw => ?_
  have h2 := (h.each w hw).2.1
  have h3 := (h.each w hw).2.2
  show (true && (decide (((w.2.1 : Nat) : Int).natAbs.log2 < 1920) && (decide (((w.2.2 : Nat) : Int).natAbs.log2 < 1920) && true))) = true
  rw [decide_eq_true (int_log (by omega)), decide_eq_true (int_log (by omega))]
  rfl
theorem wsD_depth (ws : List Wd) : (wsD ws).depth ≤ 60 := by
  show PyData.depthAll _ + 1 ≤ 60
  have := depthAll_le (f := wdD) (n := 1) (xs := ws) fun w _ => (by show max 0 (max 0 (max 0 0)) + 1 ≤ 1; decide)
  omega
theorem int_shown {n : Nat} (h : n ≤ 1000000) : (PyData.shown (.int (n : Nat))).length ≤ 20 := by
  have e := PySem.W.KIN.signs_num n
  have e2 : (PyData.shown (.int (n : Nat))).length = ((Nat.toDigits 10 n).map Char.toNat).length := by
    rw [← e]
    show Array.size _ = _
    rw [Array.length_toList]
    rfl
  rw [e2, List.length_map]
  have := nat_repr_length_le (n := n) (k := 20) (by decide) (Nat.lt_of_le_of_lt h (by decide))
  have e3 : (Nat.repr n).length = (Nat.toDigits 10 n).length := by
    show (String.ofList (Nat.toDigits 10 n)).length = _
    simp
  rw [← e3]
  exact this
theorem wd_shown {w : Wd} (h : Wok 700 w) (ha : ∀ c ∈ w.1, c < 128) : (wdD w).shown.length ≤ 7100 := by
  have h1 := h.1
  have s1 : (PyData.shown (.str ⟨w.1.toArray⟩)).length ≤ 10 * 700 + 2 := by
    refine Nat.le_trans (PySem.StrLaws.reprText_len _ fun c hc => Nat.lt_trans (asc_mk ha c hc) (by decide)) ?_
    show 10 * w.1.toArray.size + 2 ≤ _
    rw [List.size_toArray]
    omega
  have s2 := int_shown (n := w.2.1) (by have := h.2.1; omega)
  have s3 := int_shown (n := w.2.2) (by have := h.2.2; omega)
  show (tupleText [PyData.shown (.str ⟨w.1.toArray⟩), PyData.shown (.int (w.2.1 : Nat)), PyData.shown (.int (w.2.2 : Nat))]).length ≤ _
  unfold tupleText
  have j := join_length_add [PyData.shown (.str ⟨w.1.toArray⟩), PyData.shown (.int (w.2.1 : Nat)), PyData.shown (.int (w.2.2 : Nat))] (by simp)
  rw [piled_cons, piled_cons, piled_cons, piled_nil] at j
  rw [strLen_append, strLen_append]
  have e1 : (("(" : Str)).length = 1 := rfl
  have e2 : ((if [PyData.shown (.str ⟨w.1.toArray⟩), PyData.shown (.int (w.2.1 : Nat)), PyData.shown (.int (w.2.2 : Nat))].length == 1 then ",)" else ")" : String) : Str).length = 1 := rfl
  rw [e1, e2]
  omega
theorem piled_le {n : Nat} : ∀ {ts : List Str}, (∀ t ∈ ts, t.length ≤ n) → piled ts ≤ ts.length * (n + 2)
  | [], _ => Nat.zero_le _
  | t :: ts, h => by
    rw [piled_cons, List.length_cons, Nat.succ_mul]
    have h1 := h t (List.mem_cons_self ..)
    have h2 := piled_le fun u hu => h u (List.mem_cons_of_mem _ hu)
    omega
theorem listText_le (ts : List Str) : (listText ts).length ≤ piled ts + 2 := by
  unfold listText
  rw [strLen_append]
  cases ts with
  | nil => decide
  | cons t r =>
    show (textFrom 1 (("[" : Str) ++ (if 0 > 0 then ", " else "" : String) ++ t) r).length + 1 ≤ _
    rw [textFrom_length_pos _ _ _ (by decide), strLen_append, strLen_append, piled_cons]
    show 1 + 0 + t.length + piled r + 1 ≤ _
    omega
theorem wsD_shown {ws : List Wd} (h : WsOk ws) : (wsD ws).shown.length ≤ sizeLine := by
  rw [sizeLine_eq]
  show (listText (PyData.shownAll (ws.map wdD))).length ≤ _
  rw [shownAll_map]
  have h1 := listText_le (ws.map fun w => (wdD w).shown)
  have h2 := piled_le (n := 7100) (ts := ws.map fun w => (wdD w).shown) fun t ht => by
    obtain ⟨w, hw, rfl⟩ := List.mem_map.mp ht
    exact wd_shown (h.each w hw) (h.asc w hw)
  rw [List.length_map] at h2
  have h3 : ws.length * (7100 + 2) ≤ 700 * (7100 + 2) := Nat.mul_le_mul_right _ h.many
  omega
/-- the walk keeps to the text's signs -/
theorem stp_asc {s : Wk} {c : Nat} (h : ∀ w ∈ s.all, ∀ d ∈ w.1, d < 128) (hc : c < 128) : ∀ w ∈ (stp s c).all, ∀ d ∈ w.1, d < 128 := by
  unfold stp
  cases hg : gap c
  · intro w hw
    rcases List.mem_append.mp (show w ∈ s.fin ++ [wnew s c] from hw) with m | m
    · exact h w (List.mem_append_left _ m)
    · rw [List.mem_singleton.mp m]
      unfold wnew
      cases hcur : s.cur with
      | none =>
        intro d hd
        rw [List.mem_singleton.mp hd]
        exact hc
      | some v =>
        intro d hd
        rcases List.mem_append.mp (show d ∈ v.1 ++ [c] from hd) with z | z
        · exact h v (List.mem_append_right _ (by rw [hcur]; simp)) d z
        · rw [List.mem_singleton.mp z]
          exact hc
  · intro w hw
    exact h w (by simpa [Wk.all] using hw)
theorem fold_asc : ∀ (t : List Nat) (s : Wk), (∀ c ∈ t, c < 128) → (∀ w ∈ s.all, ∀ d ∈ w.1, d < 128) → ∀ w ∈ (t.foldl stp s).all, ∀ d ∈ w.1, d < 128
  | [], _, _, h => h
  | c :: t, s, ht, h => fold_asc t (stp s c) (fun d hd => ht d (List.mem_cons_of_mem _ hd)) (stp_asc h (ht c (List.mem_cons_self ..)))
theorem words_ok {x : Str} (h : Asc x) (hl : x.length ≤ 699) : WsOk (wordsL x.cps.toList) := by
  have hl' : x.cps.toList.length ≤ 699 := by rw [Array.length_toList]; exact hl
  have r := run1_ok x.cps.toList
  exact ⟨Nat.le_trans (run_many 1 _) (by omega), fun w hw => (r.1 w hw).mono (by omega), fold_asc _ _ h fun w hw => nomatch (show w ∈ ([] : List Wd) from hw)⟩
end Any
set_option Elab.async false
set_option linter.all false
set_option maxRecDepth 100000
set_option maxHeartbeats 4000000
/-! Names told by the law; texts told. -/
namespace Any
open PySem PySem.Spec PyProof.Rows L2
open He (ga ma)
section
variable {P : Program} {w : World} {K : PySem.W.Frag} {mg : Str → Option Value} {base : Heap}
theorem scLN : FnScope ["thing", "letter"] ["thing"] (defScope sLIsName) := ⟨rfl, rfl, rfl, by decide +kernel, rfl, by decide +kernel, by decide +kernel⟩
theorem filter_snoc {p : Nat → Bool} {x : Str} {i c : Nat} (h : x.cps[i]? = some c) : ((x.cps.toList.take (i + 1)).filter p) = (x.cps.toList.take i).filter p ++ (if p c = true then [c] else []) := by
  have h2 : x.cps.toList[i]? = some c := by simpa using h
  rw [List.take_succ, h2, List.filter_append]
  show _ ++ List.filter p [c] = _
  cases e : p c <;> simp [e]
theorem filter_all {p : Nat → Bool} : ∀ (l : List Nat), (l.filter fun c => !p c) = [] ↔ l.all p = true
  | [] => by simp
  | c :: l => by
    rw [List.all_cons, List.filter_cons]
    cases e : p c
    · simp
    · simp [filter_all l]
def letL : Str := "abcdefghijklmnopqrstuvwxyz"
theorem let_same (c : Nat) : decide (c ∈ letL.cps.toList) = inLet c := rfl
theorem ok_lisname {f fr : Addr} {fd fR : FuncData} (F : Fun K "_law_is_name" "_law_is_name" sLIsName f fd) (T : T00 K mg) (R : Fun K "_law_reserved" "_law_reserved" sReserved fr fR) (gR : mg "_law_reserved" = some (.ref fr)) : FnOk P w K mg base CX0 2 f fd ["thing"] (spIsName K) := by
  have bR := R.binds (ps := []) fun _ _ _ _ _ _ us hl => match us, hl with | [], _ => rfl
  have GR : FnOk P w K mg base CX0 1 _ fR _ _ := ok_res R
  refine F.ok scLN (fun vs H Q E h => ?_) (fun cdv A outer s H vs Q E hr h => ?_)
  · obtain ⟨v, rfl, _⟩ := h
    rfl
  · obtain ⟨v, rfl, h⟩ := h
    refine ⟨_, pss_cons (ps_if (PW.pt (pw_or (pt_not (pt_val (pe_callB call_isi (by rfl) T.isi (by decide +kernel) (pa_cons (pv 0) (pa_cons (pe_bltn (v := .ty "str") (by rfl) T.str (by decide +kernel) rfl) pa_nil)))))
        (pw_or (pt_not (pt_chain op_le op_le pe_int (pe_callB call_len_str (by rfl) T.d.len PySem.boot_len (pa_cons (pv 0) pa_nil)) pe_int))
        (pw_or1 (pt_cmpR op_in_seq (pv 0) (pe_call0 GR hr (by rfl) gR R.kp bR .nil pass0) (by rfl)))))) (pss_one (ps_ret pe_bl)) pss_nil)
      (pss_one (ps_ret (pe_cmpR (op_eqD hr.units) (pe_lc (own := [("letter", 1)]) (g := gName 1) rfl scLN.nd (pi_str (pv 0)) (blkOk_by (own := [("letter", 1)]) (N := ["thing", "letter"]) (sc := defScope sLIsName) (by decide +kernel))
          (fun _ _ _ _ _ => pg_name (i := 1) scLN.nd rfl (Or.inl rfl)) (fun _ _ _ _ _ => pts_one (pt_cmpR op_notIn_sign (pv 1) pe_str (by rfl))) (fun _ _ _ _ _ => pv 1)) (pe_lst pa_nil) (nomark _)))), ?_⟩
    rcases h with ⟨x, rfl, hx, hasc, k⟩ | ⟨⟨t, ty, kt⟩, k⟩
    · refine ⟨_, rfl, _, _, _, _, true, rfl, .ty "str", .base (.str x), kit_ty (by decide +kernel), true, rfl, ?_⟩
      refine iteF ?_
      have hz : x.length ≤ sizeLine := line_le (by omega)
      refine ⟨_, rfl, _, rfl, hz, _, _, rfl, rfl, _, rfl, ?_⟩
      have stop : lenOk x = false → Q (.bl false) H := fun e => by
        have := k H rsame
        unfold isNm at this
        rw [e, Bool.false_and] at this
        exact this
      refine ite2 (fun c1 => ?_) (fun c1 => ?_)
      · refine ⟨_, _, rfl, rfl, _, rfl, ?_⟩
        refine ite2 (fun c2 => ?_) (fun c2 => ?_)
        · have c2' : ¬ (x.length : Int) ≤ 8 := by simpa using c2
          exact stop (by unfold lenOk; rw [decide_eq_false c2', Bool.and_false])
        · have c2' : (x.length : Int) ≤ 8 := by simpa using c2
          have c1' : (1 : Int) ≤ (x.length : Int) := of_decide_eq_true c1
          have lk : lenOk x = true := by unfold lenOk; rw [decide_eq_true c1', decide_eq_true c2']; rfl
          refine ⟨_, rfl, rfl, fun l H1 hl s1 h1 => ⟨l, keptV, rfl, .inl (SqL.of h1), rfl, kept_flat, _, rfl, ?_⟩⟩
          have key : ∀ H', Same H H' → Q (.bl (x.cps.toList.all inLet && !inKept x)) H' := fun H' s => by
            have := k H' s
            unfold isNm at this
            rw [lk, Bool.true_and] at this
            exact this
          refine ite2 (fun c3 => ?_) (fun c3 => ?_)
          · have c3' : inKept x = true := c3
            have := key H1 s1
            rw [c3', Bool.not_true, Bool.and_false] at this
            exact this
          · have c3' : inKept x = false := Bool.eq_false_iff.mpr c3
            refine ⟨_, rfl, x, rfl, fun D hD => lc_it walk_str (fun i H2 => H2 = upd H1 D (.lst (((x.cps.toList.take i).filter fun c => !inLet c).map fun c => V.str ⟨#[c]⟩))) rfl (fun _ _ _ _ => True.intro) ?_ ?_⟩
            · rintro i v H2 H3 hi rfl ⟨rfl, c, hc, rfl⟩
              refine ⟨rfl, _, rfl, c, _, rfl, rfl, _, rfl, ?_⟩
              have fs := filter_snoc (p := fun c => !inLet c) hc
              refine ite2 (fun c4 => ?_) (fun c4 => ?_)
              · refine ⟨_, rfl, _, upd_same, ?_, ?_⟩
                · rw [List.length_map]
                  have hi' : i < x.length := hi
                  exact small1000 (Nat.le_trans (List.length_filter_le _ _) (by rw [List.length_take]; exact Nat.le_trans (Nat.min_le_left _ _) (by omega)))
                · rw [upd_upd, fs, if_pos (show (!inLet c) = true from c4), List.map_append]
                  rfl
              · rw [fs, if_neg (show ¬ (!inLet c) = true from c4), List.append_nil]
            · rintro H2 rfl
              have e1 : x.cps.toList.take x.cps.size = x.cps.toList := List.take_of_length_le (by simp)
              rw [e1]
              have s2 : Same H (upd H1 D (.lst ((x.cps.toList.filter fun c => !inLet c).map fun c => V.str ⟨#[c]⟩))) := s1.trans (snew hD)
              refine ⟨by show 0 ≤ sizeLine; exact Nat.zero_le _, fun l2 hl2 => ?_⟩
              have s3 := s2.trans (snew hl2 (o := .lst []))
              have hm : ∀ L : List Nat, DpAll K (upd (upd H1 D (.lst ((x.cps.toList.filter fun c => !inLet c).map fun c => V.str ⟨#[c]⟩))) l2 (.lst [])) (L.map fun c => V.str ⟨#[c]⟩) (L.map fun c => PyData.str ⟨#[c]⟩) := fun L => by
                induction L with
                | nil => exact .nil
                | cons c L ih => exact .cons (.str _) ih
              refine ⟨.list ((x.cps.toList.filter fun c => !inLet c).map fun c => PyData.str ⟨#[c]⟩), .list [], .lst (SqL.of (snew hl2 _ _ upd_same)) (hm _), .lst (SqL.of upd_same) .nil, ?_, rfl, ?_⟩
              · have e : ((x.cps.toList.filter fun c => !inLet c).map fun c => PyData.str ⟨#[c]⟩) = ((x.cps.toList.filter fun c => !inLet c).map fun c => (⟨#[c]⟩ : Str)).map PyData.str := by
                  rw [List.map_map]
                  rfl
                rw [e]
                refine shaped_strs fun y hy => ?_
                obtain ⟨c, hc, rfl⟩ := List.mem_map.mp hy
                intro d hd
                have ed : d = c := by simpa using hd
                rw [ed]
                exact hasc c (List.mem_filter.mp hc).1
              · have := key _ s3
                rw [c3', Bool.not_false, Bool.and_true] at this
                have e : PyData.eqv (.list ((x.cps.toList.filter fun c => !inLet c).map fun c => PyData.str ⟨#[c]⟩)) (.list []) = x.cps.toList.all inLet := by
                  have fa := filter_all (p := inLet) x.cps.toList
                  cases hL : x.cps.toList.filter fun c => !inLet c with
                  | nil =>
                    rw [fa.mp hL]
                    rfl
                  | cons c l =>
                    have : ¬ x.cps.toList.all inLet = true := fun z => by
                      rw [fa.mpr z] at hL
                      cases hL
                    rw [Bool.eq_false_iff.mpr this]
                    rfl
                rw [e]
                exact this
      · have c1' : ¬ (1 : Int) ≤ (x.length : Int) := by simpa using c1
        exact ⟨_, rfl, stop (by unfold lenOk; rw [decide_eq_false c1']; rfl)⟩
    · refine ⟨_, rfl, _, _, _, _, false, rfl, .ty "str", ty, kit_ty kt, false, rfl, ?_⟩
      exact k _ rsame
end
end Any
set_option Elab.async false
set_option linter.all false
set_option maxRecDepth 100000
set_option maxHeartbeats 4000000
/-! Texts told; the words of a line. -/
namespace Any
open PySem PySem.Spec PyProof.Rows L2
open He (ga ma)
def okS (c : Nat) : Bool := if decide (V.str ⟨#[c]⟩ = V.str "\n") = true then true else if (!decide ([c] < (" " : Str).cps.toList)) = true then !decide (("~" : Str).cps.toList < [c]) else false
def okT (x : Str) : Bool := x.cps.toList.all okS
def spIsText (K : PySem.W.Frag) : Sp := fun vs H Q _ => ∃ v, vs = [v] ∧ ((∃ x : Str, v = .str x ∧ x.length ≤ 100000 ∧ ∀ H', Same H H' → Q (.bl (okT x)) H') ∨ (Odd K H v ∧ ∀ H', Same H H' → Q (.bl false) H'))
theorem okS_yes : ((List.range 128).all fun c => !(decide (32 ≤ c) && decide (c ≤ 126) || decide (c = 10)) || okS c) = true := by decide +kernel
theorem okS_no : okS 9 = false := by decide +kernel
theorem okS_of {c : Nat} (h : (32 ≤ c ∧ c ≤ 126) ∨ c = 10) : okS c = true := by
  have hc : c < 128 := by omega
  have q := List.all_eq_true.mp okS_yes c (List.mem_range.mpr hc)
  rcases h with ⟨h1, h2⟩ | h
  · rw [decide_eq_true h1, decide_eq_true h2] at q
    exact q
  · rw [decide_eq_true h, Bool.or_true] at q
    exact q
section
variable {P : Program} {w : World} {K : PySem.W.Frag} {mg : Str → Option Value} {base : Heap}
theorem scT : FnScope ["thing", "sign"] ["thing"] (defScope sIsText) := ⟨rfl, rfl, rfl, by decide +kernel, rfl, by decide +kernel, by decide +kernel⟩
theorem ok_istext {f : Addr} {fd : FuncData} (F : Fun K "is_text" "is_text" sIsText f fd) (T : T00 K mg) : FnOk P w K mg base CX0 1 f fd ["thing"] (spIsText K) := by
  refine F.ok scT (fun vs H Q E h => ?_) (fun cdv A outer s H vs Q E hr h => ?_)
  · obtain ⟨v, rfl, _⟩ := h
    rfl
  · obtain ⟨v, rfl, h⟩ := h
    refine ⟨_, pss_one (ps_ret (pe_and (pe_callB call_isi (by rfl) T.isi (by decide +kernel) (pa_cons (pv 0) (pa_cons (pe_bltn (v := .ty "str") (by rfl) T.str (by decide +kernel) rfl) pa_nil)))
        (pe_one (pe_callB (call_allL rfl) (by rfl) T.all (by decide +kernel) (pa_cons (pe_lc (own := [("sign", 1)]) (g := gName 1) rfl scT.nd (pi_str (pv 0)) (blkOk_by (own := [("sign", 1)]) (N := ["thing", "sign"]) (sc := defScope sIsText) (by decide +kernel))
          (fun _ _ _ _ _ => pg_name (i := 1) scT.nd rfl (Or.inl rfl)) (fun _ _ _ _ _ => pts_nil) (fun _ _ _ _ _ => pe_or (pe_cmpR op_eq (pv 1) pe_str (nomark _)) (pe_one (pe_chain op_le_str op_le_str pe_str (pv 1) pe_str)))) pa_nil))))), ?_⟩
    rcases h with ⟨x, rfl, hx, k⟩ | ⟨⟨t, ty, kt⟩, k⟩
    · refine ⟨_, rfl, _, _, _, _, true, rfl, .ty "str", .base (.str x), kit_ty (by decide +kernel), true, rfl, ?_⟩
      refine iteT ?_
      refine ⟨_, rfl, x, rfl, fun D hD => lc_it walk_str (fun i H1 => H1 = upd H D (.lst ((x.cps.toList.take i).map fun c => V.bl (okS c)))) rfl (fun _ _ _ _ => True.intro) ?_ ?_⟩
      · rintro i v H1 H2 hi rfl ⟨rfl, c, hc, rfl⟩
        refine ⟨rfl, yes_if ⟨_, rfl, rfl, _, rfl, ?_⟩⟩
        have fin : ∃ acc, (upd H D (.lst ((x.cps.toList.take i).map fun c => V.bl (okS c)))) D = some (.lst acc) ∧ acc.length < sizeLine ∧ upd (upd H D (.lst ((x.cps.toList.take i).map fun c => V.bl (okS c)))) D (.lst (acc ++ [V.bl (okS c)])) = upd H D (.lst ((x.cps.toList.take (i + 1)).map fun c => V.bl (okS c))) := by
          refine ⟨_, upd_same, ?_, ?_⟩
          · rw [List.length_map, List.length_take]
            have hi' : i < x.length := hi
            rw [sizeLine_eq]
            exact Nat.lt_of_le_of_lt (Nat.min_le_left _ _) (by omega)
          · rw [upd_upd, take_map (f := fun c => V.bl (okS c)) hc]
        have u : okS c = if decide (V.str ⟨#[c]⟩ = V.str "\n") = true then true else if (!decide ([c] < (" " : Str).cps.toList)) = true then !decide (("~" : Str).cps.toList < [c]) else false := rfl
        refine ite2 (fun c1 => ?_) (fun c1 => ?_)
        · rw [if_pos c1] at u
          rw [u] at fin
          exact fin
        · rw [if_neg c1] at u
          refine ⟨_, rfl, _, _, rfl, rfl, _, rfl, ?_⟩
          refine ite2 (fun c2 => ?_) (fun c2 => ?_)
          · rw [if_pos (show (!decide ([c] < (" " : Str).cps.toList)) = true from c2)] at u
            rw [u] at fin
            exact ⟨_, _, rfl, rfl, fin⟩
          · rw [if_neg (show ¬ (!decide ([c] < (" " : Str).cps.toList)) = true from c2)] at u
            rw [u] at fin
            exact fin
      · rintro H1 rfl
        have e1 : x.cps.toList.take x.cps.size = x.cps.toList := List.take_of_length_le (by simp)
        rw [e1]
        refine ⟨D, x.cps.toList.map okS, rfl, ?_, ?_⟩
        · rw [List.map_map]
          exact SqL.of upd_same
        · have e2 : (x.cps.toList.map okS).all id = okT x := by
            rw [List.all_map]
            rfl
          rw [e2]
          exact k _ (snew hD)
    · exact ⟨_, rfl, _, _, _, _, false, rfl, .ty "str", ty, kit_ty kt, false, rfl, k _ rsame⟩
/-! ### the words of a line -/
def WAt (H : Hp) (v : V) (w : Wd) : Prop := ∃ p, v = .ref p ∧ H p = some (.tup (wdV w))
abbrev WAll (H : Hp) (xs : List V) (ws : List Wd) : Prop := Paired (WAt H) xs ws
/-- tuples stay -/
def TupK (H H' : Hp) : Prop := ∀ b xs, H b = some (.tup xs) → H' b = some (.tup xs)
theorem WAll.keep {H H' : Hp} {xs : List V} {ws : List Wd} (h : WAll H xs ws) (k : TupK H H') : WAll H' xs ws := L2.Paired.mapP h fun _ _ ⟨p, e, t⟩ => ⟨p, e, k _ _ t⟩
theorem tupK_same {H H' : Hp} (s : Same H H') : TupK H H' := fun b xs e => s b _ e
theorem tupK_lst {H : Hp} {l : Addr} {xs ys : List V} (h : H l = some (.lst xs)) : TupK H (upd H l (.lst ys)) := fun b zs e => by
  have : b ≠ l := fun z => by
    rw [z, h] at e
    cases e
  rw [upd_ne this]
  exact e
theorem WAll.snoc {H : Hp} {xs : List V} {ws : List Wd} {v : V} {w : Wd} (h : WAll H xs ws) (k : WAt H v w) : WAll H (xs ++ [v]) (ws ++ [w]) := by
  induction h with
  | nil => exact .cons k .nil
  | cons r _ ih => exact .cons r ih
theorem WAll.app {H : Hp} {xs ys : List V} {ws us : List Wd} (h : WAll H xs ws) (k : WAll H ys us) : WAll H (xs ++ ys) (ws ++ us) := by
  induction h with
  | nil => exact k
  | cons r _ ih => exact .cons r ih
theorem sign_eq (c d : Nat) : decide (V.str ⟨#[c]⟩ = V.str ⟨#[d]⟩) = decide (c = d) := by simp
theorem sp_mk : V.str (" " : Str) = V.str ⟨#[32]⟩ := rfl
theorem gap_c {c : Nat} (h : ¬ c = 32) (h2 : ¬ c = 10) : gap c = false := by
  unfold gap
  simp [h, h2]
theorem cut_word {x : Str} {b j : Nat} (h1 : b ≤ j) (h2 : j ≤ x.cps.toList.length) : cutS x (some (b : Int)) (some (j : Int)) = ⟨(((x.cps.toList ++ [32]).drop b).take (j - b)).toArray⟩ := by
  unfold cutS
  have e : x.length = x.cps.toList.length := Array.length_toList.symm
  rw [HT.sIx_nat, HT.sIx_nat, e, Nat.min_eq_left h2, Nat.min_eq_left (Nat.le_trans h1 h2), List.drop_append_of_le_length (Nat.le_trans h1 h2), List.take_append_of_le_length (by rw [List.length_drop]; omega)]
def spLine (K : PySem.W.Frag) : Sp := fun vs H Q _ => ∃ (x : Str) (r : Nat), vs = [.str x, .int (r : Nat)] ∧ x.length ≤ 100000 ∧ 10 ∉ x.cps.toList ∧ ∀ l xs H', H l = none → Same H H' → H' l = some (.lst xs) → WAll H' xs (lineL r x.cps.toList) → Q (.ref l) H'
def bV (s : Wk) : V := match s.cur with
  | none => .non
  | some w => .int ((w.2.2 - 1 : Nat) : Int)
theorem scL : FnScope ["line", "row", "found", "begin", "at", "sign"] ["line", "row"] (defScope sLine) := ⟨rfl, rfl, rfl, by decide +kernel, rfl, by decide +kernel, by decide +kernel⟩
theorem line_many (r : Nat) (t : List Nat) (j : Nat) : (run r (t.take j)).fin.length ≤ t.length := by
  have h1 := fin_all (run r (t.take j))
  have h2 := run_many r (t.take j)
  have h3 := List.length_take_le' j t
  omega
theorem ok_line {f : Addr} {fd : FuncData} (F : Fun K "words_of_line" "words_of_line" sLine f fd) (T : T00 K mg) : FnOk P w K mg base CX0 1 f fd ["line", "row"] (spLine K) := by
  refine F.ok scL (fun vs H Q E h => ?_) (fun cdv A outer s H vs Q E hr h => ?_)
  · obtain ⟨x, r, rfl, _⟩ := h
    rfl
  · obtain ⟨x, r, rfl, hx, h10, k⟩ := h
    refine ⟨_, pss_cons (ps_set (i := 2) scL.nd rfl (Or.inl rfl) (pe_lst pa_nil))
      (pss_cons (ps_set (i := 3) scL.nd rfl (Or.inl rfl) pe_non)
      (pss_cons (ps_for PassesOwn.never rfl (pi_enumS (by rfl) T.enu (pa_cons (pe_op op_add_str (pv 0) pe_str) pa_nil)) (pg_tup rfl (pgs_cons (pg_name (i := 4) scL.nd rfl (Or.inl rfl)) (pgs_cons (pg_name (i := 5) scL.nd rfl (Or.inl rfl)) pgs_nil)))
        (pss_cons (ps_if (PW.pt (pw_and (pt_cmpR op_ne (pv 5) pe_str (nomark _)) (pw_and1 (pt_cmp (pc_isN (pv 3)))))) (pss_one (ps_set (i := 3) scL.nd rfl (Or.inl rfl) (pv 4))) pss_nil)
        (pss_one (ps_if (PW.pt (pw_and (pt_cmpR op_eq (pv 5) pe_str (nomark _)) (pw_and1 (pt_cmp (pc_notN (pv 3))))))
          (pss_cons (ps_expr (pe_bm PySem.F.plainAttrs_list PySem.F.slot_list_append PySem.F.type_list_append mt_append (pv 2) (pa_cons (pe_tup (pa_cons (pe_slice sl_str (pv 0) (po_some (pv 3)) (po_some (pv 4))) (pa_cons (pv 1) (pa_cons (pe_op op_add (pv 3) pe_int) pa_nil)))) pa_nil)))
          (pss_one (ps_set (i := 3) scL.nd rfl (Or.inl rfl) pe_non))) pss_nil))))
      (pss_one (ps_ret (pv 2))))), ?_⟩
    refine ⟨by show 0 ≤ sizeLine; exact Nat.zero_le _, fun L hL => ?_⟩
    have hzx : x.cps.toList.length ≤ 100000 := by rw [Array.length_toList]; exact hx
    let t : List Nat := x.cps.toList ++ [32]
    have ht : (x ++ (" " : Str)).cps.toList = t := by
      show ((x.cps ++ _).toList) = _
      rw [Array.toList_append]
      rfl
    have hn : (x ++ (" " : Str)).cps.size = t.length := by rw [← ht, Array.length_toList]
    have t10 : 10 ∉ t := fun m => (List.mem_append.mp m).elim h10 fun z => by
      have := List.mem_singleton.mp z
      omega
    have tl : t.length = x.cps.toList.length + 1 := by simp [t]
    refine ⟨_, rfl, _, _, rfl, rfl, ?_, _, rfl, for_it (walk_enumS (x := x ++ (" " : Str))) (fun j σ H2 => ∃ (v4 v5 : Option V) (xs : List V), σ = [some (.str x), some (.int (r : Nat)), some (.ref L), some (bV (run r (t.take j))), v4, v5] ∧ H2 L = some (.lst xs) ∧ WAll H2 xs (run r (t.take j)).fin ∧ Same H H2)
      ⟨none, none, [], rfl, upd_same, .nil, snew hL⟩ (fun _ _ _ _ _ => True.intro) ?_ ?_⟩
    · rw [sizeLine_eq]
      show x.length + 1 ≤ _
      omega
    · rintro j v σ H2 H3 hj ⟨v4, v5, xs, rfl, hl2, W2, S2⟩ ⟨T', c, rfl, hT, rfl, hc⟩
      have hj' : j < t.length := by rw [← hn]; exact hj
      have hcl : t[j]? = some c := by
        rw [← ht]
        simpa using hc
      have LA := line_at r t t10 j (Nat.le_of_lt hj')
      have sn := run_snoc r t j c hcl
      have c10 : ¬ c = 10 := fun e => t10 (by rw [← e]; exact List.mem_of_getElem? hcl)
      have sT : Same H2 (upd H2 T' (.tup [.int (j : Nat), .str ⟨#[c]⟩])) := snew hT
      refine ⟨T', _, rfl, SqT.of upd_same, rfl, _, _, rfl, _, _, rfl, rfl, ?_⟩
      have W3 := W2.keep (tupK_same sT)
      have hl3 := sT _ _ hl2
      have S3 := S2.trans sT
      generalize upd H2 T' (.tup [.int (j : Nat), .str ⟨#[c]⟩]) = H3 at *
      have e32 : decide (V.str ⟨#[c]⟩ = V.str (" " : Str)) = decide (c = 32) := by rw [sp_mk, sign_eq]
      show tSeq _ _ _ ([some (.str x), some (.int (r : Nat)), some (.ref L), some (bV (run r (t.take j))), some (.int (j : Nat)), some (.str ⟨#[c]⟩)] : L2.St) _
      rw [sn]
      by_cases hc32 : c = 32
      · -- a blank
        have d32 : decide (V.str ⟨#[c]⟩ = V.str (" " : Str)) = true := by rw [e32]; exact decide_eq_true hc32
        have hg : gap c = true := by rw [hc32]; rfl
        have es : stp (run r (t.take j)) c = ⟨(run r (t.take j)).all, none, (run r (t.take j)).ln, (run r (t.take j)).cl + 1⟩ := by
          unfold stp
          rw [if_pos hg, if_neg c10, if_neg c10]
        rw [es]
        refine ⟨_, rfl, rfl, _, rfl, ?_⟩
        rw [d32]
        refine iteF ?_
        refine iteF ?_
        refine ⟨_, rfl, rfl, _, rfl, ?_⟩
        rw [d32]
        refine iteT ?_
        cases hcur : (run r (t.take j)).cur with
        | none =>
          have hb : bV (run r (t.take j)) = .non := by unfold bV; rw [hcur]
          have ea : (run r (t.take j)).all = (run r (t.take j)).fin := by unfold Wk.all; rw [hcur]; exact List.append_nil _
          rw [hb, ea]
          refine ⟨_, rfl, _, rfl, ?_⟩
          refine iteF ?_
          exact ⟨_, _, xs, rfl, hl3, W3, S3⟩
        | some w =>
          obtain ⟨hw1, b, hw2, hw3, hw4⟩ := LA.cur w hcur
          have hb : bV (run r (t.take j)) = .int (b : Nat) := by
            unfold bV
            rw [hcur]
            show V.int ((w.2.2 - 1 : Nat) : Int) = _
            rw [hw2, Nat.add_sub_cancel]
          have ea : (run r (t.take j)).all = (run r (t.take j)).fin ++ [w] := by unfold Wk.all; rw [hcur]; rfl
          rw [hb, ea]
          refine ⟨_, rfl, _, rfl, ?_⟩
          refine iteT ?_
          have lm := line_many r t j
          have lx : xs.length = (run r (t.take j)).fin.length := W3.length
          refine ⟨_, rfl, .inl ⟨rfl, _, SqL.of hl3⟩, _, rfl, _, rfl, _, rfl, _, rfl, _, rfl, _, rfl, ?_, _, rfl, _, rfl, _, _, rfl, rfl, by show 3 ≤ sizeLine; decide, fun p hp => ?_⟩
          · exact line_le (by show x.length ≤ _; omega)
          have sp : Same H3 (upd H3 p (.tup [.str (cutS x (some (b : Int)) (some (j : Int))), .int (r : Nat), .int ((b : Int) + 1)])) := snew hp
          refine ⟨L, xs, _, rfl, rfl, sp _ _ hl3, ?_, ?_⟩
          · rw [sizeLine_eq]
            omega
          · refine ⟨_, _, _, rfl, upd_same, ?_, ?_⟩
            · refine WAll.snoc ((W3.keep (tupK_same sp)).keep (tupK_lst (sp _ _ hl3))) ⟨p, rfl, ?_⟩
              have np : p ≠ L := (ne_of_none hl3 hp).symm
              rw [upd_ne np, upd_same, cut_word (Nat.le_of_lt hw3) (by omega)]
              unfold wdV
              rw [hw1, hw2, hw4]
              rfl
            · intro q o e
              have nq : q ≠ L := ne_of_none e hL
              rw [upd_ne nq]
              exact sp _ _ (S3 _ _ e)
      · have d32 : decide (V.str ⟨#[c]⟩ = V.str (" " : Str)) = false := by rw [e32]; exact decide_eq_false hc32
        have hg := gap_c hc32 c10
        have es : stp (run r (t.take j)) c = ⟨(run r (t.take j)).fin, some (wnew (run r (t.take j)) c), (run r (t.take j)).ln, (run r (t.take j)).cl + 1⟩ := by
          unfold stp
          rw [if_neg (by rw [hg]; exact Bool.false_ne_true)]
        rw [es]
        refine ⟨_, rfl, rfl, _, rfl, ?_⟩
        rw [d32]
        refine iteT ?_
        cases hcur : (run r (t.take j)).cur with
        | none =>
          have hb : bV (run r (t.take j)) = .non := by unfold bV; rw [hcur]
          rw [hb]
          refine ⟨_, rfl, _, rfl, ?_⟩
          refine iteT ?_
          refine ⟨_, rfl, ?_⟩
          refine ⟨_, rfl, rfl, _, rfl, ?_⟩
          rw [d32]
          refine iteF ?_
          refine iteF ?_
          refine ⟨some (.int (j : Nat)), some (.str ⟨#[c]⟩), xs, ?_, hl3, W3, S3⟩
          have en : wnew (run r (t.take j)) c = ([c], (run r (t.take j)).ln, (run r (t.take j)).cl) := by unfold wnew; rw [hcur]
          have eb : bV (⟨(run r (t.take j)).fin, some (wnew (run r (t.take j)) c), (run r (t.take j)).ln, (run r (t.take j)).cl + 1⟩ : Wk) = .int (j : Nat) := by
            rw [en]
            show V.int (((run r (t.take j)).cl - 1 : Nat) : Int) = _
            rw [LA.cl, Nat.add_sub_cancel]
          rw [eb]
          rfl
        | some w =>
          obtain ⟨hw1, b, hw2, hw3, hw4⟩ := LA.cur w hcur
          have hb : bV (run r (t.take j)) = .int (b : Nat) := by
            unfold bV
            rw [hcur]
            show V.int ((w.2.2 - 1 : Nat) : Int) = _
            rw [hw2, Nat.add_sub_cancel]
          rw [hb]
          refine ⟨_, rfl, _, rfl, ?_⟩
          refine iteF ?_
          refine ⟨_, rfl, rfl, _, rfl, ?_⟩
          rw [d32]
          refine iteF ?_
          refine iteF ?_
          refine ⟨some (.int (j : Nat)), some (.str ⟨#[c]⟩), xs, ?_, hl3, W3, S3⟩
          have en : wnew (run r (t.take j)) c = (w.1 ++ [c], w.2) := by unfold wnew; rw [hcur]
          have eb : bV (⟨(run r (t.take j)).fin, some (wnew (run r (t.take j)) c), (run r (t.take j)).ln, (run r (t.take j)).cl + 1⟩ : Wk) = .int (b : Nat) := by
            rw [en]
            show V.int ((w.2.2 - 1 : Nat) : Int) = _
            rw [hw2, Nat.add_sub_cancel]
          rw [eb]
    · rintro σ H2 ⟨v4, v5, xs, rfl, hl2, W2, S2⟩
      have e1 : t.take (x ++ (" " : Str)).cps.size = t := List.take_of_length_le (by omega)
      rw [e1] at W2
      exact ⟨_, rfl, k L xs H2 hL S2 hl2 W2⟩
end
end Any
set_option Elab.async false
set_option linter.all false
set_option maxRecDepth 100000
set_option maxHeartbeats 4000000
/-! The law's walk over a text. -/
namespace Any
open PySem PySem.Spec PyProof.Rows L2
open He (ga ma)
theorem WAll.unsnoc {H : Hp} {w : Wd} : ∀ {ws : List Wd} {xs : List V}, WAll H xs (ws ++ [w]) → ∃ ys v, xs = ys ++ [v] ∧ WAll H ys ws ∧ WAt H v w
  | [], _, .cons h .nil => ⟨[], _, rfl, .nil, h⟩
  | _ :: ws, _, .cons h r => by
    obtain ⟨ys, v, rfl, h1, h2⟩ := WAll.unsnoc (ws := ws) r
    exact ⟨_ :: ys, v, rfl, .cons h h1, h2⟩
theorem in_gap (c : Nat) : decide (c ∈ (" \n" : Str).cps.toList) = gap c := by
  show decide (c ∈ [32, 10]) = gap c
  unfold gap
  rw [Bool.eq_iff_iff]
  simp
theorem nl_mk : V.str ("\n" : Str) = V.str ⟨#[10]⟩ := rfl
theorem str_snoc (l : List Nat) (c : Nat) : ((⟨l.toArray⟩ : Str) ++ (⟨#[c]⟩ : Str)) = ⟨(l ++ [c]).toArray⟩ := by
  show (⟨l.toArray ++ #[c]⟩ : Str) = _
  congr 1
  simp
def spWalked (K : PySem.W.Frag) : Sp := fun vs H Q _ => ∃ (x : Str), vs = [.str x] ∧ x.length ≤ 100000 ∧ ∀ l xs H', H l = none → Same H H' → H' l = some (.lst xs) → WAll H' xs (wordsL x.cps.toList) → Q (.ref l) H'
section
variable {P : Program} {w : World} {K : PySem.W.Frag} {mg : Str → Option Value} {base : Heap}
theorem scW : FnScope ["text", "found", "line", "column", "is_open", "sign", "word", "row", "place"] ["text"] (defScope sWalked) := ⟨rfl, rfl, rfl, by decide +kernel, rfl, by decide +kernel, by decide +kernel⟩
theorem ok_walked {f : Addr} {fd : FuncData} (F : Fun K "_law_walked" "_law_walked" sWalked f fd) (T : T00 K mg) : FnOk P w K mg base CX0 1 f fd ["text"] (spWalked K) := by
  refine F.ok scW (fun vs H Q E h => ?_) (fun cdv A outer s H vs Q E hr h => ?_)
  · obtain ⟨x, rfl, _⟩ := h
    rfl
  · obtain ⟨x, rfl, hx, k⟩ := h
    refine ⟨_, pss_cons (ps_asg (pe_tup (pa_cons (pe_lst pa_nil) (pa_cons pe_int (pa_cons pe_int (pa_cons pe_bl pa_nil))))) (pg_tup rfl (pgs_cons (pg_name (i := 1) scW.nd rfl (Or.inl rfl)) (pgs_cons (pg_name (i := 2) scW.nd rfl (Or.inl rfl)) (pgs_cons (pg_name (i := 3) scW.nd rfl (Or.inl rfl)) (pgs_cons (pg_name (i := 4) scW.nd rfl (Or.inl rfl)) pgs_nil))))))
      (pss_cons (ps_for PassesOwn.never rfl (pi_str (pv 0)) (pg_name (i := 5) scW.nd rfl (Or.inl rfl))
        (pss_cons (ps_if (pt_cmpR op_notIn_sign (pv 5) pe_str (by rfl))
          (pss_one (ps_if (pt_val (pv 4))
            (pss_cons (ps_asg (pe_bm0 PySem.F.plainAttrs_list PySem.F.slot_list_pop PySem.F.type_list_pop mt_pop (pv 1)) (pg_tup rfl (pgs_cons (pg_name (i := 6) scW.nd rfl (Or.inl rfl)) (pgs_cons (pg_name (i := 7) scW.nd rfl (Or.inl rfl)) (pgs_cons (pg_name (i := 8) scW.nd rfl (Or.inl rfl)) pgs_nil)))))
            (pss_one (ps_expr (pe_bm PySem.F.plainAttrs_list PySem.F.slot_list_append PySem.F.type_list_append mt_append (pv 1) (pa_cons (pe_tup (pa_cons (pe_op op_add_str (pv 6) (pv 5)) (pa_cons (pv 7) (pa_cons (pv 8) pa_nil)))) pa_nil)))))
            (pss_one (ps_expr (pe_bm PySem.F.plainAttrs_list PySem.F.slot_list_append PySem.F.type_list_append mt_append (pv 1) (pa_cons (pe_tup (pa_cons (pv 5) (pa_cons (pv 2) (pa_cons (pv 3) pa_nil)))) pa_nil))))))
          pss_nil)
        (pss_cons (ps_set (i := 4) scW.nd rfl (Or.inl rfl) (pe_cmpR op_notIn_sign (pv 5) pe_str (by rfl)))
        (pss_one (ps_asg (pe_ifExp (pt_cmpR op_eq (pv 5) pe_str (nomark _)) (pe_tup (pa_cons (pe_op op_add (pv 2) pe_int) (pa_cons pe_int pa_nil))) (pe_tup (pa_cons (pv 2) (pa_cons (pe_op op_add (pv 3) pe_int) pa_nil))))
          (pg_tup rfl (pgs_cons (pg_name (i := 2) scW.nd rfl (Or.inl rfl)) (pgs_cons (pg_name (i := 3) scW.nd rfl (Or.inl rfl)) pgs_nil))))))))
      (pss_one (ps_ret (pv 1)))), ?_⟩
    refine ⟨by show 0 ≤ sizeLine; exact Nat.zero_le _, fun L hL => ⟨by show 4 ≤ sizeLine; decide, fun p hp => ?_⟩⟩
    have s0 : Same H (upd (upd H L (.lst [])) p (.tup [.ref L, .int 1, .int 1, .bl false])) := (snew hL).trans (snew hp)
    have l0 : (upd (upd H L (.lst [])) p (.tup [.ref L, .int 1, .int 1, .bl false])) L = some (.lst []) := snew hp _ _ upd_same
    refine ⟨p, _, rfl, SqT.of upd_same, rfl, _, _, rfl, _, _, rfl, _, _, rfl, _, _, rfl, rfl, ?_⟩
    generalize upd (upd H L (.lst [])) p (.tup [.ref L, .int 1, .int 1, .bl false]) = H0 at *
    have hzx : x.cps.toList.length = x.length := Array.length_toList
    refine ⟨_, rfl, x, rfl, for_it walk_str (fun j σ H2 => ∃ (v5 v6 v7 v8 : Option V) (xs : List V), σ = [some (.str x), some (.ref L), some (.int ((run 1 (x.cps.toList.take j)).ln : Nat)), some (.int ((run 1 (x.cps.toList.take j)).cl : Nat)), some (.bl (run 1 (x.cps.toList.take j)).cur.isSome), v5, v6, v7, v8] ∧ H2 L = some (.lst xs) ∧ WAll H2 xs (run 1 (x.cps.toList.take j)).all ∧ Same H H2)
      ⟨none, none, none, none, [], rfl, l0, .nil, s0⟩ (fun _ _ _ _ _ => True.intro) ?_ ?_⟩
    · rintro j v σ H2 H3 hj ⟨v5, v6, v7, v8, xs, rfl, hl2, W2, S2⟩ ⟨rfl, c, hc, rfl⟩
      have hcl : x.cps.toList[j]? = some c := by simpa using hc
      have hj' : j < x.length := hj
      have sn := run_snoc 1 x.cps.toList j c hcl
      have ok := run1_ok (x.cps.toList.take j)
      have tk : (x.cps.toList.take j).length ≤ 100000 := by
        rw [List.length_take, hzx]
        omega
      have many := run_many 1 (x.cps.toList.take j)
      show tSeq _ _ _ ([some (.str x), some (.ref L), some (.int ((run 1 (x.cps.toList.take j)).ln : Nat)), some (.int ((run 1 (x.cps.toList.take j)).cl : Nat)), some (.bl (run 1 (x.cps.toList.take j)).cur.isSome), some (.str ⟨#[c]⟩), v6, v7, v8] : L2.St) _
      rw [sn]
      generalize run 1 (x.cps.toList.take j) = st at *
      -- the last two statements
      have tail : ∀ (u6 u7 u8 : Option V) (ys : List V) (H4 : Hp), H4 L = some (.lst ys) → WAll H4 ys (stp st c).all → Same H H4 →
          ∀ D : Ends, (∀ σ' H', (∃ (v5 v6 v7 v8 : Option V) (xs : List V), σ' = [some (.str x), some (.ref L), some (.int ((stp st c).ln : Nat)), some (.int ((stp st c).cl : Nat)), some (.bl (stp st c).cur.isSome), v5, v6, v7, v8] ∧ H' L = some (.lst xs) ∧ WAll H' xs (stp st c).all ∧ Same H H') → D.nx σ' H') →
          tSeq (tAsg (tOp (fun x y H Q => ∃ (c : Nat) (z : Str), x = .str ⟨#[c]⟩ ∧ y = .str z ∧ Q (.bl (!decide (c ∈ z.cps.toList))) H) (tVar 5) (tC (.str " \n"))) (gName 4))
            (tAsg (tIf (tTest (tOp rEq (tVar 5) (tC (.str "\n")))) (tTup (tCons (tOp (rI0 fun i j => V.int (i + j)) (tVar 2) (tC (.int 1))) (tCons (tC (.int 1)) tNil))) (tTup (tCons (tVar 2) (tCons (tOp (rI0 fun i j => V.int (i + j)) (tVar 3) (tC (.int 1))) tNil)))) (gTup K 2 (gCons (gName 2) (gCons (gName 3) gNil))))
            D ([some (.str x), some (.ref L), some (.int (st.ln : Nat)), some (.int (st.cl : Nat)), some (.bl st.cur.isSome), some (.str ⟨#[c]⟩), u6, u7, u8] : L2.St) H4 := by
        intro u6 u7 u8 ys H4 hl4 W4 S4 D hD
        refine ⟨_, rfl, c, _, rfl, rfl, ?_⟩
        rw [in_gap]
        refine ⟨_, rfl, rfl, _, rfl, ?_⟩
        rw [nl_mk, sign_eq]
        refine ite2 (fun c1 => ?_) (fun c1 => ?_)
        · have e10 : c = 10 := of_decide_eq_true c1
          have es : stp st c = ⟨st.all, none, st.ln + 1, 1⟩ := by
            unfold stp
            rw [if_pos (show gap c = true by rw [e10]; rfl), if_pos e10, if_pos e10]
          refine ⟨_, rfl, _, _, rfl, rfl, by show 2 ≤ sizeLine; decide, fun q hq => ?_⟩
          refine ⟨q, _, rfl, SqT.of upd_same, rfl, _, _, rfl, _, _, rfl, rfl, ?_⟩
          refine hD _ _ ⟨some (.str ⟨#[c]⟩), u6, u7, u8, ys, ?_, snew hq _ _ hl4, W4.keep (tupK_same (snew hq)), S4.trans (snew hq)⟩
          rw [es, e10]
          rfl
        · have n10 : ¬ c = 10 := fun e => c1 (decide_eq_true e)
          refine ⟨_, rfl, _, rfl, _, _, rfl, rfl, by show 2 ≤ sizeLine; decide, fun q hq => ?_⟩
          refine ⟨q, _, rfl, SqT.of upd_same, rfl, _, _, rfl, _, _, rfl, rfl, ?_⟩
          refine hD _ _ ⟨some (.str ⟨#[c]⟩), u6, u7, u8, ys, ?_, snew hq _ _ hl4, W4.keep (tupK_same (snew hq)), S4.trans (snew hq)⟩
          unfold stp
          cases hg : gap c
          · rfl
          · rw [if_pos rfl, if_neg n10, if_neg n10]
            rfl
      refine ⟨_, rfl, c, _, rfl, rfl, _, rfl, ?_⟩
      rw [in_gap]
      cases hg : gap c with
      | true =>
        have es : (stp st c).all = st.all := by
          unfold stp
          rw [if_pos hg]
          exact List.append_nil _
        refine iteF ?_
        refine tail _ _ _ xs _ hl2 (by rw [es]; exact W2) S2 _ ?_
        exact fun _ _ z => z
      | false =>
        have es : (stp st c).all = st.fin ++ [wnew st c] := by
          unfold stp
          rw [if_neg (by rw [hg]; exact Bool.false_ne_true)]
          rfl
        refine iteT ?_
        refine ⟨_, rfl, _, rfl, ?_⟩
        cases hcur : st.cur with
        | none =>
          have ea : st.all = st.fin := by unfold Wk.all; rw [hcur]; exact List.append_nil _
          have en : wnew st c = ([c], st.ln, st.cl) := by unfold wnew; rw [hcur]
          refine iteF ?_
          refine ⟨_, rfl, .inl ⟨rfl, _, SqL.of hl2⟩, _, rfl, _, rfl, _, rfl, by show 3 ≤ sizeLine; decide, fun q hq => ?_⟩
          refine ⟨L, xs, _, rfl, rfl, snew hq _ _ hl2, ?_, ?_⟩
          · have := W2.length
            rw [sizeLine_eq, this]
            omega
          · have nq : q ≠ L := (ne_of_none hl2 hq).symm
            have t1 := tail v6 v7 v8 (xs ++ [.ref q]) (upd (upd H3 q (.tup [.str ⟨#[c]⟩, .int (st.ln : Nat), .int (st.cl : Nat)])) L (.lst (xs ++ [.ref q]))) upd_same
              (by
                rw [es, en]
                rw [ea] at W2
                refine WAll.snoc ((W2.keep (tupK_same (snew hq))).keep (tupK_lst (snew hq _ _ hl2))) ⟨q, rfl, ?_⟩
                rw [upd_ne nq, upd_same]
                rfl)
              (fun b o e => by
                rw [upd_ne (ne_of_none e hL)]
                exact snew hq _ _ (S2 _ _ e))
            rw [hcur] at t1
            refine t1 _ ?_
            exact fun _ _ z => z
        | some w =>
          have ea : st.all = st.fin ++ [w] := by unfold Wk.all; rw [hcur]; rfl
          have en : wnew st c = (w.1 ++ [c], w.2) := by unfold wnew; rw [hcur]
          have okw := ok.1 w (by rw [ea]; exact List.mem_append_right _ (List.mem_singleton.mpr rfl))
          rw [ea] at W2
          have hxl := W2.length
          rw [← ea] at hxl
          obtain ⟨ys, v, rfl, Wy, ⟨p, rfl, hp⟩⟩ := W2.unsnoc
          refine iteT ?_
          have hlast : (ys ++ [V.ref p])[(ys ++ [V.ref p]).length - 1]? = some (.ref p) := by simp
          have npL : p ≠ L := fun z => by
            rw [z, hl2] at hp
            cases hp
          refine ⟨_, rfl, .inl ⟨rfl, _, SqL.of hl2⟩, L, _, _, rfl, rfl, hl2, hlast, ?_⟩
          have e5 : (ys ++ [V.ref p]).dropLast = ys := by simp
          rw [e5]
          have k5 : TupK H3 (upd H3 L (.lst ys)) := tupK_lst hl2
          have l5 : (upd H3 L (.lst ys)) L = some (.lst ys) := upd_same
          have S5 : Same H (upd H3 L (.lst ys)) := fun b o e => by
            rw [upd_ne (ne_of_none e hL)]
            exact S2 _ _ e
          have p5 := k5 _ _ hp
          have W5 := Wy.keep k5
          generalize upd H3 L (.lst ys) = H5 at *
          refine ⟨p, _, rfl, SqT.of p5, rfl, _, _, rfl, _, _, rfl, _, _, rfl, rfl, ?_⟩
          refine ⟨_, rfl, .inl ⟨rfl, _, SqL.of l5⟩, _, rfl, _, rfl, _, _, rfl, rfl, ?_, _, rfl, _, rfl, by show 3 ≤ sizeLine; decide, fun q hq => ?_⟩
          · rw [sizeLine_eq]
            have := okw.1
            show w.1.toArray.size + 1 ≤ _
            rw [List.size_toArray]
            omega
          rw [str_snoc]
          refine ⟨L, ys, _, rfl, rfl, snew hq _ _ l5, ?_, ?_⟩
          · rw [List.length_append, List.length_singleton] at hxl
            rw [sizeLine_eq]
            omega
          · have nq : q ≠ L := (ne_of_none l5 hq).symm
            have t1 := tail (some (.str ⟨w.1.toArray⟩)) (some (.int (w.2.1 : Nat))) (some (.int (w.2.2 : Nat))) (ys ++ [.ref q]) (upd (upd H5 q (.tup [.str ⟨(w.1 ++ [c]).toArray⟩, .int (w.2.1 : Nat), .int (w.2.2 : Nat)])) L (.lst (ys ++ [.ref q]))) upd_same
              (by
                rw [es, en]
                refine WAll.snoc ((W5.keep (tupK_same (snew hq))).keep (tupK_lst (snew hq _ _ l5))) ⟨q, rfl, ?_⟩
                rw [upd_ne nq, upd_same]
                rfl)
              (fun b o e => by
                rw [upd_ne (ne_of_none e hL)]
                exact snew hq _ _ (S5 _ _ e))
            rw [hcur] at t1
            refine t1 _ ?_
            exact fun _ _ z => z
    · rintro σ H2 ⟨v5, v6, v7, v8, xs, rfl, hl2, W2, S2⟩
      have e1 : x.cps.toList.take x.cps.size = x.cps.toList := List.take_of_length_le (by simp)
      rw [e1] at W2
      exact ⟨_, rfl, k L xs H2 hL S2 hl2 W2⟩
end
end Any
set_option Elab.async false
set_option linter.all false
set_option maxRecDepth 100000
set_option maxHeartbeats 4000000
/-! The words of a text; what is no text. -/
namespace Any
open PySem PySem.Spec PyProof.Rows L2
open He (ga ma)
section
variable {P : Program} {w : World} {K : PySem.W.Frag} {mg : Str → Option Value} {base : Heap}
def badF : List (Str × V) := [("wanted", .non), ("column", .non), ("line", .non)]
def spInitN (K : PySem.W.Frag) : Sp := fun vs H Q _ => ∃ a, vs = [.ref a, .non, .non, .non] ∧ H a = some (exo a (ga K "BadText") none) ∧
  ∀ d H', H d = none → d ≠ a → H' a = some (exo a (ga K "BadText") (some d)) → H' d = some (exd d badF) → (∀ b o, H b = some o → b ≠ a → H' b = some o) → Q .non H'
theorem scIT : FnScope ["self", "line", "column", "wanted"] ["self", "line", "column", "wanted"] (defScope iText) := ⟨rfl, rfl, rfl, by decide +kernel, rfl, by decide +kernel, by decide +kernel⟩
theorem ok_init {f : Addr} {fd : FuncData} (F : Fun K "__init__" "BadText.__init__" iText f fd) (T : T00 K mg) : FnOk P w K mg base CX0 1 f fd ["self", "line", "column", "wanted"] (spInitN K) := by
  refine F.ok scIT (fun vs H Q E h => ?_) (fun cdv A outer s H vs Q E hr h => ?_)
  · obtain ⟨a, rfl, _⟩ := h
    rfl
  · obtain ⟨a, rfl, ha, k⟩ := h
    refine ⟨_, pss_cons (ps_expr (pe_baseI T.base rfl T.gM (pa_cons (pv 0) (pa_cons (pe_joined (.cons pe_str (.cons (pe_fmtN (pv 1)) (.cons pe_str (.cons (pe_fmtN (pv 2)) (.cons pe_str (.cons (pe_fmtN (pv 3)) .nil))))))) pa_nil))))
      (pss_cons (ps_ost (pv 0) (pv 1)) (pss_cons (ps_ost (pv 0) (pv 2)) (pss_one (ps_ost (pv 0) (pv 3))))), ?_⟩
    have ox := T.oex
    refine ⟨_, rfl, _, rfl, by decide +kernel, _, rfl, rfl, _, rfl, by decide +kernel, _, rfl, by decide +kernel, _, rfl, rfl, _, rfl, by decide +kernel, _, rfl, by decide +kernel, _, rfl, rfl, _, rfl, by decide +kernel, ?_⟩
    refine ⟨a, _, _, rfl, by show 1 ≤ 1000; decide, ox, ha, _, rfl, _, rfl, a, _, rfl, ox, T.noL, .inl ⟨ha, fun dx hdx ne => ?_⟩⟩
    refine ⟨_, rfl, _, rfl, a, _, rfl, ox, T.noC, .inr ⟨dx, _, upd_same, by rw [upd_ne ne]; exact upd_same, by show 1 ≤ 900; decide, ?_⟩⟩
    refine ⟨_, rfl, _, rfl, a, _, rfl, ox, T.noW, .inr ⟨dx, _, by rw [upd_ne ne.symm]; exact upd_same, upd_same, by show 2 ≤ 900; decide, ?_⟩⟩
    refine k dx _ hdx ne (by rw [upd_ne ne.symm, upd_ne ne.symm]; exact upd_same) upd_same fun b o e hb => ?_
    have n1 := ne_of_none e hdx
    rw [upd_ne n1, upd_ne n1, upd_ne hb, upd_ne n1]
    exact e
/-! ### words_of -/
def spWords (K : PySem.W.Frag) : Sp := fun vs H Q _ => ∃ (x : Str), vs = [.str x] ∧ x.length ≤ 1000 ∧ okT x = true ∧ ∀ l xs H', H l = none → Same H H' → H' l = some (.lst xs) → WAll H' xs (wordsL x.cps.toList) → Q (.ref l) H'
def spWordsX (K : PySem.W.Frag) : Sp := fun vs H _ E => ∃ v, vs = [v] ∧ ((∃ x : Str, v = .str x ∧ x.length ≤ 1000 ∧ okT x = false) ∨ Odd K H v) ∧
  ∀ d H', H d = none → Same H H' → H' d = some (.xd badF) → E (.ref (ga K "BadText")) (some d) H'
theorem linesL_snoc : ∀ (ps : List (List Nat)) (p : List Nat) (k : Nat), linesL k (ps ++ [p]) = linesL k ps ++ lineL (k + ps.length) p
  | [], p, k => by
    show lineL k p ++ [] = [] ++ lineL (k + 0) p
    rw [List.append_nil]
    rfl
  | q :: ps, p, k => by
    show lineL k q ++ linesL (k + 1) (ps ++ [p]) = lineL k q ++ linesL (k + 1) ps ++ lineL (k + (ps.length + 1)) p
    rw [linesL_snoc ps p (k + 1), List.append_assoc, show k + 1 + ps.length = k + (ps.length + 1) by omega]
theorem linesL_many {n : Nat} : ∀ (ps : List (List Nat)) (k : Nat), (∀ p ∈ ps, p.length ≤ n) → (linesL k ps).length ≤ ps.length * n
  | [], _, _ => Nat.zero_le _
  | p :: ps, k, h => by
    show (lineL k p ++ linesL (k + 1) ps).length ≤ (ps.length + 1) * n
    rw [List.length_append, Nat.succ_mul]
    have h1 := lineL_many k p
    have h2 := h p (List.mem_cons_self ..)
    have h3 := linesL_many ps (k + 1) fun q hq => h q (List.mem_cons_of_mem _ hq)
    omega
theorem scWd : FnScope ["text", "found", "row", "line"] ["text"] (defScope sWords) := ⟨rfl, rfl, rfl, by decide +kernel, rfl, by decide +kernel, by decide +kernel⟩
/-- what it calls -/
structure CW (K : PySem.W.Frag) (mg : Str → Option Value) (fT fL fI : FuncData) : Prop where
  t : Fun K "is_text" "is_text" sIsText (ga K "is_text") fT
  l : Fun K "words_of_line" "words_of_line" sLine (ga K "words_of_line") fL
  i : Fun K "__init__" "BadText.__init__" iText (ma K (ga K "BadText") "__init__") fI
  gt : mg "is_text" = some (.ref (ga K "is_text"))
  gl : mg "words_of_line" = some (.ref (ga K "words_of_line"))
theorem ok_words {f : Addr} {fd fT fL fI : FuncData} (F : Fun K "words_of" "words_of" sWords f fd) (T : T00 K mg) (C : CW K mg fT fL fI) : FnOk P w K mg base CX0 2 f fd ["text"] (spWords K) := by
  have bT := C.t.binds (ps := ["thing"]) fun _ _ _ _ _ _ us hl => match us, hl with | [_], _ => rfl
  have bL := C.l.binds (ps := ["line", "row"]) fun _ _ _ _ _ _ us hl => match us, hl with | [_, _], _ => rfl
  have GT : FnOk P w K mg base CX0 1 _ fT _ _ := ok_istext C.t T
  have GL : FnOk P w K mg base CX0 1 _ fL _ _ := ok_line C.l T
  refine F.ok scWd (fun vs H Q E h => ?_) (fun cdv A outer s H vs Q E hr h => ?_)
  · obtain ⟨x, rfl, _⟩ := h
    rfl
  · obtain ⟨x, rfl, hx, hok, k⟩ := h
    refine ⟨_, pss_cons (ps_if (pt_not (pt_val (pe_call GT hr (by rfl) C.gt C.t.kp bT .nil pass0 (pa_cons (pv 0) pa_nil)))) (pss_one ps_never) pss_nil)
      (pss_cons (ps_set (i := 1) scWd.nd rfl (Or.inl rfl) (pe_lst pa_nil))
      (pss_cons (ps_for PassesOwn.never rfl (pi_enumK (by rfl) T.enu (pa_cons (pe_split (pv 0) pe_str) pa_nil) (pk_cons pe_int pk_nil)) (pg_tup rfl (pgs_cons (pg_name (i := 2) scWd.nd rfl (Or.inl rfl)) (pgs_cons (pg_name (i := 3) scWd.nd rfl (Or.inl rfl)) pgs_nil)))
        (pss_one (ps_expr (pe_bm PySem.F.plainAttrs_list PySem.F.slot_list_extend PySem.F.type_list_extend mt_extend (pv 1) (pa_cons (pe_call GL hr (by rfl) C.gl C.l.kp bL .nil pass0 (pa_cons (pv 3) (pa_cons (pv 2) pa_nil))) pa_nil)))))
      (pss_one (ps_ret (pv 1))))), ?_⟩
    refine ⟨_, rfl, .str x, rfl, .inl ⟨x, rfl, by omega, fun H1 s1 => ⟨_, rfl, ?_⟩⟩⟩
    rw [hok]
    refine iteF ?_
    refine ⟨by show 0 ≤ sizeLine; exact Nat.zero_le _, fun L hL => ?_⟩
    refine ⟨_, rfl, ⟨_, rfl⟩, x, _, rfl, rfl, by decide +kernel, by rw [sizeLine_eq]; omega, fun pl hpl => ?_⟩
    have hsp : (Txt.split x "\n").map TL.tl = TL.spl [10] 0 [] x.cps.toList := TL.split_spl x "\n" (by decide +kernel) (TL.kind_ok (by decide +kernel))
    have hlen : (Txt.split x "\n").length = (TL.spl [10] 0 [] x.cps.toList).length := by rw [← hsp, List.length_map]
    have hzx : x.cps.toList.length = x.length := Array.length_toList
    have sl := spl_len x.cps.toList []
    have npL : pl ≠ L := fun z => by
      rw [z, upd_same] at hpl
      cases hpl
    have sA : Same H (upd (upd H1 L (.lst [])) pl (.lst ((Txt.split x "\n").map V.str))) := (s1.trans (snew hL)).trans (snew hpl)
    have lA : (upd (upd H1 L (.lst [])) pl (.lst ((Txt.split x "\n").map V.str))) L = some (.lst []) := snew hpl _ _ upd_same
    have pA : (upd (upd H1 L (.lst [])) pl (.lst ((Txt.split x "\n").map V.str))) pl = some (.lst ((Txt.split x "\n").map V.str)) := upd_same
    have hLn : H L = none := s1.free hL
    have hpn : H pl = none := by
      have e := hpl
      rw [upd_ne npL] at e
      exact s1.free e
    generalize upd (upd H1 L (.lst [])) pl (.lst ((Txt.split x "\n").map V.str)) = HA at *
    refine ⟨pl, (Txt.split x "\n").map V.str, 1, rfl, rfl, SqL.of pA, by decide, by decide, for_it (walk_enumK (xs := (Txt.split x "\n").map V.str)) (fun j σ H2 => ∃ (v2 v3 : Option V) (xs : List V), σ = [some (.str x), some (.ref L), v2, v3] ∧ H2 L = some (.lst xs) ∧ H2 pl = some (.lst ((Txt.split x "\n").map V.str)) ∧ WAll H2 xs (linesL 1 ((TL.spl [10] 0 [] x.cps.toList).take j)) ∧ Same H H2)
      ⟨none, none, [], rfl, lA, pA, .nil, sA⟩ (fun _ _ _ _ ⟨_, _, _, _, _, e, _⟩ => SqL.of e) ?_ ?_⟩
    · rintro j v σ H2 H3 hj ⟨v2, v3, xs, rfl, hl2, hp2, W2, S2⟩ ⟨T', z1, z2, rfl, hT, rfl, hz1, hz2⟩
      cases Option.some.inj hz1
      rw [List.length_map] at hj
      have hj' : j < (TL.spl [10] 0 [] x.cps.toList).length := by rw [← hlen]; exact hj
      replace hz2 : ((Txt.split x "\n").map V.str)[j]? = some z2 := hz2
      rw [List.getElem?_map, List.getElem?_eq_getElem hj] at hz2
      cases Option.some.inj hz2
      generalize hy : (Txt.split x "\n")[j] = y at *
      have hq : (TL.spl [10] 0 [] x.cps.toList)[j]? = some y.cps.toList := by
        rw [← hsp, List.getElem?_map, List.getElem?_eq_getElem hj, hy]
        rfl
      have hm := List.mem_of_getElem? hq
      have y10 := spl_no x.cps.toList [] List.not_mem_nil _ hm
      have yl := sl.1 _ hm
      have yl' : y.length ≤ 1000 := by
        have : y.cps.toList.length = y.length := Array.length_toList
        rw [← this]
        simp only [List.length_nil] at yl
        omega
      have tk : (TL.spl [10] 0 [] x.cps.toList).take (j + 1) = (TL.spl [10] 0 [] x.cps.toList).take j ++ [y.cps.toList] := by
        rw [List.take_succ, hq]
        rfl
      refine ⟨T', _, rfl, SqT.of upd_same, rfl, _, _, rfl, _, _, rfl, rfl, ?_⟩
      have sT : Same H2 (upd H2 T' (.tup [.int (1 + (j : Nat)), .str y])) := snew hT
      have W3 := W2.keep (tupK_same sT)
      have hl3 := sT _ _ hl2
      have hp3 := sT _ _ hp2
      have S3 := S2.trans sT
      generalize upd H2 T' (.tup [.int (1 + (j : Nat)), .str y]) = H3 at *
      refine ⟨_, rfl, .inl ⟨rfl, _, SqL.of hl3⟩, _, rfl, _, rfl, y, 1 + j, rfl, by omega, y10, fun l ys H4 hl s4 h4 W4 => ?_⟩
      refine ⟨L, l, xs, ys, rfl, rfl, s4 _ _ hl3, h4, ?_, ?_⟩
      · have l1 := W3.length
        have l2 := W4.length
        have m1 := linesL_many (n := 1000) ((TL.spl [10] 0 [] x.cps.toList).take j) 1 fun p hp => by
          have := sl.1 p (List.mem_of_mem_take hp)
          simp only [List.length_nil] at this
          omega
        have m2 := lineL_many (1 + j) y.cps.toList
        have m3 : y.cps.toList.length = y.length := Array.length_toList
        have m4 : ((TL.spl [10] 0 [] x.cps.toList).take j).length ≤ 1001 := by
          rw [List.length_take]
          have := sl.2
          omega
        have m5 : ((TL.spl [10] 0 [] x.cps.toList).take j).length * 1000 ≤ 1001 * 1000 := Nat.mul_le_mul_right _ m4
        rw [sizeLine_eq]
        omega
      · refine ⟨_, _, xs ++ ys, rfl, upd_same, ?_, ?_, ?_⟩
        · rw [upd_ne npL]
          exact s4 _ _ hp3
        · rw [tk, linesL_snoc, List.length_take, Nat.min_eq_left (Nat.le_of_lt hj')]
          exact WAll.app ((W3.keep (tupK_same s4)).keep (tupK_lst (s4 _ _ hl3))) (W4.keep (tupK_lst (s4 _ _ hl3)))
        · intro b o e
          rw [upd_ne (ne_of_none e hLn)]
          exact s4 _ _ (S3 _ _ e)
    · rintro σ H2 ⟨v2, v3, xs, rfl, hl2, hp2, W2, S2⟩
      rw [List.length_map, hlen, List.take_length, words_lines] at W2
      exact ⟨_, rfl, k L xs H2 hLn S2 hl2 W2⟩
theorem ok_wordsX {f : Addr} {fd fT fL fI : FuncData} (F : Fun K "words_of" "words_of" sWords f fd) (T : T00 K mg) (C : CW K mg fT fL fI) : FnOk P w K mg base (L2.CX P w) 3 f fd ["text"] (spWordsX K) := by
  have bT := C.t.binds (ps := ["thing"]) fun _ _ _ _ _ _ us hl => match us, hl with | [_], _ => rfl
  have bI := C.i.binds (ps := ["self", "line", "column", "wanted"]) fun _ _ _ _ _ _ us hl => match us, hl with | [_, _, _, _], _ => rfl
  have GT : FnOk P w K mg base CX0 1 _ fT _ _ := ok_istext C.t T
  have GI : FnOk P w K mg base CX0 1 _ fI _ _ := ok_init C.i T
  refine F.okX scWd (fun vs H Q E h => ?_) (fun cdv A outer s H vs Q E hr h => ?_)
  · obtain ⟨v, rfl, _⟩ := h
    rfl
  · obtain ⟨v, rfl, hv, k⟩ := h
    refine ⟨_, pss_cons (ps_if (pt_not (pt_val (pe_call GT (hr.mono (by decide)) (by rfl) C.gt C.t.kp bT .nil pass0 (pa_cons (pv 0) pa_nil))))
        (pss_one (ps_raise rfl (takes_of rfl rfl rfl rfl) (pmk_oex T.oex T.ini.1 T.ini.2 GI hr bI .nil pass0 (by rfl) T.gT (pa_cons pe_non (pa_cons pe_non (pa_cons pe_non pa_nil)))))) pss_nil) pss_never, ?_⟩
    refine ⟨_, rfl, v, rfl, ?_⟩
    rcases hv with ⟨x, rfl, hx, hb⟩ | ho
    · refine .inl ⟨x, rfl, by omega, fun H1 s1 => ?_⟩
      rw [hb]
      refine ⟨false, rfl, ?_⟩
      refine iteT ?_
      refine ⟨by show 3 ≤ 1000; decide, fun a ha => ⟨a, rfl, upd_same, fun d H2 hd nd h1 h2 h3 => ⟨rfl, d, badF, h1, h2, ?_, ?_⟩⟩⟩
      · rw [upd_ne nd] at hd
        exact hd
      · have hd1 : H1 d = none := by
          rw [upd_ne nd] at hd
          exact hd
        refine k d _ (s1.free hd1) (fun b o e => ?_) upd_same
        have n1 : b ≠ a := ne_of_none (s1 _ _ e) ha
        rw [upd_ne (ne_of_none (s1 _ _ e) hd1), del_ne n1]
        exact h3 b o (by rw [upd_ne n1]; exact s1 _ _ e) n1
    · refine .inr ⟨ho, fun H1 s1 => ?_⟩
      refine ⟨false, rfl, ?_⟩
      refine iteT ?_
      refine ⟨by show 3 ≤ 1000; decide, fun a ha => ⟨a, rfl, upd_same, fun d H2 hd nd h1 h2 h3 => ⟨rfl, d, badF, h1, h2, ?_, ?_⟩⟩⟩
      · rw [upd_ne nd] at hd
        exact hd
      · have hd1 : H1 d = none := by
          rw [upd_ne nd] at hd
          exact hd
        refine k d _ (s1.free hd1) (fun b o e => ?_) upd_same
        have n1 : b ≠ a := ne_of_none (s1 _ _ e) ha
        rw [upd_ne (ne_of_none (s1 _ _ e) hd1), del_ne n1]
        exact h3 b o (by rw [upd_ne n1]; exact s1 _ _ e) n1
end
end Any
set_option Elab.async false
set_option linter.all false
set_option maxRecDepth 100000
set_option maxHeartbeats 4000000
/-! Drawn names and pieces. -/
namespace Any
open PySem PySem.Spec PyProof.Rows L2
open He (ga ma)
theorem But.of {d w : Addr} {H H1 : Hp} (a : Same H H1) : But d w H H1 := fun x o e _ _ => a x o e
theorem Draw.same {H H' : Hp} {d w c : Addr} {t : Int} (D : Draw H d w c t) (s : Same H H') : Draw H' d w c t := by
  obtain ⟨ws, cs, r, u, h1, h2, h3, z⟩ := D
  exact ⟨ws, cs, r, u, s _ _ h1, s _ _ h2, s _ _ h3, z⟩
theorem Draw.fresh {H : Hp} {d w c p : Addr} {t : Int} (D : Draw H d w c t) (h : H p = none) : p ≠ d ∧ p ≠ w := by
  obtain ⟨ws, cs, r, u, h1, h2, _⟩ := D
  exact ⟨(ne_of_none h1 h).symm, (ne_of_none h2 h).symm⟩
/-- the draw stands though a list of ours is written -/
theorem Draw.upd {H : Hp} {d w c D : Addr} {t : Int} {o : HO} (X : Draw H d w c t) (h1 : D ≠ d) (h2 : D ≠ w) (h3 : D ≠ c) : Draw (upd H D o) d w c t := by
  obtain ⟨ws, cs, r, u, e1, e2, e3, z⟩ := X
  exact ⟨ws, cs, r, u, by rw [upd_ne h1.symm]; exact e1, by rw [upd_ne h2.symm]; exact e2, by rw [upd_ne h3.symm]; exact e3, z⟩
theorem Draw.ne3 {H : Hp} {d w c p : Addr} {t : Int} (D : Draw H d w c t) (h : H p = none) : p ≠ c := by
  obtain ⟨ws, cs, r, u, h1, h2, h3, _⟩ := D
  exact (ne_of_none h3 h).symm
/-- printed signs and line feeds alone -/
def Prn (x : Str) : Prop := ∀ c ∈ x.cps.toList, (32 ≤ c ∧ c ≤ 126) ∨ c = 10
theorem Prn.asc {x : Str} (h : Prn x) : Asc x := fun c hc => by
  rcases h c hc with z | z <;> omega
theorem Prn.okT {x : Str} (h : Prn x) : okT x = true := List.all_eq_true.mpr fun c hc => okS_of (h c hc)
def prnB (x : Str) : Bool := x.cps.toList.all fun c => (decide (32 ≤ c) && decide (c ≤ 126)) || decide (c = 10)
theorem prn_of {x : Str} (h : prnB x = true) : Prn x := fun c hc => by
  have := List.all_eq_true.mp h c hc
  simpa using this
theorem app_list (a b : Str) : (a ++ b).cps.toList = a.cps.toList ++ b.cps.toList := by
  show (a.cps ++ b.cps).toList = _
  simp
theorem app_len (a b : Str) : (a ++ b).length = a.length + b.length := strLen_append a b
theorem Prn.app {a b : Str} (h : Prn a) (k : Prn b) : Prn (a ++ b) := fun c hc => by
  rw [app_list] at hc
  exact (List.mem_append.mp hc).elim (h c) (k c)
theorem cut_mem {x : Str} {lo hi : Option Int} {c : Nat} (h : c ∈ (cutS x lo hi).cps.toList) : c ∈ x.cps.toList := by
  unfold cutS at h
  exact List.mem_of_mem_drop (List.mem_of_mem_take (by simpa using h))
theorem Prn.cut {x : Str} (h : Prn x) (lo hi : Option Int) : Prn (cutS x lo hi) := fun c hc => h c (cut_mem hc)
def keptOkB : Bool := keptV.all fun v => match v with
  | .str x => prnB x && (decide (x.length ≤ 8) && (decide (1 ≤ x.length) && !isNm x))
  | _ => false
theorem kept_ok : keptOkB = true := by decide +kernel
theorem kept_at {v : V} (h : v ∈ keptV) : ∃ x, v = .str x ∧ Prn x ∧ x.length ≤ 8 ∧ isNm x = false := by
  have q := List.all_eq_true.mp kept_ok v h
  cases v with
  | str x =>
    simp only [Bool.and_eq_true, decide_eq_true_eq] at q
    exact ⟨x, rfl, prn_of q.1, q.2.1, by simpa using q.2.2.2⟩
  | _ => cases q
/-- join of short texts -/
theorem join_nil : ∀ (ys : List Str), (∀ y ∈ ys, Prn y) → Prn (Str.join Str.empty ys)
  | [], _ => fun c hc => nomatch (show c ∈ ([] : List Nat) from hc)
  | [x], h => h x (List.mem_cons_self ..)
  | x :: y :: r, h => by
    show Prn (x ++ Str.empty ++ Str.join Str.empty (y :: r))
    refine Prn.app (Prn.app (h x (List.mem_cons_self ..)) fun c hc => nomatch (show c ∈ ([] : List Nat) from hc)) (join_nil (y :: r) fun z hz => h z (List.mem_cons_of_mem _ hz))
theorem join_len {n : Nat} : ∀ (ys : List Str), (∀ y ∈ ys, y.length ≤ n) → (Str.join Str.empty ys).length ≤ ys.length * n
  | [], _ => Nat.zero_le _
  | [x], h => by
    have := h x (List.mem_cons_self ..)
    show x.length ≤ 1 * n
    omega
  | x :: y :: r, h => by
    have h1 := h x (List.mem_cons_self ..)
    have h2 := join_len (y :: r) fun z hz => h z (List.mem_cons_of_mem _ hz)
    show (x ++ Str.empty ++ Str.join Str.empty (y :: r)).length ≤ ((y :: r).length + 1) * n
    rw [app_len, app_len, Nat.succ_mul]
    have e : Str.empty.length = 0 := rfl
    omega
theorem sum_le {n : Nat} : ∀ (ys : List Str), (∀ y ∈ ys, y.length ≤ n) → (ys.map (·.length)).sum ≤ ys.length * n
  | [], _ => Nat.zero_le _
  | x :: r, h => by
    have h1 := h x (List.mem_cons_self ..)
    have h2 := sum_le r fun z hz => h z (List.mem_cons_of_mem _ hz)
    rw [List.map_cons, List.sum_cons, List.length_cons, Nat.succ_mul]
    omega
/-- what the draws call -/
structure CD (K : PySem.W.Frag) (mg : Str → Option Value) (fM fT fP fR : FuncData) : Prop where
  m : Fun K "_law_mixed" "_law_mixed" sMixed (ga K "_law_mixed") fM
  t : Fun K "_law_take" "_law_take" sTake (ga K "_law_take") fT
  p : Fun K "_law_pick" "_law_pick" sPick (ga K "_law_pick") fP
  r : Fun K "_law_reserved" "_law_reserved" sReserved (ga K "_law_reserved") fR
  gm : mg "_law_mixed" = some (.ref (ga K "_law_mixed"))
  gt : mg "_law_take" = some (.ref (ga K "_law_take"))
  gp : mg "_law_pick" = some (.ref (ga K "_law_pick"))
  gr : mg "_law_reserved" = some (.ref (ga K "_law_reserved"))
def spAnyName : Sp := fun vs H Q _ => ∃ (d w c : Addr) (t : Int), vs = [.ref d] ∧ Draw H d w c t ∧ t < 1000000 ∧ ∀ (x : Str) (H' : Hp), x.length ≤ 8 → Prn x → Draw H' d w c (t + 20) → But d w H H' → Q (.str x) H'
theorem sign_at {z : Str} {x : Int} (h0 : 0 ≤ x) (h1 : x < z.length) (hp : Prn z) : ∃ c, z.cps[x.toNat]? = some c ∧ Prn ⟨#[c]⟩ := by
  have hx : x.toNat < z.cps.size := by
    have : z.cps.size = z.length := rfl
    omega
  refine ⟨z.cps[x.toNat], Array.getElem?_eq_getElem hx, fun c hc => ?_⟩
  have e : c = z.cps[x.toNat] := by simpa using hc
  rw [e]
  exact hp _ (by simp)
section
variable {P : Program} {w : World} {K : PySem.W.Frag} {mg : Str → Option Value} {base : Heap}
abbrev NA : List Str := ["draw", "letters", "way", "word", "k"]
theorem scA : FnScope NA ["draw"] (defScope sAnyName) := ⟨rfl, rfl, rfl, by decide +kernel, rfl, by decide +kernel, by decide +kernel⟩
theorem ok_anyname {f : Addr} {fd fM fT fP fR : FuncData} (F : Fun K "_law_any_name" "_law_any_name" sAnyName f fd) (T : T00 K mg) (C : CD K mg fM fT fP fR) : FnOk P w K mg base CX0 4 f fd ["draw"] spAnyName := by
  have bM := C.m.binds (ps := ["draw"]) fun _ _ _ _ _ _ us hl => match us, hl with | [_], _ => rfl
  have bT := C.t.binds (ps := ["draw", "many"]) fun _ _ _ _ _ _ us hl => match us, hl with | [_, _], _ => rfl
  have bP := C.p.binds (ps := ["draw", "some"]) fun _ _ _ _ _ _ us hl => match us, hl with | [_, _], _ => rfl
  have bR := C.r.binds (ps := []) fun _ _ _ _ _ _ us hl => match us, hl with | [], _ => rfl
  have GT : FnOk P w K mg base CX0 2 _ fT _ _ := ok_take C.t T.d C.m bM C.gm
  have GP : FnOk P w K mg base CX0 3 _ fP _ _ := ok_pick C.p T.d C.t bT C.gt C.m bM C.gm
  have GR : FnOk P w K mg base CX0 1 _ fR _ _ := ok_res C.r
  refine F.ok scA (fun vs H Q E h => ?_) (fun cdv A outer s H vs Q E hr h => ?_)
  · obtain ⟨d, w, c, t, rfl, _⟩ := h
    rfl
  · obtain ⟨d, w, c, t, rfl, D0, tl, k⟩ := h
    have hr1 : Room 1 _ := hr.mono (by decide)
    have hr2 : Room 2 _ := hr.mono (by decide)
    refine ⟨_, pss_cons (ps_asg (pe_tup (pa_cons pe_str (pa_cons (pe_call GT hr2 (by rfl) C.gt C.t.kp bT .nil pass0 (pa_cons (pv 0) (pa_cons pe_int pa_nil))) pa_nil))) (pg_tup rfl (pgs_cons (pg_name (i := 1) scA.nd rfl (Or.inr rfl)) (pgs_cons (pg_name (i := 2) scA.nd rfl (Or.inl rfl)) pgs_nil))))
      (pss_cons (ps_if (pt_cmpR op_lt (pv 2) pe_int (nomark _))
        (pss_cons (ps_set (i := 3) scA.nd rfl (Or.inl rfl) (pe_call GP hr (by rfl) C.gp C.p.kp bP .nil pass0 (pa_cons (pv 0) (pa_cons (pe_call0 GR hr1 (by rfl) C.gr C.r.kp bR .nil pass0) pa_nil))))
        (pss_one (ps_ret (pe_ifExp (PW.pt (pw_or (pt_cmpR op_eq (pv 2) pe_int (nomark _)) (pw_or1 (pt_cmpR op_eq (pe_callB call_len_str (by rfl) T.d.len PySem.boot_len (pa_cons (pv 3) pa_nil)) pe_int (nomark _)))))
          (pe_slice sl_str (pv 3) po_none (po_some (pe_un un_neg pe_int)))
          (pe_op op_add_str (pv 3) (pe_item_str (pv 1) (pe_call GT hr2 (by rfl) C.gt C.t.kp bT .nil pass0 (pa_cons (pv 0) (pa_cons pe_int pa_nil))) (fun _ _ => rfl))))))) pss_nil)
      (pss_one (ps_ret (pe_join pe_str (pe_lc (own := [("k", 4)]) (g := gName 4) rfl scA.nd (pi_range1 (by rfl) T.rng (pa_cons (pe_call GP hr (by rfl) C.gp C.p.kp bP .nil pass0 (pa_cons (pv 0) (pa_cons (pe_lst (pa_cons pe_int (pa_cons pe_int (pa_cons pe_int (pa_cons pe_int (pa_cons pe_int (pa_cons pe_int (pa_cons pe_int (pa_cons pe_int (pa_cons pe_int (pa_cons pe_int (pa_cons pe_int pa_nil)))))))))))) pa_nil))) pa_nil)) (blkOk_by (own := [("k", 4)]) (N := NA) (sc := defScope sAnyName) (by decide +kernel))
          (fun _ _ _ _ _ => pg_name (i := 4) scA.nd rfl (Or.inl rfl)) (fun _ _ _ _ _ => pts_nil) (fun _ _ _ _ _ => pe_item_str (pv 1) (pe_call GT hr2 (by rfl) C.gt C.t.kp bT .nil pass0 (pa_cons (pv 0) (pa_cons pe_int pa_nil))) (fun _ _ => rfl))))))), ?_⟩
    refine ⟨_, rfl, d, w, c, t, 12, rfl, D0, by omega, by decide, by decide, fun x H1 x0 x1 D1 B1 => ⟨by show 2 ≤ sizeLine; decide, fun p hp => ?_⟩⟩
    refine ⟨p, _, rfl, SqT.of upd_same, rfl, _, _, rfl, _, _, rfl, rfl, ?_⟩
    have D2 := D1.same (snew hp (o := .tup [.str letL, .int x]))
    have B2 := B1.trans (But.of (snew hp (o := .tup [.str letL, .int x])))
    show tSeq _ _ _ ([some (.ref d), some (.str letL), some (.int x), none, none] : L2.St) (upd H1 p (.tup [.str letL, .int x]))
    generalize upd H1 p (.tup [.str letL, .int x]) = H2 at *
    refine ⟨_, rfl, _, _, rfl, rfl, _, rfl, ?_⟩
    refine ite2 (fun c1 => ?_) (fun c1 => ?_)
    · refine ⟨_, rfl, rfl, fun l H3 hl s3 h3 => ?_⟩
      have D3 := D2.same s3
      have nl := D2.fresh hl
      refine ⟨d, w, c, l, t + 1, keptV, rfl, D3, by omega, SqL.of h3, nl.1, nl.2, by decide, by decide +kernel, fun v H4 hv D4 B4 => ?_⟩
      obtain ⟨y, rfl, hy, hy8, _⟩ := kept_at hv
      have B4' := (B2.trans (But.of s3)).trans B4
      have sl : Q (.str (cutS y none (some (-1)))) H4 := k _ _ (Nat.le_trans (cutS_length _ _ _) hy8) (hy.cut _ _) (D4.mono (by omega)) B4'
      refine ⟨_, rfl, rfl, _, rfl, ?_⟩
      refine ite2 (fun c2 => ?_) (fun c2 => ?_)
      · refine iteT ?_
        exact ⟨_, rfl, _, rfl, _, rfl, y, rfl, line_le (by omega), sl⟩
      · refine ⟨_, rfl, y, rfl, line_le (by omega), rfl, _, rfl, ?_⟩
        refine ite2 (fun c3 => ?_) (fun c3 => ?_)
        · exact ⟨_, rfl, _, rfl, _, rfl, y, rfl, line_le (by omega), sl⟩
        · have y7 : y.length ≤ 7 := by
            have : ¬ y.length = 8 := fun e => c3 (by rw [e]; rfl)
            omega
          refine ⟨_, rfl, _, rfl, _, rfl, d, w, c, t + 1 + 1, 26, rfl, D4, by omega, by decide, by decide, fun z H5 z0 z1 D5 B5 => ?_⟩
          obtain ⟨e, he, pe⟩ := sign_at (z := letL) z0 z1 (prn_of (by decide +kernel))
          refine ⟨_, _, e, rfl, rfl, z0, by omega, z1, he, _, _, rfl, rfl, line_le (by show y.length + 1 ≤ _; omega), ?_⟩
          exact k _ _ (by rw [app_len]; show y.length + 1 ≤ 8; omega) (hy.app pe) (D5.mono (by omega)) (B4'.trans B5)
    · refine ⟨⟨_, rfl⟩, _, rfl, by show 11 ≤ sizeLine; decide, fun l hl => ?_⟩
      have nl := D2.fresh hl
      refine ⟨d, w, c, l, t + 1, _, rfl, D2.same (snew hl), by omega, SqL.of upd_same, nl.1, nl.2, by simp, by show 11 < 1073741824; decide, fun v H4 hv D4 B4 => ?_⟩
      have B4' := (B2.trans (But.of (snew hl))).trans B4
      have hn : ∃ n : Int, v = .int n ∧ 0 ≤ n ∧ n ≤ 8 := by
        simp only [List.mem_cons, List.not_mem_nil, or_false] at hv
        rcases hv with rfl | rfl | rfl | rfl | rfl | rfl | rfl | rfl | rfl | rfl | rfl <;> exact ⟨_, rfl, by decide, by decide⟩
      obtain ⟨n, rfl, n0, n8⟩ := hn
      refine ⟨n, rfl, by omega, by omega, fun D hD => ?_⟩
      have nD := D4.fresh hD
      have nD3 := D4.ne3 hD
      refine lc_range (fun i Hx => ∃ ys : List Str, ys.length = i ∧ (∀ y ∈ ys, Prn y ∧ y.length ≤ 1) ∧ Hx D = some (.lst (ys.map V.str)) ∧ Draw Hx d w c (t + 2 + i) ∧ But d w H Hx) ?_ ?_ ?_
      · refine ⟨[], rfl, (fun y h => nomatch h), upd_same, (D4.upd nD.1 nD.2 nD3).mono (by omega), fun b o e h1 h2 => ?_⟩
        have eb := B4' b o e h1 h2
        rw [upd_ne (ne_of_none eb hD)]
        exact eb
      · rintro i Hx hi ⟨ys, yl, yp, hx, Dx, Bx⟩
        refine ⟨rfl, yes_if ?_⟩
        refine ⟨_, rfl, _, rfl, d, w, c, t + 2 + i, 26, rfl, Dx, by omega, by decide, by decide, fun z H5 z0 z1 D5 B5 => ?_⟩
        obtain ⟨e, he, pe⟩ := sign_at (z := letL) z0 z1 (prn_of (by decide +kernel))
        have h5 := B5 _ _ hx nD.1 nD.2
        refine ⟨_, _, e, rfl, rfl, z0, by omega, z1, he, _, h5, ?_, ys ++ [⟨#[e]⟩], ?_, ?_, ?_, ?_, ?_⟩
        · rw [List.length_map]
          exact small1000 (by omega)
        · rw [List.length_append, List.length_singleton, yl]
        · intro y hy
          rcases List.mem_append.mp hy with q | q
          · exact yp y q
          · rw [List.mem_singleton.mp q]
            exact ⟨pe, Nat.le_refl _⟩
        · rw [upd_same, List.map_append]
          rfl
        · exact (D5.upd nD.1 nD.2 nD3).mono (by omega)
        · intro b o eb h1 h2
          by_cases hb : b = D
          · exfalso
            have : H4 b = some o := B4' b o eb h1 h2
            rw [hb, hD] at this
            cases this
          · rw [upd_ne hb]
            exact B5 _ _ (Bx b o eb h1 h2) h1 h2
      · rintro Hx ⟨ys, yl, yp, hx, Dx, Bx⟩
        have y1 : ∀ y ∈ ys, y.length ≤ 1 := fun y hy => (yp y hy).2
        have sz := sum_le ys y1
        refine ⟨_, D, ys, rfl, rfl, .inl (SqL.of hx), ?_, ?_⟩
        · have e0 : ("" : Str).length = 0 := rfl
          rw [e0]
          omega
        · rw [TL.join_eq]
          have jl := join_len ys y1
          exact k _ _ (by show (Str.join Str.empty ys).length ≤ 8; omega) (join_nil ys fun y hy => (yp y hy).1) (Dx.mono (by omega)) Bx
end
end Any
set_option Elab.async false
set_option linter.all false
set_option maxRecDepth 100000
set_option maxHeartbeats 4000000
/-! Pieces of a text. -/
namespace Any
open PySem PySem.Spec PyProof.Rows L2
open He (ga ma)
def signS : Str := "!\"#$&'()*+,-./0123456789:;<=>?@ABCDEFGHIJKLMNOPQRSTUVWXYZ[\\]^_`abcdefghijklmnopqrstuvwxyz{|}~"
def blankV : List V := [.str " ", .str " ", .str "\n", .str "  ", .str " \n", .str "\n\n", .str "      "]
def blankB : Bool := blankV.all fun v => match v with
  | .str x => prnB x && decide (x.length ≤ 8)
  | _ => false
theorem blank_ok : blankB = true := by decide +kernel
theorem blank_at {v : V} (h : v ∈ blankV) : ∃ x, v = .str x ∧ Prn x ∧ x.length ≤ 8 := by
  have q := List.all_eq_true.mp blank_ok v h
  cases v with
  | str x =>
    simp only [Bool.and_eq_true, decide_eq_true_eq] at q
    exact ⟨x, rfl, prn_of q.1, q.2⟩
  | _ => cases q
def spPiece : Sp := fun vs H Q _ => ∃ (d w c : Addr) (t : Int), vs = [.ref d] ∧ Draw H d w c t ∧ t < 900000 ∧ ∀ (x : Str) (H' : Hp), x.length ≤ 8 → Prn x → Draw H' d w c (t + 30) → But d w H H' → Q (.str x) H'
section
variable {P : Program} {w : World} {K : PySem.W.Frag} {mg : Str → Option Value} {base : Heap}
abbrev NP : List Str := ["draw", "signs", "way"]
theorem scPi : FnScope NP ["draw"] (defScope sPiece) := ⟨rfl, rfl, rfl, by decide +kernel, rfl, by decide +kernel, by decide +kernel⟩
theorem ok_piece {f : Addr} {fd fM fT fP fR fA : FuncData} (F : Fun K "_law_piece" "_law_piece" sPiece f fd) (T : T00 K mg) (C : CD K mg fM fT fP fR) (A0 : Fun K "_law_any_name" "_law_any_name" sAnyName (ga K "_law_any_name") fA) (gA : mg "_law_any_name" = some (.ref (ga K "_law_any_name"))) : FnOk P w K mg base CX0 5 f fd ["draw"] spPiece := by
  have bM := C.m.binds (ps := ["draw"]) fun _ _ _ _ _ _ us hl => match us, hl with | [_], _ => rfl
  have bT := C.t.binds (ps := ["draw", "many"]) fun _ _ _ _ _ _ us hl => match us, hl with | [_, _], _ => rfl
  have bP := C.p.binds (ps := ["draw", "some"]) fun _ _ _ _ _ _ us hl => match us, hl with | [_, _], _ => rfl
  have bR := C.r.binds (ps := []) fun _ _ _ _ _ _ us hl => match us, hl with | [], _ => rfl
  have bA := A0.binds (ps := ["draw"]) fun _ _ _ _ _ _ us hl => match us, hl with | [_], _ => rfl
  have GT : FnOk P w K mg base CX0 2 _ fT _ _ := ok_take C.t T.d C.m bM C.gm
  have GP : FnOk P w K mg base CX0 3 _ fP _ _ := ok_pick C.p T.d C.t bT C.gt C.m bM C.gm
  have GR : FnOk P w K mg base CX0 1 _ fR _ _ := ok_res C.r
  have GA : FnOk P w K mg base CX0 4 _ fA _ _ := ok_anyname A0 T C
  refine F.ok scPi (fun vs H Q E h => ?_) (fun cdv A outer s H vs Q E hr h => ?_)
  · obtain ⟨d, w, c, t, rfl, _⟩ := h
    rfl
  · obtain ⟨d, w, c, t, rfl, D0, tl, k⟩ := h
    have hr1 : Room 1 _ := hr.mono (by decide)
    have hr2 : Room 2 _ := hr.mono (by decide)
    have hr3 : Room 3 _ := hr.mono (by decide)
    refine ⟨_, pss_cons (ps_set (i := 1) scPi.nd rfl (Or.inl rfl) pe_str)
      (pss_cons (ps_set (i := 2) scPi.nd rfl (Or.inl rfl) (pe_call GT hr2 (by rfl) C.gt C.t.kp bT .nil pass0 (pa_cons (pv 0) (pa_cons pe_int pa_nil))))
      (pss_cons (ps_if (pt_cmpR op_lt (pv 2) pe_int (nomark _)) (pss_one (ps_ret (pe_call GA hr (by rfl) gA A0.kp bA .nil pass0 (pa_cons (pv 0) pa_nil)))) pss_nil)
      (pss_cons (ps_if (pt_cmpR op_lt (pv 2) pe_int (nomark _)) (pss_one (ps_ret (pe_call GP hr3 (by rfl) C.gp C.p.kp bP .nil pass0 (pa_cons (pv 0) (pa_cons (pe_lst (pa_cons pe_str (pa_cons pe_str (pa_cons pe_str (pa_cons pe_str (pa_cons pe_str (pa_cons pe_str (pa_cons pe_str pa_nil)))))))) pa_nil))))) pss_nil)
      (pss_cons (ps_if (pt_cmpR op_eq (pv 2) pe_int (nomark _)) (pss_one (ps_ret (pe_call GP hr3 (by rfl) C.gp C.p.kp bP .nil pass0 (pa_cons (pv 0) (pa_cons (pe_call0 GR hr1 (by rfl) C.gr C.r.kp bR .nil pass0) pa_nil))))) pss_nil)
      (pss_one (ps_ret (pe_op op_add_str (pe_item_str (pv 1) (pe_call GT hr2 (by rfl) C.gt C.t.kp bT .nil pass0 (pa_cons (pv 0) (pa_cons (pe_callB call_len_str (by rfl) T.d.len PySem.boot_len (pa_cons (pv 1) pa_nil)) pa_nil))) (fun _ _ => rfl))
        (pe_ifExp (pt_cmpR op_eq (pv 2) pe_int (nomark _)) (pe_item_str (pv 1) (pe_call GT hr2 (by rfl) C.gt C.t.kp bT .nil pass0 (pa_cons (pv 0) (pa_cons (pe_callB call_len_str (by rfl) T.d.len PySem.boot_len (pa_cons (pv 1) pa_nil)) pa_nil))) (fun _ _ => rfl)) pe_str)))))))), ?_⟩
    refine ⟨_, rfl, d, w, c, t, 8, rfl, D0, by omega, by decide, by decide, fun x H1 x0 x1 D1 B1 => ?_⟩
    have sz : signS.length = 93 := by decide +kernel
    refine ⟨_, rfl, _, _, rfl, rfl, _, rfl, ?_⟩
    refine ite2 (fun c1 => ?_) (fun c1 => ?_)
    · exact ⟨_, rfl, d, w, c, t + 1, rfl, D1, by omega, fun y H2 y8 hy D2 B2 => k _ _ y8 hy (D2.mono (by omega)) (B1.trans B2)⟩
    refine ⟨_, rfl, _, _, rfl, rfl, _, rfl, ?_⟩
    refine ite2 (fun c2 => ?_) (fun c2 => ?_)
    · refine ⟨_, rfl, by show 7 ≤ sizeLine; decide, fun l hl => ?_⟩
      have nl := D1.fresh hl
      refine ⟨d, w, c, l, t + 1, blankV, rfl, D1.same (snew hl), by omega, SqL.of upd_same, nl.1, nl.2, by decide, by decide, fun v H4 hv D4 B4 => ?_⟩
      obtain ⟨y, rfl, hy, hy8⟩ := blank_at hv
      exact k _ _ hy8 hy (D4.mono (by omega)) ((B1.trans (But.of (snew hl))).trans B4)
    refine ⟨_, rfl, rfl, _, rfl, ?_⟩
    refine ite2 (fun c3 => ?_) (fun c3 => ?_)
    · refine ⟨_, rfl, rfl, fun l H3 hl s3 h3 => ?_⟩
      have nl := D1.fresh hl
      refine ⟨d, w, c, l, t + 1, keptV, rfl, D1.same s3, by omega, SqL.of h3, nl.1, nl.2, by decide, by decide +kernel, fun v H4 hv D4 B4 => ?_⟩
      obtain ⟨y, rfl, hy, hy8, _⟩ := kept_at hv
      exact k _ _ hy8 hy (D4.mono (by omega)) ((B1.trans (But.of s3)).trans B4)
    refine ⟨_, rfl, _, rfl, _, rfl, signS, rfl, by rw [sz]; exact line_le (by decide), d, w, c, t + 1, _, rfl, D1, by omega, by decide +kernel, by decide +kernel, fun y H2 y0 y1 D2 B2 => ?_⟩
    obtain ⟨e, he, pe⟩ := sign_at (z := signS) y0 y1 (prn_of (by decide +kernel))
    have y92 : y < 93 := by rw [← show ((signS.length : Nat) : Int) = 93 by rw [sz]; rfl]; exact y1
    refine ⟨_, _, e, rfl, rfl, y0, by omega, y1, he, _, rfl, rfl, _, rfl, ?_⟩
    refine ite2 (fun c4 => ?_) (fun c4 => ?_)
    · refine ⟨_, rfl, _, rfl, _, rfl, signS, rfl, by rw [sz]; exact line_le (by decide), d, w, c, t + 1 + 1, _, rfl, D2, by omega, by decide +kernel, by decide +kernel, fun u H3 u0 u1 D3 B3 => ?_⟩
      obtain ⟨e', he', pe'⟩ := sign_at (z := signS) u0 u1 (prn_of (by decide +kernel))
      have u92 : u < 93 := by rw [← show ((signS.length : Nat) : Int) = 93 by rw [sz]; rfl]; exact u1
      refine ⟨_, _, e', rfl, rfl, u0, by omega, u1, he', _, _, rfl, rfl, by show 1 + 1 ≤ sizeLine; decide, ?_⟩
      exact k _ _ (by show 2 ≤ 8; decide) (pe.app pe') (D3.mono (by omega)) ((B1.trans B2).trans B3)
    · refine ⟨_, _, rfl, rfl, by show 1 + 0 ≤ sizeLine; decide, ?_⟩
      exact k _ _ (by show 1 ≤ 8; decide) (pe.app fun c hc => nomatch (show c ∈ ([] : List Nat) from hc)) (D2.mono (by omega)) (B1.trans B2)
end
end Any
set_option Elab.async false
set_option linter.all false
set_option maxRecDepth 100000
set_option maxHeartbeats 4000000
/-! Names told apart from what is none. -/
namespace Any
open PySem PySem.Spec PyProof.Rows L2
open He (ga ma)
theorem upper_mem {x : Str} {c : Nat} (h : c ∈ (Txt.upper x).cps.toList) : ∃ d ∈ x.cps.toList, c ∈ Unicode.upperOf d := by
  unfold Txt.upper PySem.placed at h
  simp at h
  obtain ⟨l, ⟨a, ⟨i, hi, rfl⟩, rfl⟩, m⟩ := h
  exact ⟨x.cps[i], by simp, by simpa using m⟩
theorem up128 : ((List.range 128).all fun c => (Unicode.upperOf c).all fun d => decide (d < 128)) = true := by decide +kernel
theorem Asc.upper {x : Str} (h : Asc x) : Asc (Txt.upper x) := fun c hc => by
  obtain ⟨d, hd, m⟩ := upper_mem hc
  exact of_decide_eq_true (List.all_eq_true.mp (List.all_eq_true.mp up128 d (List.mem_range.mpr (h d hd))) c m)
theorem Asc.app {a b : Str} (h : Asc a) (k : Asc b) : Asc (a ++ b) := fun c hc => by
  rw [app_list] at hc
  exact (List.mem_append.mp hc).elim (h c) (k c)
theorem asc_dec {x : Str} (h : (x.cps.toList.all fun c => decide (c < 128)) = true) : Asc x := fun c hc => of_decide_eq_true (List.all_eq_true.mp h c hc)
theorem op_mulS {X : Cx} : OpR X (binaryOp .Mult) (fun x y H Q => ∃ (a : Str) (n : Int), x = .str a ∧ y = .int n ∧ MulOk a n ∧ Q (.str (Txt.mul a n)) H) := by
  intro pins s σ H x y v u Q I rx ry h
  obtain ⟨a, n, rfl, rfl, hz, q⟩ := h
  obtain ⟨t, rfl⟩ := rx
  obtain ⟨t', rfl⟩ := ry
  exact SB.mul hz fun t' tk => ⟨.str (Txt.mul a n), H, I.tok _, ⟨_, rfl⟩, q⟩
def Nok (v : V) : Prop := ∃ x : Str, v = .str x ∧ x.length ≤ 1000 ∧ Asc x
/-- no text, plainly -/
def OddP (H : Hp) (v : V) : Prop := v = .non ∨ (∃ i, v = .int i) ∨ (∃ b, v = .bl b) ∨ (∃ p xs, v = .ref p ∧ H p = some (.tup xs)) ∨ (∃ p xs, v = .ref p ∧ H p = some (.lst xs)) ∨ ∃ p kvs, v = .ref p ∧ H p = some (.dK kvs)
theorem OddP.same {H H' : Hp} {v : V} (h : OddP H v) (s : Same H H') : OddP H' v := by
  rcases h with h | h | h | ⟨p, xs, e, h⟩ | ⟨p, xs, e, h⟩ | ⟨p, xs, e, h⟩
  · exact .inl h
  · exact .inr (.inl h)
  · exact .inr (.inr (.inl h))
  · exact .inr (.inr (.inr (.inl ⟨p, xs, e, s _ _ h⟩)))
  · exact .inr (.inr (.inr (.inr (.inl ⟨p, xs, e, s _ _ h⟩))))
  · exact .inr (.inr (.inr (.inr (.inr ⟨p, xs, e, s _ _ h⟩))))
theorem OddP.odd {K : PySem.W.Frag} {H : Hp} {v : V} (h : OddP H v) : Odd K H v := by
  rcases h with rfl | ⟨i, rfl⟩ | ⟨b, rfl⟩ | ⟨p, xs, rfl, h⟩ | ⟨p, xs, rfl, h⟩ | ⟨p, xs, rfl, h⟩
  · exact ⟨_, .base .non, by decide +kernel⟩
  · exact ⟨_, .base (.int i), by decide +kernel⟩
  · exact ⟨_, .base (.bl b), by decide +kernel⟩
  · exact ⟨_, .base (.tup h), by decide +kernel⟩
  · exact ⟨_, .base (.lst h), by decide +kernel⟩
  · exact ⟨_, .base (.dK h), by decide +kernel⟩
theorem bools_shown : ∀ a b : Bool, (PyData.list [.bool a, .bool b]).showable = true ∧ (PyData.list [.bool a, .bool b]).depth ≤ 60 ∧ (PyData.list [.bool a, .bool b]).shown.length ≤ 100 := by decide +kernel
def spRight : Sp := fun vs H Q _ => ∃ (d w c : Addr) (t : Int), vs = [.ref d] ∧ Draw H d w c t ∧ t < 800000 ∧ ∀ (H' : Hp), Draw H' d w c (t + 30) → But d w H H' → Q (.bl true) H'
/-- what it calls besides -/
structure CN (K : PySem.W.Frag) (mg : Str → Option Value) (fA fN fL : FuncData) : Prop where
  a : Fun K "_law_any_name" "_law_any_name" sAnyName (ga K "_law_any_name") fA
  n : Fun K "is_name" "is_name" sIsName (ga K "is_name") fN
  l : Fun K "_law_is_name" "_law_is_name" sLIsName (ga K "_law_is_name") fL
  gan : mg "_law_any_name" = some (.ref (ga K "_law_any_name"))
  gn : mg "is_name" = some (.ref (ga K "is_name"))
  gl : mg "_law_is_name" = some (.ref (ga K "_law_is_name"))
theorem Fun.bindsK {K : PySem.W.Frag} {x q : Str} {st : Stmt} {f : Addr} {fd : FuncData} {ps ks : List Str} (F : Fun K x q st f fd)
    (h : ∀ (kV doc pm : Value) (an : Option Addr) (cdv ct : Value) (ws : List Value), ws.length = ps.length → bindArgs (PySem.W.fnOf x q (defArgs st) (defBody st) (defScope st) .none kV doc pm an cdv ct) ⟨[], ks.zip ws⟩ = pure (ps.zip ws)) (s : Shared) (ws : List Value) (hl : ws.length = ps.length) : BindsTo s fd ⟨[], ks.zip ws⟩ (ps.zip ws) := by
  obtain ⟨oc, od, kV, doc, pm, an, cdv, ct, osl, rfl, lk, hcd⟩ := F.ex
  exact .of_eq (h kV doc pm an cdv ct ws hl)
section
variable {P : Program} {w : World} {K : PySem.W.Frag} {mg : Str → Option Value} {base : Heap}
abbrev NR : List Str := ["draw", "word", "kept", "some", "one", "odd"]
theorem scNR : FnScope NR ["draw"] (defScope sRight) := ⟨rfl, rfl, rfl, by decide +kernel, rfl, by decide +kernel, by decide +kernel⟩
theorem ok_right {f : Addr} {fd fM fT fP fR fA fN fL : FuncData} (F : Fun K "_law_names_right" "_law_names_right" sRight f fd) (T : T00 K mg) (C : CD K mg fM fT fP fR) (N : CN K mg fA fN fL) : FnG P w K mg base CX0 5 f fd ["draw"] spRight := by
  have bM := C.m.binds (ps := ["draw"]) fun _ _ _ _ _ _ us hl => match us, hl with | [_], _ => rfl
  have bT := C.t.binds (ps := ["draw", "many"]) fun _ _ _ _ _ _ us hl => match us, hl with | [_, _], _ => rfl
  have bP := C.p.binds (ps := ["draw", "some"]) fun _ _ _ _ _ _ us hl => match us, hl with | [_, _], _ => rfl
  have bR := C.r.binds (ps := []) fun _ _ _ _ _ _ us hl => match us, hl with | [], _ => rfl
  have bA := N.a.binds (ps := ["draw"]) fun _ _ _ _ _ _ us hl => match us, hl with | [_], _ => rfl
  have bN := N.n.binds (ps := ["thing"]) fun _ _ _ _ _ _ us hl => match us, hl with | [_], _ => rfl
  have bL := N.l.binds (ps := ["thing"]) fun _ _ _ _ _ _ us hl => match us, hl with | [_], _ => rfl
  have bK := Fun.bindsK (ps := ["thing"]) (ks := ["thing"]) N.n fun _ _ _ _ _ _ ws hl => match ws, hl with | [_], _ => rfl
  have GP : FnOk P w K mg base CX0 3 _ fP _ _ := ok_pick C.p T.d C.t bT C.gt C.m bM C.gm
  have GR : FnOk P w K mg base CX0 1 _ fR _ _ := ok_res C.r
  have GA : FnOk P w K mg base CX0 4 _ fA _ _ := ok_anyname N.a T C
  have GN : FnOk P w K mg base CX0 1 _ fN _ _ := ok_isname N.n T
  have GL : FnOk P w K mg base CX0 2 _ fL _ _ := ok_lisname N.l T C.r C.gr
  refine okG F scNR (fun vs H Q E h => ?_) (fun cdv A outer s H vs Q E cl hr h => ?_)
  · obtain ⟨d, w, c, t, rfl, _⟩ := h
    rfl
  · obtain ⟨d, w, c, t, rfl, D0, tl, k⟩ := h
    have hr1 : Room 1 _ := hr.mono (by decide)
    have hr2 : Room 2 _ := hr.mono (by decide)
    have hr3 : Room 3 _ := hr.mono (by decide)
    refine ⟨_, pss_cons (ps_par (i := 1) (j := 2) rfl scNR.nd rfl rfl (by decide) rfl rfl (pa_cons (pe_call GA hr (by rfl) N.gan N.a.kp bA .nil pass0 (pa_cons (pv 0) pa_nil)) (pa_cons (pe_call GP hr3 (by rfl) C.gp C.p.kp bP .nil pass0 (pa_cons (pv 0) (pa_cons (pe_call0 GR hr1 (by rfl) C.gr C.r.kp bR .nil pass0) pa_nil))) pa_nil)) (by rfl))
      (pss_cons (ps_set (i := 3) scNR.nd rfl (Or.inl rfl) (pe_lst (pa_cons (pv 1) (pa_cons (pv 2) (pa_cons (pe_op op_add_str (pv 2) pe_str) (pa_cons (pe_slice sl_str (pv 2) (po_some pe_int) po_none) (pa_cons (pe_op op_add_str (pv 1) (pv 1)) (pa_cons (pe_op op_add_str (pv 1) (pe_op op_mulS pe_str pe_int)) (pa_cons (pe_upper (pv 1)) (pa_cons (pe_op op_add_str (pv 1) pe_str) (pa_cons (pe_op op_add_str pe_str (pv 1)) (pa_cons (pe_op op_add_str (pv 1) pe_str) (pa_cons pe_str pa_nil)))))))))))))
      (pss_cons (ps_for PassesOwn.never rfl (pi_list (pv 3)) (pg_name (i := 4) scNR.nd rfl (Or.inl rfl)) (pss_one (ps_if (pt_cmpR op_ne (pe_callB (call_repr T.sys cl hr.units) (by rfl) T.rpr (by decide +kernel) (pa_cons (pe_lst (pa_cons (pe_call GN hr1 (by rfl) N.gn N.n.kp bN .nil pass0 (pa_cons (pv 4) pa_nil)) (pa_cons (pe_callK0 GN hr1 (by rfl) N.gn N.n.kp bK pass0 (pk_cons (pv 4) pk_nil)) pa_nil))) pa_nil))
          (pe_callB (call_repr T.sys cl hr.units) (by rfl) T.rpr (by decide +kernel) (pa_cons (pe_lst (pa_cons (pe_call GL hr2 (by rfl) N.gl N.l.kp bL .nil pass0 (pa_cons (pv 4) pa_nil)) (pa_cons (pe_call GL hr2 (by rfl) N.gl N.l.kp bL .nil pass0 (pa_cons (pv 4) pa_nil)) pa_nil))) pa_nil)) (nomark _)) (pss_one (ps_ret pe_bl)) pss_nil)))
      (pss_cons (ps_set (i := 5) scNR.nd rfl (Or.inl rfl) (pe_lst (pa_cons pe_non (pa_cons pe_int (pa_cons pe_int (pa_cons pe_bl (pa_cons (pe_tup (pa_cons (pv 1) pa_nil)) (pa_cons (pe_lst (pa_cons (pv 1) pa_nil)) (pa_cons (pe_disp (pps_cons (pv 1) (pv 1) pps_nil) (by rfl) (by rfl) (fun z => by cases z) (by decide)) (pa_cons (pe_tup pa_nil) (pa_cons pe_dnewK pa_nil)))))))))))
      (pss_one (ps_ret (pe_and (pe_cmpR (op_eqD hr.units) (pe_lc (own := [("one", 4)]) (g := gName 4) rfl scNR.nd (pi_list (pv 5)) (blkOk_by (own := [("one", 4)]) (N := NR) (sc := defScope sRight) (by decide +kernel)) (fun _ _ _ _ _ => pg_name (i := 4) scNR.nd rfl (Or.inl rfl)) (fun _ _ _ _ _ => pts_one (pt_val (pe_call GN hr1 (by rfl) N.gn N.n.kp bN .nil pass0 (pa_cons (pv 4) pa_nil)))) (fun _ _ _ _ _ => pv 4)) (pe_lst pa_nil) (nomark _))
        (pe_one (pe_cmpR (op_eqD hr.units) (pe_lc (own := [("one", 4)]) (g := gName 4) rfl scNR.nd (pi_list (pe_call0 GR hr1 (by rfl) C.gr C.r.kp bR .nil pass0)) (blkOk_by (own := [("one", 4)]) (N := NR) (sc := defScope sRight) (by decide +kernel)) (fun _ _ _ _ _ => pg_name (i := 4) scNR.nd rfl (Or.inl rfl)) (fun _ _ _ _ _ => pts_one (pt_val (pe_call GN hr1 (by rfl) N.gn N.n.kp bN .nil pass0 (pa_cons (pv 4) pa_nil)))) (fun _ _ _ _ _ => pv 4)) (pe_lst pa_nil) (nomark _))))))))), ?_⟩
    -- word, kept
    refine ⟨_, rfl, d, w, c, t, rfl, D0, by omega, fun x H1 x8 px D1 B1 => ?_⟩
    refine ⟨_, rfl, rfl, fun l H2 hl s2 h2 => ?_⟩
    have nl := D1.fresh hl
    refine ⟨d, w, c, l, t + 20, keptV, rfl, D1.same s2, by omega, SqL.of h2, nl.1, nl.2, by decide, by decide +kernel, fun v H3 hv D3 B3 => ?_⟩
    obtain ⟨y, rfl, py, y8, _⟩ := kept_at hv
    have B3' := (B1.trans (But.of s2)).trans B3
    refine ⟨_, _, rfl, ?_⟩
    -- some
    have xl : x.length ≤ sizeLine := line_le (by omega)
    have yl : y.length ≤ sizeLine := line_le (by omega)
    refine ⟨_, rfl, _, rfl, _, rfl, _, _, rfl, rfl, line_le (by show y.length + 1 ≤ _; omega), _, rfl, _, rfl, y, rfl, yl, _, rfl, _, rfl, _, _, rfl, rfl, line_le (by show x.length + x.length ≤ _; omega), _, rfl, _, _, rfl, rfl, by unfold MulOk; decide +kernel, _, _, rfl, rfl, line_le (by show x.length + 8 ≤ _; omega), _, rfl, ⟨_, rfl⟩, x, rfl, rfl, by omega,
      _, rfl, _, _, rfl, rfl, line_le (by show x.length + 1 ≤ _; omega), _, rfl, _, _, rfl, rfl, line_le (by show 1 + x.length ≤ _; omega), _, rfl, _, _, rfl, rfl, line_le (by show x.length + 1 ≤ _; omega), by show 11 ≤ sizeLine; decide, fun l1 hl1 => ?_⟩
    have nl1 := D3.fresh hl1
    let L : List V := [V.str x, .str y, .str (y ++ ("s" : Str)), .str (cutS y (some 1) none), .str (x ++ x), .str (x ++ Txt.mul "q" 8), .str (Txt.upper x), .str (x ++ ("1" : Str)), .str ((" " : Str) ++ x), .str (x ++ ("\n" : Str)), .str ""]
    have ax := px.asc
    have ay := py.asc
    have hL : ∀ v ∈ L, Nok v := by
      intro v hv
      simp only [L, List.mem_cons, List.not_mem_nil, or_false] at hv
      rcases hv with rfl | rfl | rfl | rfl | rfl | rfl | rfl | rfl | rfl | rfl | rfl
      · exact ⟨_, rfl, by omega, ax⟩
      · exact ⟨_, rfl, by omega, ay⟩
      · exact ⟨_, rfl, by rw [app_len]; show y.length + 1 ≤ _; omega, ay.app (asc_dec (by decide +kernel))⟩
      · exact ⟨_, rfl, Nat.le_trans (cutS_length _ _ _) (by omega), (py.cut _ _).asc⟩
      · exact ⟨_, rfl, by rw [app_len]; omega, ax.app ax⟩
      · exact ⟨_, rfl, by rw [app_len]; show x.length + 8 ≤ _; omega, ax.app (asc_dec (by decide +kernel))⟩
      · exact ⟨_, rfl, by have := len_upper x; omega, ax.upper⟩
      · exact ⟨_, rfl, by rw [app_len]; show x.length + 1 ≤ _; omega, ax.app (asc_dec (by decide +kernel))⟩
      · exact ⟨_, rfl, by rw [app_len]; show 1 + x.length ≤ _; omega, (asc_dec (by decide +kernel) : Asc (" " : Str)).app ax⟩
      · exact ⟨_, rfl, by rw [app_len]; show x.length + 1 ≤ _; omega, ax.app (asc_dec (by decide +kernel))⟩
      · exact ⟨_, rfl, by decide, asc_dec (by decide +kernel)⟩
    show tSeq _ _ _ ([some (.ref d), some (.str x), some (.str y), some (.ref l1), none, none] : L2.St) (upd H3 l1 (.lst L))
    have D4 := D3.same (snew hl1 (o := .lst L))
    have B4 := B3'.trans (But.of (snew hl1 (o := .lst L)))
    have h4 : (upd H3 l1 (.lst L)) l1 = some (.lst L) := upd_same
    generalize upd H3 l1 (.lst L) = H4 at *
    refine ⟨_, rfl, l1, rfl, ⟨_, SqL.of h4⟩, for_list (K := K) (a := l1) (xs := L) (fun i σ Hx => ∃ v4 : Option V, σ = [some (.ref d), some (.str x), some (.str y), some (.ref l1), v4, none] ∧ Same H4 Hx) ⟨none, rfl, rsame⟩ (fun i σ Hx _ ⟨_, _, s⟩ => SqL.of (s _ _ h4)) ?_ ?_⟩
    · rintro i v σ Hx hi ⟨v4, rfl, sx⟩
      obtain ⟨z, rfl, zl, za⟩ := hL v (List.mem_of_getElem? hi)
      have bs := bools_shown (isNm z) (isNm z)
      refine ⟨_, rfl, .str z, rfl, .inl ⟨z, rfl, by omega, za, fun Ha sa => ?_⟩⟩
      refine ⟨_, rfl, .str z, rfl, .inl ⟨z, rfl, by omega, za, fun Hb sb => ?_⟩⟩
      refine ⟨by show 2 ≤ sizeLine; decide, fun p hp => ?_⟩
      refine ⟨_, _, rfl, .lst (SqL.of upd_same) (.cons (.bl _) (.cons (.bl _) .nil)), bs.1, bs.2.1, line_le (Nat.le_trans bs.2.2 (by decide)), ?_⟩
      refine ⟨_, rfl, .str z, rfl, .inl ⟨z, rfl, by omega, za, fun Hc sc => ?_⟩⟩
      refine ⟨_, rfl, .str z, rfl, .inl ⟨z, rfl, by omega, za, fun Hd sd => ?_⟩⟩
      refine ⟨by show 2 ≤ sizeLine; decide, fun q hq => ?_⟩
      refine ⟨_, _, rfl, .lst (SqL.of upd_same) (.cons (.bl _) (.cons (.bl _) .nil)), bs.1, bs.2.1, line_le (Nat.le_trans bs.2.2 (by decide)), ?_⟩
      refine ⟨rfl, _, rfl, ?_⟩
      rw [decide_eq_true rfl]
      refine iteF ?_
      exact ⟨_, rfl, sx.trans (sa.trans (sb.trans ((snew hp).trans (sc.trans (sd.trans (snew hq))))))⟩
    · rintro σ Hx ⟨v4, rfl, sx⟩
      have Dx := D4.same sx
      have Bx := B4.trans (But.of sx)
      clear hL
      refine ⟨_, rfl, by show 1 ≤ sizeLine; decide, fun p1 h1 => ?_⟩
      refine ⟨_, rfl, by show 1 ≤ sizeLine; decide, fun p2 h2 => ?_⟩
      intro p3 h3
      refine ⟨_, rfl, _, rfl, upd_same, [(Sum.inr x, .str x)], rfl, by show 1 ≤ 15; decide, ?_⟩
      refine ⟨by show 0 ≤ sizeLine; exact Nat.zero_le _, fun p4 h4' => ?_⟩
      intro p5 h5
      refine ⟨by show 9 ≤ sizeLine; decide, fun l2 hl2 => ?_⟩
      have em : mergeK [] [((Sum.inr x : Key), V.str x)] = [(Sum.inr x, .str x)] := rfl
      rw [em, upd_upd] at h4' h5 hl2 ⊢
      have s1 : Same Hx (upd Hx p1 (.tup [.str x])) := snew h1
      have s2 := snew h2 (o := .lst [.str x])
      have s3 := snew h3 (o := .dK [(Sum.inr x, .str x)])
      have s4 := snew h4' (o := .tup [])
      have s5 := snew h5 (o := .dK [])
      have s6 := snew hl2 (o := .lst [.non, .int 5, .int 0, .bl true, .ref p1, .ref p2, .ref p3, .ref p4, .ref p5])
      have sAll := ((((s1.trans s2).trans s3).trans s4).trans s5).trans s6
      let O : List V := [.non, .int 5, .int 0, .bl true, .ref p1, .ref p2, .ref p3, .ref p4, .ref p5]
      have hO : ∀ v ∈ O, OddP (upd (upd (upd (upd (upd (upd Hx p1 (.tup [.str x])) p2 (.lst [.str x])) p3 (.dK [(Sum.inr x, .str x)])) p4 (.tup [])) p5 (.dK [])) l2 (.lst O)) v := by
        intro v hv
        simp only [O, List.mem_cons, List.not_mem_nil, or_false] at hv
        rcases hv with rfl | rfl | rfl | rfl | rfl | rfl | rfl | rfl | rfl
        · exact .inl rfl
        · exact .inr (.inl ⟨_, rfl⟩)
        · exact .inr (.inl ⟨_, rfl⟩)
        · exact .inr (.inr (.inl ⟨_, rfl⟩))
        · exact .inr (.inr (.inr (.inl ⟨_, _, rfl, s6 _ _ (s5 _ _ (s4 _ _ (s3 _ _ (s2 _ _ upd_same))))⟩)))
        · exact .inr (.inr (.inr (.inr (.inl ⟨_, _, rfl, s6 _ _ (s5 _ _ (s4 _ _ (s3 _ _ upd_same)))⟩))))
        · exact .inr (.inr (.inr (.inr (.inr ⟨_, _, rfl, s6 _ _ (s5 _ _ (s4 _ _ upd_same))⟩))))
        · exact .inr (.inr (.inr (.inl ⟨_, _, rfl, s6 _ _ (s5 _ _ upd_same)⟩)))
        · exact .inr (.inr (.inr (.inr (.inr ⟨_, _, rfl, s6 _ _ upd_same⟩))))
      have hl : (upd (upd (upd (upd (upd (upd Hx p1 (.tup [.str x])) p2 (.lst [.str x])) p3 (.dK [(Sum.inr x, .str x)])) p4 (.tup [])) p5 (.dK [])) l2 (.lst O)) l2 = some (.lst O) := upd_same
      dsimp only [gName]
      show tRet _ _ ([some (.ref d), some (.str x), some (.str y), some (.ref l1), v4, some (.ref l2)] : L2.St) (upd (upd (upd (upd (upd (upd Hx p1 (.tup [.str x])) p2 (.lst [.str x])) p3 (.dK [(Sum.inr x, .str x)])) p4 (.tup [])) p5 (.dK [])) l2 (.lst O))
      clear s1 s2 s3 s4 s5 s6 hl2 h5 h4' h3 h2 h1
      generalize upd (upd (upd (upd (upd (upd Hx p1 (.tup [.str x])) p2 (.lst [.str x])) p3 (.dK [(Sum.inr x, .str x)])) p4 (.tup [])) p5 (.dK [])) l2 (.lst O) = Ho at *
      refine ⟨_, rfl, l2, rfl, ⟨_, SqL.of hl⟩, fun Dl hDl => lc_list (K := K) (a := l2) (xs := O) (fun i Hy => Hy Dl = some (.lst []) ∧ Same Ho Hy) ⟨upd_same, snew hDl⟩ (fun i Hy _ h => SqL.of (h.2 _ _ hl)) ?_ ?_⟩
      · rintro i v Hy hi ⟨hy, sy⟩
        refine ⟨rfl, _, rfl, v, rfl, .inr ⟨((hO v (List.mem_of_getElem? hi)).same sy).odd, fun Hz sz => ⟨false, rfl, iteF ⟨sz _ _ hy, sy.trans sz⟩⟩⟩⟩
      · rintro Hy ⟨hy, sy⟩
        refine ⟨by show 0 ≤ sizeLine; exact Nat.zero_le _, fun q hq => ⟨.list [], .list [], .lst (SqL.of (snew hq _ _ hy)) .nil, .lst (SqL.of upd_same) .nil, shaped_strs (xs := []) (fun _ h => nomatch h), shaped_strs (xs := []) (fun _ h => nomatch h), true, rfl, iteT ?_⟩⟩
        have sq := sy.trans (snew hq (o := .lst []))
        refine ⟨rfl, fun l3 Hz hl3 sz h3 => ⟨l3, rfl, ⟨_, SqL.of h3⟩, fun D2 hD2 => lc_list (K := K) (a := l3) (xs := keptV) (fun i Hy => Hy D2 = some (.lst []) ∧ Same Hz Hy) ⟨upd_same, snew hD2⟩ (fun i Hy _ h => SqL.of (h.2 _ _ h3)) ?_ ?_⟩⟩
        · rintro i v Hw hi ⟨hw, sw⟩
          obtain ⟨z, rfl, pz, z8, zn⟩ := kept_at (List.mem_of_getElem? hi)
          refine ⟨rfl, _, rfl, .str z, rfl, .inl ⟨z, rfl, by omega, pz.asc, fun Hv sv => ⟨_, rfl, ?_⟩⟩⟩
          rw [zn]
          exact iteF ⟨sv _ _ hw, sw.trans sv⟩
        · rintro Hw ⟨hw, sw⟩
          refine ⟨by show 0 ≤ sizeLine; exact Nat.zero_le _, fun q2 hq2 => ⟨.list [], .list [], .lst (SqL.of (snew hq2 _ _ hw)) .nil, .lst (SqL.of upd_same) .nil, shaped_strs (xs := []) (fun _ h => nomatch h), shaped_strs (xs := []) (fun _ h => nomatch h), ?_⟩⟩
          have sEnd := ((sAll.trans sq).trans sz).trans (sw.trans (snew hq2 (o := .lst [])))
          exact k _ ((Dx.same sEnd).mono (by omega)) (Bx.trans (But.of sEnd))
end
end Any
set_option Elab.async false
set_option linter.all false
set_option maxRecDepth 100000
set_option maxHeartbeats 8000000
/-! The law. -/
namespace Any
open PySem PySem.Spec PyProof.Rows L2
open He (ga ma)
def spLaw (K : PySem.W.Frag) : Sp := fun vs H Q _ => ∃ (a : Addr) (ns : List Int), vs = [.ref a] ∧ SqL K H a (ns.map V.int) ∧ ns.length ≤ 63 ∧ ∀ H', Q (.bl true) H'
theorem WAll.dx {K : PySem.W.Frag} {H : Hp} {xs : List V} {ws : List Wd} (h : WAll H xs ws) : DxAll K H xs (ws.map wdD) := by
  induction h with
  | nil => exact .nil
  | cons r _ ih =>
    obtain ⟨p, rfl, e⟩ := r
    exact .cons (.tup (SqT.of e) (.cons (.str _) (.cons (.int _) (.cons (.int _) .nil)))) ih
theorem WAll.dp {K : PySem.W.Frag} {H : Hp} {xs : List V} {ws : List Wd} (h : WAll H xs ws) : DpAll K H xs (ws.map wdD) := by
  induction h with
  | nil => exact .nil
  | cons r _ ih =>
    obtain ⟨p, rfl, e⟩ := r
    exact .cons (.tup (SqT.of e) (.cons (.str _) (.cons (.int _) (.cons (.int _) .nil)))) ih
theorem cut_last (xs : List V) (v : V) : cutV (xs ++ [v]) none (some (-1)) = xs := by
  unfold cutV
  have e : HT.sIx (xs ++ [v]).length (xs ++ [v]).length (some (-1)) = xs.length := by
    unfold HT.sIx
    simp only []
    rw [if_pos (by decide), List.length_append, List.length_singleton]
    omega
  rw [e]
  show ((xs ++ [v]).drop 0).take (xs.length - 0) = xs
  simp
theorem tab_bad (x : Str) : okT (x ++ ("\t" : Str)) = false ∧ okT (("\t" : Str) ++ x) = false := by
  unfold okT
  rw [app_list, app_list, List.all_append, List.all_append]
  have e : (("\t" : Str).cps.toList.all okS) = false := by decide +kernel
  rw [e, Bool.and_false, Bool.false_and]
  exact ⟨rfl, rfl⟩
theorem kept_dp {K : PySem.W.Frag} {H : Hp} : ∀ (xs : List V), (∀ v ∈ xs, ∃ x, v = .str x) → ∃ ss : List Str, xs = ss.map V.str ∧ DpAll K H xs (ss.map PyData.str)
  | [], _ => ⟨[], rfl, .nil⟩
  | v :: xs, h => by
    obtain ⟨x, rfl⟩ := h v (List.mem_cons_self ..)
    obtain ⟨ss, rfl, r⟩ := kept_dp xs fun u hu => h u (List.mem_cons_of_mem _ hu)
    exact ⟨x :: ss, rfl, .cons (.str x) r⟩
theorem tupK_but {H H' : Hp} {d w c : Addr} {t : Int} (D : Draw H d w c t) (b : But d w H H') : TupK H H' := fun p xs e => by
  obtain ⟨ws, cs, r, u, h1, h2, _⟩ := D
  refine b p _ e (fun z => ?_) (fun z => ?_)
  · rw [z, h1] at e
    cases e
  · rw [z, h2] at e
    cases e
def BadV (H : Hp) (v : V) : Prop := (∃ z : Str, v = .str z ∧ z.length ≤ 1000 ∧ okT z = false) ∨ OddP H v
theorem line_lt {n : Nat} (h : n ≤ 1000000) : n < sizeLine := by
  rw [sizeLine_eq]
  omega
theorem op_neDK {X : Cx} {K : PySem.W.Frag} (e : X.K = K) (hu : X.A.units + 64 < cLine) : OpR X (compareOp .NotEq) (rNeD K) := by
  subst e
  exact op_neD hu
def rLenQ (K : PySem.W.Frag) : List V → Hp → VK → Prop := fun xs H Q => ∃ p ys, xs = [V.ref p] ∧ (SqL K H p ys ∨ SqT K H p ys) ∧ Q (.int ys.length) H
theorem call_lenQ {X : Cx} : CallR X (.builtin "len") (rLenQ X.K) := call_len_seq
/-- what the law calls -/
structure CLw (K : PySem.W.Frag) (mg : Str → Option Value) (fB fPi fWk fRt fWd : FuncData) : Prop where
  b : Fun K "_law_begun" "_law_begun" sBegun (ga K "_law_begun") fB
  pi : Fun K "_law_piece" "_law_piece" sPiece (ga K "_law_piece") fPi
  wk : Fun K "_law_walked" "_law_walked" sWalked (ga K "_law_walked") fWk
  rt : Fun K "_law_names_right" "_law_names_right" sRight (ga K "_law_names_right") fRt
  wd : Fun K "words_of" "words_of" sWords (ga K "words_of") fWd
  gb : mg "_law_begun" = some (.ref (ga K "_law_begun"))
  gpi : mg "_law_piece" = some (.ref (ga K "_law_piece"))
  gwk : mg "_law_walked" = some (.ref (ga K "_law_walked"))
  grt : mg "_law_names_right" = some (.ref (ga K "_law_names_right"))
  gwd : mg "words_of" = some (.ref (ga K "words_of"))
section
variable {P : Program} {w : World} {K : PySem.W.Frag} {mg : Str → Option Value} {base : Heap}
abbrev NL : List Str := ["script", "draw", "turn", "text", "told", "odd", "caught", "error", "k"]
theorem scLw : FnScope NL ["script"] (defScope sLaw) := ⟨rfl, rfl, rfl, by decide +kernel, rfl, by decide +kernel, by decide +kernel⟩
theorem ok_law {f : Addr} {fd fM fT fP fR fA fN fL fTx fLn fI fB fPi fWk fRt fWd : FuncData} (F : Fun K "law" "law" sLaw f fd) (T : T00 K mg) (C : CD K mg fM fT fP fR) (N : CN K mg fA fN fL) (Wc : CW K mg fTx fLn fI) (L : CLw K mg fB fPi fWk fRt fWd) : FnG P w K mg base CX0 6 f fd ["script"] (spLaw K) := by
  have bM := C.m.binds (ps := ["draw"]) fun _ _ _ _ _ _ us hl => match us, hl with | [_], _ => rfl
  have bT := C.t.binds (ps := ["draw", "many"]) fun _ _ _ _ _ _ us hl => match us, hl with | [_, _], _ => rfl
  have bP := C.p.binds (ps := ["draw", "some"]) fun _ _ _ _ _ _ us hl => match us, hl with | [_, _], _ => rfl
  have bR := C.r.binds (ps := []) fun _ _ _ _ _ _ us hl => match us, hl with | [], _ => rfl
  have bB := L.b.binds (ps := ["script"]) fun _ _ _ _ _ _ us hl => match us, hl with | [_], _ => rfl
  have bPi := L.pi.binds (ps := ["draw"]) fun _ _ _ _ _ _ us hl => match us, hl with | [_], _ => rfl
  have bWk := L.wk.binds (ps := ["text"]) fun _ _ _ _ _ _ us hl => match us, hl with | [_], _ => rfl
  have bRt := L.rt.binds (ps := ["draw"]) fun _ _ _ _ _ _ us hl => match us, hl with | [_], _ => rfl
  have bWd := L.wd.binds (ps := ["text"]) fun _ _ _ _ _ _ us hl => match us, hl with | [_], _ => rfl
  have bWk2 := Fun.bindsK (ps := ["text"]) (ks := ["text"]) L.wd fun _ _ _ _ _ _ ws hl => match ws, hl with | [_], _ => rfl
  have GB : FnOk P w K mg base CX0 1 _ fB _ _ := ok_begun L.b T.d
  have GP : FnOk P w K mg base CX0 3 _ fP _ _ := ok_pick C.p T.d C.t bT C.gt C.m bM C.gm
  have GR : FnOk P w K mg base CX0 1 _ fR _ _ := ok_res C.r
  have GPi : FnOk P w K mg base CX0 5 _ fPi _ _ := ok_piece L.pi T C N.a N.gan
  have GWk : FnOk P w K mg base CX0 1 _ fWk _ _ := ok_walked L.wk T
  have GRt : FnG P w K mg base CX0 5 _ fRt _ _ := ok_right L.rt T C N
  have GWd : FnOk P w K mg base CX0 2 _ fWd _ _ := ok_words L.wd T Wc
  have GWx : FnOk P w K mg base (L2.CX P w) 3 _ fWd _ _ := ok_wordsX L.wd T Wc
  refine okG F scLw (fun vs H Q E h => ?_) (fun cdv A outer s H vs Q E cl hr h => ?_)
  · obtain ⟨a, ns, rfl, _⟩ := h
    rfl
  · obtain ⟨a, ns, rfl, hS, hl, k⟩ := h
    have hr1 : Room 1 _ := hr.mono (by decide)
    have hr2 : Room 2 _ := hr.mono (by decide)
    have hr3 : Room 3 _ := hr.mono (by decide)
    refine ⟨_, (pss_cons (ps_set (i := 1) scLw.nd rfl (Or.inr rfl) (pe_call GB hr1 (by rfl) L.gb L.b.kp bB .nil pass0 (pa_cons (pv 0) pa_nil)))
      (pss_cons (ps_if (pt_cmpR (op_neD hr.units) (pe_glob (v := .ref (ga K "KEPT")) (by rfl) T.kept rfl) (pe_callTy call_tuple_of (by rfl) T.tup (by decide +kernel) (pa_cons (pe_call0 GR hr1 (by rfl) C.gr C.r.kp bR .nil pass0) pa_nil)) (nomark _)) (pss_one (ps_ret pe_bl)) pss_nil)
      (pss_cons (ps_for PassesOwn.never rfl (pi_range1 (by rfl) T.rng (pa_cons (pe_op op_add pe_int (pe_callB (call_min2 rfl) (by rfl) T.min (by decide +kernel) (pa_cons (pe_callB call_lenQ (by rfl) T.d.len PySem.boot_len (pa_cons (pv 0) pa_nil)) (pa_cons pe_int pa_nil)))) pa_nil)) (pg_name (i := 2) scLw.nd rfl (Or.inl rfl))
        (pss_cons (ps_set (i := 3) scLw.nd rfl (Or.inl rfl) (pe_join pe_str (pe_lc (own := [("k", 8)]) (g := gName 8) rfl scLw.nd (pi_range1 (by rfl) T.rng (pa_cons (pe_call GP hr3 (by rfl) C.gp C.p.kp bP .nil pass0 (pa_cons (pv 1) (pa_cons (pe_lst (pa_cons pe_int (pa_cons pe_int (pa_cons pe_int (pa_cons pe_int (pa_cons pe_int (pa_cons pe_int pa_nil))))))) pa_nil))) pa_nil)) (blkOk_by (own := [("k", 8)]) (N := NL) (sc := defScope sLaw) (by decide +kernel))
          (fun _ _ _ _ _ => pg_name (i := 8) scLw.nd rfl (Or.inl rfl)) (fun _ _ _ _ _ => pts_nil) (fun _ _ _ _ _ => pe_call GPi hr (by rfl) L.gpi L.pi.kp bPi .nil pass0 (pa_cons (pv 1) pa_nil)))))
        (pss_cons (ps_set (i := 4) scLw.nd rfl (Or.inl rfl) (pe_call GWd hr2 (by rfl) L.gwd L.wd.kp bWd .nil pass0 (pa_cons (pv 3) pa_nil)))
        (pss_cons (ps_if (PW.pt (pw_or (pt_cmpR op_ne (pe_callB (call_repr T.sys cl hr.units) (by rfl) T.rpr (by decide +kernel) (pa_cons (pv 4) pa_nil)) (pe_callB (call_repr T.sys cl hr.units) (by rfl) T.rpr (by decide +kernel) (pa_cons (pe_call GWk hr1 (by rfl) L.gwk L.wk.kp bWk .nil pass0 (pa_cons (pv 3) pa_nil)) pa_nil)) (nomark _))
          (pw_or1 (pt_not (pt_val (pe_callG GRt cl hr (by rfl) L.grt L.rt.kp bRt .nil pass0 (pa_cons (pv 1) pa_nil))))))) (pss_one (ps_ret pe_bl)) pss_nil)
        (pss_cons (ps_expr (pe_bm PySem.F.plainAttrs_list PySem.F.slot_list_append PySem.F.type_list_append mt_append (pv 4) (pa_cons (pe_tup (pa_cons pe_str (pa_cons pe_int (pa_cons pe_int pa_nil)))) pa_nil)))
        (pss_cons (ps_if (pt_cmpR (op_neD hr.units) (pe_callK0 GWd hr2 (by rfl) L.gwd L.wd.kp bWk2 pass0 (pk_cons (pv 3) pk_nil)) (pe_slice sl_list (pv 4) po_none (po_some (pe_un un_neg pe_int))) (nomark _)) (pss_one (ps_ret pe_bl)) pss_nil)
        (pss_cons (ps_par (i := 5) (j := 6) rfl scLw.nd rfl rfl (by decide) rfl rfl (pa_cons (pe_call GP hr3 (by rfl) C.gp C.p.kp bP .nil pass0 (pa_cons (pv 1) (pa_cons (pe_lst (pa_cons pe_non (pa_cons pe_int (pa_cons pe_bl (pa_cons (pe_lst (pa_cons (pv 3) pa_nil)) (pa_cons (pe_tup (pa_cons (pv 3) pa_nil)) (pa_cons pe_dnewK (pa_cons (pe_op op_add_str (pv 3) pe_str) (pa_cons (pe_op op_add_str pe_str (pv 3)) (pa_cons (pe_lst (pa_cons pe_str (pa_cons pe_str pa_nil))) (pa_cons pe_int pa_nil))))))))))) pa_nil))) (pa_cons pe_non pa_nil)) (by rfl))
        (pss_try_keep (i := 7) rfl rfl scLw.nd rfl rfl ⟨rfl, by decide, .inl T.gM⟩ takes0 (fun W pn xe tk _ => pss_one (ps_expr (pe_callS GWx hr3 (by rfl) L.gwd L.wd.kp bWd (fun σ => passAt tk σ) (pa_cons (pv 5) pa_nil))))
          (fun a oe cls d pn hz hf => pss_one (ps_set (i := 6) scLw.nd rfl (Or.inl rfl) (pv 7)))
          pss_never
          (fun a oe cls d pn hz hf => pss_one (ps_if (PW.pt (pw_or (pt_not (pt_val (pe_callB (call_isPin hz hf) (by rfl) T.isi (by decide +kernel) (pa_cons (pv 6) (pa_cons (pe_glob (v := .ref (ga K "BadText")) (by rfl) T.gT rfl) pa_nil)))))
            (pw_or1 (pt_cmpR (op_neDK (K := K) rfl hr.units) (pe_tup (pa_cons (pe_pinF hz hf (pv 6)) (pa_cons (pe_pinF hz hf (pv 6)) (pa_cons (pe_pinF hz hf (pv 6)) pa_nil)))) (pe_tup (pa_cons pe_non (pa_cons pe_non (pa_cons pe_non pa_nil)))) (nomark _))))) (pss_one (ps_ret pe_bl)) pss_nil))))))))))
      (pss_one (ps_ret pe_bl))))), ?_⟩
    -- the draw
    refine ⟨_, rfl, a, ns, rfl, hS, hl, fun d w c H1 D1 s1 hd0 hw0 hc0 => ?_⟩
    -- the kept words
    refine ⟨rfl, fun l H2 hl2 s2 h2 => ⟨l, keptV, rfl, .inl ⟨SqL.of h2, fun q hq => ?_⟩⟩⟩
    obtain ⟨ss, ess, dp⟩ := kept_dp (K := K) (H := upd H2 q (.tup keptV)) keptV fun v hv => by
      obtain ⟨x, e, _⟩ := kept_at hv
      exact ⟨x, e⟩
    have ash : SeqAt.shaped (.tuple (ss.map PyData.str)) = true := shaped_strs (xs := ss) fun x hx => by
      obtain ⟨y, e, py, _⟩ := kept_at (v := .str x) (by rw [ess]; exact List.mem_map.mpr ⟨x, hx, rfl⟩)
      cases e
      exact py.asc
    refine ⟨.tuple (ss.map PyData.str), .tuple (ss.map PyData.str), .tup (T.keptT _) dp, .tup (SqT.of upd_same) dp, ash, ash, _, rfl, ?_⟩
    rw [SeqAt.eqv_refl _ (SeqAt.canLay_of_shaped ash)]
    refine iteF ?_
    have s3 := s1.trans (s2.trans (snew hq (o := .tup keptV)))
    have D3 := D1.same (s2.trans (snew hq (o := .tup keptV)))
    show tSeq _ _ _ ([some (.ref a), some (.ref d), none, none, none, none, none, none, none] : L2.St) (upd H2 q (.tup keptV))
    clear dp
    generalize upd H2 q (.tup keptV) = H3 at *
    -- the turns
    refine ⟨_, rfl, a, _, rfl, .inl (s3.seq hS), _, _, rfl, _, _, rfl, rfl, _, rfl, ?_, ?_, for_range (fun i σ Hx => ∃ v2 v3 v4 v5 v6 v8 : Option V, σ = [some (.ref a), some (.ref d), v2, v3, v4, v5, v6, none, v8] ∧ Draw Hx d w c (2000 * i)) ⟨none, none, none, none, none, none, rfl, D3.mono (by omega)⟩ ?_ ?_⟩
    · split <;> simp <;> omega
    · split <;> simp <;> omega
    · rintro i σ Hx hi ⟨v2, v3, v4, v5, v6, v8, rfl, D0⟩
      have hi9 : i < 9 := by
        refine Nat.lt_of_lt_of_le hi ?_
        rw [List.length_map]
        split <;> omega
      generalize ht : (2000 * (i : Int) : Int) = t at *
      have t0 : 0 ≤ t := by omega
      have t9 : t ≤ 16000 := by omega
      show tSeq _ _ _ ([some (.ref a), some (.ref d), some (.int (0 + i)), v3, v4, v5, v6, none, v8] : L2.St) _
      -- the text
      refine ⟨⟨_, rfl⟩, _, rfl, by show 6 ≤ sizeLine; decide, fun l hl => ?_⟩
      have nl := D0.fresh hl
      refine ⟨d, w, c, l, t, _, rfl, D0.same (snew hl), by omega, SqL.of upd_same, nl.1, nl.2, by simp, by show 6 < 1073741824; decide, fun v H4 hv D4 B4 => ?_⟩
      have hn : ∃ n : Int, v = .int n ∧ 0 ≤ n ∧ n ≤ 40 := by
        simp only [List.mem_cons, List.not_mem_nil, or_false] at hv
        rcases hv with rfl | rfl | rfl | rfl | rfl | rfl <;> exact ⟨_, rfl, by decide, by decide⟩
      obtain ⟨n, rfl, n0, n40⟩ := hn
      refine ⟨n, rfl, by omega, by omega, fun Dl hDl => ?_⟩
      have nD := D4.fresh hDl
      have nD3 := D4.ne3 hDl
      refine lc_range (fun j Hy => ∃ ys : List Str, ys.length = j ∧ (∀ y ∈ ys, Prn y ∧ y.length ≤ 8) ∧ Hy Dl = some (.lst (ys.map V.str)) ∧ Draw Hy d w c (t + 1 + 30 * j)) ?_ ?_ ?_
      · exact ⟨[], rfl, (fun y h => nomatch h), upd_same, (D4.upd nD.1 nD.2 nD3).mono (by omega)⟩
      · rintro j Hy hj ⟨ys, yl, yp, hy, Dy⟩
        refine ⟨rfl, yes_if ?_⟩
        refine ⟨_, rfl, d, w, c, t + 1 + 30 * j, rfl, Dy, by omega, fun x H5 x8 px D5 B5 => ?_⟩
        have h5 := B5 _ _ hy nD.1 nD.2
        refine ⟨_, h5, ?_, ys ++ [x], ?_, ?_, ?_, ?_⟩
        · rw [List.length_map]
          exact small1000 (by omega)
        · rw [List.length_append, List.length_singleton, yl]
        · intro y hy'
          rcases List.mem_append.mp hy' with q | q
          · exact yp y q
          · rw [List.mem_singleton.mp q]
            exact ⟨px, x8⟩
        · rw [upd_same, List.map_append]
          rfl
        · exact (D5.upd nD.1 nD.2 nD3).mono (by omega)
      rintro H5 ⟨ys, yl, yp, hy, D5⟩
      have y8 : ∀ y ∈ ys, y.length ≤ 8 := fun y hy => (yp y hy).2
      have sz := sum_le ys y8
      refine ⟨_, Dl, ys, rfl, rfl, .inl (SqL.of hy), ?_, ?_⟩
      · have e0 : ("" : Str).length = 0 := rfl
        rw [e0]
        omega
      rw [TL.join_eq]
      have jl := join_len ys y8
      have jp := join_nil ys fun y hy => (yp y hy).1
      have ej : Str.join ("" : Str) ys = Str.join Str.empty ys := rfl
      rw [ej]
      dsimp only [gName]
      show tSeq _ _ _ ([some (.ref a), some (.ref d), some (.int (0 + i)), some (.str (Str.join Str.empty ys)), v4, v5, v6, none, v8] : L2.St) _
      have x320 : (Str.join Str.empty ys).length ≤ 320 := by omega
      generalize Str.join Str.empty ys = x at *
      replace D5 : Draw H5 d w c (t + 1300) := D5.mono (by omega)
      clear D4 B4 hDl nD nD3 sz jl ej hy
      have wok := words_ok jp.asc (by omega : x.length ≤ 699)
      -- told
      refine ⟨_, rfl, x, rfl, by omega, jp.okT, fun L4 xs H6 hL4 s6 h6 W6 => ?_⟩
      have n4 := D5.fresh hL4
      have n43 := D5.ne3 hL4
      dsimp only [gName]
      show tSeq _ _ _ ([some (.ref a), some (.ref d), some (.int (0 + i)), some (.str x), some (.ref L4), v5, v6, none, v8] : L2.St) _
      refine ⟨_, rfl, _, wsD (wordsL x.cps.toList), rfl, .lst (SqL.of h6) W6.dx, wsD_show wok, wsD_depth _, wsD_shown wok, ?_⟩
      refine ⟨_, rfl, x, rfl, by omega, fun L5 zs H7 hL5 s7 h7 W7 => ?_⟩
      refine ⟨_, wsD (wordsL x.cps.toList), rfl, .lst (SqL.of h7) W7.dx, wsD_show wok, wsD_depth _, wsD_shown wok, ?_⟩
      refine ⟨rfl, _, rfl, ?_⟩
      rw [decide_eq_true rfl]
      refine iteF ?_
      refine ⟨_, rfl, d, w, c, t + 1300, rfl, D5.same (s6.trans s7), by omega, fun H8 D8 B8 => ⟨true, rfl, ?_⟩⟩
      refine iteF ?_
      have h8 := B8 _ _ (s7 _ _ h6) n4.1 n4.2
      have W8 := (W6.keep (tupK_same s7)).keep (tupK_but (D5.same (s6.trans s7)) B8)
      have xl := W6.length
      have xm := wok.many
      -- told.append
      refine ⟨_, rfl, .inl ⟨rfl, _, SqL.of h8⟩, by show 3 ≤ sizeLine; decide, fun p hp => ⟨L4, xs, _, rfl, rfl, snew hp _ _ h8, line_lt (by omega), ?_⟩⟩
      have D9 := (D8.same (snew hp (o := .tup [.str "a", .int 1, .int 1]))).upd n4.1 n4.2 n43 (o := .lst (xs ++ [.ref p]))
      have W9 := (W8.keep (tupK_same (snew hp (o := .tup [.str "a", .int 1, .int 1])))).keep (tupK_lst (snew hp _ _ h8) (ys := xs ++ [.ref p]))
      have h9 : (upd (upd H8 p (.tup [.str "a", .int 1, .int 1])) L4 (.lst (xs ++ [.ref p]))) L4 = some (.lst (xs ++ [.ref p])) := upd_same
      generalize upd (upd H8 p (.tup [.str "a", .int 1, .int 1])) L4 (.lst (xs ++ [.ref p])) = H9 at *
      -- words_of(text=text)
      refine ⟨_, rfl, x, rfl, by omega, jp.okT, fun L6 us H10 hL6 s10 h10 W10 => ?_⟩
      refine ⟨_, rfl, _, rfl, _, rfl, L4, _, rfl, SqL.of (s10 _ _ h9), fun q hq => ?_⟩
      rw [cut_last]
      refine ⟨wsD (wordsL x.cps.toList), wsD (wordsL x.cps.toList), .lst (SqL.of (snew hq _ _ h10)) (W10.keep (tupK_same (snew hq))).dp, .lst (SqL.of upd_same) ((W9.keep (tupK_same s10)).keep (tupK_same (snew hq))).dp, wsD_shaped wok, wsD_shaped wok, _, rfl, ?_⟩
      rw [SeqAt.eqv_refl _ (wsD_canLay wok)]
      refine iteF ?_
      have D11 := (D9.same s10).same (snew hq (o := .lst xs))
      clear W10 h10 hL6 h9 W9 D8 B8 W8 h8 W7 h7 W6 h6 D5 hL4 hL5 hp
      generalize upd H10 q (.lst xs) = H11 at *
      -- odd
      refine ⟨_, rfl, _, rfl, by show 1 ≤ sizeLine; decide, fun p1 h1 => ?_⟩
      refine ⟨_, rfl, by show 1 ≤ sizeLine; decide, fun p2 h2 => ?_⟩
      intro p3 h3
      refine ⟨_, rfl, _, _, rfl, rfl, line_le (by show x.length + 1 ≤ _; omega), _, rfl, _, _, rfl, rfl, line_le (by show 1 + x.length ≤ _; omega), by show 2 ≤ sizeLine; decide, fun p4 h4 => ?_⟩
      refine ⟨by show 10 ≤ sizeLine; decide, fun l4 hl4 => ?_⟩
      have z1 := snew h1 (o := .lst [.str x])
      have z2 := snew h2 (o := .tup [.str x])
      have z3 := snew h3 (o := .dK [])
      have z4 := snew h4 (o := .lst [.str "a", .str "b"])
      have z5 := snew hl4 (o := .lst [.non, .int 5, .bl true, .ref p1, .ref p2, .ref p3, .str (x ++ ("\t" : Str)), .str (("\t" : Str) ++ x), .ref p4, .int 0])
      have f1 := D11.fresh h1
      have f2 := (D11.same z1).fresh h2
      have f3 := ((D11.same z1).same z2).fresh h3
      have f4 := (((D11.same z1).same z2).same z3).fresh h4
      have f5 := ((((D11.same z1).same z2).same z3).same z4).fresh hl4
      have D12 := ((((D11.same z1).same z2).same z3).same z4).same z5
      have g1 := z5 _ _ (z4 _ _ (z3 _ _ (z2 p1 _ upd_same)))
      have g2 := z5 _ _ (z4 _ _ (z3 p2 _ upd_same))
      have g3 := z5 _ _ (z4 p3 _ upd_same)
      have g4 := z5 p4 _ upd_same
      refine ⟨d, w, c, l4, t + 1300 + 30, _, rfl, D12, by omega, SqL.of upd_same, f5.1, f5.2, by simp, by show 10 < 1073741824; decide, fun v H12 hv D13 B13 => ⟨_, _, rfl, ?_⟩⟩
      have bad : BadV H12 v := by
        have tb := tab_bad x
        simp only [List.mem_cons, List.not_mem_nil, or_false] at hv
        rcases hv with rfl | rfl | rfl | rfl | rfl | rfl | rfl | rfl | rfl | rfl
        · exact .inr (.inl rfl)
        · exact .inr (.inr (.inl ⟨_, rfl⟩))
        · exact .inr (.inr (.inr (.inl ⟨_, rfl⟩)))
        · exact .inr (.inr (.inr (.inr (.inr (.inl ⟨_, _, rfl, B13 _ _ g1 f1.1 f1.2⟩)))))
        · exact .inr (.inr (.inr (.inr (.inl ⟨_, _, rfl, B13 _ _ g2 f2.1 f2.2⟩))))
        · exact .inr (.inr (.inr (.inr (.inr (.inr ⟨_, _, rfl, B13 _ _ g3 f3.1 f3.2⟩)))))
        · exact .inl ⟨_, rfl, by rw [app_len]; show x.length + 1 ≤ _; omega, tb.1⟩
        · exact .inl ⟨_, rfl, by rw [app_len]; show 1 + x.length ≤ _; omega, tb.2⟩
        · exact .inr (.inr (.inr (.inr (.inr (.inl ⟨_, _, rfl, B13 _ _ g4 f4.1 f4.2⟩)))))
        · exact .inr (.inr (.inl ⟨_, rfl⟩))
      clear g1 g2 g3 g4 hv D12 B13 z1 z2 z3 z4 z5 f1 f2 f3 f4 f5
      -- the try
      have hv : (∃ z : Str, v = .str z ∧ z.length ≤ 1000 ∧ okT z = false) ∨ Odd K H12 v := bad.imp id OddP.odd
      refine ⟨_, rfl, v, rfl, hv, fun dd H13 hdd s13 hx => ⟨true, T.exm, fun _ ae hae => ?_, fun z => nomatch z⟩⟩
      refine ⟨_, rfl, ?_⟩
      intro hae2
      refine ⟨_, rfl, ga K "BadText", dd, badF, _, .ref (ga K "BadText"), true, rfl, rfl, rfl, hx, T.err, .own _, T.kit, true, rfl, ?_⟩
      refine iteF ?_
      refine ⟨_, rfl, ga K "BadText", dd, badF, .non, rfl, rfl, rfl, hx, T.err, T.noL, by decide +kernel, ?_⟩
      refine ⟨_, rfl, ga K "BadText", dd, badF, .non, rfl, rfl, rfl, hx, T.err, T.noC, by decide +kernel, ?_⟩
      refine ⟨_, rfl, ga K "BadText", dd, badF, .non, rfl, rfl, rfl, hx, T.err, T.noW, by decide +kernel, ?_⟩
      refine ⟨by show 3 ≤ sizeLine; decide, fun q1 hq1 => ⟨by show 3 ≤ sizeLine; decide, fun q2 hq2 => ?_⟩⟩
      refine ⟨.tuple [.none, .none, .none], .tuple [.none, .none, .none], .tup (SqT.of (snew hq2 _ _ upd_same)) (.cons .non (.cons .non (.cons .non .nil))), .tup (SqT.of upd_same) (.cons .non (.cons .non (.cons .non .nil))), by decide +kernel, by decide +kernel, false, by rfl, ?_⟩
      refine iteF ?_
      exact ⟨_, _, _, _, _, _, rfl, (D13.same (s13.trans ((snew hq1).trans (snew hq2)))).mono (by omega)⟩
    · rintro σ Hx ⟨v2, v3, v4, v5, v6, v8, rfl, _⟩
      exact k _
end
end Any
set_option Elab.async false
set_option linter.all false
set_option maxRecDepth 100000
set_option maxHeartbeats 4000000
/-! A head whose facts are one Bool over the written part, and the defs of the text. -/
namespace Any
open PySem PySem.Spec PyProof.Rows L2
open He (ga ma)
/-- what the head reads -/
def adrs (g : Addr → Option Obj) (n : Nat) : List Addr := sysModules :: cStatics :: He.asD g n
abbrev AlX : Type := Bool × List He.FnW
def obsX (chk : PySem.W.Frag → Bool) (fn : List He.DefD) (K : PySem.W.Frag) : AlX := (chk K && fn.all fun d => d.ok K, fn.map fun d => He.fnW K d.at_)
def valX (fn : List He.DefD) : AlX := (true, fn.map He.DefD.val)
def hookX (n : Nat) (chk : PySem.W.Frag → Bool) (fn : List He.DefD) : PySem.W.Hook where
  α := AlX
  obs := fun s => obsX chk fn (He.frG s.heap.get? (adrs s.heap.get? n))
  val := fun _ => valX fn
  says := fun _ h => ∃ K : PySem.W.Frag, K.In h ∧ obsX chk fn K = valX fn
  of := fun _ _ e => ⟨_, He.frG_in, e⟩
  keeps := fun _ _ _ ⟨K, hK, c⟩ k => ⟨K, PySem.W.Frag.In.keeps hK k, c⟩
theorem obsX_eq {n : Nat} {chk : PySem.W.Frag → Bool} {fn : List He.DefD} (s : PySem.W.SharedT) : obsX chk fn (He.frG (HandSHeadRun.getT s) (adrs (HandSHeadRun.getT s) n)) = (hookX n chk fn).obs s.abs := by
  have e : HandSHeadRun.getT s = s.abs.heap.get? := funext (HandSHeadRun.getT_eq s)
  rw [e]
  rfl
section
variable {chk : PySem.W.Frag → Bool} {fn : List He.DefD} {K : PySem.W.Frag}
theorem saysX_chk (c : obsX chk fn K = valX fn) : chk K = true := (Bool.and_eq_true_iff.mp (congrArg (fun z : AlX => z.1) c : (chk K && fn.all fun d => d.ok K) = true)).1
theorem saysX_def (c : obsX chk fn K = valX fn) (i : Nat) {d : He.DefD} (h : fn[i]? = some d := by rfl) : ∃ fd, L2.FunD K d.name d.qual d.params d.body d.scope (d.dvs K) (d.kws K) (He.fAd K d.at_) fd := by
  have c1 := (Bool.and_eq_true_iff.mp (congrArg (fun z : AlX => z.1) c : (chk K && fn.all fun d => d.ok K) = true)).2
  have e : fn.map (fun d => He.fnW K d.at_) = fn.map He.DefD.val := congrArg (fun z : AlX => z.2) c
  have e2 : (fn.map fun d => He.fnW K d.at_)[i]? = (fn.map He.DefD.val)[i]? := by rw [e]
  rw [List.getElem?_map, List.getElem?_map, h] at e2
  exact He.DefD.funD (Option.some.inj e2) (List.all_eq_true.mp c1 d (List.mem_of_getElem? h))
end
/-- a def of the text, without defaults -/
def defD (at_ : Str × Option Str) (x q : Str) (st : Stmt) : He.DefD := ⟨at_, x, q, defArgs st, defBody st, defScope st, [], []⟩
theorem fun_ofD {K : PySem.W.Frag} {x q : Str} {st : Stmt} {f : Addr} {fd : FuncData} (F : L2.FunD K x q (defArgs st) (defBody st) (defScope st) [] [] f fd) : Fun K x q st f fd := by
  obtain ⟨oc, od, dV, kV, doc, pm, an, cdv, ct, osl, e, lk, hc, hd, _⟩ := F.ex
  rcases hd with ⟨_, rfl⟩ | ⟨z, _⟩
  · exact ⟨⟨oc, od, kV, doc, pm, an, cdv, ct, osl, e, lk, hc⟩, F.kp⟩
  · exact absurd rfl z
/-! ### facts as Bools -/
section
variable {K : PySem.W.Frag}
theorem band {a b : Bool} (h : (a && b) = true) : a = true ∧ b = true := Bool.and_eq_true_iff.mp h
def sysB (K : PySem.W.Frag) : Bool := match K.lookup sysModules with
  | some o => decide (o.cls = .type "dict")
  | none => false
theorem sysB_ok (h : sysB K = true) : SysD K := by
  unfold sysB at h
  cases e : K.lookup sysModules with
  | none =>
    rw [e] at h
    cases h
  | some o =>
    rw [e] at h
    exact ⟨o, e, of_decide_eq_true h⟩
def errB (K : PySem.W.Frag) (D : Addr) : Bool :=
  He.eqO (PySem.W.findIn K (.ref D) "__getattribute__") (some (some (.builtin "BaseException.__getattribute__"))) && (He.eqO (PySem.W.findIn K (.ref D) "__getattr__") (some none) &&
    (decide (PySem.W.subIn K (.ref D) (.type "BaseException") = some true) && (PySem.W.hasDictIn K D && (He.eqO (PySem.W.findIn K (.ref D) "__class__") (some (some (.builtin "object.__class__"))) &&
      (He.eqO (PySem.W.specialIn K (.builtin "object.__class__") "__get__") (some (some (.builtin "getset_descriptor.__get__"))) && (decide (PySem.W.takesIn K (.builtin "object.__class__") = some true) && decide (PySem.W.mroIn K D (.type "object") = some true)))))))
theorem errB_ok {D : Addr} (h : errB K D = true) : ErrC K D := by
  obtain ⟨h1, h⟩ := band h
  obtain ⟨h2, h⟩ := band h
  obtain ⟨h3, h⟩ := band h
  obtain ⟨h4, h⟩ := band h
  obtain ⟨h5, h⟩ := band h
  obtain ⟨h6, h⟩ := band h
  obtain ⟨h7, h8⟩ := band h
  exact ⟨He.eqO_ok h1, He.eqO_ok h2, of_decide_eq_true h3, h4, He.eqO_ok h5, He.eqO_ok h6, of_decide_eq_true h7, of_decide_eq_true h8⟩
def oexB (K : PySem.W.Frag) (C : Addr) : Bool := (match K.lookup C with
  | some ⟨.type t, _, .cls cd, sl⟩ => decide (t = "type") && (match cd.mro, sl.toList with
    | .ref C' :: bm, [_, _, _, _, some (.builtin n), _] => decide (C' = C) && (decide (n = "ValueError.__new__") && (!cd.hasDel && (cd.hasDict && HandSPX.refsVE bm)))
    | _, _ => false)
  | _ => false) && (He.eqO (PySem.W.findIn K (.ref C) "__setattr__") (some (some (.builtin "object.__setattr__"))) && (decide (PySem.W.subIn K (.ref C) (.type "BaseException") = some true) &&
    (decide (PySem.W.typeIn K (.ref C) = some (.type "type")) && PySem.W.keepIn K (.ref C))))
theorem oexB_ok {C : Addr} (h : oexB K C = true) : OexC K C := by
  obtain ⟨h1, h⟩ := band h
  obtain ⟨h2, h⟩ := band h
  obtain ⟨h3, h⟩ := band h
  obtain ⟨h4, h5⟩ := band h
  refine ⟨?_, He.eqO_ok h2, of_decide_eq_true h3, of_decide_eq_true h4, h5⟩
  cases e : K.lookup C with
  | none =>
    rw [e] at h1
    cases h1
  | some o =>
    rw [e] at h1
    obtain ⟨oc, od, dt, sl⟩ := o
    cases oc with
    | type t =>
      cases dt with
      | cls cd =>
        obtain ⟨nm, bs, mro, ns, qn, hd, sn, sb, ab, col, del⟩ := cd
        obtain ⟨ht, h1⟩ := band h1
        cases of_decide_eq_true ht
        dsimp only at h1
        obtain ⟨sl⟩ := sl
        split at h1
        · rename_i C' bm k0 k1 k2 k3 n k5 hs _
          obtain ⟨_, h1⟩ := band h1
          obtain ⟨q1, h1⟩ := band h1
          obtain ⟨q2, h1⟩ := band h1
          obtain ⟨q3, h1⟩ := band h1
          obtain ⟨q4, q5⟩ := band h1
          cases of_decide_eq_true q1
          cases of_decide_eq_true q2
          have q3' : del = false := by simpa using q3
          have q4' : hd = true := q4
          subst q3' q4'
          have hs' : sl = [k0, k1, k2, k3, some (.builtin "ValueError.__new__"), k5] := hs
          subst hs'
          exact ⟨nm, qn, ns, bs, bm, sn, sb, ab, col, od, k0, k1, k2, k3, k5, rfl, q5⟩
        · cases h1
      | _ => cases h1
    | _ => cases h1
def baseB (K : PySem.W.Frag) (M : Addr) : Bool := PySem.W.readsIn K M (.type "type") && ((match PySem.W.findCls K (.ref M) (.type "type") "__init__" with
  | some (.val v) => decide (v = .builtin "ValueError.__init__")
  | _ => false) && He.eqO (PySem.W.specialIn K (.ref M) "__getattribute__") (some (some (.builtin "type.__getattribute__"))))
theorem baseB_ok {M : Addr} (h : baseB K M = true) : BaseI K M := by
  obtain ⟨h1, h⟩ := band h
  obtain ⟨h2, h3⟩ := band h
  refine ⟨h1, ?_, He.eqO_ok h3⟩
  cases e : PySem.W.findCls K (.ref M) (.type "type") "__init__" with
  | none =>
    rw [e] at h2
    cases h2
  | some c =>
    rw [e] at h2
    cases c with
    | val v => rw [of_decide_eq_true h2]
    | get g a o t => cases h2
end
end Any
set_option Elab.async false
set_option linter.all false
set_option maxRecDepth 100000
set_option maxHeartbeats 0
namespace Any
open PySem PySem.Spec PyProof.Rows L2
open He (ga ma)
def free00 : List Str := (["abs", "int", "len", "isinstance", "enumerate", "all", "repr", "tuple", "range", "str", "min", "ValueError"] : List String).map Str.ofString
def defs00 : List Str := (["is_name", "is_text", "words_of", "words_of_line", "_law_begun", "_law_mixed", "_law_take", "_law_pick", "_law_is_name", "_law_reserved", "_law_any_name", "_law_walked", "_law_piece", "_law_names_right", "law", "BadText", "MakerError", "KEPT"] : List String).map Str.ofString
def gloB (K : PySem.W.Frag) (x : Str) : Bool := He.eqO (PySem.W.nsIn K mainGlobals x) (some (some (.ref (ga K x))))
def letB (K : PySem.W.Frag) : Bool := match PySem.W.nsIn K mainGlobals "LETTERS" with
  | some (some (.str x _)) => decide (x = letS)
  | _ => false
theorem letB_ok {K : PySem.W.Frag} (h : letB K = true) : ∃ t, PySem.W.nsIn K mainGlobals "LETTERS" = some (some (.str letS t)) := by
  unfold letB at h
  split at h
  · rename_i x t e
    rw [of_decide_eq_true h] at e
    exact ⟨t, e⟩
  · cases h
def strsB : List V → List Value → Bool
  | [], [] => true
  | .str x :: xs, .str y _ :: ys => decide (x = y) && strsB xs ys
  | _, _ => false
theorem strsB_ok : ∀ {xs : List V} {ys : List Value}, strsB xs ys = true → Vals xs ys
  | [], [], _ => .nil
  | .str x :: xs, .str y t :: ys, h => by
    obtain ⟨h1, h2⟩ := band h
    exact .cons ⟨t, by rw [of_decide_eq_true h1]⟩ (strsB_ok h2)
  | [], _ :: _, h => by cases h
  | .str _ :: _, [], h => by cases h
  | .str _ :: _, .none :: _, h => by cases h
  | .str _ :: _, .ref _ :: _, h => by cases h
  | .str _ :: _, .bool _ :: _, h => by cases h
  | .str _ :: _, .int _ _ :: _, h => by cases h
  | .str _ :: _, v :: _, h => by
    cases v with
    | str y t =>
      obtain ⟨h1, h2⟩ := band h
      exact .cons ⟨t, by rw [of_decide_eq_true h1]⟩ (strsB_ok h2)
    | _ => cases h
  | .non :: _, _, h => by cases h
  | v :: _, ys, h => by
    cases v with
    | str x =>
      cases ys with
      | nil => cases h
      | cons u us =>
        cases u with
        | str y t =>
          obtain ⟨h1, h2⟩ := band h
          exact .cons ⟨t, by rw [of_decide_eq_true h1]⟩ (strsB_ok h2)
        | _ => cases h
    | _ => cases h
def keptTB (K : PySem.W.Frag) : Bool := match K.lookup (ga K "KEPT") with
  | some ⟨.type "tuple", _, .seq its _, _⟩ => decide (its.size ≤ 100) && strsB keptV its.toList
  | _ => false
theorem keptTB_ok {K : PySem.W.Frag} (h : keptTB K = true) (H : Hp) : SqT K H (ga K "KEPT") keptV := by
  unfold keptTB at h
  split at h
  · rename_i dd its n sl e
    obtain ⟨h1, h2⟩ := band h
    exact .inr ⟨_, its, n, e, rfl, rfl, line_le (Nat.le_trans (of_decide_eq_true h1) (by decide)), strsB_ok h2⟩
  · cases h
def chk00 (K : PySem.W.Frag) : Bool :=
  (free00.all fun x => He.eqO (PySem.W.nsIn K mainGlobals x) (some none)) && (sysB K && ((defs00.all (gloB K)) && (letB K && (keptTB K && (errB K (ga K "BadText") &&
    (decide (PySem.W.kitOne K (.ref (ga K "BadText")) (.ref (ga K "BadText")) = some true) && (decide (PySem.W.exmOne K (.ref (ga K "BadText")) (.ref (ga K "MakerError")) = some true) && (oexB K (ga K "BadText") &&
      ((He.eqO (PySem.W.findIn K (.ref (ga K "BadText")) "__init__") (some (some (.ref (ma K (ga K "BadText") "__init__")))) && decide (PySem.W.typeIn K (.ref (ma K (ga K "BadText") "__init__")) = some (.type "function"))) &&
        (baseB K (ga K "MakerError") && (He.eqO (PySem.W.findIn K (.ref (ga K "BadText")) "line") (some none) && (He.eqO (PySem.W.findIn K (.ref (ga K "BadText")) "column") (some none) && He.eqO (PySem.W.findIn K (.ref (ga K "BadText")) "wanted") (some none)))))))))))))
def fn00 : List He.DefD := [defD ("is_name", none) "is_name" "is_name" sIsName, defD ("is_text", none) "is_text" "is_text" sIsText, defD ("words_of", none) "words_of" "words_of" sWords, defD ("words_of_line", none) "words_of_line" "words_of_line" sLine,
  defD ("_law_begun", none) "_law_begun" "_law_begun" sBegun, defD ("_law_mixed", none) "_law_mixed" "_law_mixed" sMixed, defD ("_law_take", none) "_law_take" "_law_take" sTake, defD ("_law_pick", none) "_law_pick" "_law_pick" sPick,
  defD ("_law_is_name", none) "_law_is_name" "_law_is_name" sLIsName, defD ("_law_reserved", none) "_law_reserved" "_law_reserved" sReserved, defD ("_law_any_name", none) "_law_any_name" "_law_any_name" sAnyName, defD ("_law_walked", none) "_law_walked" "_law_walked" sWalked,
  defD ("_law_piece", none) "_law_piece" "_law_piece" sPiece, defD ("_law_names_right", none) "_law_names_right" "_law_names_right" sRight, defD ("law", none) "law" "law" sLaw, defD ("BadText", some "__init__") "__init__" "BadText.__init__" iText]
theorem t00_of {K : PySem.W.Frag} {h : Heap} {mg : Str → Option Value} (X : K.In h) (G : h.Ns mainGlobals mg) (c : chk00 K = true) : T00 K mg ∧ ∀ x ∈ defs00, mg x = some (.ref (ga K x)) := by
  obtain ⟨c1, c⟩ := band c
  obtain ⟨c2, c⟩ := band c
  obtain ⟨c3, c⟩ := band c
  obtain ⟨c4, c⟩ := band c
  obtain ⟨c5, c⟩ := band c
  obtain ⟨c6, c⟩ := band c
  obtain ⟨c7, c⟩ := band c
  obtain ⟨c8, c⟩ := band c
  obtain ⟨c9, c⟩ := band c
  obtain ⟨c10, c⟩ := band c
  obtain ⟨c11, c⟩ := band c
  obtain ⟨c12, c⟩ := band c
  obtain ⟨c13, c14⟩ := band c
  have fr : ∀ x ∈ free00, mg x = none := fun x hx => PySem.W.mg_none_of X G (He.eqO_ok (List.all_eq_true.mp c1 x hx))
  have gl : ∀ x ∈ defs00, mg x = some (.ref (ga K x)) := fun x hx => PySem.W.mg_of X G (He.eqO_ok (List.all_eq_true.mp c3 x hx))
  obtain ⟨t, ht⟩ := letB_ok c4
  refine ⟨{
    d := ⟨fr _ (by decide +kernel), fr _ (by decide +kernel), fr _ (by decide +kernel)⟩
    isi := fr _ (by decide +kernel)
    enu := fr _ (by decide +kernel)
    all := fr _ (by decide +kernel)
    rpr := fr _ (by decide +kernel)
    tup := fr _ (by decide +kernel)
    rng := fr _ (by decide +kernel)
    str := fr _ (by decide +kernel)
    min := fr _ (by decide +kernel)
    ve := fr _ (by decide +kernel)
    sys := sysB_ok c2
    let_ := ⟨t, PySem.W.mg_of X G ht⟩
    kept := gl _ (by decide +kernel)
    keptT := keptTB_ok c5
    gT := gl _ (by decide +kernel)
    gM := gl _ (by decide +kernel)
    err := errB_ok c6
    kit := of_decide_eq_true c7
    exm := of_decide_eq_true c8
    oex := oexB_ok c9
    ini := ⟨He.eqO_ok (band c10).1, of_decide_eq_true (band c10).2⟩
    base := baseB_ok c11
    noL := He.eqO_ok c12
    noC := He.eqO_ok c13
    noW := He.eqO_ok c14 }, gl⟩
theorem saysF {K : PySem.W.Frag} {chk : PySem.W.Frag → Bool} {fns : List He.DefD} (c : obsX chk fns K = valX fns) (n : Nat) (at_ : Str × Option Str) (x q : Str) (st : Stmt) (e : fns[n]? = some (defD at_ x q st)) : ∃ fd, Fun K x q st (He.fAd K at_) fd := by
  obtain ⟨d, F⟩ := saysX_def c n e
  exact ⟨d, fun_ofD (x := x) (q := q) (st := st) F⟩
theorem facts00 {P : Program} {w : World} {K : PySem.W.Frag} {h : Heap} {mg : Str → Option Value} {f : Addr} (X : K.In h) (G : h.Ns mainGlobals mg) (hfa : mg ("law" : Str) = some (.ref f)) (c : obsX chk00 fn00 K = valX fn00) :
    ∃ fd : FuncData, (∀ (s : Shared) (v : Value), BindsTo s fd ⟨[v], []⟩ [("script", v)]) ∧ ∀ base : Heap, K.In base → base.Ns mainGlobals mg → FnG P w K mg base CX0 6 f fd ["script"] (spLaw K) := by
  obtain ⟨T, gd⟩ := t00_of X G (saysX_chk c)
  obtain ⟨d0, F0⟩ := saysF c 0 ("is_name", none) "is_name" "is_name" sIsName rfl
  obtain ⟨d1, F1⟩ := saysF c 1 ("is_text", none) "is_text" "is_text" sIsText rfl
  obtain ⟨d2, F2⟩ := saysF c 2 ("words_of", none) "words_of" "words_of" sWords rfl
  obtain ⟨d3, F3⟩ := saysF c 3 ("words_of_line", none) "words_of_line" "words_of_line" sLine rfl
  obtain ⟨d4, F4⟩ := saysF c 4 ("_law_begun", none) "_law_begun" "_law_begun" sBegun rfl
  obtain ⟨d5, F5⟩ := saysF c 5 ("_law_mixed", none) "_law_mixed" "_law_mixed" sMixed rfl
  obtain ⟨d6, F6⟩ := saysF c 6 ("_law_take", none) "_law_take" "_law_take" sTake rfl
  obtain ⟨d7, F7⟩ := saysF c 7 ("_law_pick", none) "_law_pick" "_law_pick" sPick rfl
  obtain ⟨d8, F8⟩ := saysF c 8 ("_law_is_name", none) "_law_is_name" "_law_is_name" sLIsName rfl
  obtain ⟨d9, F9⟩ := saysF c 9 ("_law_reserved", none) "_law_reserved" "_law_reserved" sReserved rfl
  obtain ⟨d10, F10⟩ := saysF c 10 ("_law_any_name", none) "_law_any_name" "_law_any_name" sAnyName rfl
  obtain ⟨d11, F11⟩ := saysF c 11 ("_law_walked", none) "_law_walked" "_law_walked" sWalked rfl
  obtain ⟨d12, F12⟩ := saysF c 12 ("_law_piece", none) "_law_piece" "_law_piece" sPiece rfl
  obtain ⟨d13, F13⟩ := saysF c 13 ("_law_names_right", none) "_law_names_right" "_law_names_right" sRight rfl
  obtain ⟨d14, F14⟩ := saysX_def c 14 (d := defD ("law", none) "law" "law" sLaw) rfl
  have FL : Fun K "law" "law" sLaw (ga K "law") d14 := fun_ofD (x := "law") (q := "law") (st := sLaw) F14
  obtain ⟨d15, F15⟩ := saysF c 15 ("BadText", some "__init__") "__init__" "BadText.__init__" iText rfl
  have e := hfa.symm.trans (gd "law" (by decide +kernel))
  cases e
  exact ⟨d14, fun s v => (L2.FunD.bindsA (ps := ["script"]) F14 fun _ _ _ _ _ _ us hl => match us, hl with | [_], _ => rfl) s [v] rfl, fun base _ _ => ok_law FL T
    ⟨F5, F6, F7, F9, gd _ (by decide +kernel), gd _ (by decide +kernel), gd _ (by decide +kernel), gd _ (by decide +kernel)⟩
    ⟨F10, F0, F8, gd _ (by decide +kernel), gd _ (by decide +kernel), gd _ (by decide +kernel)⟩
    ⟨F1, F3, F15, gd _ (by decide +kernel), gd _ (by decide +kernel)⟩
    ⟨F4, F12, F11, F13, F2, gd _ (by decide +kernel), gd _ (by decide +kernel), gd _ (by decide +kernel), gd _ (by decide +kernel), gd _ (by decide +kernel)⟩⟩
abbrev R00 : PySem.W.OpenRow := PySem.W.OpenLaw.row PySem.Challenge.rw_anymaker_k00_names_and_words
def names00 : List Str := (["MakerError", "BadText", "KEPT", "LETTERS", "is_name", "is_text", "words_of", "words_of_line", "_law_begun", "_law_mixed", "_law_take", "_law_pick", "_law_is_name", "_law_reserved", "_law_any_name", "_law_walked", "_law_piece", "_law_names_right"] : List String).map Str.ofString
abbrev hk00 : PySem.W.Hook := hookX 6 chk00 fn00
def ob00 (s : PySem.W.SharedT) : AlX := obsX chk00 fn00 (He.frG (HandSHeadRun.getT s) (adrs (HandSHeadRun.getT s) 6))
theorem ob00_eq (s : PySem.W.SharedT) : ob00 s = hk00.obs s.abs := obsX_eq s
end Any
set_option Elab.async false
set_option linter.all false
set_option maxRecDepth 100000
set_option maxHeartbeats 0
namespace Any
open PySem PySem.Spec PyProof.Rows L2
theorem run00 (w : World) : HandSHeadRun.RunEq R00 (PySem.W.view R00.prog [21]) hk00 ob00 16000 names00 w := by
  intro os
  kernel_rfl
end Any
open PySem PySem.W PySem.Calls PyProof.Rows
theorem PySem.Challenge.cw_anymaker_k00_names_and_words_holds : PySem.Challenge.rw_anymaker_k00_names_and_words.Holds := by
  w_on; o_law
  refine HandSHeadRun.head_any (r := OpenLaw.row PySem.Challenge.rw_anymaker_k00_names_and_words) (q := view (OpenLaw.row PySem.Challenge.rw_anymaker_k00_names_and_words).prog [21]) (H := Any.hk00) (ob := Any.ob00) (M := 16000) (loose := Any.names00) (d := HandSHeadRun.topDef (OpenLaw.row PySem.Challenge.rw_anymaker_k00_names_and_words).prog 21) (kwd := []) Any.ob00_eq
    (by kernel_rfl) (fun s => by kernel_rfl) Any.run00 (by kernel_rfl) (by kernel_rfl) (by kernel_rfl) (by rfl) (by first | assumption | decide +kernel) (by decide +kernel) ⟨rfl, rfl, rfl, rfl, rfl, by decide +kernel⟩ ?hw ?hc
  case hw => w_witness2
  case hc =>
    refine Any.walkG (l := PySem.Challenge.rw_anymaker_k00_names_and_words) (n := 63) (k := 6) (x := "script") rfl (by decide) (by kernel_rfl) ⟨rfl, by decide, by decide⟩ ?F
    intro w mg fa h Y G hmg0
    obtain ⟨K, KX, c⟩ := Y
    have hmg : mg ("law" : PySem.Str) = some (.ref fa) := by
      have e : (HandSHeadRun.topDef (OpenLaw.row PySem.Challenge.rw_anymaker_k00_names_and_words).prog 21).name = ("law" : PySem.Str) := by kernel_rfl
      rw [← e]
      exact hmg0
    obtain ⟨fd, hb, hF⟩ := Any.facts00 (P := (PySem.Challenge.rw_anymaker_k00_names_and_words).prog) (w := w) KX G hmg c
    exact ⟨K, fd, Any.spLaw K, KX, hb, fun H a ns hl _ _ hS => ⟨a, ns, rfl, hS, hl, fun _ => rfl⟩, hF⟩
