import PyProof.Rows.All
import Wide.All
import OpenK.AllK
import Wide.FinOn
import HandS.ForMost
import HandS.Exc
import HandS.ExcOwn
import HandS.WordsExc
import HandS.TryOnly
import HandS.Flow
import HandS.Walk
import HandS.Zip
import HandS.IsInst
import HandS.Wide
import PySem.Challenge.RW_namesalone_k06_errors_by_themselves
import HandS.ExcInit
import KE.KExcInit
import KE.KExcIs
import HandS.Defaults
import HandS.Ends
import KE.KExcTry
import KE.KExcStr
set_option Elab.async false
set_option linter.all false
set_option maxRecDepth 100000
set_option maxHeartbeats 16000000
namespace Nal
open PySem L2
/-! ### readings by name -/
def rLn (K : PySem.W.Frag) : List V → Hp → VK → Prop := fun xs H Q => ∃ p ys, xs = [.ref p] ∧ (SqL K H p ys ∨ SqT K H p ys) ∧ Q (.int ys.length) H
def rListOf (K : PySem.W.Frag) : List V → Hp → VK → Prop := fun xs H Q => ∃ p ys, xs = [.ref p] ∧ (SqL K H p ys ∨ SqT K H p ys) ∧ ∀ l, H l = none → Q (.ref l) (upd H l (.lst ys))
def topS (i : Nat) : Stmt := PySem.Challenge.pw_namesalone_k06_errors_by_themselves.main.body.getD i (.Pass ⟨0, 0, 0, 0⟩)
structure Txt (K : PySem.W.Frag) (mg : Str → Option Value) : Prop where
  b_len : mg "len" = none
  b_abs : mg "abs" = none
  b_int : mg "int" = none
  b_list : mg "list" = none
  b_tuple : mg "tuple" = none
  b_dict : mg "dict" = none
  b_str : mg "str" = none
  b_bool : mg "bool" = none
  b_all : mg "all" = none
  b_min : mg "min" = none
  b_zip : mg "zip" = none
  b_range : mg "range" = none
  b_enumerate : mg "enumerate" = none
  b_sorted : mg "sorted" = none
  b_isinstance : mg "isinstance" = none
abbrev s_law_take : Stmt := topS 13
abbrev N_law_take : List Str := ["_law_tin", "_law_top_so", "_law_digit_so", "_law_once", "_law_far", "_law_twice"]
abbrev P_law_take : List Str := ["_law_tin", "_law_top_so"]
theorem sc_law_take : FnScope ["_law_tin", "_law_top_so", "_law_digit_so", "_law_once", "_law_far", "_law_twice"] ["_law_tin", "_law_top_so"] (defScope s_law_take) := ⟨rfl, rfl, rfl, by decide +kernel, rfl, by decide +kernel, by decide +kernel⟩
abbrev s_law_box : Stmt := topS 12
abbrev N_law_box : List Str := ["_law_script", "_law_k", "_law_great_so"]
abbrev P_law_box : List Str := ["_law_script", "_law_k"]
theorem sc_law_box : FnScope ["_law_script", "_law_k", "_law_great_so"] ["_law_script", "_law_k"] (defScope s_law_box) := ⟨rfl, rfl, rfl, by decide +kernel, rfl, by decide +kernel, by decide +kernel⟩
abbrev s_law_cells : Stmt := topS 14
abbrev N_law_cells : List Str := ["_law_script", "_law_most", "_law_cells_here", "_law_k", "_law_great_so", "_law_at_so"]
abbrev P_law_cells : List Str := ["_law_script", "_law_most"]
theorem sc_law_cells : FnScope ["_law_script", "_law_most", "_law_cells_here", "_law_k", "_law_great_so", "_law_at_so"] ["_law_script", "_law_most"] (defScope s_law_cells) := ⟨rfl, rfl, rfl, by decide +kernel, rfl, by decide +kernel, by decide +kernel⟩
section
variable {P : Program} {w : World} {K : PySem.W.Frag} {mg : Str → Option Value} {base : Heap}
/-- the draws' state: a list of three ints -/
def Tin (H : Hp) (a : Addr) (n : Nat) : Prop := ∃ t0 t1 t2 : Int, H a = some (.lst [.int t0, .int t1, .int t2]) ∧ 0 ≤ t1 ∧ t1 < 4611686018427387904 ∧ 0 ≤ t2 ∧ t2 ≤ (n : Int)
/-- all but a stands as it stood -/
def SameBut (a : Addr) (H H' : Hp) : Prop := ∀ b o, b ≠ a → H b = some o → H' b = some o
theorem SameBut.upd {a : Addr} {H : Hp} {o : HO} : SameBut a H (upd H a o) := fun b u n e => by rw [upd_ne n]; exact e
def spTake : Sp := fun vs H Q _ => ∃ (a : Addr) (top : Int) (n : Nat), vs = [.ref a, .int top] ∧ Tin H a n ∧ n ≤ 1000000 ∧ 0 < top ∧ top ≤ 1000000000 ∧
  ∀ (d : Int) (H' : Hp), 0 ≤ d → d < top → SameBut a H H' → Tin H' a (n + 1) → Q (.int d) H'
theorem far_ok (x : Int) : -(2 ^ 64) < x % 40009 + 7 ∧ x % 40009 + 7 < 2 ^ 64 := by
  have h1 := Int.emod_nonneg x (show (40009 : Int) ≠ 0 by decide)
  have h2 := Int.emod_lt_of_pos x (show (0 : Int) < 40009 by decide)
  omega
theorem ok_take {f : Addr} {fd : FuncData} (F : Fun K "_law_take" "_law_take" s_law_take f fd) (T : Txt K mg) : FnOk P w K mg base CX0 1 f fd ["_law_tin", "_law_top_so"] spTake := by
  refine F.ok sc_law_take (fun vs H Q E h => ?_) (fun cdv A outer s H vs Q E hr h => ?_)
  · obtain ⟨a, top, n, rfl, _⟩ := h
    rfl
  · obtain ⟨a, top, n, rfl, ⟨t0, t1, t2, hT, b1, b2, b3, b4⟩, hn, p1, p2, k⟩ := h
    refine ⟨_, (pss_cons (ps_if (pt_cmpR op_gt (pe_ix (r := rIxL K) ix_list (pv 0) pe_int (fun _ _ => rfl)) pe_int (nomark _)) (pss_cons (ps_set (i := 2) sc_law_take.nd rfl (Or.inl rfl) (pe_op op_mod (pe_callTy call_int1 (by rfl) T.b_int (by decide +kernel) (pa_cons (pe_ix (r := rIxL K) ix_list (pv 0) pe_int (fun _ _ => rfl)) pa_nil)) (pv 1)))
      (pss_cons (ps_asg (pe_op op_fdivN (pe_ix (r := rIxL K) ix_list (pv 0) pe_int (fun _ _ => rfl)) (pv 1)) (pg_sub (pv 0) pe_int set_list))
      (pss_one (ps_ret (pv 2))))) pss_nil)
      (pss_cons (ps_asg (pe_op op_add (pe_ix (r := rIxL K) ix_list (pv 0) pe_int (fun _ _ => rfl)) pe_int) (pg_sub (pv 0) pe_int set_list))
      (pss_cons (ps_set (i := 3) sc_law_take.nd rfl (Or.inl rfl) (pe_op op_mod (pe_callTy call_int1 (by rfl) T.b_int (by decide +kernel) (pa_cons (pe_op op_mul (pe_op op_add (pe_ix (r := rIxL K) ix_list (pv 0) pe_int (fun _ _ => rfl)) (pe_op op_mul pe_int (pe_ix (r := rIxL K) ix_list (pv 0) pe_int (fun _ _ => rfl)))) (pe_op op_add pe_int (pe_ix (r := rIxL K) ix_list (pv 0) pe_int (fun _ _ => rfl)))) pa_nil)) pe_int))
      (pss_cons (ps_set (i := 4) sc_law_take.nd rfl (Or.inl rfl) (pe_op op_add (pe_op op_mod (pe_callTy call_int1 (by rfl) T.b_int (by decide +kernel) (pa_cons (pv 3) pa_nil)) pe_int) pe_int))
      (pss_cons (ps_set (i := 5) sc_law_take.nd rfl (Or.inl rfl) (pe_op op_mod (pe_callTy call_int1 (by rfl) T.b_int (by decide +kernel) (pa_cons (pe_op op_mul (pe_op op_add (pe_op op_add (pv 3) (pe_ix (r := rIxL K) ix_list (pv 0) pe_int (fun _ _ => rfl))) (pe_op op_fdivN (pe_ix (r := rIxL K) ix_list (pv 0) pe_int (fun _ _ => rfl)) pe_int)) (pv 4)) pa_nil)) pe_int))
      (pss_one (ps_ret (pe_op op_mod (pe_callTy call_int1 (by rfl) T.b_int (by decide +kernel) (pa_cons (pe_op op_fdivN (pe_op op_mod (pe_callTy call_int1 (by rfl) T.b_int (by decide +kernel) (pa_cons (pe_op op_add (pe_op op_mul (pv 5) pe_int) (pv 3)) pa_nil)) pe_int) pe_int) pa_nil)) (pv 1))))))))), ?_⟩
    have S : SqL K H a [.int t0, .int t1, .int t2] := SqL.of hT
    refine ⟨_, rfl, a, _, _, _, rfl, rfl, S, rfl, _, _, rfl, rfl, _, rfl, ?_⟩
    refine ite2 (fun c => ?_) (fun c => ?_)
    · refine ⟨_, rfl, a, _, _, _, rfl, rfl, S, rfl, .inl ⟨_, rfl, _, rfl, _, _, rfl, rfl, p1, ?_⟩⟩
      refine ⟨_, rfl, a, _, _, _, rfl, rfl, S, rfl, _, rfl, _, _, rfl, rfl, ⟨by omega, by omega⟩, _, rfl, a, _, _, _, rfl, rfl, hT, rfl, _, rfl, ?_⟩
      exact k _ _ (Int.emod_nonneg _ (by omega)) (Int.emod_lt_of_pos _ p1) SameBut.upd ⟨_, t1, t2, upd_same, b1, b2, b3, by omega⟩
    · have S2 : SqL K (upd H a (.lst [.int t0, .int t1, .int (t2 + 1)])) a [.int t0, .int t1, .int (t2 + 1)] := SqL.of upd_same
      refine ⟨_, rfl, a, _, _, _, rfl, rfl, S, rfl, _, _, rfl, rfl, _, rfl, a, _, _, _, rfl, rfl, hT, rfl, ?_⟩
      refine ⟨_, rfl, a, _, _, _, rfl, rfl, S2, rfl, _, rfl, a, _, _, _, rfl, rfl, S2, rfl, _, _, rfl, rfl, .inl ⟨by decide, by decide⟩, _, _, rfl, rfl, _, rfl, a, _, _, _, rfl, rfl, S2, rfl, _, _, rfl, rfl, _, _, rfl, rfl, .inr ⟨by omega, by omega⟩, .inl ⟨_, rfl, _, _, rfl, rfl, (by show (0 : Int) < 2147483647; decide), ?_⟩⟩
      refine ⟨_, rfl, .inl ⟨_, rfl, _, _, rfl, rfl, (by show (0 : Int) < 40009; decide), _, _, rfl, rfl, ?_⟩⟩
      refine ⟨_, rfl, _, rfl, a, _, _, _, rfl, rfl, S2, rfl, _, _, rfl, rfl, _, rfl, a, _, _, _, rfl, rfl, S2, rfl, _, _, rfl, rfl, ⟨by decide, by decide⟩, _, _, rfl, rfl, _, rfl, _, _, rfl, rfl, .inr (far_ok _), .inl ⟨_, rfl, _, _, rfl, rfl, (by show (0 : Int) < 2147483629; decide), ?_⟩⟩
      refine ⟨_, rfl, _, _, rfl, rfl, .inr ⟨by decide, by decide⟩, _, rfl, _, _, rfl, rfl, .inl ⟨_, rfl, _, _, rfl, rfl, (by show (0 : Int) < 2147483587; decide), _, _, rfl, rfl, ⟨by decide, by decide⟩, .inl ⟨_, rfl, _, rfl, _, _, rfl, rfl, p1, ?_⟩⟩⟩
      exact k _ _ (Int.emod_nonneg _ (by omega)) (Int.emod_lt_of_pos _ p1) SameBut.upd ⟨t0, t1, t2 + 1, upd_same, b1, b2, by omega, by omega⟩
/-- a box of the cells: the state of draws that is made of the k-th cell -/
def spBox (K : PySem.W.Frag) : Sp := fun vs H Q _ => ∃ (a : Addr) (ns : List Int) (j : Nat), vs = [.ref a, .int (j : Int)] ∧ SqL K H a (ns.map V.int) ∧ j ≤ 1000 ∧
  ∀ p H', H p = none → Same H H' → Tin H' p 0 → Q (.ref p) H'
theorem b01 (b : Bool) : -(2 ^ 64) < (if b = true then 1 else 0 : Int) ∧ (if b = true then 1 else 0 : Int) < 2 ^ 64 := by cases b <;> decide
theorem box_tin {H : Hp} {p : Addr} {j : Nat} {x g c : Int} (hj : j ≤ 1000) (h : H p = some (.lst [.int x, .int (g % 2305843009213693951 + 39373 * (j : Int) + c), .int 0])) (hc : 0 ≤ c := by decide) (hc2 : c ≤ 100000 := by decide) : Tin H p 0 := by
  have h1 := Int.emod_nonneg g (show (2305843009213693951 : Int) ≠ 0 by decide)
  have h2 := Int.emod_lt_of_pos g (show (0 : Int) < 2305843009213693951 by decide)
  exact ⟨_, _, _, h, by omega, by omega, by omega, by omega⟩
theorem ok_box {f : Addr} {fd : FuncData} (F : Fun K "_law_box" "_law_box" s_law_box f fd) (T : Txt K mg) : FnOk P w K mg base CX0 1 f fd ["_law_script", "_law_k"] (spBox K) := by
  refine F.ok sc_law_box (fun vs H Q E h => ?_) (fun cdv A outer s H vs Q E hr h => ?_)
  · obtain ⟨a, ns, j, rfl, _⟩ := h
    rfl
  · obtain ⟨a, ns, j, rfl, hS, hj, k⟩ := h
    refine ⟨_, (pss_cons (ps_set (i := 2) sc_law_box.nd rfl (Or.inl rfl) (pe_ifExp (pt_cmpR op_lt (pv 1) (pe_callB (r := rLn K) call_len_seq (by rfl) T.b_len (by decide +kernel) (pa_cons (pv 0) pa_nil)) (nomark _)) (pe_ix (r := rIxL K) ix_list (pv 0) (pv 1) (fun _ _ => rfl)) pe_int))
      (pss_one (ps_ret (pe_lst (pa_cons (pe_op op_mul (pe_callB call_abs (by rfl) T.b_abs (by decide +kernel) (pa_cons (pv 2) pa_nil)) (pe_callTy call_int1 (by rfl) T.b_int (by decide +kernel) (pa_cons (pe_cmpR op_ge (pe_callB call_abs (by rfl) T.b_abs (by decide +kernel) (pa_cons (pv 2) pa_nil)) (pe_op op_pow pe_int pe_int) (nomark _)) pa_nil))) (pa_cons (pe_op op_add (pe_op op_add (pe_op op_mod (pe_callTy call_int1 (by rfl) T.b_int (by decide +kernel) (pa_cons (pv 2) pa_nil)) pe_int) (pe_op op_mul pe_int (pv 1))) pe_int) (pa_cons pe_int pa_nil))))))), ?_⟩
    refine ⟨_, rfl, _, rfl, _, _, rfl, .inl hS, _, _, rfl, rfl, _, rfl, ?_⟩
    refine ite2 (fun c => ?_) (fun c => ?_)
    · have hlt : j < (ns.map V.int).length := by have := of_decide_eq_true c; omega
      obtain ⟨g, hg⟩ : ∃ g : Int, (ns.map V.int)[j]? = some (V.int g) := by
        rw [List.getElem?_map, List.getElem?_eq_getElem (by simpa using hlt)]
        exact ⟨_, rfl⟩
      refine ⟨_, rfl, _, rfl, a, _, _, _, rfl, rfl, hS, atI_nat hg, ?_⟩
      refine ⟨_, rfl, _, rfl, _, rfl, _, rfl, _, _, rfl, rfl, ⟨by decide, by decide, by decide⟩, _, _, rfl, rfl, .inr ⟨_, rfl, _, _, rfl, rfl, .inr (b01 _), ?_⟩⟩
      refine ⟨_, rfl, .inl ⟨_, rfl, _, _, rfl, rfl, (by show (0 : Int) < 2305843009213693951; decide), _, rfl, _, _, rfl, rfl, .inl ⟨by decide, by decide⟩, _, _, rfl, rfl, _, _, rfl, rfl, (by show 3 ≤ sizeLine; decide), fun p hp => ?_⟩⟩
      exact k p _ hp (fun b o e => by rw [upd_ne (ne_of_none e hp)]; exact e) (box_tin hj upd_same)
    · refine ⟨_, rfl, _, rfl, _, rfl, _, rfl, _, _, rfl, rfl, ⟨by decide, by decide, by decide⟩, _, _, rfl, rfl, .inr ⟨_, rfl, _, _, rfl, rfl, .inr (b01 _), ?_⟩⟩
      refine ⟨_, rfl, .inl ⟨_, rfl, _, _, rfl, rfl, (by show (0 : Int) < 2305843009213693951; decide), _, rfl, _, _, rfl, rfl, .inl ⟨by decide, by decide⟩, _, _, rfl, rfl, _, _, rfl, rfl, (by show 3 ≤ sizeLine; decide), fun p hp => ?_⟩⟩
      exact k p _ hp (fun b o e => by rw [upd_ne (ne_of_none e hp)]; exact e) (box_tin hj upd_same)

theorem cut_head (ns : List Int) : cutV (ns.map V.int) none (some 3) = (ns.take 3).map V.int := by
  unfold cutV
  have e : HT.sIx (ns.map V.int).length 0 none = 0 := rfl
  have e2 : HT.sIx (ns.map V.int).length (ns.map V.int).length (some 3) = min 3 (ns.map V.int).length := HT.sIx_nat _ _ 3
  rw [e, e2, List.drop_zero, List.length_map, ← List.map_take]
  congr 1
  rcases Nat.le_total 3 ns.length with h | h
  · rw [Nat.min_eq_left h, Nat.sub_zero]
  · rw [Nat.min_eq_right h, Nat.sub_zero, List.take_of_length_le (Nat.le_refl _), List.take_of_length_le h]
theorem cut_tail (ns : List Int) : ∃ rs : List Int, cutV (ns.map V.int) (some 3) (some 63) = rs.map V.int ∧ (0 < rs.length → 3 ≤ ns.length) ∧ rs.length ≤ 63 := by
  unfold cutV
  have e : HT.sIx (ns.map V.int).length 0 (some 3) = min 3 (ns.map V.int).length := HT.sIx_nat _ _ 3
  have e2 : HT.sIx (ns.map V.int).length (ns.map V.int).length (some 63) = min 63 (ns.map V.int).length := HT.sIx_nat _ _ 63
  rw [e, e2, List.length_map, ← List.map_drop, ← List.map_take]
  refine ⟨_, rfl, fun h => ?_, ?_⟩
  · rw [List.length_take, List.length_drop] at h
    omega
  · rw [List.length_take, List.length_drop]
    omega
theorem ix_of {n j : Nat} {z : Int} (e : z = (j : Int)) (h : j < n) : ixN n z = some j := by
  subst e
  unfold ixN
  rw [if_pos (by omega), if_pos (by omega)]
  simp
theorem int_at {ns : List Int} {j : Nat} (h : j < ns.length) : (ns.map V.int)[j]? = some (V.int ns[j]) := by
  rw [List.getElem?_map, List.getElem?_eq_getElem h]
  rfl
theorem same_new {H : Hp} {p : Addr} {o : HO} (hp : H p = none) : Same H (upd H p o) := fun b u e => by rw [upd_ne (ne_of_none e hp)]; exact e
/-- the cells of the script: at most three of them -/
def spCells (K : PySem.W.Frag) : Sp := fun vs H Q _ => ∃ (a : Addr) (ns : List Int), vs = [.ref a, .int 3] ∧ SqL K H a (ns.map V.int) ∧
  ∀ p H' (ms : List Int), H p = none → Same H H' → H' p = some (.lst (ms.map V.int)) → ms.length ≤ 3 → Q (.ref p) H'
theorem ok_cells {f : Addr} {fd : FuncData} (F : Fun K "_law_cells" "_law_cells" s_law_cells f fd) (T : Txt K mg) : FnOk P w K mg base CX0 1 f fd ["_law_script", "_law_most"] (spCells K) := by
  refine F.ok sc_law_cells (fun vs H Q E h => ?_) (fun cdv A outer s H vs Q E hr h => ?_)
  · obtain ⟨a, ns, rfl, _⟩ := h
    rfl
  · obtain ⟨a, ns, rfl, hS, k⟩ := h
    refine ⟨_, (pss_cons (ps_set (i := 2) sc_law_cells.nd rfl (Or.inl rfl) (pe_orT (pe_callTy (r := rListOf K) call_list_of (by rfl) T.b_list (by decide +kernel) (pa_cons (pe_slice sl_list (pv 0) po_none (po_some (pv 1))) pa_nil)) (pe_one (pe_lst (pa_cons pe_int pa_nil)))))
      (pss_cons (ps_for PassesOwn.never rfl (pi_enum (by rfl) T.b_enumerate (pa_cons (pe_slice sl_list (pv 0) (po_some (pv 1)) (po_some pe_int)) pa_nil)) (pg_tup rfl (pgs_cons (pg_name (i := 3) sc_law_cells.nd rfl (Or.inl rfl)) (pgs_cons (pg_name (i := 4) sc_law_cells.nd rfl (Or.inl rfl)) pgs_nil))) (pss_cons (ps_set (i := 5) sc_law_cells.nd rfl (Or.inl rfl) (pe_op op_mod (pe_callTy call_int1 (by rfl) T.b_int (by decide +kernel) (pa_cons (pv 3) pa_nil)) (pv 1)))
      (pss_one (ps_asg (pe_op op_add (pe_ix (r := rIxL K) ix_list (pv 2) (pv 5) (fun _ _ => rfl)) (pe_op op_mul (pv 4) (pe_op op_add (pv 3) pe_int))) (pg_sub (pv 2) (pv 5) set_list)))))
      (pss_one (ps_ret (pv 2))))), ?_⟩
    refine ⟨_, rfl, _, rfl, _, rfl, a, _, rfl, hS, fun p hp => ⟨p, _, rfl, .inl (SqL.of upd_same), fun l0 hl => ?_⟩⟩
    rw [cut_head] at *
    have nl0 : H l0 = none := by
      have := hl
      rw [upd_ne (fun e => by rw [e, upd_same] at this; cases this)] at this
      exact this
    refine ⟨_, .inl ⟨_, SqL.of upd_same, rfl⟩, ?_⟩
    have sm0 : Same H (upd (upd H p (.lst ((ns.take 3).map V.int))) l0 (.lst ((ns.take 3).map V.int))) := (same_new hp).trans (same_new hl)
    refine ite2 (fun c => ?_) (fun c => ?_)
    · have nl := nl0
      have hL : upd (upd H p (.lst ((ns.take 3).map V.int))) l0 (.lst ((ns.take 3).map V.int)) l0 = some (.lst ((ns.take 3).map V.int)) := upd_same
      have sm := sm0
      have hm : (ns.take 3).length ≤ 3 := by rw [List.length_take]; omega
      have hm3 : 3 ≤ ns.length → (ns.take 3).length = 3 := fun h => by rw [List.length_take]; omega
      clear sm0 hl
      generalize upd (upd H p (.lst ((ns.take 3).map V.int))) l0 (.lst ((ns.take 3).map V.int)) = H1 at *
      generalize ns.take 3 = ms0 at *
      generalize l0 = l at *
      obtain ⟨rs, hrs, hr3, hr63⟩ := cut_tail ns
      refine ⟨_, rfl, _, rfl, _, rfl, _, rfl, a, _, rfl, sm.seq hS, fun q hq => ⟨q, rs.map V.int, rfl, ?_, ?_⟩⟩
      · rw [hrs]
        exact SqL.of upd_same
      rw [hrs]
      have nql : q ≠ l := fun e => by rw [e, hL] at hq; cases hq
      have sm2 : Same H (upd H1 q (.lst (rs.map V.int))) := sm.trans (same_new hq)
      refine for_it (w := walk_enum (K := K) (a := q) (xs := rs.map V.int)) (fun i σ H' => ∃ (ms : List Int) (kv gv av : Option V), σ = [some (.ref a), some (.int 3), some (.ref l), kv, gv, av] ∧ Same H H' ∧ H' l = some (.lst (ms.map V.int)) ∧ H' q = some (.lst (rs.map V.int)) ∧ ms.length ≤ 3 ∧ (3 ≤ ns.length → ms.length = 3))
        ⟨_, none, none, none, rfl, sm2, (by rw [upd_ne (Ne.symm nql)]; exact hL), upd_same, hm, hm3⟩ (fun i σ H' _ ⟨_, _, _, _, _, _, _, h, _⟩ => SqL.of h) ?_ ?_
      · rintro i x σ H2 H3 hi ⟨ms, kv, gv, av, rfl, s2, h2, h3, m1, m2⟩ ⟨T1, x1, y1, rfl, hT1, rfl, e1, e2⟩
        have hi' : i < rs.length := by rwa [List.length_map] at hi
        cases e1
        cases (int_at hi').symm.trans e2
        have hmm := m2 (hr3 (by omega))
        have nlT : l ≠ T1 := ne_of_none h2 hT1
        have nqT : q ≠ T1 := ne_of_none h3 hT1
        have h2' : upd H2 T1 (.tup [.int (i : Nat), .int rs[i]]) l = some (.lst (ms.map V.int)) := by rw [upd_ne nlT]; exact h2
        have hj : i % 3 < ms.length := by omega
        have hz : ((i : Nat) : Int) % 3 = ((i % 3 : Nat) : Int) := by omega
        refine ⟨T1, _, rfl, SqT.of upd_same, rfl, _, _, rfl, _, _, rfl, rfl, ?_⟩
        refine ⟨_, rfl, .inl ⟨_, rfl, _, rfl, _, _, rfl, rfl, (by show (0 : Int) < 3; decide), ?_⟩⟩
        refine ⟨_, rfl, _, rfl, l, _, _, _, rfl, rfl, SqL.of h2', L2.at_of hz (int_at hj), _, rfl, _, rfl, _, _, rfl, rfl, _, _, rfl, rfl, .inr ⟨by omega, by omega⟩, _, _, rfl, rfl, _, rfl, _, rfl, l, _, _, _, rfl, rfl, h2', ix_of hz (by rw [List.length_map]; exact hj), ?_⟩
        refine ⟨ms.set (i % 3) (ms[i % 3] + rs[i] * ((i : Int) + 2)), _, _, _, rfl, fun b o e => ?_, ?_, ?_, (by rw [List.length_set]; exact m1), fun h => by rw [List.length_set]; exact m2 h⟩
        · have nb : b ≠ l := fun z => by rw [z, nl] at e; cases e
          rw [upd_ne nb]
          exact (s2.trans (same_new hT1)) b o e
        · rw [upd_same, List.map_set]
        · rw [upd_ne nql, upd_ne nqT]
          exact h3
      · rintro σ H' ⟨ms, kv, gv, av, rfl, s2, h2, h3, m1, m2⟩
        exact ⟨_, rfl, k l H' ms nl s2 h2 m1⟩

    · refine ⟨by show 1 ≤ sizeLine; decide, fun l hl2 => ?_⟩
      have nl : H l = none := sm0.free hl2
      have hL : upd (upd (upd H p (.lst ((ns.take 3).map V.int))) l0 (.lst ((ns.take 3).map V.int))) l (.lst [.int 0]) l = some (.lst ([(0 : Int)].map V.int)) := upd_same
      have sm := sm0.trans (same_new (o := .lst [.int 0]) hl2)
      have hm : [(0 : Int)].length ≤ 3 := by decide
      have hm3 : 3 ≤ ns.length → [(0 : Int)].length = 3 := fun h => by
        exfalso
        apply c
        cases ns with
        | nil => cases h
        | cons x r => rfl
      generalize upd (upd (upd H p (.lst ((ns.take 3).map V.int))) l0 (.lst ((ns.take 3).map V.int))) l (.lst [.int 0]) = H1 at *
      generalize [(0 : Int)] = ms0 at *
      obtain ⟨rs, hrs, hr3, hr63⟩ := cut_tail ns
      refine ⟨_, rfl, _, rfl, _, rfl, _, rfl, a, _, rfl, sm.seq hS, fun q hq => ⟨q, rs.map V.int, rfl, ?_, ?_⟩⟩
      · rw [hrs]
        exact SqL.of upd_same
      rw [hrs]
      have nql : q ≠ l := fun e => by rw [e, hL] at hq; cases hq
      have sm2 : Same H (upd H1 q (.lst (rs.map V.int))) := sm.trans (same_new hq)
      refine for_it (w := walk_enum (K := K) (a := q) (xs := rs.map V.int)) (fun i σ H' => ∃ (ms : List Int) (kv gv av : Option V), σ = [some (.ref a), some (.int 3), some (.ref l), kv, gv, av] ∧ Same H H' ∧ H' l = some (.lst (ms.map V.int)) ∧ H' q = some (.lst (rs.map V.int)) ∧ ms.length ≤ 3 ∧ (3 ≤ ns.length → ms.length = 3))
        ⟨_, none, none, none, rfl, sm2, (by rw [upd_ne (Ne.symm nql)]; exact hL), upd_same, hm, hm3⟩ (fun i σ H' _ ⟨_, _, _, _, _, _, _, h, _⟩ => SqL.of h) ?_ ?_
      · rintro i x σ H2 H3 hi ⟨ms, kv, gv, av, rfl, s2, h2, h3, m1, m2⟩ ⟨T1, x1, y1, rfl, hT1, rfl, e1, e2⟩
        have hi' : i < rs.length := by rwa [List.length_map] at hi
        cases e1
        cases (int_at hi').symm.trans e2
        have hmm := m2 (hr3 (by omega))
        have nlT : l ≠ T1 := ne_of_none h2 hT1
        have nqT : q ≠ T1 := ne_of_none h3 hT1
        have h2' : upd H2 T1 (.tup [.int (i : Nat), .int rs[i]]) l = some (.lst (ms.map V.int)) := by rw [upd_ne nlT]; exact h2
        have hj : i % 3 < ms.length := by omega
        have hz : ((i : Nat) : Int) % 3 = ((i % 3 : Nat) : Int) := by omega
        refine ⟨T1, _, rfl, SqT.of upd_same, rfl, _, _, rfl, _, _, rfl, rfl, ?_⟩
        refine ⟨_, rfl, .inl ⟨_, rfl, _, rfl, _, _, rfl, rfl, (by show (0 : Int) < 3; decide), ?_⟩⟩
        refine ⟨_, rfl, _, rfl, l, _, _, _, rfl, rfl, SqL.of h2', L2.at_of hz (int_at hj), _, rfl, _, rfl, _, _, rfl, rfl, _, _, rfl, rfl, .inr ⟨by omega, by omega⟩, _, _, rfl, rfl, _, rfl, _, rfl, l, _, _, _, rfl, rfl, h2', ix_of hz (by rw [List.length_map]; exact hj), ?_⟩
        refine ⟨ms.set (i % 3) (ms[i % 3] + rs[i] * ((i : Int) + 2)), _, _, _, rfl, fun b o e => ?_, ?_, ?_, (by rw [List.length_set]; exact m1), fun h => by rw [List.length_set]; exact m2 h⟩
        · have nb : b ≠ l := fun z => by rw [z, nl] at e; cases e
          rw [upd_ne nb]
          exact (s2.trans (same_new hT1)) b o e
        · rw [upd_same, List.map_set]
        · rw [upd_ne nql, upd_ne nqT]
          exact h3
      · rintro σ H' ⟨ms, kv, gv, av, rfl, s2, h2, h3, m1, m2⟩
        exact ⟨_, rfl, k l H' ms nl s2 h2 m1⟩
end
end Nal

namespace Nal
open PySem L2
section
variable {P : Program} {w : World} {K : PySem.W.Frag} {mg : Str → Option Value} {base : Heap}
theorem SameBut.trans {a : Addr} {H H1 H2 : Hp} (x : SameBut a H H1) (y : SameBut a H1 H2) : SameBut a H H2 := fun b o n e => y b o n (x b o n e)
theorem Same.but {a : Addr} {H H1 : Hp} (x : Same H H1) : SameBut a H H1 := fun b o _ e => x b o e
theorem Tin.ref {H : Hp} {t : Addr} {n : Nat} (h : Tin H t n) : ∃ xs, H t = some (.lst xs) := by
  obtain ⟨_, _, _, e, _⟩ := h
  exact ⟨_, e⟩
theorem Tin.ne {H : Hp} {t p : Addr} {n : Nat} (h : Tin H t n) (hp : H p = none) : p ≠ t := by
  obtain ⟨xs, e⟩ := h.ref
  exact (ne_of_none e hp).symm
theorem Tin.keep {H H' : Hp} {t : Addr} {n : Nat} (h : Tin H t n) (e : H' t = H t) : Tin H' t n := by
  obtain ⟨a, b, c, q, r⟩ := h
  exact ⟨a, b, c, e.trans q, r⟩
theorem Tin.mono {H : Hp} {t : Addr} {n m : Nat} (h : Tin H t n) (e : n ≤ m) : Tin H t m := by
  obtain ⟨a, b, c, q, r1, r2, r3, r4⟩ := h
  exact ⟨a, b, c, q, r1, r2, r3, by omega⟩
theorem Tin.upd {H : Hp} {t p : Addr} {n : Nat} {o : HO} (h : Tin H t n) (hp : p ≠ t) : Tin (L2.upd H p o) t n := h.keep (upd_ne hp.symm)
theorem seq_ix {z : Int} {n j : Nat} (e : z = (j : Int)) (h : j < n) : seqIndex? z n = some j := by
  subst e
  unfold seqIndex?
  simp only [show ¬ ((j : Int) < 0) by omega, if_false]
  simp [h]
theorem toNat_min (a b : Nat) : (if (b : Int) < (a : Int) then (b : Int) else (a : Int)).toNat = min a b := by
  split <;> omega
theorem erase_perm {α : Type} : ∀ {l : List α} {j : Nat} (h : j < l.length), ([l[j]] ++ l.eraseIdx j).Perm l
  | x :: r, 0, _ => List.Perm.refl _
  | x :: r, j + 1, h => by
    have h' : j < r.length := Nat.lt_of_succ_lt_succ h
    show (r[j] :: x :: r.eraseIdx j).Perm (x :: r)
    exact (List.Perm.swap _ _ _).trans (List.Perm.cons x (erase_perm h'))
end
end Nal

namespace Nal
open PySem L2 PyProof.Rows
/-! ### tuples that are known to be plain -/
def tTupF (t : TA) : TE := fun σ H Q => t σ H fun xs H1 => xs.length ≤ sizeLine ∧ ∀ (p : Addr) (o : Obj), o.dict = none → H1 p = none → Q (.ref p) (upd H1 p (.frz o (.tup xs)))
theorem pe_tupF {X : Cx} {es : List Expr} {t : TA} {pos : Pos} {x1 : Nat} (h : PA X es t) : PE X (.Tuple es x1 pos) (tTupF t) := by
  refine ⟨fun pins s σ H Q I hq => ?_⟩
  refine wpAny_Tuple_spliced (thn (h.run pos pins s σ H _ I hq) fun us s1 w1 => ?_)
  obtain ⟨xs, H1, I1, r, z, q⟩ := w1
  refine ⟨(by rw [← r.length]; exact z), ?_⟩
  have free : H1 s1.heap.objs.size = none := I1.hok.fresh (Nat.le_refl _)
  let ob : Obj := { cls := .type "tuple", data := .seq us.toArray }
  have at_ : (s1.heap.push ob).get? s1.heap.objs.size = some ob := Heap.get?_push_size _ rfl
  have ok : ObjOk X.prog X.w (upd H1 s1.heap.objs.size (.frz ob (.tup xs))) (s1.heap.push ob) s1.heap.objs.size (.frz ob (.tup xs)) := ⟨at_, z, us, r, ⟨ob, at_, rfl, _, rfl⟩⟩
  exact ⟨.ref s1.heap.objs.size, _, I1.laid (t' := s1.toks) (fun b u e => Heap.get?_push_of_some _ e) (Nat.le_refl _) ok, rfl, q _ ob rfl free⟩
def rTupF (K : PySem.W.Frag) : List V → Hp → VK → Prop := fun xs H Q => ∃ p ys, xs = [.ref p] ∧ ((SqL K H p ys ∧ ∀ (l : Addr) (o : Obj), o.dict = none → H l = none → Q (.ref l) (upd H l (.frz o (.tup ys)))) ∨ (SqT K H p ys ∧ Q (.ref p) H))
theorem call_tupF {X : Cx} : CallR X (.type "tuple") (rTupF X.K) := by
  intro pins s σ H xs us Q I r h
  obtain ⟨p, ys, rfl, h⟩ := h
  obtain ⟨u, rfl, rx⟩ := vals1 r
  cases rx
  rcases h with ⟨hq, q⟩ | ⟨hq, q⟩
  · obtain ⟨its, r', pl, hz⟩ := I.list hq
    have el := r'.length
    refine call_tuple_list pl.isList (fun h' kp => ?_) (by simp only [List.size_toArray]; omega)
    let ob : Obj := { cls := .type "tuple", data := .seq its.toArray }
    have at_ : (h'.push ob).get? h'.objs.size = some ob := Heap.get?_push_size _ rfl
    have J : Inv X pins σ H { s with heap := h' } := I.kept (t' := s.toks) kp
    have ok : ObjOk X.prog X.w (upd H h'.objs.size (.frz ob (.tup ys))) (h'.push ob) h'.objs.size (.frz ob (.tup ys)) := ⟨at_, hz, its, r', ⟨ob, at_, rfl, _, rfl⟩⟩
    exact ⟨.ref h'.objs.size, _, J.laid (t' := s.toks) (fun b o e => Heap.get?_push_of_some _ e) (Nat.le_refl _) ok, rfl, q _ ob rfl (J.hok.fresh (Nat.le_refl _))⟩
  · obtain ⟨its, r', pl, hz⟩ := I.tuple hq
    exact call_tuple_same pl ⟨.ref p, H, I, rfl, q⟩
/-- at a stands a tuple of xs, a plain one -/
def PT (H : Hp) (a : Addr) (xs : List V) : Prop := ∃ o : Obj, H a = some (.frz o (.tup xs)) ∧ o.dict = none
theorem PT.sq {K : PySem.W.Frag} {H : Hp} {a : Addr} {xs : List V} (h : PT H a xs) : SqT K H a xs := by
  obtain ⟨o, e, _⟩ := h
  exact .inl (.inr ⟨o, e⟩)
theorem PT.keep {H H' : Hp} {a : Addr} {xs : List V} (k : ∀ b o, H b = some o → H' b = some o) (h : PT H a xs) : PT H' a xs := by
  obtain ⟨o, e, d⟩ := h
  exact ⟨o, k _ _ e, d⟩
/-! ### data in the heap -/
mutual
def De (H : Hp) : PyData → V → Prop
  | .none, v => v = .non
  | .bool b, v => v = .bl b
  | .int i, v => v = .int i
  | .str x, v => v = .str x
  | .list ds, v => ∃ a xs, v = .ref a ∧ H a = some (.lst xs) ∧ DeAll H ds xs
  | .tuple ds, v => ∃ a xs, v = .ref a ∧ PT H a xs ∧ DeAll H ds xs
  | .dict _, _ => False
def DeAll (H : Hp) : List PyData → List V → Prop
  | [], xs => xs = []
  | d :: ds, xs => ∃ v vs, xs = v :: vs ∧ De H d v ∧ DeAll H ds vs
end
mutual
theorem De.keep {H H' : Hp} (k : ∀ b o, H b = some o → H' b = some o) : ∀ (d : PyData) (v : V), De H d v → De H' d v
  | .none, _, h => h
  | .bool _, _, h => h
  | .int _, _, h => h
  | .str _, _, h => h
  | .list ds, _, h => by
    obtain ⟨a, xs, e, ha, hs⟩ := h
    exact ⟨a, xs, e, k _ _ ha, DeAll.keep k ds xs hs⟩
  | .tuple ds, _, h => by
    obtain ⟨a, xs, e, ha, hs⟩ := h
    exact ⟨a, xs, e, ha.keep k, DeAll.keep k ds xs hs⟩
  | .dict _, _, h => h.elim
theorem DeAll.keep {H H' : Hp} (k : ∀ b o, H b = some o → H' b = some o) : ∀ (ds : List PyData) (xs : List V), DeAll H ds xs → DeAll H' ds xs
  | [], _, h => h
  | d :: ds, _, h => by
    obtain ⟨v, vs, e, h1, h2⟩ := h
    exact ⟨v, vs, e, De.keep k d v h1, DeAll.keep k ds vs h2⟩
end
theorem DeAll.len {H : Hp} : ∀ {ds : List PyData} {xs : List V}, DeAll H ds xs → xs.length = ds.length
  | [], _, h => by
    cases (show _ = [] from h)
    rfl
  | d :: ds, _, h => by
    obtain ⟨v, vs, rfl, _, h2⟩ := h
    rw [List.length_cons, List.length_cons, DeAll.len h2]
theorem DeAll.at {H : Hp} : ∀ {ds : List PyData} {xs : List V} {i : Nat} {x : V}, DeAll H ds xs → xs[i]? = some x → ∃ d, ds[i]? = some d ∧ De H d x
  | [], _, i, x, h, e => by
    cases (show _ = [] from h)
    simp at e
  | d :: ds, _, 0, x, h, e => by
    obtain ⟨v, vs, rfl, h1, _⟩ := h
    cases (Option.some.inj e)
    exact ⟨d, rfl, h1⟩
  | d :: ds, _, i + 1, x, h, e => by
    obtain ⟨v, vs, rfl, _, h2⟩ := h
    exact DeAll.at (i := i) h2 e
theorem DeAll.snoc {H : Hp} : ∀ {ds : List PyData} {xs : List V} {d : PyData} {x : V}, DeAll H ds xs → De H d x → DeAll H (ds ++ [d]) (xs ++ [x])
  | [], _, d, x, h, e => by
    cases (show _ = [] from h)
    exact ⟨x, [], rfl, e, rfl⟩
  | c :: ds, _, d, x, h, e => by
    obtain ⟨v, vs, rfl, h1, h2⟩ := h
    exact ⟨v, vs ++ [x], rfl, h1, DeAll.snoc h2 e⟩
mutual
def dpt : PyData → Nat
  | .list ds => dptAll ds + 1
  | .tuple ds => dptAll ds + 1
  | _ => 0
def dptAll : List PyData → Nat
  | [] => 0
  | d :: ds => max (dpt d) (dptAll ds)
end
theorem dptAll_at : ∀ {ds : List PyData} {i : Nat} {d : PyData}, ds[i]? = some d → dpt d ≤ dptAll ds
  | [], i, d, e => by simp at e
  | c :: ds, 0, d, e => by
    cases (Option.some.inj e)
    exact Nat.le_max_left _ _
  | c :: ds, i + 1, d, e => Nat.le_trans (dptAll_at (i := i) e) (Nat.le_max_right _ _)
mutual
def toLists : PyData → PyData
  | .list ds => .list (toListsAll ds)
  | .tuple ds => .list (toListsAll ds)
  | d => d
def toListsAll : List PyData → List PyData
  | [] => []
  | d :: ds => toLists d :: toListsAll ds
end
mutual
def toTuples : PyData → PyData
  | .list ds => .tuple (toTuplesAll ds)
  | .tuple ds => .tuple (toTuplesAll ds)
  | d => d
def toTuplesAll : List PyData → List PyData
  | [] => []
  | d :: ds => toTuples d :: toTuplesAll ds
end
theorem toListsAll_eq : ∀ ds : List PyData, toListsAll ds = ds.map toLists
  | [] => by unfold toListsAll; rfl
  | d :: ds => by unfold toListsAll; rw [toListsAll_eq ds]; rfl
theorem toTuplesAll_eq : ∀ ds : List PyData, toTuplesAll ds = ds.map toTuples
  | [] => by unfold toTuplesAll; rfl
  | d :: ds => by unfold toTuplesAll; rw [toTuplesAll_eq ds]; rfl
def tyN : PyData → String
  | .none => "NoneType"
  | .bool _ => "bool"
  | .int _ => "int"
  | .str _ => "str"
  | .list _ => "list"
  | .tuple _ => "tuple"
  | .dict _ => "dict"
def isSeq : PyData → Bool
  | .list _ => true
  | .tuple _ => true
  | _ => false
theorem De.ty {K : PySem.W.Frag} {H : Hp} : ∀ {d : PyData} {v : V}, De H d v → TyX K H v (.type (tyN d))
  | .none, _, h => by cases (show _ = _ from h); exact .base .non
  | .bool b, _, h => by cases (show _ = _ from h); exact .base (.bl b)
  | .int i, _, h => by cases (show _ = _ from h); exact .base (.int i)
  | .str x, _, h => by cases (show _ = _ from h); exact .base (.str x)
  | .list ds, _, h => by
    obtain ⟨a, xs, rfl, ha, _⟩ := h
    exact .base (.lst ha)
  | .tuple ds, _, h => by
    obtain ⟨a, xs, rfl, ⟨o, ha, _⟩, _⟩ := h
    exact .fTuple ha
  | .dict _, _, h => h.elim
theorem kit_two {K : PySem.W.Frag} {t a b : String} {x y r : Bool} (h1 : kitB t a = some x) (h2 : kitB t b = some y) (e : r = (x || y)) : PySem.W.kitAny K (.type t) [.type a, .type b] = some r := by
  subst e
  refine kitAny_cons (kit_ty h1) (fun hx => ?_) (fun hx => by rw [hx]; rfl)
  rw [hx]
  refine kitAny_cons (kit_ty h2) (fun hy => ?_) (fun hy => by rw [hy]; rfl)
  rw [hy]
  exact kitAny_nil
theorem kit_seq {K : PySem.W.Frag} : ∀ d : PyData, PySem.W.kitAny K (.type (tyN d)) [.type "list", .type "tuple"] = some (isSeq d)
  | .none => kit_two (t := "NoneType") (x := false) (y := false) (by decide +kernel) (by decide +kernel) rfl
  | .bool _ => kit_two (t := "bool") (x := false) (y := false) (by decide +kernel) (by decide +kernel) rfl
  | .int _ => kit_two (t := "int") (x := false) (y := false) (by decide +kernel) (by decide +kernel) rfl
  | .str _ => kit_two (t := "str") (x := false) (y := false) (by decide +kernel) (by decide +kernel) rfl
  | .list _ => kit_two (t := "list") (x := true) (y := false) (by decide +kernel) (by decide +kernel) rfl
  | .tuple _ => kit_two (t := "tuple") (x := false) (y := true) (by decide +kernel) (by decide +kernel) rfl
  | .dict _ => kit_two (t := "dict") (x := false) (y := false) (by decide +kernel) (by decide +kernel) rfl
theorem cls_two {a b : String} : Paired ClsV [.ty a, .ty b] [.type a, .type b] := .cons (.ty a) (.cons (.ty b) .nil)
/-- what is new in H', seen from H, stands so in H'' -/
def Fresh (H H' H'' : Hp) : Prop := ∀ b o, H b = none → H' b = some o → H'' b = some o
end Nal

namespace Nal
open PySem L2
mutual
def okw : PyData → Prop
  | .list ds => ds.length ≤ 1000 ∧ okwAll ds
  | .tuple ds => ds.length ≤ 1000 ∧ okwAll ds
  | _ => True
def okwAll : List PyData → Prop
  | [] => True
  | d :: ds => okw d ∧ okwAll ds
end
theorem okwAll_at : ∀ {ds : List PyData} {i : Nat} {d : PyData}, okwAll ds → ds[i]? = some d → okw d
  | [], i, d, _, e => by simp at e
  | c :: ds, 0, d, h, e => by
    cases (Option.some.inj e)
    exact h.1
  | c :: ds, i + 1, d, h, e => okwAll_at (i := i) h.2 e
section
variable {P : Program} {w : World} {K : PySem.W.Frag} {mg : Str → Option Value} {base : Heap}
theorem ok_never {f : Addr} {fd : FuncData} {ps : List Str} {k : Nat} : FnOk P w K mg base CX0 k f fd ps (fun _ _ _ _ => False) :=
  ⟨fun _ _ _ _ h => h.elim, fun _ _ _ _ _ _ _ _ _ _ _ _ _ h => h.elim⟩
end
end Nal

namespace Nal
open PySem L2
abbrev sas_tuples : Stmt := topS 1
abbrev Nas_tuples : List Str := ["value", "item"]
abbrev Pas_tuples : List Str := ["value"]
theorem scas_tuples : FnScope ["value", "item"] ["value"] (defScope sas_tuples) := ⟨rfl, rfl, rfl, by decide +kernel, rfl, by decide +kernel, by decide +kernel⟩
section
variable {P : Program} {w : World} {K : PySem.W.Frag} {mg : Str → Option Value} {base : Heap}
/-- all lists of the data as tuples, new ones -/
def spTuples : Nat → Sp
  | 0 => fun _ _ _ _ => False
  | n + 1 => fun vs H Q _ => ∃ (d : PyData) (v : V), vs = [v] ∧ De H d v ∧ dpt d ≤ n ∧ okw d ∧ ∀ (r : V) (H' : Hp), Same H H' → (∀ H'', Fresh H H' H'' → De H'' (toTuples d) r) → Q r H'
theorem atom_tuples {H : Hp} : ∀ {d : PyData} {v : V}, isSeq d = false → De H d v → ∀ H'', De H'' (toTuples d) v
  | .none, _, _, h, _ => h
  | .bool _, _, _, h, _ => h
  | .int _, _, _, h, _ => h
  | .str _, _, _, h, _ => h
  | .list _, _, e, _, _ => nomatch e
  | .tuple _, _, e, _, _ => nomatch e
  | .dict _, _, _, h, _ => h.elim
theorem ok_tuples {f : Addr} {fd : FuncData} (F : Fun K "as_tuples" "as_tuples" sas_tuples f fd) (T : Txt K mg) (mas_tuples : mg "as_tuples" = some (.ref f)) (kas_tuples : PySem.W.keepIn K (.ref f) = true)
    (bas_tuples : Binds K fd ["value"] []) : ∀ n, FnOk P w K mg base CX0 n f fd ["value"] (spTuples n)
  | 0 => ok_never
  | n + 1 => by
    have Gas_tuples := ok_tuples F T mas_tuples kas_tuples bas_tuples n
    refine F.ok scas_tuples (fun vs H Q E h => ?_) (fun cdv A outer s H vs Q E hr h => ?_)
    · obtain ⟨d, v, rfl, _⟩ := h
      rfl
    · obtain ⟨d, v, rfl, hd, hn, hw, k⟩ := h
      cases hs : isSeq d with
      | false =>
        refine ⟨_, (pss_cons (ps_if (pt_val (pe_callB (r := rIsiT K) call_isiT (by rfl) T.b_isinstance (by decide +kernel) (pa_cons (pv 0) (pa_cons (pe_tup (pa_cons (pe_bltn (v := .ty "list") (u := .type "list") (by rfl) T.b_list (by decide +kernel) (by rfl)) (pa_cons (pe_bltn (v := .ty "tuple") (u := .type "tuple") (by rfl) T.b_tuple (by decide +kernel) (by rfl)) pa_nil))) pa_nil)))) (pss_one (ps_ret (pe_callTy (r := rTupF K) call_tupF (by rfl) T.b_tuple (by decide +kernel) (pa_cons (pe_lc (own := [("item", 1)]) (g := (gName 1)) (tt := tYes) rfl scas_tuples.nd (pi_list (pv 0)) (blkOk_by (own := [("item", 1)]) (N := ["value", "item"]) (sc := defScope sas_tuples) (by decide +kernel)) (fun _ _ _ _ _ => (pg_name (i := 1) scas_tuples.nd rfl (Or.inl rfl))) (fun _ _ _ _ _ => pts_nil) (fun _ _ _ _ _ => (pe_call Gas_tuples hr rfl mas_tuples kas_tuples bas_tuples .nil pass0 (pa_cons (pv 1) pa_nil)))) pa_nil)))) pss_nil)
      (pss_one (ps_ret (pv 0)))), ?_⟩
        refine ⟨_, rfl, (by show 2 ≤ sizeLine; decide), fun tp htp => ⟨v, tp, _, _, _, _, rfl, upd_same, cls_two, (hd.keep (same_new htp)).ty, kit_seq d, _, rfl, ?_⟩⟩
        rw [hs]
        exact iteF ⟨_, rfl, k v _ (same_new htp) fun H'' _ => atom_tuples hs hd H''⟩
      | true =>
        cases d with
        | list ds =>
          obtain ⟨a, xs, rfl, ha, hxs⟩ := hd
          have hle : dptAll ds + 1 ≤ n := hn
          obtain ⟨m, rfl⟩ : ∃ m, n = m + 1 := ⟨n - 1, by omega⟩
          have hl : xs.length = ds.length := hxs.len
          refine ⟨_, (pss_cons (ps_if (pt_val (pe_callB (r := rIsiT K) call_isiT (by rfl) T.b_isinstance (by decide +kernel) (pa_cons (pv 0) (pa_cons (pe_tup (pa_cons (pe_bltn (v := .ty "list") (u := .type "list") (by rfl) T.b_list (by decide +kernel) (by rfl)) (pa_cons (pe_bltn (v := .ty "tuple") (u := .type "tuple") (by rfl) T.b_tuple (by decide +kernel) (by rfl)) pa_nil))) pa_nil)))) (pss_one (ps_ret (pe_callTy (r := rTupF K) call_tupF (by rfl) T.b_tuple (by decide +kernel) (pa_cons (pe_lc (own := [("item", 1)]) (g := (gName 1)) (tt := tYes) rfl scas_tuples.nd (pi_list (pv 0)) (blkOk_by (own := [("item", 1)]) (N := ["value", "item"]) (sc := defScope sas_tuples) (by decide +kernel)) (fun _ _ _ _ _ => (pg_name (i := 1) scas_tuples.nd rfl (Or.inl rfl))) (fun _ _ _ _ _ => pts_nil) (fun _ _ _ _ _ => (pe_call Gas_tuples hr rfl mas_tuples kas_tuples bas_tuples .nil pass0 (pa_cons (pv 1) pa_nil)))) pa_nil)))) pss_nil)
      (pss_one (ps_ret (pv 0)))), ?_⟩
          refine ⟨_, rfl, (by show 2 ≤ sizeLine; decide), fun tp htp => ?_⟩
          have sm1 := same_new (o := .tup [.ty "list", .ty "tuple"]) htp
          refine ⟨.ref a, tp, _, _, _, _, rfl, upd_same, cls_two, (De.keep sm1 (.list ds) (.ref a) ⟨a, xs, rfl, ha, hxs⟩).ty, kit_seq (.list ds), _, rfl, ?_⟩
          have ha1 := sm1 _ _ ha
          have hxs1 := DeAll.keep sm1 ds xs hxs
          generalize L2.upd H tp (.tup [.ty "list", .ty "tuple"]) = H1 at sm1 ha1 hxs1 ⊢
          refine iteT ⟨_, rfl, a, rfl, ⟨_, SqL.of ha1⟩, fun D hD => lc_it (w := walk_list (K := K) (a := a) (xs := xs))
            (fun i H' => Same H1 H' ∧ ∃ acc, H' D = some (.lst acc) ∧ acc.length = i ∧ ∀ H'', (∀ b o, b ≠ D → H1 b = none → H' b = some o → H'' b = some o) → DeAll H'' ((ds.take i).map toTuples) acc)
            ⟨same_new hD, [], upd_same, rfl, fun _ _ => rfl⟩ (fun i H' _ h => SqL.of (h.1 _ _ ha1)) ?_ ?_⟩
          · rintro i x H2 _ hi ⟨s2, acc, hacc, el, hde⟩ ⟨rfl, ex⟩
            obtain ⟨d', ed, hx⟩ := hxs1.at ex
            refine ⟨rfl, _, rfl, d', x, rfl, De.keep s2 d' x hx, (by have := dptAll_at ed; omega), okwAll_at hw.2 ed, fun r H4 s4 f4 => ?_⟩
            have hD4 := s4 _ _ hacc
            refine ⟨acc, hD4, Nat.lt_of_le_of_lt (show acc.length ≤ 1000 by have := hw.1; omega) (by decide), fun b o e => ?_, acc ++ [r], upd_same, by rw [List.length_append, el]; rfl, fun H'' hf => ?_⟩
            · rw [upd_ne (ne_of_none e hD)]
              exact s4 _ _ (s2 _ _ e)
            · rw [List.take_add_one, ed, List.map_append]
              refine DeAll.snoc (hde H'' fun b o nb e0 e => hf b o nb e0 (by rw [upd_ne nb]; exact s4 _ _ e)) (f4 H'' fun b o e0 e => ?_)
              have nb : b ≠ D := fun z => by rw [z, hacc] at e0; cases e0
              refine hf b o nb ?_ (by rw [upd_ne nb]; exact e)
              cases q : H1 b with
              | none => rfl
              | some u => rw [s2 _ _ q] at e0; cases e0
          · rintro H' ⟨s2, acc, hacc, el, hde⟩
            refine ⟨D, acc, rfl, .inl ⟨SqL.of hacc, fun p ob hob hp => k (.ref p) _ (sm1.trans (s2.trans (same_new hp))) fun H'' hf => ⟨p, acc, rfl, ⟨ob, hf _ _ (sm1.free (s2.free hp)) upd_same, hob⟩, ?_⟩⟩⟩
            have e := hde H'' fun b o nb e0 e => hf b o (sm1.free e0) (by rw [upd_ne (ne_of_none e hp)]; exact e)
            rw [hl, List.take_length] at e
            rw [toTuplesAll_eq]
            exact e
        | tuple ds =>
          obtain ⟨a, xs, rfl, ha, hxs⟩ := hd
          have hle : dptAll ds + 1 ≤ n := hn
          obtain ⟨m, rfl⟩ : ∃ m, n = m + 1 := ⟨n - 1, by omega⟩
          have hl : xs.length = ds.length := hxs.len
          refine ⟨_, (pss_cons (ps_if (pt_val (pe_callB (r := rIsiT K) call_isiT (by rfl) T.b_isinstance (by decide +kernel) (pa_cons (pv 0) (pa_cons (pe_tup (pa_cons (pe_bltn (v := .ty "list") (u := .type "list") (by rfl) T.b_list (by decide +kernel) (by rfl)) (pa_cons (pe_bltn (v := .ty "tuple") (u := .type "tuple") (by rfl) T.b_tuple (by decide +kernel) (by rfl)) pa_nil))) pa_nil)))) (pss_one (ps_ret (pe_callTy (r := rTupF K) call_tupF (by rfl) T.b_tuple (by decide +kernel) (pa_cons (pe_lc (own := [("item", 1)]) (g := (gName 1)) (tt := tYes) rfl scas_tuples.nd (pi_tup (pv 0)) (blkOk_by (own := [("item", 1)]) (N := ["value", "item"]) (sc := defScope sas_tuples) (by decide +kernel)) (fun _ _ _ _ _ => (pg_name (i := 1) scas_tuples.nd rfl (Or.inl rfl))) (fun _ _ _ _ _ => pts_nil) (fun _ _ _ _ _ => (pe_call Gas_tuples hr rfl mas_tuples kas_tuples bas_tuples .nil pass0 (pa_cons (pv 1) pa_nil)))) pa_nil)))) pss_nil)
      (pss_one (ps_ret (pv 0)))), ?_⟩
          refine ⟨_, rfl, (by show 2 ≤ sizeLine; decide), fun tp htp => ?_⟩
          have sm1 := same_new (o := .tup [.ty "list", .ty "tuple"]) htp
          refine ⟨.ref a, tp, _, _, _, _, rfl, upd_same, cls_two, (De.keep sm1 (.tuple ds) (.ref a) ⟨a, xs, rfl, ha, hxs⟩).ty, kit_seq (.tuple ds), _, rfl, ?_⟩
          have ha1 := PT.keep sm1 ha
          have hxs1 := DeAll.keep sm1 ds xs hxs
          generalize L2.upd H tp (.tup [.ty "list", .ty "tuple"]) = H1 at sm1 ha1 hxs1 ⊢
          refine iteT ⟨_, rfl, a, rfl, ⟨_, PT.sq ha1⟩, fun D hD => lc_it (w := walk_tup (K := K) (a := a) (xs := xs))
            (fun i H' => Same H1 H' ∧ ∃ acc, H' D = some (.lst acc) ∧ acc.length = i ∧ ∀ H'', (∀ b o, b ≠ D → H1 b = none → H' b = some o → H'' b = some o) → DeAll H'' ((ds.take i).map toTuples) acc)
            ⟨same_new hD, [], upd_same, rfl, fun _ _ => rfl⟩ (fun i H' _ h => PT.sq (PT.keep h.1 ha1)) ?_ ?_⟩
          · rintro i x H2 _ hi ⟨s2, acc, hacc, el, hde⟩ ⟨rfl, ex⟩
            obtain ⟨d', ed, hx⟩ := hxs1.at ex
            refine ⟨rfl, _, rfl, d', x, rfl, De.keep s2 d' x hx, (by have := dptAll_at ed; omega), okwAll_at hw.2 ed, fun r H4 s4 f4 => ?_⟩
            have hD4 := s4 _ _ hacc
            refine ⟨acc, hD4, Nat.lt_of_le_of_lt (show acc.length ≤ 1000 by have := hw.1; omega) (by decide), fun b o e => ?_, acc ++ [r], upd_same, by rw [List.length_append, el]; rfl, fun H'' hf => ?_⟩
            · rw [upd_ne (ne_of_none e hD)]
              exact s4 _ _ (s2 _ _ e)
            · rw [List.take_add_one, ed, List.map_append]
              refine DeAll.snoc (hde H'' fun b o nb e0 e => hf b o nb e0 (by rw [upd_ne nb]; exact s4 _ _ e)) (f4 H'' fun b o e0 e => ?_)
              have nb : b ≠ D := fun z => by rw [z, hacc] at e0; cases e0
              refine hf b o nb ?_ (by rw [upd_ne nb]; exact e)
              cases q : H1 b with
              | none => rfl
              | some u => rw [s2 _ _ q] at e0; cases e0
          · rintro H' ⟨s2, acc, hacc, el, hde⟩
            refine ⟨D, acc, rfl, .inl ⟨SqL.of hacc, fun p ob hob hp => k (.ref p) _ (sm1.trans (s2.trans (same_new hp))) fun H'' hf => ⟨p, acc, rfl, ⟨ob, hf _ _ (sm1.free (s2.free hp)) upd_same, hob⟩, ?_⟩⟩⟩
            have e := hde H'' fun b o nb e0 e => hf b o (sm1.free e0) (by rw [upd_ne (ne_of_none e hp)]; exact e)
            rw [hl, List.take_length] at e
            rw [toTuplesAll_eq]
            exact e
        | none => cases hs
        | bool b => cases hs
        | int i => cases hs
        | str x => cases hs
        | dict kvs => exact hd.elim
end
end Nal

namespace Nal
open PySem L2 RZ
abbrev s_law_same : Stmt := topS 16
abbrev N_law_same : List Str := ["_law_got", "_law_due", "_law_lot_so", "_law_mine", "_law_its"]
abbrev P_law_same : List Str := ["_law_got", "_law_due"]
theorem sc_law_same : FnScope ["_law_got", "_law_due", "_law_lot_so", "_law_mine", "_law_its"] ["_law_got", "_law_due"] (defScope s_law_same) := ⟨rfl, rfl, rfl, by decide +kernel, rfl, by decide +kernel, by decide +kernel⟩
theorem walk_zipT {K : PySem.W.Frag} {a b : Addr} {xs ys : List V} {n : Nat} (hn : n = min xs.length ys.length) : Walk (ItzT K a b) n (fun H => SqT K H a xs ∧ SqT K H b ys) (YPair (fun i => xs[i]?) (fun i => ys[i]?)) := by
  subst hn
  refine ⟨fun i _ hi q => ?_, fun _ q => ⟨xs, ys, q.1, q.2, (by omega)⟩, fun i H v H' _ q y => ?_⟩
  · have h1 : i < xs.length := by omega
    have h2 : i < ys.length := by omega
    exact ⟨xs, ys, xs[i], ys[i], q.1, q.2, List.getElem?_eq_getElem h1, List.getElem?_eq_getElem h2⟩
  · obtain ⟨T, x, z, e1, e2, e3, e4, e5⟩ := y
    exact ⟨T, x, z, e1, e2, e3, e4 xs q.1, e5 ys q.2⟩
theorem all_true (n : Nat) : (List.replicate n true).all id = true := by
  induction n with
  | zero => rfl
  | succ n ih => rw [List.replicate_succ, List.all_cons, ih]; rfl
section
variable {P : Program} {w : World} {K : PySem.W.Frag} {mg : Str → Option Value} {base : Heap}
/-- the very same data twice: True -/
def spSame : Nat → Sp
  | 0 => fun _ _ _ _ => False
  | n + 1 => fun vs H Q _ => ∃ (d : PyData) (x y : V), vs = [x, y] ∧ De H d x ∧ De H d y ∧ dpt d ≤ n ∧ okw d ∧ ∀ H', Same H H' → Q (.bl true) H'
theorem kit_b {K : PySem.W.Frag} {t a : String} {r : Bool} (h : kitB t a = some r) : PySem.W.kitOne K (.type t) (.type a) = some r := kit_ty h
theorem ok_same {f : Addr} {fd : FuncData} (F : Fun K "_law_same" "_law_same" s_law_same f fd) (T : Txt K mg) (m_law_same : mg "_law_same" = some (.ref f)) (k_law_same : PySem.W.keepIn K (.ref f) = true)
    (b_law_same : Binds K fd ["_law_got", "_law_due"] []) : ∀ n, FnOk P w K mg base CX0 n f fd ["_law_got", "_law_due"] (spSame n)
  | 0 => ok_never
  | n + 1 => by
    have G_law_same := ok_same F T m_law_same k_law_same b_law_same n
    refine F.ok sc_law_same (fun vs H Q E h => ?_) (fun cdv A outer s H vs Q E hr h => ?_)
    · obtain ⟨d, x, y, rfl, _⟩ := h
      rfl
    · obtain ⟨d, x, y, rfl, hx, hy, hn, hw, k⟩ := h
      refine ⟨_, (pss_cons (ps_if (pt_val (pe_callB (r := rIsiT K) call_isiT (by rfl) T.b_isinstance (by decide +kernel) (pa_cons (pv 1) (pa_cons (pe_tup (pa_cons (pe_bltn (v := .ty "list") (u := .type "list") (by rfl) T.b_list (by decide +kernel) (by rfl)) (pa_cons (pe_bltn (v := .ty "tuple") (u := .type "tuple") (by rfl) T.b_tuple (by decide +kernel) (by rfl)) pa_nil))) pa_nil)))) (pss_cons (ps_if (PW.pt (pw_or (pt_cmpR op_ne (pe_callB (r := rIsi K) call_isi (by rfl) T.b_isinstance (by decide +kernel) (pa_cons (pv 0) (pa_cons (pe_bltn (v := .ty "list") (u := .type "list") (by rfl) T.b_list (by decide +kernel) (by rfl)) pa_nil))) (pe_callB (r := rIsi K) call_isi (by rfl) T.b_isinstance (by decide +kernel) (pa_cons (pv 1) (pa_cons (pe_bltn (v := .ty "list") (u := .type "list") (by rfl) T.b_list (by decide +kernel) (by rfl)) pa_nil))) (nomark _)) (pw_or1 (pt_cmpR op_ne (pe_callB (r := rIsi K) call_isi (by rfl) T.b_isinstance (by decide +kernel) (pa_cons (pv 0) (pa_cons (pe_bltn (v := .ty "tuple") (u := .type "tuple") (by rfl) T.b_tuple (by decide +kernel) (by rfl)) pa_nil))) (pe_callB (r := rIsi K) call_isi (by rfl) T.b_isinstance (by decide +kernel) (pa_cons (pv 1) (pa_cons (pe_bltn (v := .ty "tuple") (u := .type "tuple") (by rfl) T.b_tuple (by decide +kernel) (by rfl)) pa_nil))) (nomark _))))) (pss_one (ps_ret pe_bl)) pss_nil)
      (pss_one (ps_ret (pe_and (pe_cmpR op_eq (pe_callB (r := rLn K) call_len_seq (by rfl) T.b_len (by decide +kernel) (pa_cons (pv 0) pa_nil)) (pe_callB (r := rLn K) call_len_seq (by rfl) T.b_len (by decide +kernel) (pa_cons (pv 1) pa_nil)) (nomark _)) (pe_one (pe_callB (r := rAll K) (cr_all rfl) (by rfl) T.b_all (by decide +kernel) (pa_cons (pe_lc (own := [("_law_mine", 3), ("_law_its", 4)]) (g := (gTup K 2 (gCons (gName 3) (gCons (gName 4) gNil)))) (tt := tYes) rfl sc_law_same.nd (pi_zipA (by rfl) T.b_zip (pa_cons (pv 0) (pa_cons (pv 1) pa_nil))) (blkOk_by (own := [("_law_mine", 3), ("_law_its", 4)]) (N := ["_law_got", "_law_due", "_law_lot_so", "_law_mine", "_law_its"]) (sc := defScope s_law_same) (by decide +kernel)) (fun _ _ _ _ _ => (pg_tup rfl (pgs_cons (pg_name (i := 3) sc_law_same.nd rfl (Or.inl rfl)) (pgs_cons (pg_name (i := 4) sc_law_same.nd rfl (Or.inl rfl)) pgs_nil)))) (fun _ _ _ _ _ => pts_nil) (fun _ _ _ _ _ => (pe_call G_law_same hr rfl m_law_same k_law_same b_law_same .nil pass0 (pa_cons (pv 3) (pa_cons (pv 4) pa_nil))))) pa_nil))))))) pss_nil)
      (pss_cons (ps_if (pt_val (pe_callB (r := rIsi K) call_isi (by rfl) T.b_isinstance (by decide +kernel) (pa_cons (pv 1) (pa_cons (pe_bltn (v := .ty "dict") (u := .type "dict") (by rfl) T.b_dict (by decide +kernel) (by rfl)) pa_nil)))) (pss_cons ps_never
      (pss_one ps_never)) pss_nil)
      (pss_cons (ps_if (PW.pt (pw_or (pt_cmpR op_isN (pv 1) pe_non (nomark _)) (pw_or1 (pt_val (pe_callB (r := rIsiT K) call_isiT (by rfl) T.b_isinstance (by decide +kernel) (pa_cons (pv 1) (pa_cons (pe_tup (pa_cons (pe_bltn (v := .ty "bool") (u := .type "bool") (by rfl) T.b_bool (by decide +kernel) (by rfl)) (pa_cons (pe_bltn (v := .ty "str") (u := .type "str") (by rfl) T.b_str (by decide +kernel) (by rfl)) pa_nil))) pa_nil))))))) (pss_one (ps_ret (pe_and (pe_cmpR op_eq (pv 0) (pv 1) (nomark _)) (pe_and (pe_cmpR op_eq (pe_callB (r := rIsi K) call_isi (by rfl) T.b_isinstance (by decide +kernel) (pa_cons (pv 0) (pa_cons (pe_bltn (v := .ty "bool") (u := .type "bool") (by rfl) T.b_bool (by decide +kernel) (by rfl)) pa_nil))) (pe_callB (r := rIsi K) call_isi (by rfl) T.b_isinstance (by decide +kernel) (pa_cons (pv 1) (pa_cons (pe_bltn (v := .ty "bool") (u := .type "bool") (by rfl) T.b_bool (by decide +kernel) (by rfl)) pa_nil))) (nomark _)) (pe_one (pe_cmpR op_eq (pe_cmpR op_isN (pv 0) pe_non (nomark _)) (pe_cmpR op_isN (pv 1) pe_non (nomark _)) (nomark _))))))) pss_nil)
      (pss_one (ps_ret (pe_and (pe_callB (r := rIsi K) call_isi (by rfl) T.b_isinstance (by decide +kernel) (pa_cons (pv 0) (pa_cons (pe_bltn (v := .ty "int") (u := .type "int") (by rfl) T.b_int (by decide +kernel) (by rfl)) pa_nil))) (pe_and (pe_not (pe_callB (r := rIsi K) call_isi (by rfl) T.b_isinstance (by decide +kernel) (pa_cons (pv 0) (pa_cons (pe_bltn (v := .ty "bool") (u := .type "bool") (by rfl) T.b_bool (by decide +kernel) (by rfl)) pa_nil)))) (pe_one (pe_cmpR op_eq (pv 0) (pv 1) (nomark _)))))))))), ?_⟩
      refine ⟨_, rfl, (by show 2 ≤ sizeLine; decide), fun tp htp => ⟨y, tp, _, _, _, _, rfl, upd_same, cls_two, (hy.keep (same_new htp)).ty, kit_seq d, _, rfl, ?_⟩⟩
      have sm1 := same_new (o := .tup [.ty "list", .ty "tuple"]) htp
      have hx1 := De.keep sm1 d x hx
      have hy1 := De.keep sm1 d y hy
      generalize L2.upd H tp (.tup [.ty "list", .ty "tuple"]) = H1 at sm1 hx1 hy1 ⊢
      cases d with
      | none =>
        cases (show x = .non from hx)
        cases (show y = .non from hy)
        refine iteF ⟨_, rfl, _, _, _, _, _, rfl, .ty "dict", hy1.ty, kit_b (t := "NoneType") (r := false) (by decide +kernel), _, rfl, iteF ?_⟩
        refine ⟨_, rfl, rfl, _, rfl, ite2 (fun _ => iteT ?_) (fun c => (c (decide_eq_true rfl)).elim)⟩
        refine ⟨_, rfl, _, rfl, rfl, _, rfl, ite2 (fun _ => ?_) (fun c => (c (decide_eq_true rfl)).elim)⟩
        refine ⟨_, rfl, _, _, _, _, _, rfl, .ty "bool", hx1.ty, kit_b (t := "NoneType") (r := false) (by decide +kernel), _, rfl, _, _, _, _, _, rfl, .ty "bool", hy1.ty, kit_b (t := "NoneType") (r := false) (by decide +kernel), rfl, _, rfl, ite2 (fun _ => ?_) (fun c => (c (decide_eq_true rfl)).elim)⟩
        exact ⟨_, rfl, rfl, _, rfl, rfl, rfl, k _ sm1⟩
      | bool b =>
        cases (show x = .bl b from hx)
        cases (show y = .bl b from hy)
        refine iteF ⟨_, rfl, _, _, _, _, _, rfl, .ty "dict", hy1.ty, kit_b (t := "bool") (r := false) (by decide +kernel), _, rfl, iteF ?_⟩
        refine ⟨_, rfl, rfl, _, rfl, ite2 (fun c => nomatch (of_decide_eq_true c)) (fun _ => ?_)⟩
        refine ⟨_, rfl, (by show 2 ≤ sizeLine; decide), fun t2 ht2 => ⟨_, t2, _, _, _, _, rfl, upd_same, cls_two, (hy1.keep (same_new ht2)).ty, kit_two (t := "bool") (x := true) (y := false) (r := true) (by decide +kernel) (by decide +kernel) rfl, _, rfl, iteT ?_⟩⟩
        have sm2 := same_new (o := .tup [.ty "bool", .ty "str"]) ht2
        have hx2 := De.keep sm2 _ _ hx1
        have hy2 := De.keep sm2 _ _ hy1
        refine ⟨_, rfl, _, rfl, rfl, _, rfl, ite2 (fun _ => ?_) (fun c => (c (decide_eq_true rfl)).elim)⟩
        refine ⟨_, rfl, _, _, _, _, _, rfl, .ty "bool", hx2.ty, kit_b (t := "bool") (r := true) (by decide +kernel), _, rfl, _, _, _, _, _, rfl, .ty "bool", hy2.ty, kit_b (t := "bool") (r := true) (by decide +kernel), rfl, _, rfl, ite2 (fun _ => ?_) (fun c => (c (decide_eq_true rfl)).elim)⟩
        exact ⟨_, rfl, rfl, _, rfl, rfl, rfl, k _ (sm1.trans sm2)⟩
      | str z =>
        cases (show x = .str z from hx)
        cases (show y = .str z from hy)
        refine iteF ⟨_, rfl, _, _, _, _, _, rfl, .ty "dict", hy1.ty, kit_b (t := "str") (r := false) (by decide +kernel), _, rfl, iteF ?_⟩
        refine ⟨_, rfl, rfl, _, rfl, ite2 (fun c => nomatch (of_decide_eq_true c)) (fun _ => ?_)⟩
        refine ⟨_, rfl, (by show 2 ≤ sizeLine; decide), fun t2 ht2 => ⟨_, t2, _, _, _, _, rfl, upd_same, cls_two, (hy1.keep (same_new ht2)).ty, kit_two (t := "str") (x := false) (y := true) (r := true) (by decide +kernel) (by decide +kernel) rfl, _, rfl, iteT ?_⟩⟩
        have sm2 := same_new (o := .tup [.ty "bool", .ty "str"]) ht2
        have hx2 := De.keep sm2 _ _ hx1
        have hy2 := De.keep sm2 _ _ hy1
        refine ⟨_, rfl, _, rfl, rfl, _, rfl, ite2 (fun _ => ?_) (fun c => (c (decide_eq_true rfl)).elim)⟩
        refine ⟨_, rfl, _, _, _, _, _, rfl, .ty "bool", hx2.ty, kit_b (t := "str") (r := false) (by decide +kernel), _, rfl, _, _, _, _, _, rfl, .ty "bool", hy2.ty, kit_b (t := "str") (r := false) (by decide +kernel), rfl, _, rfl, ite2 (fun _ => ?_) (fun c => (c (decide_eq_true rfl)).elim)⟩
        exact ⟨_, rfl, rfl, _, rfl, rfl, rfl, k _ (sm1.trans sm2)⟩
      | int i =>
        cases (show x = .int i from hx)
        cases (show y = .int i from hy)
        refine iteF ⟨_, rfl, _, _, _, _, _, rfl, .ty "dict", hy1.ty, kit_b (t := "int") (r := false) (by decide +kernel), _, rfl, iteF ?_⟩
        refine ⟨_, rfl, rfl, _, rfl, ite2 (fun c => nomatch (of_decide_eq_true c)) (fun _ => ?_)⟩
        refine ⟨_, rfl, (by show 2 ≤ sizeLine; decide), fun t2 ht2 => ⟨_, t2, _, _, _, _, rfl, upd_same, cls_two, (hy1.keep (same_new ht2)).ty, kit_two (t := "int") (x := false) (y := false) (r := false) (by decide +kernel) (by decide +kernel) rfl, _, rfl, iteF ?_⟩⟩
        have sm2 := same_new (o := .tup [.ty "bool", .ty "str"]) ht2
        have hx2 := De.keep sm2 _ _ hx1
        have hy2 := De.keep sm2 _ _ hy1
        refine ⟨_, rfl, _, _, _, _, _, rfl, .ty "int", hx2.ty, kit_b (t := "int") (r := true) (by decide +kernel), _, rfl, iteT ?_⟩
        refine ⟨_, rfl, _, _, _, _, _, rfl, .ty "bool", hx2.ty, kit_b (t := "int") (r := false) (by decide +kernel), _, rfl, _, rfl, iteT ?_⟩
        refine ⟨_, rfl, _, rfl, rfl, ?_⟩
        have e : decide (V.int i = V.int i) = true := decide_eq_true rfl
        show Q (.bl (decide (V.int i = V.int i))) _
        rw [e]
        exact k _ (sm1.trans sm2)
      | list ds =>
        obtain ⟨a, xs, rfl, ha, hxs⟩ := hx
        obtain ⟨b, ys, rfl, hb, hys⟩ := hy
        have ha1 := sm1 _ _ ha
        have hb1 := sm1 _ _ hb
        have hxs1 := DeAll.keep sm1 ds xs hxs
        have hys1 := DeAll.keep sm1 ds ys hys
        have hle : dptAll ds + 1 ≤ n := hn
        obtain ⟨m, rfl⟩ : ∃ m, n = m + 1 := ⟨n - 1, by omega⟩
        have lx : xs.length = ds.length := hxs.len
        have ly : ys.length = ds.length := hys.len
        refine iteT ⟨_, rfl, _, _, _, _, _, rfl, .ty "list", hx1.ty, kit_b (t := "list") (r := true) (by decide +kernel), _, rfl, _, _, _, _, _, rfl, .ty "list", hy1.ty, kit_b (t := "list") (r := true) (by decide +kernel), rfl, _, rfl, iteF ?_⟩
        refine ⟨_, rfl, _, _, _, _, _, rfl, .ty "tuple", hx1.ty, kit_b (t := "list") (r := false) (by decide +kernel), _, rfl, _, _, _, _, _, rfl, .ty "tuple", hy1.ty, kit_b (t := "list") (r := false) (by decide +kernel), rfl, _, rfl, iteF ?_⟩
        refine ⟨_, rfl, a, _, rfl, .inl (SqL.of ha1), _, rfl, b, _, rfl, .inl (SqL.of hb1), rfl, _, rfl, ite2 (fun _ => ?_) (fun c => (c (decide_eq_true (by rw [lx, ly]))).elim)⟩
        refine ⟨_, rfl, _, rfl, a, b, xs, ys, rfl, .inl ⟨SqL.of ha1, SqL.of hb1, fun D hD => lc_it (w := walk_zip (K := K) (a := a) (b := b) (xs := xs) (ys := ys) (n := ds.length) (by omega))
          (fun i H' => Same H1 H' ∧ H' D = some (.lst ((List.replicate i true).map V.bl))) ⟨same_new hD, upd_same⟩ (fun i H' _ h => ⟨SqL.of (h.1 _ _ ha1), SqL.of (h.1 _ _ hb1)⟩) ?_ ?_⟩⟩
        · rintro i x H2 _ hi ⟨s2, hacc⟩ ⟨T1, x1, y1, rfl, hT1, rfl, e1, e2⟩
          obtain ⟨dx, ex, hdx⟩ := hxs1.at e1
          obtain ⟨dy, ey, hdy⟩ := hys1.at e2
          cases ex.symm.trans ey
          have sT := s2.trans (same_new (o := .tup [x1, y1]) hT1)
          refine ⟨T1, _, rfl, SqT.of upd_same, rfl, _, _, rfl, _, _, rfl, rfl, rfl, ?_⟩
          refine ⟨_, rfl, _, rfl, dx, x1, y1, rfl, De.keep sT _ _ hdx, De.keep sT _ _ hdy, (by have := dptAll_at ex; omega), okwAll_at hw.2 ex, fun H4 s4 => ?_⟩
          have hD4 := s4 _ _ ((same_new (o := .tup [x1, y1]) hT1) _ _ hacc)
          refine ⟨_, hD4, Nat.lt_of_le_of_lt (show _ ≤ 1000 by rw [List.length_map, List.length_replicate]; have := hw.1; omega) (by decide), fun b' o e => ?_, ?_⟩
          · rw [upd_ne (ne_of_none e hD)]
            exact s4 _ _ (sT _ _ e)
          · rw [upd_same, List.replicate_succ', List.map_append]
            rfl
        · rintro H' ⟨s2, hacc⟩
          refine ⟨D, _, rfl, SqL.of hacc, ?_⟩
          rw [all_true]
          exact k H' (sm1.trans s2)
      | tuple ds =>
        obtain ⟨a, xs, rfl, ha, hxs⟩ := hx
        obtain ⟨b, ys, rfl, hb, hys⟩ := hy
        have ha1 := PT.keep sm1 ha
        have hb1 := PT.keep sm1 hb
        have hxs1 := DeAll.keep sm1 ds xs hxs
        have hys1 := DeAll.keep sm1 ds ys hys
        have hle : dptAll ds + 1 ≤ n := hn
        obtain ⟨m, rfl⟩ : ∃ m, n = m + 1 := ⟨n - 1, by omega⟩
        have lx : xs.length = ds.length := hxs.len
        have ly : ys.length = ds.length := hys.len
        refine iteT ⟨_, rfl, _, _, _, _, _, rfl, .ty "list", hx1.ty, kit_b (t := "tuple") (r := false) (by decide +kernel), _, rfl, _, _, _, _, _, rfl, .ty "list", hy1.ty, kit_b (t := "tuple") (r := false) (by decide +kernel), rfl, _, rfl, iteF ?_⟩
        refine ⟨_, rfl, _, _, _, _, _, rfl, .ty "tuple", hx1.ty, kit_b (t := "tuple") (r := true) (by decide +kernel), _, rfl, _, _, _, _, _, rfl, .ty "tuple", hy1.ty, kit_b (t := "tuple") (r := true) (by decide +kernel), rfl, _, rfl, iteF ?_⟩
        refine ⟨_, rfl, a, _, rfl, .inr (PT.sq ha1), _, rfl, b, _, rfl, .inr (PT.sq hb1), rfl, _, rfl, ite2 (fun _ => ?_) (fun c => (c (decide_eq_true (by rw [lx, ly]))).elim)⟩
        refine ⟨_, rfl, _, rfl, a, b, xs, ys, rfl, .inr ⟨PT.sq ha1, PT.sq hb1, fun D hD => lc_it (w := walk_zipT (K := K) (a := a) (b := b) (xs := xs) (ys := ys) (n := ds.length) (by omega))
          (fun i H' => Same H1 H' ∧ H' D = some (.lst ((List.replicate i true).map V.bl))) ⟨same_new hD, upd_same⟩ (fun i H' _ h => ⟨PT.sq (PT.keep h.1 ha1), PT.sq (PT.keep h.1 hb1)⟩) ?_ ?_⟩⟩
        · rintro i x H2 _ hi ⟨s2, hacc⟩ ⟨T1, x1, y1, rfl, hT1, rfl, e1, e2⟩
          obtain ⟨dx, ex, hdx⟩ := hxs1.at e1
          obtain ⟨dy, ey, hdy⟩ := hys1.at e2
          cases ex.symm.trans ey
          have sT := s2.trans (same_new (o := .tup [x1, y1]) hT1)
          refine ⟨T1, _, rfl, SqT.of upd_same, rfl, _, _, rfl, _, _, rfl, rfl, rfl, ?_⟩
          refine ⟨_, rfl, _, rfl, dx, x1, y1, rfl, De.keep sT _ _ hdx, De.keep sT _ _ hdy, (by have := dptAll_at ex; omega), okwAll_at hw.2 ex, fun H4 s4 => ?_⟩
          have hD4 := s4 _ _ ((same_new (o := .tup [x1, y1]) hT1) _ _ hacc)
          refine ⟨_, hD4, Nat.lt_of_le_of_lt (show _ ≤ 1000 by rw [List.length_map, List.length_replicate]; have := hw.1; omega) (by decide), fun b' o e => ?_, ?_⟩
          · rw [upd_ne (ne_of_none e hD)]
            exact s4 _ _ (sT _ _ e)
          · rw [upd_same, List.replicate_succ', List.map_append]
            rfl
        · rintro H' ⟨s2, hacc⟩
          refine ⟨D, _, rfl, SqL.of hacc, ?_⟩
          rw [all_true]
          exact k H' (sm1.trans s2)
      | dict kvs => exact hx.elim
end
end Nal

namespace Nal
open PySem L2 RZ PyProof.Rows
section
variable {M : Model} {A : Around} {E : Value → Shared → Prop} {h : Heap} {g : Array GenState} {d : Drawn} {t : Nat} {os : OsState}
variable {nm q : Str} {C N : Addr} {bs bm bmB : List Value} {hdct : Bool} {sn : List Str} {sub : List Value} {ab : Bool} {col : Option Bool} {dd : Option Addr} {k0 k1 k2 k3 k5 : Option Value} {B newId initId : String}
theorem kw_check (F : ExcBaseFacts B newId initId bmB) (hT : ∀ X : String, bm.contains (.type X) = bmB.contains (.type X)) {kn : Str} {kv : Value} {Q : Unit → Shared → Prop}
    (hC : h.get? C = some (excClassObj nm q C N bs bm hdct sn sub ab col dd k0 k1 k2 k3 k5 newId)) (hq : Q () ⟨h, g, d, t, os⟩) : wpAny M A (checkBuiltinCall newId ⟨[.ref C], [(kn, kv)]⟩) Q E ⟨h, g, d, t, os⟩ := by
  have sub1 : (Value.ref C :: bm).contains (.type B) = true := by
    rw [List.contains_cons, hT, F.hasB, Bool.or_true]
  have noSt := F.noStar
  simp only [checkBuiltinCall, F.newKind, F.newSplit, F.newRow]
  repeat (first
    | refine wpAny_loadPart_at hC ?_
    | (refine wpAny_isSubtype_exc hC ?_
       rw [sub1])
    | refine wpAny_staticBase_exc hC ?_
    | refine wpAny_madeBy_exc hC ?_
    | simp only [bne_self_eq_false, Bool.false_eq_true, if_false]
    | wp_step)
  exact hq
end
section
variable {prog : Program} {w : World} {A : Around} {E : Value → Shared → Prop} {R : Result → Shared → Prop} {h : Heap} {g : Array GenState} {d : Drawn} {t : Nat} {os : OsState}
variable {nm q : Str} {C N : Addr} {bs bm bmB : List Value} {hdct : Bool} {sn : List Str} {sub : List Value} {ab : Bool} {col : Option Bool} {dd : Option Addr} {k0 k1 k2 k3 k5 : Option Value} {B newId initId : String}
/-- BaseException.__new__, called with a keyword that it passes over -/
theorem kw_new (F : ExcBaseFacts B newId initId bmB) (hT : ∀ X : String, bm.contains (.type X) = bmB.contains (.type X)) {kn : Str} {kv : Value}
    (hC : h.get? C = some (excClassObj nm q C N bs bm hdct sn sub ab col dd k0 k1 k2 k3 k5 newId))
    (out : R (.ok (.ret (.ref (h.objs.size + 1)))) ⟨(h.push (PySem.W.kdv_tup [])).push (PySem.HandSPX.excO C h.objs.size), g, d, t, os⟩) :
    codeAny (model prog w) A (.builtin newId ⟨[.ref C], [(kn, kv)]⟩) R ⟨h, g, d, t, os⟩ := by
  have atEnd := F.ends
  have s1 : (Value.ref C :: bm).contains (.type B) = true := by
    rw [List.contains_cons, hT, F.hasB, Bool.or_true]
  have s2 : (Value.ref C :: bm).contains (.type "AttributeError") = false := by
    rw [List.contains_cons, hT, F.noAttr]
    rfl
  have s3 : (Value.ref C :: bm).contains (.type "NameError") = false := by
    rw [List.contains_cons, hT, F.noName]
    rfl
  refine codeAny_builtinAt F.entry ?_
  unfold Builtin.«BaseException.__new__»
  refine PySem.wpAt_bind ?_
  show PySem.wpAt _ _ _ (stack >>= _) _ _ _
  refine PySem.wpAt_bind (PySem.wpAt_stack fun p below => PySem.wpAt_of_wpAny ?_)
  wp_walk
  refine PySem.wpAt_of_wpAny ?_
  rw [F.owner]
  repeat (first
    | with_reducible refine wpAny_madeHere_exc F.canon hC ?_
    | with_reducible refine wpAny_loadPart_at hC ?_
    | (with_reducible refine wpAny_isSubtype_exc hC ?_
       first
         | rw [s1]
         | rw [s2]
         | rw [s3])
    | wp_step)
  show R _ _
  rw [Heap.size_push]
  exact out
/-- the class called with a keyword: the object is laid, then its own __init__ with that keyword -/
theorem kw_type_call (F : ExcBaseFacts B newId initId bmB) (hT : ∀ X : String, bm.contains (.type X) = bmB.contains (.type X)) {kn : Str} {kv : Value} {fI : Addr} {Q : Fin → Shared → Prop}
    (hC : h.get? C = some (excClassObj nm q C N bs bm hdct sn sub ab col dd k0 k1 k2 k3 k5 newId))
    (lI : PySem.W.Looks (model prog w) h (typeLookup (.ref C) "__init__") (some (.ref fI))) (lB : ∀ self, PySem.W.Looks (model prog w) h (bindSpecial (.ref fI) self) (.ref fI, [self]))
    (out : codeAny (model prog w) A (.call (.ref fI) ⟨[.ref (h.objs.size + 1)], [(kn, kv)]⟩)
      (fun r s' => match r with | .ok (.ret v) => v = .none ∧ Q (.done (.ret (.ref (h.objs.size + 1)))) s' | .ok _ => False | .error e => E e s')
      ⟨(h.push (PySem.W.kdv_tup [])).push (PySem.HandSPX.excO C h.objs.size), g, d, t, os⟩) :
    wpAny (model prog w) A (Builtin.«type.__call__» ⟨[.ref C], [(kn, kv)]⟩) Q E ⟨h, g, d, t, os⟩ := by
  repeat (first
    | with_reducible refine wpAny_loadPart_at hC ?_
    | with_reducible refine wpAny_madeBy_exc hC ?_
    | wp_step)
  refine codeAny_call_builtin_code (Code.quiet_builtin _ F.quiet) (kw_check F hT hC ?_)
  refine kw_new F hT hC ?_
  show wpAny _ _ _ _ _ _
  have old : ∀ b o, h.get? b = some o → ((h.push (PySem.W.kdv_tup [])).push (PySem.HandSPX.excO C h.objs.size)).get? b = some o := fun b o e => Heap.get?_push_of_some _ (Heap.get?_push_of_some _ e)
  have cls1 := old _ _ hC
  have here_ : ((h.push (PySem.W.kdv_tup [])).push (PySem.HandSPX.excO C h.objs.size)).get? (h.objs.size + 1) = some (PySem.HandSPX.excO C h.objs.size) := by heap_get
  have self1 : (Value.ref C :: bm).contains (.ref C) = true := by simp
  have i1 := lI.keeps old
  have b1 := (lB (.ref (h.objs.size + 1))).keeps old
  unfold isInstance
  repeat (first
    | with_reducible refine wpAny_loadPart_at here_ ?_
    | (with_reducible refine wpAny_isSubtype_exc cls1 ?_
       rw [self1])
    | wp_step)
  show wpAny _ _ (typeLookup (.ref C) _) _ _ _
  refine i1.at ?_
  refine wpAny_holding (wpAny_bind (b1.at ?_))
  refine wpAny_bind (wpAny_call (codeAny_mono out fun r s' z => ?_))
  cases r with
  | error e => exact z
  | ok fl =>
    cases fl with
    | next => exact z.elim
    | brk => exact z.elim
    | cont => exact z.elim
    | ret v =>
      obtain ⟨rfl, z⟩ := z
      first
        | exact wpAny_pure (wpAny_pure z)
        | (wp_walk
           exact z)
theorem kw_call (F : ExcBaseFacts B newId initId bmB) (hT : ∀ X : String, bm.contains (.type X) = bmB.contains (.type X)) {kn : Str} {kv : Value} {fI : Addr}
    (hC : h.get? C = some (excClassObj nm q C N bs bm hdct sn sub ab col dd k0 k1 k2 k3 k5 newId))
    (lI : PySem.W.Looks (model prog w) h (typeLookup (.ref C) "__init__") (some (.ref fI))) (lB : ∀ self, PySem.W.Looks (model prog w) h (bindSpecial (.ref fI) self) (.ref fI, [self]))
    (out : codeAny (model prog w) (A.under (.builtin "type.__call__" ⟨[.ref C], [(kn, kv)]⟩)) (.call (.ref fI) ⟨[.ref (h.objs.size + 1)], [(kn, kv)]⟩) (PySem.W.InitBack (h.objs.size + 1) R)
      ⟨(h.push (PySem.W.kdv_tup [])).push (PySem.HandSPX.excO C h.objs.size), g, d, t, os⟩) :
    codeAny (model prog w) A (.call (.ref C) ⟨[], [(kn, kv)]⟩) R ⟨h, g, d, t, os⟩ := by
  have f1 := tc_lookup
  have f2 := tc_bind (.ref C)
  have isT : (⟨h, g, d, t, os⟩ : Shared).TypeIs (.ref C) "type" := ⟨_, hC, rfl⟩
  refine codeAny_of_tree ?_
  show wpAny _ _ (callAny (.ref C) _) _ _ _
  repeat (any_goals (first
    | assumption
    | with_reducible refine wpAny_loadPart_at hC ?_
    | wp_step))
  refine ⟨rfl, ?_⟩
  refine codeAny_call_builtin_at (Code.quiet_builtin _ (by decide +kernel)) entry_typeCall (wpAny_check_type_call_sub hC (kw_type_call F hT hC lI lB ?_))
  refine codeAny_mono out fun r s' z => ?_
  cases r with
  | error e => exact z
  | ok fl => cases fl <;> exact z
end
end Nal

namespace Nal
open PySem L2 RZ PyProof.Rows
/-! ### own classes over a built-in error, whose __init__ calls the base's by the class -/
structure Bas where
  T : String
  x : Str
  newId : String
  initId : String
  bmB : List Value
structure Bas.Ok (B : Bas) : Prop where
  F : ExcBaseFacts B.T B.newId B.initId B.bmB
  S : StoreFacts B.T B.bmB "object.__setattr__" "object"
  ty : typeOf (.type B.T) = pure (.type "type")
  stub : Manifest.isStub B.T = false
  boot : bootBuiltins B.x = some (.type B.T)
  n1 : B.x ≠ "__name__"
  n2 : (B.x == ("__debug__" : Str)) = false
  hand : PySem.W.handedIn (.builtin B.initId) = true
def basL : Bas := ⟨"LookupError", "LookupError", "LookupError.__new__", "LookupError.__init__", [.type "LookupError", .type "Exception", .type "BaseException", .type "object"]⟩
def basV : Bas := ⟨"ValueError", "ValueError", "ValueError.__new__", "ValueError.__init__", [.type "ValueError", .type "Exception", .type "BaseException", .type "object"]⟩
theorem ty_LE : typeOf (.type "LookupError") = pure (.type "type") := by kernel_rfl
theorem basL_ok : basL.Ok := ⟨PySem.F.excBase_LookupError, PySem.F.store_LookupError, ty_LE, by decide +kernel, PyProof.Rows.Boot.«LookupError», by decide, by decide, by decide +kernel⟩
theorem basV_ok : basV.Ok := ⟨PySem.F.excBase_ValueError, PySem.F.store_ValueError, PySem.OEX.typ_VE, by decide +kernel, PyProof.Rows.Boot.«ValueError», by decide, by decide, by decide +kernel⟩
structure Nex (K : PySem.W.Frag) (C : Addr) (B : Bas) : Prop where
  ini : PySem.W.excInitIn K C B.bmB B.newId = true
  ovr : PySem.W.excOver K C B.bmB = true
  dct : PySem.W.hasDictIn K C = true
  sta : PySem.W.findIn K (.ref C) "__setattr__" = some (some (.builtin "object.__setattr__"))
  isB : PySem.W.subIn K (.ref C) (.type "BaseException") = some true
  met : PySem.W.typeIn K (.ref C) = some (.type "type")
  kep : PySem.W.keepIn K (.ref C) = true
  cd : (PySem.W.clsIn K C).isSome = true
  ga : PySem.W.findIn K (.ref C) "__getattribute__" = some (some (.builtin "BaseException.__getattribute__"))
  gt : PySem.W.findIn K (.ref C) "__getattr__" = some none
  cl : PySem.W.findIn K (.ref C) "__class__" = some (some (.builtin "object.__class__"))
  dg : PySem.W.specialIn K (.builtin "object.__class__") "__get__" = some (some (.builtin "getset_descriptor.__get__"))
  tk : PySem.W.takesIn K (.builtin "object.__class__") = some true
  mo : PySem.W.mroIn K C (.type "object") = some true
section
variable {X : Cx} {pins : List (Addr × Obj)} {σ : L2.St} {H : Hp} {s : Shared} {a C : Addr} {B : Bas} {f : Str} {y : V} {u : Value} {A : Around} {E : Value → Shared → Prop}
/-- what the heap is behind the first store into a -/
def stored (H : Hp) (a C dx : Addr) (f : Str) (y : V) : Hp := L2.upd (L2.upd (L2.upd H dx (exd dx [])) a (exo a C (some dx))) dx (exd dx [(f, y)])
theorem nex_store {Q : Unit → Shared → Prop} (o : B.Ok) (T : Nex X.K C B) (I : Inv X pins σ H s) (e : H a = some (exo a C none)) (tk : PySem.W.takerIn X.K C f = some none) (ry : RelV y u)
    (k : ∀ dx s', H dx = none → dx ≠ a → Inv X pins σ (stored H a C dx f y) s' → Q () s') : wpAny (model X.prog X.w) A (setAttr (.ref a) f u) Q E s := by
  obtain ⟨t1, ho⟩ := exo_at I.hok e
  obtain ⟨hp, g, d, t, os⟩ := s
  refine PySem.W.set_plain I.kIn (od := none) ⟨ho, rfl, rfl, trivial⟩ T.sta ?_
  refine PySem.W.osa_openX (od := none) o.S I.kIn ⟨ho, rfl, rfl, trivial⟩ T.ovr tk fun b => ?_
  obtain ⟨cd, hc, hd⟩ := PySem.W.any_some T.dct
  refine wpAny_bind (wpAny_pure (wpAny_bind (PySem.W.instanceDict_exc ho (PySem.W.looks_clsIn I.kIn hc) hd ?_)))
  show wpAny _ _ (Builtin.ObjectAttr.storeInDict hp.objs.size (.str f _) f u) _ _ _
  have lt : a < hp.objs.size := Heap.lt_size ho
  let d0 : Obj := PySem.W.dictOf [] 0
  have made : (hp.push d0).get? hp.objs.size = some d0 := Heap.get?_push_size _ rfl
  have nD : H hp.objs.size = none := I.hok.fresh (Nat.le_refl _)
  have n0 : (hp.push d0).Ns1 hp.objs.size (fun _ => none) := Heap.Ns1.of_empty ⟨_, #[], _, made, rfl, fun e he => absurd he (by simp), fun _ => rfl⟩
  have I1 : Inv X pins σ (L2.upd H hp.objs.size (exd hp.objs.size [])) ⟨hp.push d0, g, d, t, os⟩ :=
    I.laid (t' := t) (fun b u z => Heap.get?_push_of_some _ z) (Nat.le_refl _) (exd_ok n0 fun _ => trivial)
  obtain ⟨o1, es1, ep1, q1, q2⟩ := id n0
  let fD : Obj → Obj := fun o => { o with dict := some hp.objs.size }
  have hx0 : (hp.push d0).get? a = some _ := Heap.get?_push_of_some _ ho
  have hx1 := Heap.get?_update_self fD hx0 rfl
  have oth : ∀ b, b ≠ a → ((hp.push d0).update a fD).get? b = (hp.push d0).get? b := fun b hb => Heap.get?_update_other _ _ (Ne.symm hb)
  have da : hp.objs.size ≠ a := Nat.ne_of_gt lt
  have I2 : Inv X pins σ (L2.upd (L2.upd H hp.objs.size (exd hp.objs.size [])) a (exo a C (some hp.objs.size))) ⟨(hp.push d0).update a fD, g, d, t, os⟩ :=
    I1.write (t' := t) (x := a) (e := a) (by rw [upd_ne da.symm, e]; exact trivial) (.inl rfl) (fun b u nb z => (oth b nb).trans z) ⟨_, hx1⟩ (exo_ok hx1)
  have n1 : ((hp.push d0).update a fD).Ns hp.objs.size (fun _ => none) := ⟨_, #[], _, (oth _ da).trans made, rfl, fun e he => absurd he (by simp), fun _ => rfl⟩
  refine PySem.HandSPX.store_in_new n1 fun h' tk' hn hs => ?_
  have hd1 : ∃ u, h'.get? hp.objs.size = some u := by
    obtain ⟨o, _, _, e', _⟩ := hn
    exact ⟨o, e'⟩
  exact k _ _ nD da (I2.write (t' := tk') (x := hp.objs.size) (e := hp.objs.size) (by rw [upd_ne da, upd_same]; exact trivial) (.inl rfl) (fun b u nb z => (hs.2 b nb).trans z) hd1 (exd_ok hn (relO_put (fs := []) ry fun _ => trivial)))
/-- the base's __init__, called with the object -/
theorem nex_init {d : Option Addr} {us : List Value} {Q : Value → Shared → Prop} (o : B.Ok) (T : Nex X.K C B) (I : Inv X pins σ H s) (e : H a = some (exo a C d)) (hl : us.length ≤ sizeLine) (k : ∀ s', Inv X pins σ (L2.upd H a (exo a C d)) s' → Q .none s') :
    wpAny (model X.prog X.w) A (call (.builtin B.initId) (.ref a :: us)) Q E s := by
  obtain ⟨t1, ho⟩ := exo_at I.hok e
  obtain ⟨nm, N, qn, bs, bm, hdct, sn, sub, ab, col, dd, k0, k1, k2, k3, k5, hC, hT⟩ := PySem.W.excInit_of I.kIn T.ini
  obtain ⟨hp, g, dr, t, os⟩ := s
  refine wpAny_call (codeAny_call_builtin o.F.init.plain o.F.initEntry (PySem.HandSPX.check_init_own o.F hT hC ho rfl ?_))
  exact PySem.W.exc_init_tree (cls := .ref C) (t0 := t1) (dv := d) (c2 := .none) (c3 := .none) (b4 := .bool false) ho hl fun h' kp hx _ =>
    k _ (I.write (t' := t) (x := a) (e := a) (by rw [e]; exact trivial) (.inl rfl) kp ⟨_, hx⟩ (exo_ok hx))
end
/-- B.__init__(self, ..) -/
def tNxI (K : PySem.W.Frag) (B : Bas) (ta : TA) : TE := fun σ H Q => ta σ H fun vs H1 => ∃ (a C : Addr) (d : Option Addr) (ws : List V), vs = .ref a :: ws ∧ ws.length ≤ 1000 ∧ Nex K C B ∧ H1 a = some (exo a C d) ∧ Q .non (L2.upd H1 a (exo a C d))
/-- self.f = e, the first one -/
def tNxS (K : PySem.W.Frag) (f : Str) (to te : TE) : TS := fun D σ H => te σ H fun y H1 => to σ H1 fun x H2 => ∃ (a C : Addr) (B : Bas), x = .ref a ∧ B.Ok ∧ Nex K C B ∧ PySem.W.takerIn K C f = some none ∧ H2 a = some (exo a C none) ∧
  ∀ dx, H2 dx = none → dx ≠ a → D.nx σ (stored H2 a C dx f y)
section
variable {X : Cx} {o e : Expr} {es : List Expr} {to te : TE} {ta : TA} {f : Str} {B : Bas} {p p' p1 p2 pos : Pos}
theorem pe_nxI {pl : Sem Bool} (b : B.Ok) (gl : Gl X B.x) (mn : X.mg B.x = none) (vL : PySem.W.findCls X.K (.type B.T) (.type "type") "__init__" = some (.val (.builtin B.initId))) (ha : PA X (e :: es) ta)
    (hc : eval (.Call (.Attribute (.Name B.x p1) "__init__" p2) (e :: es) [] pos) X.env = (do
      let base ← eval (.Name B.x p1) X.env
      standAt p2.atName
      let (meth, front) ← holding [base] (getMethod base "__init__" pl)
      callWith pos meth front (backTo pos (starEach (e :: es) X.env)) (backToKw pos (keywordEach [] X.env))) := by rfl)
    (he : starEach (e :: es) X.env = (false, eval e X.env) :: starEach es X.env := by rfl) (hpl : (backTo pos (starEach es X.env)).any (·.1) = false := by rfl) :
    PE X (.Call (.Attribute (.Name B.x p1) "__init__" p2) (e :: es) [] pos) (tNxI X.K B ta) := by
  refine ⟨fun pins s σ H Q I h => ?_⟩
  refine PySem.W.methodCall_KW (ld_blt I gl mn b.boot ?_ b.n1 b.n2) hc
  obtain ⟨m, fr⟩ := I.fr
  refine PySem.W.method_type fr I.ok.mod.kin b.ty b.stub vL b.hand ?_
  show wpAny _ _ (callWith pos (Value.builtin B.initId) [] (backTo pos (starEach (e :: es) X.env)) []) _ _ _
  refine PyProof.Rows.callWith_method1 (thn (ha.run pos pins _ σ H _ (I.tok _) h) fun us s1 w1 => ?_) he hpl
  obtain ⟨vs, H1, I1, r1, a, C, d, ws, rfl, hl, T, ea, q⟩ := w1
  cases r1 with
  | @cons _ u0 _ ur ra rr =>
    cases (show u0 = Value.ref a from ra)
    refine nex_init b T I1 ea ?_ fun s' J => ⟨.non, _, J, rfl, q⟩
    rw [← Paired.length rr]
    exact Nat.le_trans hl (by decide)
theorem ps_nxS (ho : PE X o to) (he : PE X e te) (hs : swapsWith e (some (.Attribute o f p')) pos.line X.env = pure false := by rfl) : PS X (.Assign [.Attribute o f p'] e pos) (tNxS X.K f to te) := by
  refine ⟨fun pins s σ H D I h => plainObj_wpAny_Assign_Attribute (thn (he.run pins s σ H _ I h) fun v s1 w1 => ?_) hs⟩
  obtain ⟨y, H1, I1, r1, q1⟩ := w1
  refine thn (ho.run pins s1 σ H1 _ I1 q1) fun u s2 w2 => ?_
  obtain ⟨x, H2, I2, r2, a, C, B, rfl, b, T, tk, ea, q⟩ := w2
  cases (show u = Value.ref a from r2)
  exact nex_store b T I2 ea tk r1 fun dx s' n ne J => ⟨σ, _, J, q dx n ne⟩
end
end Nal

namespace Nal
open PySem L2 RZ PyProof.Rows
theorem two_vals {x y : V} {its : List Value} (r : Vals [x, y] its) : ∃ u v, its = [u, v] ∧ RelV x u ∧ RelV y v := by
  cases r with
  | cons h t =>
    cases t with
    | cons h2 t2 =>
      cases t2
      exact ⟨_, _, rfl, h, h2⟩
/-- an exception that was made stands at a -/
def Ex (H : Hp) (a C : Addr) (fs : List (Str × V)) : Prop := (fs = [] ∧ H a = some (exo a C none)) ∨ ∃ d, H a = some (exo a C (some d)) ∧ H d = some (exd d fs)
theorem Ex.keep {H H' : Hp} (k : ∀ b o, H b = some o → H' b = some o) {a C : Addr} {fs : List (Str × V)} (h : Ex H a C fs) : Ex H' a C fs := by
  rcases h with ⟨e, h⟩ | ⟨d, h, h2⟩
  · exact .inl ⟨e, k _ _ h⟩
  · exact .inr ⟨d, k _ _ h, k _ _ h2⟩
section
variable {X : Cx} {pins : List (Addr × Obj)} {σ : L2.St} {H : Hp} {s : Shared} {a C : Addr} {fs : List (Str × V)}
theorem ex_inst (I : Inv X pins σ H s) (e : Ex H a C fs) : ∃ (oe : Obj) (od : Option Obj), PySem.W.InstAt s.heap a oe C od ∧ ∀ f v, fs.lookup f = some v → ∃ o u, od = some o ∧ PySem.W.lookIn f o = some (some u) ∧ RelV v u := by
  rcases e with ⟨e0, e⟩ | ⟨d, e, ed⟩
  · obtain ⟨t1, ho⟩ := exo_at I.hok e
    subst e0
    exact ⟨_, none, ⟨ho, rfl, rfl, trivial⟩, fun f v q => by cases q⟩
  · obtain ⟨t1, ho⟩ := exo_at I.hok e
    obtain ⟨mA, hns, hr⟩ := exd_at I.hok ed
    obtain ⟨od, hod, hl⟩ := lookIn_ns hns
    refine ⟨_, some od, ⟨ho, rfl, rfl, hod⟩, fun f v q => ?_⟩
    obtain ⟨u, hu, ru⟩ := RelO.some_of (v := v) (o := mA f) (by rw [← q]; exact hr f)
    exact ⟨od, u, rfl, by rw [hl, hu], ru⟩
end
/-- e.f, e an exception -/
def tXo (K : PySem.W.Frag) (f : Str) (te : TE) : TE := fun σ H Q => te σ H fun x H1 => ∃ (a C : Addr) (B : Bas) (fs : List (Str × V)) (v : V), x = .ref a ∧ Nex K C B ∧ PySem.W.findIn K (.ref C) f = some none ∧ Ex H1 a C fs ∧ fs.lookup f = some v ∧ Q v H1
theorem pe_xo {X : Cx} {e : Expr} {te : TE} {pos : Pos} {f : Str} (he : PE X e te) (hb : attributeBase e f X.env (eval e X.env) = eval e X.env := by rfl) : PE X (.Attribute e f pos) (tXo X.K f te) := by
  refine ⟨fun pins s σ H Q I h => attr_of hb (thn (he.run pins s σ H _ I h) fun u s1 w1 => ?_)⟩
  obtain ⟨x, H1, I1, rx, a, C, B, fs, v, rfl, N, hno, ea, l, q⟩ := w1
  cases (show u = Value.ref a from rx)
  obtain ⟨oe, od, J, look⟩ := ex_inst I1 ea
  obtain ⟨o, u, rfl, hu, ru⟩ := look f v l
  exact PySem.HandSPX.exc_get I1.kIn J N.ga N.gt N.isB (PySem.W.findObj_own N.dct hno rfl hu) (handed_of ru) ⟨v, H1, I1.tok _, ru, q⟩
/-- isinstance(e, c), e an exception -/
def rIsX (K : PySem.W.Frag) : List V → Hp → VK → Prop := fun xs H Q => ∃ (a C : Addr) (B : Bas) (fs : List (Str × V)) (c : V) (cv : Value) (b : Bool), xs = [.ref a, c] ∧ (∀ u, RelV c u → u = cv) ∧ Nex K C B ∧ Ex H a C fs ∧ PySem.W.kitOne K (.ref C) cv = some b ∧ Q (.bl b) H
theorem call_isX {X : Cx} : CallR X (.builtin "isinstance") (rIsX X.K) := by
  intro pins s σ H xs us Q I r h
  obtain ⟨a, C, B, fs, c, cv, b, rfl, hc, N, ea, e, q⟩ := h
  obtain ⟨u, v, rfl, ru, rv⟩ := two_vals r
  cases (show u = Value.ref a from ru)
  cases hc v rv
  obtain ⟨oe, od, J, _⟩ := ex_inst I ea
  exact PySem.W.kia_one (PySem.W.kitx_exc N.cd N.ga N.gt N.isB N.cl N.dg N.tk N.mo) I.kIn J e (fun z => nomatch z) fun tk => ⟨.bl b, H, I.kept (t' := tk) fun _ _ z => z, rfl, q⟩
/-- isinstance(e, (c, ..)), e an exception -/
def rIsXT (K : PySem.W.Frag) : List V → Hp → VK → Prop := fun xs H Q => ∃ (a C tp : Addr) (B : Bas) (fs : List (Str × V)) (cs : List V) (us : List Value) (b : Bool), xs = [.ref a, .ref tp] ∧ H tp = some (.tup cs) ∧ Paired ClsV cs us ∧ Nex K C B ∧ Ex H a C fs ∧ PySem.W.kitAny K (.ref C) us = some b ∧ Q (.bl b) H
theorem call_isXT {X : Cx} : CallR X (.builtin "isinstance") (rIsXT X.K) := by
  intro pins s σ H xs us Q I r h
  obtain ⟨a, C, tp, B, fs, cs, ws, b, rfl, hT, k, N, ea, e, q⟩ := h
  obtain ⟨u, v, rfl, ru, rv⟩ := two_vals r
  cases (show u = Value.ref a from ru)
  cases (show v = Value.ref tp from rv)
  obtain ⟨oe, od, J, _⟩ := ex_inst I ea
  obtain ⟨_, its, rw', o, h1, h2, n, h3⟩ := (show ObjOk X.prog X.w H s.heap tp (.tup cs) from I.hok tp _ hT)
  have e3 := ClsV.all k rw'
  subst e3
  obtain ⟨oc, od2, oda, osl⟩ := o
  dsimp only at h2 h3
  subst h2 h3
  exact PySem.W.kia_tup (PySem.W.kitx_exc N.cd N.ga N.gt N.isB N.cl N.dg N.tk N.mo) I.kIn J h1 e (fun z => nomatch z) fun tk => ⟨.bl b, H, I.kept (t' := tk) fun _ _ z => z, rfl, q⟩
/-! ### the class called -/
def tMkX (C : Addr) (B : Bas) (sp : Sp) (ta : TA) : TE := fun σ H Q => ta σ H fun vs H1 => vs.length ≤ 1000 ∧ ∀ a, H1 a = none → sp (.ref a :: vs) (L2.upd H1 a (exo a C none)) (fun v H2 => v = .non ∧ Q (.ref a) H2) E0
def tMkK (C : Addr) (B : Bas) (sp : Sp) (ta : TA) : TE := fun σ H Q => ta σ H fun vs H1 => vs.length = 1 ∧ vs.length ≤ 1000 ∧ ∀ a, H1 a = none → sp (.ref a :: vs) (L2.upd H1 a (exo a C none)) (fun v H2 => v = .non ∧ Q (.ref a) H2) E0
section
variable {X : Cx} {e : Expr} {es : List Expr} {ta tk : TA} {p pos : Pos} {x kn : Str} {C fI : Addr} {B : Bas} {k : Nat} {fd : FuncData} {ps : List Str} {sp : Sp} {kws : List Keyword}
theorem run_mk {pins : List (Addr × Obj)} {σ : L2.St} {H1 : Hp} {s1 : Shared} {Q : VK} {vs : List V} {us : List Value} (o : B.Ok) (T : Nex X.K C B) (iC : PySem.W.findIn X.K (.ref C) "__init__" = some (some (.ref fI))) (tI : PySem.W.typeIn X.K (.ref fI) = some (.type "function"))
    (G : FnOk X.prog X.w X.K X.mg X.base CX0 k fI fd ps sp) (hr : Room (k + 1) X.A) (hb : Binds X.K fd ps []) (I1 : Inv X pins σ H1 s1) (r1 : Vals vs us) (hz : vs.length ≤ 1000)
    (q1 : ∀ a, H1 a = none → sp (.ref a :: vs) (L2.upd H1 a (exo a C none)) (fun v H2 => v = .non ∧ Q (.ref a) H2) E0) : wpAny (model X.prog X.w) X.A (call (.ref C) us) (EP X pins σ Q) X.xe s1 := by
  obtain ⟨hp, g, dr, tk, os⟩ := s1
  obtain ⟨nm, N, qn, bs, bm, hdct, sn, sub, ab, col, dd, k0, k1, k2, k3, k5, hC, hT⟩ := PySem.W.excInit_of I1.kIn T.ini
  let hm2 : Heap := (hp.push (PySem.W.kdv_tup us)).push (PySem.HandSPX.excO C hp.objs.size)
  have old : ∀ b o, hp.get? b = some o → hm2.get? b = some o := fun b o z => Heap.get?_push_of_some _ (Heap.get?_push_of_some _ z)
  have here_ : hm2.get? (hp.objs.size + 1) = some (PySem.HandSPX.excO C hp.objs.size) := by heap_get
  have big : hp.objs.size ≤ hp.objs.size + 1 := Nat.le_succ _
  have I2 : Inv X pins σ (L2.upd H1 (hp.objs.size + 1) (exo (hp.objs.size + 1) C none)) ⟨hm2, g, dr, tk, os⟩ := I1.laid (t' := tk) (h' := hm2) old big (exo_ok here_)
  have wish := q1 _ (I1.hok.fresh big)
  have rel : Vals (V.ref (hp.objs.size + 1) :: vs) (Value.ref (hp.objs.size + 1) :: us) := .cons rfl r1
  have len : (Value.ref (hp.objs.size + 1) :: us).length = ps.length := rel.length.symm.trans (G.len _ _ _ _ wish)
  have small : us.length ≤ sizeLine := by
    rw [← Paired.length r1]
    exact Nat.le_trans hz (by decide)
  have bnd := hb ⟨hm2, g, dr, tk, os⟩ (Value.ref (hp.objs.size + 1) :: us) I2.kIn (by rw [List.append_nil]; exact len)
  rw [List.append_nil] at bnd
  refine wpAny_call (PySem.HandSPX.call_own o.F hT hC (PySem.W.looks_findIn I1.kIn iC) (fun self => PySem.W.bind_fn I1.kIn self tI) small (codeAny_mono
    (G.run _ X.stack _ _ ⟨Value.ref (hp.objs.size + 1) :: us, []⟩ (Value.ref (hp.objs.size + 1) :: us) _ _ E0 (hr.make C us []) (I2.env0.make C us []) bnd rel wish) fun r s' out => ?_))
  cases r with
  | error z => exact out.elim
  | ok fl =>
    cases fl with
    | next => exact out.elim
    | brk => exact out.elim
    | cont => exact out.elim
    | ret u =>
      obtain ⟨v, H2, J, rv, rfl, q⟩ := I2.after out
      exact ⟨rv, ⟨.ref _, H2, J, rfl, q⟩⟩
theorem pe_mkX (o : B.Ok) (T : Nex X.K C B) (iC : PySem.W.findIn X.K (.ref C) "__init__" = some (some (.ref fI))) (tI : PySem.W.typeIn X.K (.ref fI) = some (.type "function"))
    (G : FnOk X.prog X.w X.K X.mg X.base CX0 k fI fd ps sp) (hr : Room (k + 1) X.A) (hb : Binds X.K fd ps []) (gl : Gl X x) (hm : X.mg x = some (.ref C)) (ha : PA X (e :: es) ta)
    (hdb : (x == ("__debug__" : Str)) = false := by decide) (he : starEach (e :: es) X.env = (false, eval e X.env) :: starEach es X.env := by rfl) (hpl : (backTo pos (starEach es X.env)).any (·.1) = false := by rfl) :
    PE X (.Call (.Name x p) (e :: es) [] pos) (tMkX C B sp ta) := by
  refine ⟨fun pins s σ H Q I h => ?_⟩
  refine wpAny_Call_Name_kw (ld_glob I gl hm (PySem.W.callWith_K (h₀ := X.base) I.ok.mod.kin T.kep (thn (ha.run pos pins s σ H _ I h) fun us s1 w1 => ?_) he hpl) hdb)
  obtain ⟨vs, H1, I1, r1, hz, q1⟩ := w1
  exact ⟨I1.kIn, run_mk o T iC tI G hr hb I1 r1 hz q1⟩
theorem pe_mkX0 (o : B.Ok) (T : Nex X.K C B) (iC : PySem.W.findIn X.K (.ref C) "__init__" = some (some (.ref fI))) (tI : PySem.W.typeIn X.K (.ref fI) = some (.type "function"))
    (G : FnOk X.prog X.w X.K X.mg X.base CX0 k fI fd ps sp) (hr : Room (k + 1) X.A) (hb : Binds X.K fd ps []) (gl : Gl X x) (hm : X.mg x = some (.ref C)) (hdb : (x == ("__debug__" : Str)) = false := by decide) :
    PE X (.Call (.Name x p) [] [] pos) (tMkX C B sp tNil) := by
  refine ⟨fun pins s σ H Q I h => ?_⟩
  exact wpAny_Call_Name_kw (ld_glob I gl hm (PySem.W.callWith_K0 I.kIn T.kep (run_mk o T iC tI G hr hb I .nil h.1 h.2)) hdb)
theorem pe_mkXK (o : B.Ok) (T : Nex X.K C B) (iC : PySem.W.findIn X.K (.ref C) "__init__" = some (some (.ref fI))) (tI : PySem.W.typeIn X.K (.ref fI) = some (.type "function"))
    (G : FnOk X.prog X.w X.K X.mg X.base CX0 k fI fd ps sp) (hr : Room (k + 1) X.A) (hb : ∀ (s : Shared) (u v : Value), BindsTo s fd ⟨[u], [(kn, v)]⟩ (ps.zip [u, v])) (gl : Gl X x) (hm : X.mg x = some (.ref C)) (hkw : PK X kws tk)
    (all_ : (backToKw pos (keywordEach kws X.env)).all (·.1.isSome) = true := by rfl) (names : (backToKw pos (keywordEach kws X.env)).filterMap (·.1) = [kn] := by rfl) (hdb : (x == ("__debug__" : Str)) = false := by decide)
    (plain : ((backTo pos (starEach [] X.env)).any (·.1) || (backToKw pos (keywordEach kws X.env)).any (·.1.isNone)) = false := by rfl) : PE X (.Call (.Name x p) [] kws pos) (tMkK C B sp tk) := by
  refine ⟨fun pins s σ H Q I h => ?_⟩
  refine wpAny_Call_Name_kw (ld_glob I gl hm (PySem.W.callWith_KW0 (h₀ := X.base) I.ok.mod.kin T.kep all_ (thn (hkw.run pos pins s σ H _ I h) fun ws s1 w1 => ?_) plain) hdb)
  obtain ⟨zs, H1, I1, rz, l1, hz, q1⟩ := w1
  refine ⟨I1.kIn, ?_⟩
  rw [names]
  obtain ⟨y, rfl⟩ : ∃ y, zs = [y] := List.length_eq_one_iff.mp l1
  obtain ⟨u, rfl, ru⟩ := vals1 rz
  show wpAny _ _ (call (.ref C) [] [(kn, u)]) _ _ _
  obtain ⟨hp, g, dr, tk', os⟩ := s1
  obtain ⟨nm, N, qn, bs, bm, hdct, sn, sub, ab, col, dd, k0, k1, k2, k3, k5, hC, hT⟩ := PySem.W.excInit_of I1.kIn T.ini
  let hm2 : Heap := (hp.push (PySem.W.kdv_tup [])).push (PySem.HandSPX.excO C hp.objs.size)
  have old : ∀ b o, hp.get? b = some o → hm2.get? b = some o := fun b o z => Heap.get?_push_of_some _ (Heap.get?_push_of_some _ z)
  have here_ : hm2.get? (hp.objs.size + 1) = some (PySem.HandSPX.excO C hp.objs.size) := by heap_get
  have big : hp.objs.size ≤ hp.objs.size + 1 := Nat.le_succ _
  have I2 : Inv X pins σ (L2.upd H1 (hp.objs.size + 1) (exo (hp.objs.size + 1) C none)) ⟨hm2, g, dr, tk', os⟩ := I1.laid (t' := tk') (h' := hm2) old big (exo_ok here_)
  have wish := q1 _ (I1.hok.fresh big)
  have rel : Vals [V.ref (hp.objs.size + 1), y] [Value.ref (hp.objs.size + 1), u] := .cons rfl (.cons ru .nil)
  refine wpAny_call (kw_call o.F hT hC (PySem.W.looks_findIn I1.kIn iC) (fun self => PySem.W.bind_fn I1.kIn self tI) (codeAny_mono
    (G.run _ X.stack _ _ ⟨[Value.ref (hp.objs.size + 1)], [(kn, u)]⟩ [Value.ref (hp.objs.size + 1), u] _ _ E0 (hr.make C [] [(kn, u)]) (I2.env0.make C [] [(kn, u)]) (hb _ _ _) rel wish) fun r s' out => ?_))
  cases r with
  | error z => exact out.elim
  | ok fl =>
    cases fl with
    | next => exact out.elim
    | brk => exact out.elim
    | cont => exact out.elim
    | ret u =>
      obtain ⟨v, H2, J, rv, rfl, q⟩ := I2.after out
      exact ⟨rv, ⟨.ref _, H2, J, rfl, q⟩⟩
end
end Nal

namespace Nal
open PySem L2 RZ PyProof.Rows
abbrev iNoName : Stmt := inClass (topS 3) 0
abbrev iNoNumber : Stmt := inClass (topS 4) 0
abbrev iNothingDone : Stmt := inClass (topS 5) 0
abbrev iImpossible : Stmt := inClass (topS 6) 0
abbrev iNoPlan : Stmt := inClass (topS 7) 0
abbrev iNoRule : Stmt := inClass (topS 8) 0
abbrev iBadText : Stmt := inClass (topS 9) 0
abbrev iBadLine : Stmt := inClass (topS 10) 0
theorem scNoName : FnScope ["self", "name"] ["self", "name"] (defScope iNoName) := ⟨rfl, rfl, rfl, by decide +kernel, rfl, by decide +kernel, by decide +kernel⟩
theorem scNoNumber : FnScope ["self", "number"] ["self", "number"] (defScope iNoNumber) := ⟨rfl, rfl, rfl, by decide +kernel, rfl, by decide +kernel, by decide +kernel⟩
theorem scNothingDone : FnScope ["self"] ["self"] (defScope iNothingDone) := ⟨rfl, rfl, rfl, by decide +kernel, rfl, by decide +kernel, by decide +kernel⟩
theorem scImpossible : FnScope ["self", "move"] ["self", "move"] (defScope iImpossible) := ⟨rfl, rfl, rfl, by decide +kernel, rfl, by decide +kernel, by decide +kernel⟩
theorem scNoPlan : FnScope ["self"] ["self"] (defScope iNoPlan) := ⟨rfl, rfl, rfl, by decide +kernel, rfl, by decide +kernel, by decide +kernel⟩
theorem scNoRule : FnScope ["self"] ["self"] (defScope iNoRule) := ⟨rfl, rfl, rfl, by decide +kernel, rfl, by decide +kernel, by decide +kernel⟩
theorem scBadText : FnScope ["self"] ["self"] (defScope iBadText) := ⟨rfl, rfl, rfl, by decide +kernel, rfl, by decide +kernel, by decide +kernel⟩
theorem scBadLine : FnScope ["self", "number"] ["self", "number"] (defScope iBadLine) := ⟨rfl, rfl, rfl, by decide +kernel, rfl, by decide +kernel, by decide +kernel⟩
theorem stored_ex {H : Hp} {a C dx : Addr} {f : Str} {y : V} (ne : dx ≠ a) : Ex (stored H a C dx f y) a C [(f, y)] := by
  refine .inr ⟨dx, ?_, upd_same⟩
  unfold stored
  rw [upd_ne ne.symm, upd_same]
theorem stored_but {H : Hp} {a C dx : Addr} {f : Str} {y : V} (hn : H dx = none) : SameBut a H (stored H a C dx f y) := fun b o nb e => by
  have nd := ne_of_none e hn
  unfold stored
  rw [upd_ne nd, upd_ne nb, upd_ne nd]
  exact e
theorem upd_id {H : Hp} {a : Addr} {o : HO} (e : H a = some o) : L2.upd H a o = H := by
  funext b
  by_cases h : b = a
  · rw [h, upd_same, e]
  · rw [upd_ne h]
section
variable {P : Program} {w : World} {K : PySem.W.Frag} {mg : Str → Option Value} {base : Heap}
/-- an __init__ with one field -/
def spOne (K : PySem.W.Frag) (B : Bas) (f : Str) : Sp := fun vs H Q _ => ∃ (a C : Addr) (y : V), vs = [.ref a, y] ∧ Nex K C B ∧ PySem.W.takerIn K C f = some none ∧ H a = some (exo a C none) ∧ ∀ H', SameBut a H H' → Ex H' a C [(f, y)] → Q .non H'
/-- an __init__ without a field -/
def spNil (K : PySem.W.Frag) (B : Bas) : Sp := fun vs H Q _ => ∃ (a C : Addr), vs = [.ref a] ∧ Nex K C B ∧ H a = some (exo a C none) ∧ Q .non H
abbrev initAt (K : PySem.W.Frag) (B : Bas) : Prop := PySem.W.findCls K (.type B.T) (.type "type") "__init__" = some (.val (.builtin B.initId))
theorem ok_NoName {f : Addr} {fd : FuncData} (F : Fun K "__init__" "NoName.__init__" iNoName f fd) (mn : mg basL.x = none) (vL : initAt K basL) : FnOk P w K mg base CX0 1 f fd ["self", "name"] (spOne K basL "name") := by
  refine F.ok scNoName (fun vs H Q E h => ?_) (fun cdv A outer s H vs Q E hr h => ?_)
  · obtain ⟨a, C, y, rfl, _⟩ := h
    rfl
  · obtain ⟨a, C, y, rfl, T, tk, ea, k⟩ := h
    refine ⟨_, (pss_cons (ps_expr (pe_nxI (B := basL) basL_ok (by rfl) mn vL (pa_cons (pv 0) (pa_cons (pv 1) pa_nil)))) (pss_one (ps_nxS (pv 0) (pv 1)))), ?_⟩
    refine ⟨_, rfl, _, rfl, a, C, none, [y], rfl, (by show 1 ≤ 1000; decide), T, ea, _, rfl, _, rfl, a, C, basL, rfl, basL_ok, T, tk, upd_same, fun dx hn ne => ?_⟩
    rw [upd_id ea] at hn ⊢
    exact k _ (stored_but hn) (stored_ex ne)
theorem ok_NoNumber {f : Addr} {fd : FuncData} (F : Fun K "__init__" "NoNumber.__init__" iNoNumber f fd) (mn : mg basL.x = none) (vL : initAt K basL) : FnOk P w K mg base CX0 1 f fd ["self", "number"] (spOne K basL "number") := by
  refine F.ok scNoNumber (fun vs H Q E h => ?_) (fun cdv A outer s H vs Q E hr h => ?_)
  · obtain ⟨a, C, y, rfl, _⟩ := h
    rfl
  · obtain ⟨a, C, y, rfl, T, tk, ea, k⟩ := h
    refine ⟨_, (pss_cons (ps_expr (pe_nxI (B := basL) basL_ok (by rfl) mn vL (pa_cons (pv 0) (pa_cons (pv 1) pa_nil)))) (pss_one (ps_nxS (pv 0) (pv 1)))), ?_⟩
    refine ⟨_, rfl, _, rfl, a, C, none, [y], rfl, (by show 1 ≤ 1000; decide), T, ea, _, rfl, _, rfl, a, C, basL, rfl, basL_ok, T, tk, upd_same, fun dx hn ne => ?_⟩
    rw [upd_id ea] at hn ⊢
    exact k _ (stored_but hn) (stored_ex ne)
theorem ok_BadLine {f : Addr} {fd : FuncData} (F : Fun K "__init__" "BadLine.__init__" iBadLine f fd) (mn : mg basV.x = none) (vL : initAt K basV) : FnOk P w K mg base CX0 1 f fd ["self", "number"] (spOne K basV "number") := by
  refine F.ok scBadLine (fun vs H Q E h => ?_) (fun cdv A outer s H vs Q E hr h => ?_)
  · obtain ⟨a, C, y, rfl, _⟩ := h
    rfl
  · obtain ⟨a, C, y, rfl, T, tk, ea, k⟩ := h
    refine ⟨_, (pss_cons (ps_expr (pe_nxI (B := basV) basV_ok (by rfl) mn vL (pa_cons (pv 0) (pa_cons (pv 1) pa_nil)))) (pss_one (ps_nxS (pv 0) (pv 1)))), ?_⟩
    refine ⟨_, rfl, _, rfl, a, C, none, [y], rfl, (by show 1 ≤ 1000; decide), T, ea, _, rfl, _, rfl, a, C, basV, rfl, basV_ok, T, tk, upd_same, fun dx hn ne => ?_⟩
    rw [upd_id ea] at hn ⊢
    exact k _ (stored_but hn) (stored_ex ne)
theorem ok_NothingDone {f : Addr} {fd : FuncData} (F : Fun K "__init__" "NothingDone.__init__" iNothingDone f fd) (mn : mg basL.x = none) (vL : initAt K basL) : FnOk P w K mg base CX0 1 f fd ["self"] (spNil K basL) := by
  refine F.ok scNothingDone (fun vs H Q E h => ?_) (fun cdv A outer s H vs Q E hr h => ?_)
  · obtain ⟨a, C, rfl, _⟩ := h
    rfl
  · obtain ⟨a, C, rfl, T, ea, k⟩ := h
    refine ⟨_, (pss_one (ps_expr (pe_nxI (B := basL) basL_ok (by rfl) mn vL (pa_cons (pv 0) pa_nil)))), ?_⟩
    refine ⟨_, rfl, a, C, none, [], rfl, (by decide), T, ea, ?_⟩
    rw [upd_id ea]
    exact k
theorem ok_NoPlan {f : Addr} {fd : FuncData} (F : Fun K "__init__" "NoPlan.__init__" iNoPlan f fd) (mn : mg basV.x = none) (vL : initAt K basV) : FnOk P w K mg base CX0 1 f fd ["self"] (spNil K basV) := by
  refine F.ok scNoPlan (fun vs H Q E h => ?_) (fun cdv A outer s H vs Q E hr h => ?_)
  · obtain ⟨a, C, rfl, _⟩ := h
    rfl
  · obtain ⟨a, C, rfl, T, ea, k⟩ := h
    refine ⟨_, (pss_one (ps_expr (pe_nxI (B := basV) basV_ok (by rfl) mn vL (pa_cons (pv 0) pa_nil)))), ?_⟩
    refine ⟨_, rfl, a, C, none, [], rfl, (by decide), T, ea, ?_⟩
    rw [upd_id ea]
    exact k
theorem ok_NoRule {f : Addr} {fd : FuncData} (F : Fun K "__init__" "NoRule.__init__" iNoRule f fd) (mn : mg basV.x = none) (vL : initAt K basV) : FnOk P w K mg base CX0 1 f fd ["self"] (spNil K basV) := by
  refine F.ok scNoRule (fun vs H Q E h => ?_) (fun cdv A outer s H vs Q E hr h => ?_)
  · obtain ⟨a, C, rfl, _⟩ := h
    rfl
  · obtain ⟨a, C, rfl, T, ea, k⟩ := h
    refine ⟨_, (pss_one (ps_expr (pe_nxI (B := basV) basV_ok (by rfl) mn vL (pa_cons (pv 0) pa_nil)))), ?_⟩
    refine ⟨_, rfl, a, C, none, [], rfl, (by decide), T, ea, ?_⟩
    rw [upd_id ea]
    exact k
theorem ok_BadText {f : Addr} {fd : FuncData} (F : Fun K "__init__" "BadText.__init__" iBadText f fd) (mn : mg basV.x = none) (vL : initAt K basV) : FnOk P w K mg base CX0 1 f fd ["self"] (spNil K basV) := by
  refine F.ok scBadText (fun vs H Q E h => ?_) (fun cdv A outer s H vs Q E hr h => ?_)
  · obtain ⟨a, C, rfl, _⟩ := h
    rfl
  · obtain ⟨a, C, rfl, T, ea, k⟩ := h
    refine ⟨_, (pss_one (ps_expr (pe_nxI (B := basV) basV_ok (by rfl) mn vL (pa_cons (pv 0) pa_nil)))), ?_⟩
    refine ⟨_, rfl, a, C, none, [], rfl, (by decide), T, ea, ?_⟩
    rw [upd_id ea]
    exact k
/-- Impossible's __init__ -/
def spMove (K : PySem.W.Frag) : Sp := fun vs H Q _ => ∃ (a C : Addr) (v : V) (d : PyData), vs = [.ref a, v] ∧ Nex K C basV ∧ PySem.W.takerIn K C "move" = some none ∧ PySem.W.findIn K (.ref C) "move" = some none ∧ H a = some (exo a C none) ∧ De H d v ∧ dpt d ≤ 1 ∧ okw d ∧
  ∀ r H', SameBut a H H' → Ex H' a C [("move", r)] → (∀ H'', Fresh H H' H'' → De H'' (toTuples d) r) → Q .non H'
theorem ok_Impossible {f f1 : Addr} {fd fd1 : FuncData} (F : Fun K "__init__" "Impossible.__init__" iImpossible f fd) (mn : mg basV.x = none) (vL : initAt K basV) (Gas_tuples : FnOk P w K mg base CX0 2 f1 fd1 ["value"] (spTuples 2)) (mas_tuples : mg "as_tuples" = some (.ref f1)) (kas_tuples : PySem.W.keepIn K (.ref f1) = true)
    (bas_tuples : Binds K fd1 ["value"] []) : FnOk P w K mg base CX0 3 f fd ["self", "move"] (spMove K) := by
  refine F.ok scImpossible (fun vs H Q E h => ?_) (fun cdv A outer s H vs Q E hr h => ?_)
  · obtain ⟨a, C, v, d, rfl, _⟩ := h
    rfl
  · obtain ⟨a, C, v, d, rfl, T, tk, no, ea, hd, h1, h2, k⟩ := h
    refine ⟨_, (pss_cons (ps_nxS (pv 0) (pe_call Gas_tuples (hr.mono (by decide)) rfl mas_tuples kas_tuples bas_tuples .nil pass0 (pa_cons (pv 1) pa_nil))) (pss_one (ps_expr (pe_nxI (B := basV) basV_ok (by rfl) mn vL (pa_cons (pv 0) (pa_cons (pe_xo (pv 0)) pa_nil)))))), ?_⟩
    refine ⟨_, rfl, d, v, rfl, hd, h1, h2, fun r H1 s1 hr1 => ⟨_, rfl, a, C, basV, rfl, basV_ok, T, tk, s1 _ _ ea, fun dx hn ne => ?_⟩⟩
    have ex := stored_ex (H := H1) (C := C) (f := "move") (y := r) ne
    obtain ⟨d', e1, e2⟩ : ∃ d', stored H1 a C dx "move" r a = some (exo a C (some d')) ∧ stored H1 a C dx "move" r d' = some (exd d' [("move", r)]) := by
      rcases ex with ⟨z, _⟩ | ⟨d', e1, e2⟩
      · cases z
      · exact ⟨d', e1, e2⟩
    refine ⟨_, rfl, _, rfl, a, C, basV, [("move", r)], r, rfl, T, no, ex, rfl, a, C, some d', [r], rfl, (by show 1 ≤ 1000; decide), T, e1, ?_⟩
    rw [upd_id e1]
    refine k r _ ((Nal.Same.but s1).trans (stored_but hn)) ex fun H'' hf => hr1 _ fun b o e0 e => hf b o e0 ?_
    have nb : b ≠ a := fun z => by rw [z, ea] at e0; cases e0
    exact stored_but hn b o nb e
end
end Nal

namespace Nal
open PySem L2 RZ PyProof.Rows
abbrev s_law_of : Stmt := topS 15
abbrev N_law_of : List Str := ["_law_tin", "_law_some"]
abbrev P_law_of : List Str := ["_law_tin", "_law_some"]
theorem sc_law_of : FnScope ["_law_tin", "_law_some"] ["_law_tin", "_law_some"] (defScope s_law_of) := ⟨rfl, rfl, rfl, by decide +kernel, rfl, by decide +kernel, by decide +kernel⟩
abbrev s_law_sorts : Stmt := topS 17
abbrev N_law_sorts : List Str := ["_law_error", "_law_first", "_law_own"]
abbrev P_law_sorts : List Str := ["_law_error"]
theorem sc_law_sorts : FnScope ["_law_error", "_law_first", "_law_own"] ["_law_error"] (defScope s_law_sorts) := ⟨rfl, rfl, rfl, by decide +kernel, rfl, by decide +kernel, by decide +kernel⟩
def isInt : V → Bool
  | .int _ => true
  | _ => false
theorem Tin.neOf {H : Hp} {t p : Addr} {n : Nat} {xs : List V} (h : Tin H t n) (hp : H p = some (.lst xs)) (hx : (xs.all isInt && xs.length == 3) = false) : p ≠ t := by
  intro e
  obtain ⟨a, b, c, q, _⟩ := h
  rw [e, q] at hp
  cases hp
  cases hx
theorem str_at {ss : List Str} {j : Nat} (h : j < ss.length) : (ss.map V.str)[j]? = some (V.str ss[j]) := by
  rw [List.getElem?_map, List.getElem?_eq_getElem h]
  rfl
theorem lit_ne (ss : List Str) : ((ss.map V.str).all isInt && (ss.map V.str).length == 3) = false := by
  cases ss with
  | nil => rfl
  | cons x r => rfl
theorem Same.over {H H' : Hp} {a : Addr} {o : HO} (s : Same H H') (n : H a = none) : Same H (L2.upd H' a o) := fun b u e => by
  rw [upd_ne (ne_of_none e n)]
  exact s b u e
def bsL (i : Nat) : List Bool := [decide (i = 0), decide (i = 1), decide (i = 2), decide (i = 3), decide (i = 4), decide (i = 5), decide (i = 6), decide (i = 7)]
theorem bsL_one : ∀ i, i < 8 → ((bsL i).filter id).length = 1 := by decide
/-- an own error class, its __init__ keeping sp -/
structure Made (P : Program) (w : World) (K : PySem.W.Frag) (mg : Str → Option Value) (base : Heap) (x : Str) (C fI : Addr) (B : Bas) (k : Nat) (fd : FuncData) (ps : List Str) (sp : Sp) : Prop where
  bo : B.Ok
  N : Nex K C B
  iC : PySem.W.findIn K (.ref C) "__init__" = some (some (.ref fI))
  tI : PySem.W.typeIn K (.ref fI) = some (.type "function")
  G : FnOk P w K mg base CX0 k fI fd ps sp
  b : Binds K fd ps []
  m : mg x = some (.ref C)
/-- the eight classes -/
structure Eight (K : PySem.W.Frag) (CL : Nat → Addr) (BL : Nat → Bas) : Prop where
  nx : ∀ i, i < 8 → Nex K (CL i) (BL i)
  isL : ∀ i, i < 8 → PySem.W.kitOne K (.ref (CL i)) (.type "LookupError") = some (decide (i < 3))
  isV : ∀ i, i < 8 → PySem.W.kitOne K (.ref (CL i)) (.type "ValueError") = some (decide (3 ≤ i))
  isK : ∀ i, i < 8 → PySem.W.kitAny K (.ref (CL i)) [.type "KeyError", .type "IndexError"] = some false
  own : ∀ i j, i < 8 → j < 8 → PySem.W.kitOne K (.ref (CL i)) (.ref (CL j)) = some (decide (i = j))
section
variable {P : Program} {w : World} {K : PySem.W.Frag} {mg : Str → Option Value} {base : Heap}
/-- a drawn one of some texts -/
def spOf : Sp := fun vs H Q _ => ∃ (t l : Addr) (ss : List Str) (m : Nat), vs = [.ref t, .ref l] ∧ Tin H t m ∧ m ≤ 100000 ∧ H l = some (.lst (ss.map V.str)) ∧ 0 < ss.length ∧ ss.length ≤ 1000 ∧ ∀ (s : Str) H', s ∈ ss → SameBut t H H' → Tin H' t (m + 1) → Q (.str s) H'
theorem ok_of {f f1 : Addr} {fd fd1 : FuncData} (F : Fun K "_law_of" "_law_of" s_law_of f fd) (T : Txt K mg) (G_law_take : FnOk P w K mg base CX0 1 f1 fd1 ["_law_tin", "_law_top_so"] spTake) (m_law_take : mg "_law_take" = some (.ref f1)) (k_law_take : PySem.W.keepIn K (.ref f1) = true)
    (b_law_take : Binds K fd1 ["_law_tin", "_law_top_so"] []) : FnOk P w K mg base CX0 2 f fd ["_law_tin", "_law_some"] spOf := by
  refine F.ok sc_law_of (fun vs H Q E h => ?_) (fun cdv A outer s H vs Q E hr h => ?_)
  · obtain ⟨t, l, ss, m, rfl, _⟩ := h
    rfl
  · obtain ⟨t, l, ss, m, rfl, hT, hm, hl, p1, p2, k⟩ := h
    refine ⟨_, (pss_one (ps_ret (pe_ix (r := rIxL K) ix_list (pv 1) (pe_call G_law_take (hr.mono (by decide)) rfl m_law_take k_law_take b_law_take .nil pass0 (pa_cons (pv 0) (pa_cons (pe_callB (r := rLn K) call_len_seq (by rfl) T.b_len (by decide +kernel) (pa_cons (pv 1) pa_nil)) pa_nil))) (fun _ _ => rfl)))), ?_⟩
    have ln : (ss.map V.str).length = ss.length := List.length_map _
    refine ⟨_, rfl, _, rfl, _, rfl, l, _, rfl, .inl (SqL.of hl), t, _, m, rfl, hT, by omega, by omega, by omega, fun d H1 d0 d1 sb t1 => ?_⟩
    have nl := hT.neOf hl (lit_ne _)
    have hj : d.toNat < ss.length := by omega
    exact ⟨l, _, d, _, rfl, rfl, SqL.of (sb _ _ nl hl), L2.at_of (j := d.toNat) (by omega) (str_at hj), k _ _ (List.getElem_mem hj) sb t1⟩
/-- an exception is of just one of the classes -/
def spSorts (K : PySem.W.Frag) (CL : Nat → Addr) : Sp := fun vs H Q _ => ∃ (a : Addr) (i : Nat) (fs : List (Str × V)), vs = [.ref a] ∧ i < 8 ∧ Ex H a (CL i) fs ∧ ∀ H', Same H H' → Q (.int 1) H'
theorem ok_sorts {CL : Nat → Addr} {BL : Nat → Bas} {f : Addr} {fd : FuncData} (F : Fun K "_law_sorts" "_law_sorts" s_law_sorts f fd) (T : Txt K mg) (G : Eight K CL BL)
    {g0 g1 g2 g3 g4 g5 g6 g7 : Addr} {e0 e1 e2 e3 e4 e5 e6 e7 : FuncData} {k0 k1 k2 k3 k4 k5 k6 k7 : Nat} {p0 p1 p2 p3 p4 p5 p6 p7 : List Str} {s0 s1 s2 s3 s4 s5 s6 s7 : Sp}
    (MNoName : Made P w K mg base "NoName" (CL 0) g0 basL k0 e0 p0 s0) (MNoNumber : Made P w K mg base "NoNumber" (CL 1) g1 basL k1 e1 p1 s1) (MNothingDone : Made P w K mg base "NothingDone" (CL 2) g2 basL k2 e2 p2 s2) (MImpossible : Made P w K mg base "Impossible" (CL 3) g3 basV k3 e3 p3 s3)
    (MNoPlan : Made P w K mg base "NoPlan" (CL 4) g4 basV k4 e4 p4 s4) (MNoRule : Made P w K mg base "NoRule" (CL 5) g5 basV k5 e5 p5 s5) (MBadText : Made P w K mg base "BadText" (CL 6) g6 basV k6 e6 p6 s6) (MBadLine : Made P w K mg base "BadLine" (CL 7) g7 basV k7 e7 p7 s7) :
    FnOk P w K mg base CX0 1 f fd ["_law_error"] (spSorts K CL) := by
  refine F.ok sc_law_sorts (fun vs H Q E h => ?_) (fun cdv A outer s H vs Q E hr h => ?_)
  · obtain ⟨a, i, fs, rfl, _⟩ := h
    rfl
  · obtain ⟨a, i, fs, rfl, hi, hx, k⟩ := h
    refine ⟨_, (pss_cons (ps_set (i := 1) sc_law_sorts.nd rfl (Or.inl rfl) (pe_lst (pa_cons (pe_callB (r := rIsX K) call_isX (by rfl) T.b_isinstance (by decide +kernel) (pa_cons (pv 0) (pa_cons (pe_glob (v := .ref _) (by rfl) MNoName.m (by rfl)) pa_nil))) (pa_cons (pe_callB (r := rIsX K) call_isX (by rfl) T.b_isinstance (by decide +kernel) (pa_cons (pv 0) (pa_cons (pe_glob (v := .ref _) (by rfl) MNoNumber.m (by rfl)) pa_nil))) (pa_cons (pe_callB (r := rIsX K) call_isX (by rfl) T.b_isinstance (by decide +kernel) (pa_cons (pv 0) (pa_cons (pe_glob (v := .ref _) (by rfl) MNothingDone.m (by rfl)) pa_nil))) pa_nil)))))
      (pss_cons (ps_expr (pe_bm PySem.F.plainAttrs_list PySem.F.slot_list_append PySem.F.type_list_append mt_append (pv 1) (pa_cons (pe_callB (r := rIsX K) call_isX (by rfl) T.b_isinstance (by decide +kernel) (pa_cons (pv 0) (pa_cons (pe_glob (v := .ref _) (by rfl) MImpossible.m (by rfl)) pa_nil))) pa_nil)))
      (pss_cons (ps_set (i := 1) sc_law_sorts.nd rfl (Or.inl rfl) (pe_op op_cat (pv 1) (pe_lst (pa_cons (pe_callB (r := rIsX K) call_isX (by rfl) T.b_isinstance (by decide +kernel) (pa_cons (pv 0) (pa_cons (pe_glob (v := .ref _) (by rfl) MNoPlan.m (by rfl)) pa_nil))) (pa_cons (pe_callB (r := rIsX K) call_isX (by rfl) T.b_isinstance (by decide +kernel) (pa_cons (pv 0) (pa_cons (pe_glob (v := .ref _) (by rfl) MNoRule.m (by rfl)) pa_nil))) (pa_cons (pe_callB (r := rIsX K) call_isX (by rfl) T.b_isinstance (by decide +kernel) (pa_cons (pv 0) (pa_cons (pe_glob (v := .ref _) (by rfl) MBadText.m (by rfl)) pa_nil))) pa_nil))))))
      (pss_one (ps_ret (pe_callB (r := rLn K) call_len_seq (by rfl) T.b_len (by decide +kernel) (pa_cons (pe_lc (own := [("_law_own", 2)]) (g := (gName 2)) (tt := _) rfl sc_law_sorts.nd (pi_list (pe_op op_cat (pv 1) (pe_lst (pa_cons (pe_callB (r := rIsX K) call_isX (by rfl) T.b_isinstance (by decide +kernel) (pa_cons (pv 0) (pa_cons (pe_glob (v := .ref _) (by rfl) MBadLine.m (by rfl)) pa_nil))) pa_nil)))) (blkOk_by (own := [("_law_own", 2)]) (N := ["_law_error", "_law_first", "_law_own"]) (sc := defScope s_law_sorts) (by decide +kernel)) (fun _ _ _ _ _ => (pg_name (i := 2) sc_law_sorts.nd rfl (Or.inl rfl))) (fun _ _ _ _ _ => pts_one (pt_val (pv 2))) (fun _ _ _ _ _ => (pv 2))) pa_nil))))))), ?_⟩
    have z0 : Same H H := fun _ _ e => e
    refine ⟨_, rfl, a, CL i, BL i, fs, _, _, _, rfl, fun u z => z, G.nx i hi, hx.keep z0, G.own i 0 hi (by decide), ⟨_, rfl, a, CL i, BL i, fs, _, _, _, rfl, fun u z => z, G.nx i hi, hx.keep z0, G.own i 1 hi (by decide), ⟨_, rfl, a, CL i, BL i, fs, _, _, _, rfl, fun u z => z, G.nx i hi, hx.keep z0, G.own i 2 hi (by decide), ⟨by show 3 ≤ sizeLine; decide, fun l0 n0 => ?_⟩⟩⟩⟩
    have z1 := same_new (o := .lst [.bl (decide (i = 0)), .bl (decide (i = 1)), .bl (decide (i = 2))]) n0
    refine ⟨_, rfl, .inl ⟨rfl, _, SqL.of upd_same⟩, _, rfl, a, CL i, BL i, fs, _, _, _, rfl, fun u z => z, G.nx i hi, hx.keep z1, G.own i 3 hi (by decide), ⟨l0, _, _, rfl, rfl, upd_same, (by show 3 < sizeLine; decide), ?_⟩⟩
    have z2 := Same.over (o := .lst ([.bl (decide (i = 0)), .bl (decide (i = 1)), .bl (decide (i = 2))] ++ [.bl (decide (i = 3))])) z1 n0
    have g2 : L2.upd (L2.upd H l0 (.lst [.bl (decide (i = 0)), .bl (decide (i = 1)), .bl (decide (i = 2))])) l0 (.lst ([.bl (decide (i = 0)), .bl (decide (i = 1)), .bl (decide (i = 2))] ++ [.bl (decide (i = 3))])) l0 = some (.lst ([.bl (decide (i = 0)), .bl (decide (i = 1)), .bl (decide (i = 2))] ++ [.bl (decide (i = 3))])) := upd_same
    generalize L2.upd (L2.upd H l0 (.lst [.bl (decide (i = 0)), .bl (decide (i = 1)), .bl (decide (i = 2))])) l0 (.lst ([.bl (decide (i = 0)), .bl (decide (i = 1)), .bl (decide (i = 2))] ++ [.bl (decide (i = 3))])) = H2 at z2 g2 ⊢
    refine ⟨_, rfl, _, rfl, a, CL i, BL i, fs, _, _, _, rfl, fun u z => z, G.nx i hi, hx.keep z2, G.own i 4 hi (by decide), ⟨_, rfl, a, CL i, BL i, fs, _, _, _, rfl, fun u z => z, G.nx i hi, hx.keep z2, G.own i 5 hi (by decide), ⟨_, rfl, a, CL i, BL i, fs, _, _, _, rfl, fun u z => z, G.nx i hi, hx.keep z2, G.own i 6 hi (by decide), ⟨by show 3 ≤ sizeLine; decide, fun tl ntl => ⟨l0, tl, _, _, rfl, rfl, same_new ntl _ _ g2, upd_same, (by show 4 + 3 ≤ sizeLine; decide), fun l1 nl1 => ?_⟩⟩⟩⟩⟩
    have z3 := z2.trans ((same_new (o := .lst [.bl (decide (i = 4)), .bl (decide (i = 5)), .bl (decide (i = 6))]) ntl).trans (same_new (o := .lst ([.bl (decide (i = 0)), .bl (decide (i = 1)), .bl (decide (i = 2))] ++ [.bl (decide (i = 3))] ++ [.bl (decide (i = 4)), .bl (decide (i = 5)), .bl (decide (i = 6))])) nl1))
    have g3 : L2.upd (L2.upd H2 tl (.lst [.bl (decide (i = 4)), .bl (decide (i = 5)), .bl (decide (i = 6))])) l1 (.lst ([.bl (decide (i = 0)), .bl (decide (i = 1)), .bl (decide (i = 2))] ++ [.bl (decide (i = 3))] ++ [.bl (decide (i = 4)), .bl (decide (i = 5)), .bl (decide (i = 6))])) l1 = some (.lst ([.bl (decide (i = 0)), .bl (decide (i = 1)), .bl (decide (i = 2))] ++ [.bl (decide (i = 3))] ++ [.bl (decide (i = 4)), .bl (decide (i = 5)), .bl (decide (i = 6))])) := upd_same
    generalize L2.upd (L2.upd H2 tl (.lst [.bl (decide (i = 4)), .bl (decide (i = 5)), .bl (decide (i = 6))])) l1 (.lst ([.bl (decide (i = 0)), .bl (decide (i = 1)), .bl (decide (i = 2))] ++ [.bl (decide (i = 3))] ++ [.bl (decide (i = 4)), .bl (decide (i = 5)), .bl (decide (i = 6))])) = H3 at z3 g3 ⊢
    refine ⟨_, rfl, _, rfl, a, CL i, BL i, fs, _, _, _, rfl, fun u z => z, G.nx i hi, hx.keep z3, G.own i 7 hi (by decide), ⟨by show 1 ≤ sizeLine; decide, fun t2 nt2 => ⟨l1, t2, _, _, rfl, rfl, same_new nt2 _ _ g3, upd_same, (by show 7 + 1 ≤ sizeLine; decide), fun l2 nl2 => ?_⟩⟩⟩
    have z4 := z3.trans ((same_new (o := .lst [.bl (decide (i = 7))]) nt2).trans (same_new (o := .lst ([.bl (decide (i = 0)), .bl (decide (i = 1)), .bl (decide (i = 2))] ++ [.bl (decide (i = 3))] ++ [.bl (decide (i = 4)), .bl (decide (i = 5)), .bl (decide (i = 6))] ++ [.bl (decide (i = 7))])) nl2))
    have g4' : L2.upd (L2.upd H3 t2 (.lst [.bl (decide (i = 7))])) l2 (.lst ([.bl (decide (i = 0)), .bl (decide (i = 1)), .bl (decide (i = 2))] ++ [.bl (decide (i = 3))] ++ [.bl (decide (i = 4)), .bl (decide (i = 5)), .bl (decide (i = 6))] ++ [.bl (decide (i = 7))])) l2 = some (.lst ([.bl (decide (i = 0)), .bl (decide (i = 1)), .bl (decide (i = 2))] ++ [.bl (decide (i = 3))] ++ [.bl (decide (i = 4)), .bl (decide (i = 5)), .bl (decide (i = 6))] ++ [.bl (decide (i = 7))])) := upd_same
    generalize L2.upd (L2.upd H3 t2 (.lst [.bl (decide (i = 7))])) l2 (.lst ([.bl (decide (i = 0)), .bl (decide (i = 1)), .bl (decide (i = 2))] ++ [.bl (decide (i = 3))] ++ [.bl (decide (i = 4)), .bl (decide (i = 5)), .bl (decide (i = 6))] ++ [.bl (decide (i = 7))])) = H4 at z4 g4' ⊢
    have g4 : H4 l2 = some (.lst ((bsL i).map V.bl)) := g4'
    refine ⟨l2, rfl, ⟨_, SqL.of g4⟩, fun D hD => lc_it (w := walk_list (K := K) (a := l2) (xs := (bsL i).map V.bl)) (fun j H' => Same H4 H' ∧ H' D = some (.lst ((((bsL i).take j).filter id).map V.bl))) ⟨same_new hD, upd_same⟩ (fun j H' _ h => SqL.of (h.1 _ _ g4)) ?_ ?_⟩
    · rintro j x _ H5 hj ⟨s5, h5⟩ ⟨rfl, ex⟩
      have hj8 : j < (bsL i).length := by rw [List.length_map] at hj; exact hj
      rw [List.getElem?_map, List.getElem?_eq_getElem hj8] at ex
      cases ex
      have l8 : (bsL i).length = 8 := rfl
      have small : ((((bsL i).take j).filter id).map V.bl).length ≤ 1000 := by
        rw [List.length_map]
        have q1 := List.length_filter_le id ((bsL i).take j)
        have q2 : ((bsL i).take j).length ≤ (bsL i).length := by rw [List.length_take]; omega
        omega
      have grow : ((bsL i).take (j + 1)).filter id = ((bsL i).take j).filter id ++ (if (bsL i)[j] then [true] else []) := by
        rw [List.take_add_one, List.getElem?_eq_getElem hj8, List.filter_append]
        congr 1
        show [(bsL i)[j]].filter id = _
        cases (bsL i)[j] <;> rfl
      refine ⟨rfl, _, rfl, _, rfl, ite2 (fun c => ?_) (fun c => ?_)⟩
      · refine ⟨_, rfl, _, h5, Nat.lt_of_le_of_lt small (by decide), fun b o e => ?_, ?_⟩
        · rw [upd_ne (ne_of_none e hD)]
          exact s5 _ _ e
        · rw [upd_same, grow, if_pos c, List.map_append, c]
          rfl
      · refine ⟨s5, ?_⟩
        rw [h5, grow, if_neg c, List.append_nil]
    · rintro H5 ⟨s5, h5⟩
      rw [List.length_map, List.take_length] at h5
      refine ⟨D, _, rfl, .inl (SqL.of h5), ?_⟩
      rw [List.length_map, bsL_one i hi]
      exact k H5 (z4.trans s5)
end
end Nal

namespace Nal
open PySem L2 RZ PyProof.Rows
abbrev s_law_right : Stmt := topS 19
abbrev N_law_right : List Str := ["_law_tin", "_law_turn", "_law_much", "_law_tag", "_law_got"]
abbrev P_law_right : List Str := ["_law_tin"]
theorem sc_law_right : FnScope ["_law_tin", "_law_turn", "_law_much", "_law_tag", "_law_got"] ["_law_tin"] (defScope s_law_right) := ⟨rfl, rfl, rfl, by decide +kernel, rfl, by decide +kernel, by decide +kernel⟩
theorem made_same {H H' : Hp} {a : Addr} {o : HO} (n : H a = none) (s : SameBut a (L2.upd H a o) H') : Same H H' := fun b u e => by
  have ne := ne_of_none e n
  exact s b u ne (by rw [upd_ne ne]; exact e)
def rightD (s : Str) (z : Int) : PyData := .list [.str s, .int z, .int z, .tuple [.str s, .str "b"], .tuple [.str s, .none]]
section
variable {P : Program} {w : World} {K : PySem.W.Frag} {mg : Str → Option Value} {base : Heap}
/-- twelve drawn errors are right -/
def spRight : Sp := fun vs H Q _ => ∃ (t : Addr) (m : Nat), vs = [.ref t] ∧ Tin H t m ∧ m ≤ 1000 ∧ ∀ H', SameBut t H H' → Q (.bl true) H'
theorem ok_right {CL : Nat → Addr} {f f1 f2 f3 : Addr} {fd fd1 fd2 fd3 : FuncData} (F : Fun K "_law_right" "_law_right" s_law_right f fd) (T : Txt K mg) (G_law_take : FnOk P w K mg base CX0 1 f1 fd1 ["_law_tin", "_law_top_so"] spTake) (m_law_take : mg "_law_take" = some (.ref f1)) (k_law_take : PySem.W.keepIn K (.ref f1) = true)
    (b_law_take : Binds K fd1 ["_law_tin", "_law_top_so"] []) (G_law_of : FnOk P w K mg base CX0 2 f2 fd2 ["_law_tin", "_law_some"] spOf) (m_law_of : mg "_law_of" = some (.ref f2)) (k_law_of : PySem.W.keepIn K (.ref f2) = true) (b_law_of : Binds K fd2 ["_law_tin", "_law_some"] [])
    (G_law_same : FnOk P w K mg base CX0 3 f3 fd3 ["_law_got", "_law_due"] (spSame 3)) (m_law_same : mg "_law_same" = some (.ref f3)) (k_law_same : PySem.W.keepIn K (.ref f3) = true) (b_law_same : Binds K fd3 ["_law_got", "_law_due"] [])
    {g0 g1 g3 g7 : Addr} {e0 e1 e3 e7 : FuncData} (MNoName : Made P w K mg base "NoName" (CL 0) g0 basL 1 e0 ["self", "name"] (spOne K basL "name")) (MNoNumber : Made P w K mg base "NoNumber" (CL 1) g1 basL 1 e1 ["self", "number"] (spOne K basL "number"))
    (MImpossible : Made P w K mg base "Impossible" (CL 3) g3 basV 3 e3 ["self", "move"] (spMove K)) (MBadLine : Made P w K mg base "BadLine" (CL 7) g7 basV 1 e7 ["self", "number"] (spOne K basV "number"))
    (kbImpossible : ∀ (s : Shared) (u v : Value), BindsTo s e3 ⟨[u], [("move", v)]⟩ ((["self", "move"] : List Str).zip [u, v]))
    (t0 : PySem.W.takerIn K (CL 0) "name" = some none) (t1 : PySem.W.takerIn K (CL 1) "number" = some none) (t3 : PySem.W.takerIn K (CL 3) "move" = some none) (t7 : PySem.W.takerIn K (CL 7) "number" = some none)
    (n0 : PySem.W.findIn K (.ref (CL 0)) "name" = some none) (n1 : PySem.W.findIn K (.ref (CL 1)) "number" = some none) (n3 : PySem.W.findIn K (.ref (CL 3)) "move" = some none) (n7 : PySem.W.findIn K (.ref (CL 7)) "number" = some none) :
    FnOk P w K mg base CX0 5 f fd ["_law_tin"] spRight := by
  refine F.ok sc_law_right (fun vs H Q E h => ?_) (fun cdv A outer s H vs Q E hr h => ?_)
  · obtain ⟨t, m, rfl, _⟩ := h
    rfl
  · obtain ⟨t, m, rfl, hT, hm, k⟩ := h
    refine ⟨_, (pss_cons (ps_for PassesOwn.never rfl (pi_range1 (by rfl) T.b_range (pa_cons pe_int pa_nil)) (pg_name (i := 1) sc_law_right.nd rfl (Or.inl rfl)) (pss_cons (ps_par (i := 2) (j := 3) (by rfl) sc_law_right.nd rfl rfl (by decide) rfl rfl (pa_cons (pe_op op_sub (pe_call G_law_take (hr.mono (by decide)) rfl m_law_take k_law_take b_law_take .nil pass0 (pa_cons (pv 0) (pa_cons (pe_op op_pow pe_int pe_int) pa_nil))) pe_int) (pa_cons (pe_call G_law_of (hr.mono (by decide)) rfl m_law_of k_law_of b_law_of .nil pass0 (pa_cons (pv 0) (pa_cons (pe_lst (pa_cons pe_str (pa_cons pe_str pa_nil))) pa_nil))) pa_nil)) (by rfl))
      (pss_cons (ps_set (i := 4) sc_law_right.nd rfl (Or.inl rfl) (pe_lst (pa_cons (pe_xo (pe_mkX MNoName.bo MNoName.N MNoName.iC MNoName.tI MNoName.G (hr.mono (by decide)) MNoName.b (by rfl) MNoName.m (pa_cons (pv 3) pa_nil))) (pa_cons (pe_xo (pe_mkX MNoNumber.bo MNoNumber.N MNoNumber.iC MNoNumber.tI MNoNumber.G (hr.mono (by decide)) MNoNumber.b (by rfl) MNoNumber.m (pa_cons (pv 2) pa_nil))) (pa_cons (pe_xo (pe_mkX MBadLine.bo MBadLine.N MBadLine.iC MBadLine.tI MBadLine.G (hr.mono (by decide)) MBadLine.b (by rfl) MBadLine.m (pa_cons (pv 2) pa_nil))) (pa_cons (pe_xo (pe_mkX MImpossible.bo MImpossible.N MImpossible.iC MImpossible.tI MImpossible.G (hr.mono (by decide)) MImpossible.b (by rfl) MImpossible.m (pa_cons (pe_tupF (pa_cons (pv 3) (pa_cons pe_str pa_nil))) pa_nil))) pa_nil))))))
      (pss_cons (ps_expr (pe_bm PySem.F.plainAttrs_list PySem.F.slot_list_append PySem.F.type_list_append mt_append (pv 4) (pa_cons (pe_xo (pe_mkXK MImpossible.bo MImpossible.N MImpossible.iC MImpossible.tI MImpossible.G (hr.mono (by decide)) kbImpossible (by rfl) MImpossible.m (pk_cons (pe_tupF (pa_cons (pv 3) (pa_cons pe_non pa_nil))) pk_nil))) pa_nil)))
      (pss_one (ps_if (pt_not (pt_val (pe_call G_law_same (hr.mono (by decide)) rfl m_law_same k_law_same b_law_same .nil pass0 (pa_cons (pv 4) (pa_cons (pe_lst (pa_cons (pv 3) (pa_cons (pv 2) (pa_cons (pv 2) (pa_cons (pe_tupF (pa_cons (pv 3) (pa_cons pe_str pa_nil))) (pa_cons (pe_tupF (pa_cons (pv 3) (pa_cons pe_non pa_nil))) pa_nil)))))) pa_nil))))) (pss_one (ps_ret pe_bl)) pss_nil))))))
      (pss_one (ps_ret pe_bl))), ?_⟩
    refine ⟨12, rfl, (by decide), (by decide), for_it (w := walk_range (lo := 0) (n := 12)) (fun i σ H' => ∃ v1 v2 v3 v4 : Option V, σ = [some (.ref t), v1, v2, v3, v4] ∧ SameBut t H H' ∧ Tin H' t (m + 10 * i)) ⟨none, none, none, none, rfl, fun _ _ _ e => e, hT⟩ (fun _ _ _ _ _ => trivial) ?_ ?_⟩
    · rintro i x σ _ H1 hi ⟨v1, v2, v3, v4, rfl, sb, T1⟩ ⟨rfl, rfl⟩
      refine ⟨_, rfl, _, _, rfl, rfl, ⟨by decide, by decide, by decide⟩, t, 1000000000, m + 10 * i, rfl, T1, (by omega), (by decide), (by decide), fun d H2 d0 d1 sb2 T2 => ?_⟩
      refine ⟨_, _, rfl, rfl, _, rfl, (by show 2 ≤ sizeLine; decide), fun l nl => ?_⟩
      have nlt : l ≠ t := T2.ne nl
      refine ⟨t, l, ["a", "zz"], m + 10 * i + 1, rfl, T2.upd nlt, (by omega), upd_same, (by decide), (by decide), fun s H3 _ sb3 T3 => ?_⟩
      have SB3 : SameBut t H H3 := sb.trans (sb2.trans ((Nal.Same.but (same_new nl)).trans sb3))
      refine ⟨_, _, rfl, ?_⟩
      refine ⟨_, rfl, (by show 1 ≤ 1000; decide), fun a0 na0 => ⟨a0, CL 0, .str s, rfl, MNoName.N, t0, upd_same, fun H4 sb4 ex4 => ⟨rfl, a0, CL 0, basL, _, .str s, rfl, MNoName.N, n0, ex4, rfl, ?_⟩⟩⟩
      have s4 := made_same na0 sb4
      refine ⟨_, rfl, (by show 1 ≤ 1000; decide), fun a1 na1 => ⟨a1, CL 1, .int (d - 5), rfl, MNoNumber.N, t1, upd_same, fun H5 sb5 ex5 => ⟨rfl, a1, CL 1, basL, _, .int (d - 5), rfl, MNoNumber.N, n1, ex5, rfl, ?_⟩⟩⟩
      have s5 := made_same na1 sb5
      refine ⟨_, rfl, (by show 1 ≤ 1000; decide), fun a7 na7 => ⟨a7, CL 7, .int (d - 5), rfl, MBadLine.N, t7, upd_same, fun H6 sb6 ex6 => ⟨rfl, a7, CL 7, basV, _, .int (d - 5), rfl, MBadLine.N, n7, ex6, rfl, ?_⟩⟩⟩
      have s6 := made_same na7 sb6
      refine ⟨_, rfl, (by show 2 ≤ sizeLine; decide), fun p o ho np => ⟨by show 1 ≤ 1000; decide, fun a3 na3 => ?_⟩⟩
      have s7 := same_new (o := .frz o (.tup [.str s, .str "b"])) np
      have d7 : De (L2.upd H6 p (.frz o (.tup [.str s, .str "b"]))) (.tuple [.str s, .str "b"]) (.ref p) := ⟨p, _, rfl, ⟨o, upd_same, ho⟩, _, _, rfl, rfl, _, _, rfl, rfl, rfl⟩
      refine ⟨a3, CL 3, .ref p, .tuple [.str s, .str "b"], rfl, MImpossible.N, t3, n3, upd_same, De.keep (same_new na3) _ _ d7, (by show max 0 (max 0 0) + 1 ≤ 1; decide), ⟨(by show 2 ≤ 1000; decide), trivial, trivial, trivial⟩, fun r H8 sb8 ex8 hr8 => ⟨rfl, a3, CL 3, basV, _, r, rfl, MImpossible.N, n3, ex8, rfl, (by show 4 ≤ sizeLine; decide), fun g ng => ?_⟩⟩
      have s8 := made_same na3 sb8
      have e8 : De H8 (.tuple [.str s, .str "b"]) r := hr8 H8 fun _ _ _ e => e
      have S8 : Same H3 H8 := s4.trans (s5.trans (s6.trans (s7.trans s8)))
      have s9 := same_new (o := .lst [.str s, .int (d - 5), .int (d - 5), r]) ng
      have g9 : L2.upd H8 g (.lst [.str s, .int (d - 5), .int (d - 5), r]) g = some (.lst [.str s, .int (d - 5), .int (d - 5), r]) := upd_same
      generalize L2.upd H8 g (.lst [.str s, .int (d - 5), .int (d - 5), r]) = H9 at s9 g9 ⊢
      refine ⟨_, rfl, .inl ⟨rfl, _, SqL.of g9⟩, _, rfl, (by show 2 ≤ sizeLine; decide), fun p2 o2 ho2 np2 => ⟨rfl, by show 1 ≤ 1000; decide, fun a4 na4 => ?_⟩⟩
      have s10 := same_new (o := .frz o2 (.tup [.str s, .non])) np2
      have d10 : De (L2.upd H9 p2 (.frz o2 (.tup [.str s, .non]))) (.tuple [.str s, .none]) (.ref p2) := ⟨p2, _, rfl, ⟨o2, upd_same, ho2⟩, _, _, rfl, rfl, _, _, rfl, rfl, rfl⟩
      refine ⟨a4, CL 3, .ref p2, .tuple [.str s, .none], rfl, MImpossible.N, t3, n3, upd_same, De.keep (same_new na4) _ _ d10, (by show max 0 (max 0 0) + 1 ≤ 1; decide), ⟨(by show 2 ≤ 1000; decide), trivial, trivial, trivial⟩, fun r2 H11 sb11 ex11 hr11 => ⟨rfl, a4, CL 3, basV, _, r2, rfl, MImpossible.N, n3, ex11, rfl, ?_⟩⟩
      have s11 := made_same na4 sb11
      have g11 := s11 _ _ (s10 _ _ g9)
      refine ⟨g, _, _, rfl, rfl, g11, (by show 4 < sizeLine; decide), ?_⟩
      have S12 := Same.over (a := g) (o := .lst ([.str s, .int (d - 5), .int (d - 5), r] ++ [r2])) (s9.trans (s10.trans s11)) ng
      have g12 : L2.upd H11 g (.lst ([.str s, .int (d - 5), .int (d - 5), r] ++ [r2])) g = some (.lst ([.str s, .int (d - 5), .int (d - 5), r] ++ [r2])) := upd_same
      have e12 : De (L2.upd H11 g (.lst ([.str s, .int (d - 5), .int (d - 5), r] ++ [r2]))) (.tuple [.str s, .none]) r2 := hr11 _ fun b u e0 e => by
        rw [upd_ne fun z => by
          rw [z, upd_ne (ne_of_none (s10 _ _ g9) na4), s10 _ _ g9] at e0
          cases e0]
        exact e
      generalize L2.upd H11 g (.lst ([.str s, .int (d - 5), .int (d - 5), r] ++ [r2])) = H12 at S12 g12 e12 ⊢
      refine ⟨_, rfl, _, rfl, _, rfl, _, rfl, _, rfl, (by show 2 ≤ sizeLine; decide), fun p3 o3 ho3 np3 => ⟨_, rfl, (by show 2 ≤ sizeLine; decide), fun p4 o4 ho4 np4 => ⟨by show 5 ≤ sizeLine; decide, fun q nq => ?_⟩⟩⟩
      have s13 := same_new (o := .frz o3 (.tup [.str s, .str "b"])) np3
      have s14 := same_new (o := .frz o4 (.tup [.str s, .non])) np4
      have s15 := same_new (o := .lst [.str s, .int (d - 5), .int (d - 5), .ref p3, .ref p4]) nq
      have S15 := s13.trans (s14.trans s15)
      refine ⟨rightD s (d - 5), .ref g, .ref q, rfl, ?_, ?_, (by show max 0 (max 0 (max 0 (max (max 0 (max 0 0) + 1) (max (max 0 (max 0 0) + 1) 0)))) + 1 ≤ 2; decide), ?_, fun H16 s16 => ⟨true, rfl, ite2 (fun c => nomatch c) (fun _ => ?_)⟩⟩
      · exact ⟨g, _, rfl, S15 _ _ g12, _, _, rfl, rfl, _, _, rfl, rfl, _, _, rfl, rfl, _, _, rfl, De.keep (S12.trans S15) _ _ e8, _, _, rfl, De.keep S15 _ _ e12, rfl⟩
      · exact ⟨q, _, rfl, upd_same, _, _, rfl, rfl, _, _, rfl, rfl, _, _, rfl, rfl, _, _, rfl, ⟨p3, _, rfl, PT.keep (s14.trans s15) ⟨o3, upd_same, ho3⟩, _, _, rfl, rfl, _, _, rfl, rfl, rfl⟩, _, _, rfl, ⟨p4, _, rfl, PT.keep s15 ⟨o4, upd_same, ho4⟩, _, _, rfl, rfl, _, _, rfl, rfl, rfl⟩, rfl⟩
      · exact ⟨(by show 5 ≤ 1000; decide), trivial, trivial, trivial, ⟨(by show 2 ≤ 1000; decide), trivial, trivial, trivial⟩, ⟨(by show 2 ≤ 1000; decide), trivial, trivial, trivial⟩, trivial⟩
      · have SE : Same H3 H16 := S8.trans (S12.trans (S15.trans s16))
        obtain ⟨xs0, e0⟩ := T3.ref
        exact ⟨_, _, _, _, rfl, fun b u nb e => SE _ _ (SB3 b u nb e), (T3.keep ((SE _ _ e0).trans e0.symm)).mono (by omega)⟩
    · rintro σ H1 ⟨v1, v2, v3, v4, rfl, sb, T1⟩
      exact k H1 sb
end
end Nal

namespace Nal
open PySem L2 RZ PyProof.Rows
abbrev s_law_hand_right : Stmt := topS 18
abbrev N_law_hand_right : List Str := ["_law_lost", "_law_bad", "_law_got", "_law_due", "_law_own"]
abbrev P_law_hand_right : List Str := []
theorem sc_law_hand_right : FnScope ["_law_lost", "_law_bad", "_law_got", "_law_due", "_law_own"] [] (defScope s_law_hand_right) := ⟨rfl, rfl, rfl, by decide +kernel, rfl, by decide +kernel, by decide +kernel⟩
/-- a comprehension over a new list of exceptions, its values plain ones -/
theorem rd_lcx {K : PySem.W.Frag} {t : TE} {g : TG} {te : TE} {vs : List Nat} {σ : L2.St} {H : Hp} {Q : VK} (AL : List Addr) (val : Nat → V) (hl : AL.length ≤ 1000) (ht : ∀ R : VK, (∀ p H1, Same H H1 → H1 p = some (.lst (AL.map V.ref)) → R (.ref p) H1) → t σ H R)
    (step : ∀ (i : Nat) (hi : i < AL.length) (H' : Hp) (R : VK), Same H H' → (∀ H4, Same H' H4 → R (val i) H4) → g (.ref AL[i]) (wipe σ vs) H' fun σ2 H2 => wipe σ2 vs = wipe σ vs ∧ te σ2 H2 R)
    (fin : ∀ (D : Addr) (H' : Hp), Same H H' → H' D = some (.lst ((List.range AL.length).map val)) → Q (.ref D) H') : tLc (iList K t) g tYes te vs σ H Q := by
  refine ht _ fun p H1 s1 h1 => ⟨p, rfl, ⟨_, SqL.of h1⟩, fun D hD => lc_it (w := walk_list (K := K) (a := p) (xs := AL.map V.ref)) (fun i H' => Same H1 H' ∧ H' D = some (.lst ((List.range i).map val))) ⟨same_new hD, upd_same⟩ (fun i H' _ h => SqL.of (h.1 _ _ h1)) ?_ ?_⟩
  · rintro i x _ H' hi ⟨s2, h2⟩ ⟨rfl, ex⟩
    have hi8 : i < AL.length := by rw [List.length_map] at hi; exact hi
    rw [List.getElem?_map, List.getElem?_eq_getElem hi8] at ex
    cases ex
    refine step i hi8 H' (fun y H4 => ∃ acc, H4 D = some (.lst acc) ∧ acc.length < sizeLine ∧ (Same H1 (L2.upd H4 D (.lst (acc ++ [y]))) ∧ L2.upd H4 D (.lst (acc ++ [y])) D = some (.lst ((List.range (i + 1)).map val)))) (s1.trans s2) fun H4 s4 => ?_
    refine ⟨_, s4 _ _ h2, Nat.lt_of_le_of_lt (show _ ≤ 1000 by rw [List.length_map, List.length_range]; omega) (by decide), fun b o e => ?_, ?_⟩
    · rw [upd_ne (ne_of_none e hD)]
      exact s4 _ _ (s2 _ _ e)
    · rw [upd_same, List.range_succ, List.map_append]
      rfl
  · rintro H' ⟨s2, h2⟩
    rw [List.length_map] at h2
    exact fin D H' (s1.trans s2) h2
def handD : PyData := .list [.str "q", .int (-1), .tuple [.str "a", .none], .int 4, .bool true, .bool true, .bool true, .bool false, .bool false, .bool false, .bool false, .bool false, .bool false, .bool false, .bool false, .bool true, .bool true, .bool true, .bool true, .bool true, .int 1, .int 1, .int 1, .int 1, .int 1, .int 1, .int 1, .int 1]
theorem handD_okw : okw handD := ⟨(by show 28 ≤ 1000; decide), trivial, trivial, ⟨(by show 2 ≤ 1000; decide), trivial, trivial, trivial⟩, trivial, trivial, trivial, trivial, trivial, trivial, trivial, trivial, trivial, trivial, trivial, trivial, trivial, trivial, trivial, trivial, trivial, trivial, trivial, trivial, trivial, trivial, trivial, trivial, trivial, trivial⟩
theorem handD_dpt : dpt handD ≤ 2 := by decide +kernel
section
variable {P : Program} {w : World} {K : PySem.W.Frag} {mg : Str → Option Value} {base : Heap}
/-- the errors by hand are right -/
def spHand : Sp := fun vs H Q _ => vs = [] ∧ ∀ H', Same H H' → Q (.bl true) H'
theorem ok_hand {CL : Nat → Addr} {BL : Nat → Bas} {f f1 f2 : Addr} {fd fd1 fd2 : FuncData} (F : Fun K "_law_hand_right" "_law_hand_right" s_law_hand_right f fd) (T : Txt K mg) (E8 : Eight K CL BL) (mLE : mg "LookupError" = none) (mVE : mg "ValueError" = none) (mKE : mg "KeyError" = none) (mIE : mg "IndexError" = none)
    (G_law_sorts : FnOk P w K mg base CX0 1 f1 fd1 ["_law_error"] (spSorts K CL)) (m_law_sorts : mg "_law_sorts" = some (.ref f1)) (k_law_sorts : PySem.W.keepIn K (.ref f1) = true) (b_law_sorts : Binds K fd1 ["_law_error"] [])
    (G_law_same : FnOk P w K mg base CX0 3 f2 fd2 ["_law_got", "_law_due"] (spSame 3)) (m_law_same : mg "_law_same" = some (.ref f2)) (k_law_same : PySem.W.keepIn K (.ref f2) = true) (b_law_same : Binds K fd2 ["_law_got", "_law_due"] [])
    {g0 g1 g2 g3 g4 g5 g6 g7 : Addr} {e0 e1 e2 e3 e4 e5 e6 e7 : FuncData}
    (MNoName : Made P w K mg base "NoName" (CL 0) g0 basL 1 e0 ["self", "name"] (spOne K basL "name")) (MNoNumber : Made P w K mg base "NoNumber" (CL 1) g1 basL 1 e1 ["self", "number"] (spOne K basL "number")) (MNothingDone : Made P w K mg base "NothingDone" (CL 2) g2 basL 1 e2 ["self"] (spNil K basL))
    (MImpossible : Made P w K mg base "Impossible" (CL 3) g3 basV 3 e3 ["self", "move"] (spMove K)) (MNoPlan : Made P w K mg base "NoPlan" (CL 4) g4 basV 1 e4 ["self"] (spNil K basV)) (MNoRule : Made P w K mg base "NoRule" (CL 5) g5 basV 1 e5 ["self"] (spNil K basV)) (MBadText : Made P w K mg base "BadText" (CL 6) g6 basV 1 e6 ["self"] (spNil K basV))
    (MBadLine : Made P w K mg base "BadLine" (CL 7) g7 basV 1 e7 ["self", "number"] (spOne K basV "number"))
    (t0 : PySem.W.takerIn K (CL 0) "name" = some none) (t1 : PySem.W.takerIn K (CL 1) "number" = some none) (t3 : PySem.W.takerIn K (CL 3) "move" = some none) (t7 : PySem.W.takerIn K (CL 7) "number" = some none)
    (n0 : PySem.W.findIn K (.ref (CL 0)) "name" = some none) (n1 : PySem.W.findIn K (.ref (CL 1)) "number" = some none) (n3 : PySem.W.findIn K (.ref (CL 3)) "move" = some none) (n7 : PySem.W.findIn K (.ref (CL 7)) "number" = some none) :
    FnOk P w K mg base CX0 5 f fd [] spHand := by
  refine F.ok sc_law_hand_right (fun vs H Q E h => ?_) (fun cdv A outer s H vs Q E hr h => ?_)
  · obtain ⟨rfl, _⟩ := h
    rfl
  · obtain ⟨rfl, k⟩ := h
    refine ⟨_, (pss_cons (ps_set (i := 0) sc_law_hand_right.nd rfl (Or.inl rfl) (pe_lst (pa_cons (pe_mkX MNoName.bo MNoName.N MNoName.iC MNoName.tI MNoName.G (hr.mono (by decide)) MNoName.b (by rfl) MNoName.m (pa_cons pe_str pa_nil)) (pa_cons (pe_mkX MNoNumber.bo MNoNumber.N MNoNumber.iC MNoNumber.tI MNoNumber.G (hr.mono (by decide)) MNoNumber.b (by rfl) MNoNumber.m (pa_cons (pe_un un_neg pe_int) pa_nil)) (pa_cons (pe_mkX0 MNothingDone.bo MNothingDone.N MNothingDone.iC MNothingDone.tI MNothingDone.G (hr.mono (by decide)) MNothingDone.b (by rfl) MNothingDone.m) pa_nil)))))
      (pss_cons (ps_set (i := 1) sc_law_hand_right.nd rfl (Or.inl rfl) (pe_lst (pa_cons (pe_mkX MImpossible.bo MImpossible.N MImpossible.iC MImpossible.tI MImpossible.G (hr.mono (by decide)) MImpossible.b (by rfl) MImpossible.m (pa_cons (pe_tupF (pa_cons pe_str (pa_cons pe_non pa_nil))) pa_nil)) (pa_cons (pe_mkX0 MNoPlan.bo MNoPlan.N MNoPlan.iC MNoPlan.tI MNoPlan.G (hr.mono (by decide)) MNoPlan.b (by rfl) MNoPlan.m) (pa_cons (pe_mkX0 MNoRule.bo MNoRule.N MNoRule.iC MNoRule.tI MNoRule.G (hr.mono (by decide)) MNoRule.b (by rfl) MNoRule.m) (pa_cons (pe_mkX0 MBadText.bo MBadText.N MBadText.iC MBadText.tI MBadText.G (hr.mono (by decide)) MBadText.b (by rfl) MBadText.m) (pa_cons (pe_mkX MBadLine.bo MBadLine.N MBadLine.iC MBadLine.tI MBadLine.G (hr.mono (by decide)) MBadLine.b (by rfl) MBadLine.m (pa_cons pe_int pa_nil)) pa_nil)))))))
      (pss_cons (ps_set (i := 2) sc_law_hand_right.nd rfl (Or.inl rfl) (pe_lst (pa_cons (pe_xo (pe_ix (r := rIxL K) ix_list (pv 0) pe_int (fun _ _ => rfl))) (pa_cons (pe_xo (pe_ix (r := rIxL K) ix_list (pv 0) pe_int (fun _ _ => rfl))) (pa_cons (pe_xo (pe_ix (r := rIxL K) ix_list (pv 1) pe_int (fun _ _ => rfl))) (pa_cons (pe_xo (pe_ix (r := rIxL K) ix_list (pv 1) pe_int (fun _ _ => rfl))) pa_nil))))))
      (pss_cons (ps_set (i := 3) sc_law_hand_right.nd rfl (Or.inl rfl) (pe_lst (pa_cons pe_str (pa_cons (pe_un un_neg pe_int) (pa_cons (pe_tupF (pa_cons pe_str (pa_cons pe_non pa_nil))) (pa_cons pe_int pa_nil))))))
      (pss_cons (ps_set (i := 2) sc_law_hand_right.nd rfl (Or.inl rfl) (pe_op op_cat (pv 2) (pe_lc (own := [("_law_own", 4)]) (g := (gName 4)) (tt := tYes) rfl sc_law_hand_right.nd (pi_list (pe_op op_cat (pv 0) (pv 1))) (blkOk_by (own := [("_law_own", 4)]) (N := ["_law_lost", "_law_bad", "_law_got", "_law_due", "_law_own"]) (sc := defScope s_law_hand_right) (by decide +kernel)) (fun _ _ _ _ _ => (pg_name (i := 4) sc_law_hand_right.nd rfl (Or.inl rfl))) (fun _ _ _ _ _ => pts_nil) (fun _ _ _ _ _ => (pe_and (pe_callB (r := rIsX K) call_isX (by rfl) T.b_isinstance (by decide +kernel) (pa_cons (pv 4) (pa_cons (pe_bltn (v := .ty "LookupError") (u := .type "LookupError") (by rfl) mLE (by decide +kernel) (by rfl)) pa_nil))) (pe_one (pe_not (pe_callB (r := rIsXT K) call_isXT (by rfl) T.b_isinstance (by decide +kernel) (pa_cons (pv 4) (pa_cons (pe_tup (pa_cons (pe_bltn (v := .ty "KeyError") (u := .type "KeyError") (by rfl) mKE (by decide +kernel) (by rfl)) (pa_cons (pe_bltn (v := .ty "IndexError") (u := .type "IndexError") (by rfl) mIE (by decide +kernel) (by rfl)) pa_nil))) pa_nil))))))))))
      (pss_cons (ps_set (i := 2) sc_law_hand_right.nd rfl (Or.inl rfl) (pe_op op_cat (pe_op op_cat (pv 2) (pe_lc (own := [("_law_own", 4)]) (g := (gName 4)) (tt := tYes) rfl sc_law_hand_right.nd (pi_list (pe_op op_cat (pv 0) (pv 1))) (blkOk_by (own := [("_law_own", 4)]) (N := ["_law_lost", "_law_bad", "_law_got", "_law_due", "_law_own"]) (sc := defScope s_law_hand_right) (by decide +kernel)) (fun _ _ _ _ _ => (pg_name (i := 4) sc_law_hand_right.nd rfl (Or.inl rfl))) (fun _ _ _ _ _ => pts_nil) (fun _ _ _ _ _ => (pe_callB (r := rIsX K) call_isX (by rfl) T.b_isinstance (by decide +kernel) (pa_cons (pv 4) (pa_cons (pe_bltn (v := .ty "ValueError") (u := .type "ValueError") (by rfl) mVE (by decide +kernel) (by rfl)) pa_nil)))))) (pe_lc (own := [("_law_own", 4)]) (g := (gName 4)) (tt := tYes) rfl sc_law_hand_right.nd (pi_list (pe_op op_cat (pv 0) (pv 1))) (blkOk_by (own := [("_law_own", 4)]) (N := ["_law_lost", "_law_bad", "_law_got", "_law_due", "_law_own"]) (sc := defScope s_law_hand_right) (by decide +kernel)) (fun _ _ _ _ _ => (pg_name (i := 4) sc_law_hand_right.nd rfl (Or.inl rfl))) (fun _ _ _ _ _ => pts_nil) (fun _ _ _ _ _ => (pe_call G_law_sorts (hr.mono (by decide)) rfl m_law_sorts k_law_sorts b_law_sorts .nil pass0 (pa_cons (pv 4) pa_nil))))))
      (pss_one (ps_ret (pe_call G_law_same (hr.mono (by decide)) rfl m_law_same k_law_same b_law_same .nil pass0 (pa_cons (pv 2) (pa_cons (pe_op op_cat (pe_op op_cat (pe_op op_cat (pe_op op_cat (pv 3) (pe_op op_rep (pe_lst (pa_cons pe_bl pa_nil)) pe_int)) (pe_op op_rep (pe_lst (pa_cons pe_bl pa_nil)) pe_int)) (pe_op op_rep (pe_lst (pa_cons pe_bl pa_nil)) pe_int)) (pe_op op_rep (pe_lst (pa_cons pe_int pa_nil)) pe_int)) pa_nil))))))))))), ?_⟩
    refine ⟨by show 1 ≤ 1000; decide, fun a0 na0 => ⟨a0, CL 0, .str "q", rfl, MNoName.N, t0, upd_same, fun H1 sb1 ex0 => ⟨rfl, ?_⟩⟩⟩
    have s1 := made_same na0 sb1
    refine ⟨1, rfl, (by show 1 ≤ 1000; decide), fun a1 na1 => ⟨a1, CL 1, .int (-1), rfl, MNoNumber.N, t1, upd_same, fun H2 sb2 ex1 => ⟨rfl, ?_⟩⟩⟩
    have s2 := made_same na1 sb2
    refine ⟨by show 0 ≤ 1000; decide, fun a2 na2 => ⟨a2, CL 2, rfl, MNothingDone.N, upd_same, rfl, ?_⟩⟩
    have s3 := same_new (o := exo a2 (CL 2) none) na2
    have ex2 : Ex (L2.upd H2 a2 (exo a2 (CL 2) none)) a2 (CL 2) [] := .inl ⟨rfl, upd_same⟩
    generalize L2.upd H2 a2 (exo a2 (CL 2) none) = H3 at s3 ex2 ⊢
    refine ⟨by show 3 ≤ sizeLine; decide, fun l0 nl0 => ?_⟩
    have s4 := same_new (o := .lst [.ref a0, .ref a1, .ref a2]) nl0
    have q0 : L2.upd H3 l0 (.lst [.ref a0, .ref a1, .ref a2]) l0 = some (.lst [.ref a0, .ref a1, .ref a2]) := upd_same
    generalize L2.upd H3 l0 (.lst [.ref a0, .ref a1, .ref a2]) = H4 at s4 q0 ⊢
    refine ⟨by show 2 ≤ sizeLine; decide, fun p o ho np => ⟨by show 1 ≤ 1000; decide, fun a3 na3 => ?_⟩⟩
    have s5 := same_new (o := .frz o (.tup [.str "a", .non])) np
    have d5 : De (L2.upd H4 p (.frz o (.tup [.str "a", .non]))) (.tuple [.str "a", .none]) (.ref p) := ⟨p, _, rfl, ⟨o, upd_same, ho⟩, _, _, rfl, rfl, _, _, rfl, rfl, rfl⟩
    refine ⟨a3, CL 3, .ref p, .tuple [.str "a", .none], rfl, MImpossible.N, t3, n3, upd_same, De.keep (same_new na3) _ _ d5, (by show max 0 (max 0 0) + 1 ≤ 1; decide), ⟨(by show 2 ≤ 1000; decide), trivial, trivial, trivial⟩, fun r H6 sb6 ex3 hr6 => ⟨rfl, ?_⟩⟩
    have s6 := made_same na3 sb6
    have e6 : De H6 (.tuple [.str "a", .none]) r := hr6 H6 fun _ _ _ e => e
    refine ⟨by show 0 ≤ 1000; decide, fun a4 na4 => ⟨a4, CL 4, rfl, MNoPlan.N, upd_same, rfl, ?_⟩⟩
    have s7 := same_new (o := exo a4 (CL 4) none) na4
    have ex4 : Ex (L2.upd H6 a4 (exo a4 (CL 4) none)) a4 (CL 4) [] := .inl ⟨rfl, upd_same⟩
    generalize L2.upd H6 a4 (exo a4 (CL 4) none) = H7 at s7 ex4 ⊢
    refine ⟨by show 0 ≤ 1000; decide, fun a5 na5 => ⟨a5, CL 5, rfl, MNoRule.N, upd_same, rfl, ?_⟩⟩
    have s8 := same_new (o := exo a5 (CL 5) none) na5
    have ex5 : Ex (L2.upd H7 a5 (exo a5 (CL 5) none)) a5 (CL 5) [] := .inl ⟨rfl, upd_same⟩
    generalize L2.upd H7 a5 (exo a5 (CL 5) none) = H8 at s8 ex5 ⊢
    refine ⟨by show 0 ≤ 1000; decide, fun a6 na6 => ⟨a6, CL 6, rfl, MBadText.N, upd_same, rfl, ?_⟩⟩
    have s9 := same_new (o := exo a6 (CL 6) none) na6
    have ex6 : Ex (L2.upd H8 a6 (exo a6 (CL 6) none)) a6 (CL 6) [] := .inl ⟨rfl, upd_same⟩
    generalize L2.upd H8 a6 (exo a6 (CL 6) none) = H9 at s9 ex6 ⊢
    refine ⟨by show 1 ≤ 1000; decide, fun a7 na7 => ⟨a7, CL 7, .int 4, rfl, MBadLine.N, t7, upd_same, fun H10 sb10 ex7 => ⟨rfl, ?_⟩⟩⟩
    have s10 := made_same na7 sb10
    refine ⟨by show 5 ≤ sizeLine; decide, fun l1 nl1 => ?_⟩
    have s11 := same_new (o := .lst [.ref a3, .ref a4, .ref a5, .ref a6, .ref a7]) nl1
    have q1 : L2.upd H10 l1 (.lst [.ref a3, .ref a4, .ref a5, .ref a6, .ref a7]) l1 = some (.lst [.ref a3, .ref a4, .ref a5, .ref a6, .ref a7]) := upd_same
    generalize L2.upd H10 l1 (.lst [.ref a3, .ref a4, .ref a5, .ref a6, .ref a7]) = H11 at s11 q1 ⊢
    have z10 := s10.trans s11
    have z9 := s9.trans z10
    have z8 := s8.trans z9
    have z7 := s7.trans z8
    have z4 := s5.trans (s6.trans z7)
    have z3 := s4.trans z4
    have z2 := s3.trans z3
    have z1 := s2.trans z2
    have x0 := ex0.keep z1
    have x1 := ex1.keep z2
    have x2 := ex2.keep z3
    have x3 := ex3.keep z7
    have x4 := ex4.keep z8
    have x5 := ex5.keep z9
    have x6 := ex6.keep z10
    have x7 := ex7.keep s11
    have Q0 := z4 _ _ q0
    have er := De.keep z7 _ _ e6
    have S11 := s1.trans z1
    refine ⟨_, rfl, l0, _, 0, _, rfl, rfl, SqL.of Q0, rfl, a0, CL 0, basL, _, .str "q", rfl, MNoName.N, n0, x0, rfl, ?_⟩
    refine ⟨_, rfl, l0, _, 1, _, rfl, rfl, SqL.of Q0, rfl, a1, CL 1, basL, _, .int (-1), rfl, MNoNumber.N, n1, x1, rfl, ?_⟩
    refine ⟨_, rfl, l1, _, 0, _, rfl, rfl, SqL.of q1, rfl, a3, CL 3, basV, _, r, rfl, MImpossible.N, n3, x3, rfl, ?_⟩
    refine ⟨_, rfl, l1, _, 4, _, rfl, rfl, SqL.of q1, rfl, a7, CL 7, basV, _, .int 4, rfl, MBadLine.N, n7, x7, rfl, ?_⟩
    refine ⟨by show 4 ≤ sizeLine; decide, fun gg ngg => ?_⟩
    have s12 := same_new (o := .lst [.str "q", .int (-1), r, .int 4]) ngg
    have g12 : L2.upd H11 gg (.lst [.str "q", .int (-1), r, .int 4]) gg = some (.lst [.str "q", .int (-1), r, .int 4]) := upd_same
    generalize L2.upd H11 gg (.lst [.str "q", .int (-1), r, .int 4]) = H12 at s12 g12 ⊢
    refine ⟨1, rfl, (by show 2 ≤ sizeLine; decide), fun p2 o2 ho2 np2 => ⟨by show 4 ≤ sizeLine; decide, fun uu nuu => ?_⟩⟩
    have s13 := same_new (o := .frz o2 (.tup [.str "a", .non])) np2
    have d13 : De (L2.upd H12 p2 (.frz o2 (.tup [.str "a", .non]))) (.tuple [.str "a", .none]) (.ref p2) := ⟨p2, _, rfl, ⟨o2, upd_same, ho2⟩, _, _, rfl, rfl, _, _, rfl, rfl, rfl⟩
    have s14 := same_new (o := .lst [.str "q", .int (-1), .ref p2, .int 4]) nuu
    have u14 : L2.upd (L2.upd H12 p2 (.frz o2 (.tup [.str "a", .non]))) uu (.lst [.str "q", .int (-1), .ref p2, .int 4]) uu = some (.lst [.str "q", .int (-1), .ref p2, .int 4]) := upd_same
    generalize L2.upd (L2.upd H12 p2 (.frz o2 (.tup [.str "a", .non]))) uu (.lst [.str "q", .int (-1), .ref p2, .int 4]) = H14 at s14 u14 ⊢
    have y14 := s12.trans (s13.trans s14)
    have w0 := y14 _ _ Q0
    have w1 := y14 _ _ q1
    have wr := De.keep y14 _ _ er
    have wp := De.keep s14 _ _ d13
    have wg := (s13.trans s14) _ _ g12
    obtain ⟨AL, hAL⟩ : ∃ AL : List Addr, AL = [a0, a1, a2, a3, a4, a5, a6, a7] := ⟨_, rfl⟩
    obtain ⟨FS, hFS⟩ : ∃ FS : Nat → List (Str × V), ∀ i (hi : i < AL.length), Ex H14 AL[i] (CL i) (FS i) := by
      subst hAL
      refine ⟨fun i => ([[("name", .str "q")], [("number", .int (-1))], [], [("move", r)], [], [], [], [("number", .int 4)]] : List (List (Str × V))).getD i [], fun i hi => ?_⟩
      match i, hi with
      | 0, _ => exact x0.keep y14
      | 1, _ => exact x1.keep y14
      | 2, _ => exact x2.keep y14
      | 3, _ => exact x3.keep y14
      | 4, _ => exact x4.keep y14
      | 5, _ => exact x5.keep y14
      | 6, _ => exact x6.keep y14
      | 7, _ => exact x7.keep y14
    have l8 : AL.length = 8 := by rw [hAL]; rfl
    have cats : ∀ {H' : Hp}, Same H14 H' → ∀ R : VK, (∀ p H1, Same H' H1 → H1 p = some (.lst (AL.map V.ref)) → R (.ref p) H1) → rCat (.ref l0) (.ref l1) H' R := fun sx R hR => ⟨l0, l1, _, _, rfl, rfl, sx _ _ w0, sx _ _ w1, (by show 3 + 5 ≤ sizeLine; decide), fun p np => hR p _ (same_new np) (by rw [hAL]; exact upd_same)⟩
    refine ⟨_, rfl, ?_⟩
    dsimp only [tSeq, tAsg, tTupF, tCons, tCB, tDrop, tBM, tLst, tOp, tNil, tCall, tRet]
    refine rd_lcx AL (fun i => .bl (decide (i < 3))) (by omega) (fun R hR => ⟨_, rfl, _, rfl, cats (fun _ _ e => e) R hR⟩) (fun i hi H' R sx hR => ?_) fun D1 H15 s15 h15 => ?_
    · have hi8 : i < 8 := by omega
      refine ⟨rfl, _, rfl, AL[i], CL i, BL i, FS i, _, _, _, rfl, fun u z => z, E8.nx i hi8, (hFS i hi).keep sx, E8.isL i hi8, _, rfl, ite2 (fun c => ?_) (fun c => ?_)⟩
      · refine ⟨_, rfl, (by show 2 ≤ sizeLine; decide), fun tp ntp => ⟨AL[i], CL i, tp, BL i, FS i, _, _, _, rfl, upd_same, cls_two, E8.nx i hi8, (hFS i hi).keep (sx.trans (same_new ntp)), E8.isK i hi8, _, rfl, ?_⟩⟩
        have z := hR _ (same_new (o := .tup [.ty "KeyError", .ty "IndexError"]) ntp)
        rw [c] at z
        exact z
      · have z := hR _ (fun _ _ e => e)
        rw [Bool.eq_false_iff.mpr c] at z
        exact z
    refine ⟨gg, D1, _, _, rfl, rfl, s15 _ _ wg, h15, (by rw [List.length_map, List.length_range, l8]; show 4 + 8 ≤ sizeLine; decide), fun g2 ng2 => ?_⟩
    have s16 := same_new (o := .lst ([.str "q", .int (-1), r, .int 4] ++ (List.range AL.length).map fun i => V.bl (decide (i < 3)))) ng2
    have h16 : L2.upd H15 g2 (.lst ([.str "q", .int (-1), r, .int 4] ++ (List.range AL.length).map fun i => V.bl (decide (i < 3)))) g2 = some (.lst ([.str "q", .int (-1), r, .int 4] ++ (List.range AL.length).map fun i => V.bl (decide (i < 3)))) := upd_same
    generalize L2.upd H15 g2 (.lst ([.str "q", .int (-1), r, .int 4] ++ (List.range AL.length).map fun i => V.bl (decide (i < 3)))) = H16 at s16 h16 ⊢
    have y16 := s15.trans s16
    refine ⟨_, rfl, ?_⟩
    dsimp only [tSeq, tAsg, tTupF, tCons, tCB, tDrop, tBM, tLst, tOp, tNil, tCall, tRet]
    refine rd_lcx AL (fun i => .bl (decide (3 ≤ i))) (by omega) (fun R hR => ⟨_, rfl, _, rfl, cats y16 R hR⟩) (fun i hi H' R sx hR => ?_) fun D2 H17 s17 h17 => ?_
    · have hi8 : i < 8 := by omega
      exact ⟨rfl, _, rfl, AL[i], CL i, BL i, FS i, _, _, _, rfl, fun u z => z, E8.nx i hi8, (hFS i hi).keep (y16.trans sx), E8.isV i hi8, hR _ (fun _ _ e => e)⟩
    refine ⟨g2, D2, _, _, rfl, rfl, s17 _ _ h16, h17, (by rw [List.length_append, List.length_map, List.length_map, List.length_range, l8]; show 4 + 8 + 8 ≤ sizeLine; decide), fun g3' ng3 => ?_⟩
    have s18 := same_new (o := .lst ([.str "q", .int (-1), r, .int 4] ++ ((List.range AL.length).map fun i => V.bl (decide (i < 3))) ++ ((List.range AL.length).map fun i => V.bl (decide (3 ≤ i))))) ng3
    have h18 : L2.upd H17 g3' (.lst ([.str "q", .int (-1), r, .int 4] ++ ((List.range AL.length).map fun i => V.bl (decide (i < 3))) ++ ((List.range AL.length).map fun i => V.bl (decide (3 ≤ i))))) g3' = some (.lst ([.str "q", .int (-1), r, .int 4] ++ ((List.range AL.length).map fun i => V.bl (decide (i < 3))) ++ ((List.range AL.length).map fun i => V.bl (decide (3 ≤ i))))) := upd_same
    generalize L2.upd H17 g3' (.lst ([.str "q", .int (-1), r, .int 4] ++ ((List.range AL.length).map fun i => V.bl (decide (i < 3))) ++ ((List.range AL.length).map fun i => V.bl (decide (3 ≤ i))))) = H18 at s18 h18 ⊢
    have y18 := y16.trans (s17.trans s18)
    refine rd_lcx AL (fun _ => .int 1) (by omega) (fun R hR => ⟨_, rfl, _, rfl, cats y18 R hR⟩) (fun i hi H' R sx hR => ?_) fun D3 H19 s19 h19 => ?_
    · have hi8 : i < 8 := by omega
      exact ⟨rfl, _, rfl, AL[i], i, FS i, rfl, hi8, (hFS i hi).keep (y18.trans sx), fun H4 s4 => hR H4 s4⟩
    refine ⟨g3', D3, _, _, rfl, rfl, s19 _ _ h18, h19, (by rw [List.length_append, List.length_append, List.length_map, List.length_map, List.length_map, List.length_range, l8]; show 4 + 8 + 8 + 8 ≤ sizeLine; decide), fun g4' ng4 => ?_⟩
    have s20 := same_new (o := .lst ([.str "q", .int (-1), r, .int 4] ++ ((List.range AL.length).map fun i => V.bl (decide (i < 3))) ++ ((List.range AL.length).map fun i => V.bl (decide (3 ≤ i))) ++ ((List.range AL.length).map fun _ => V.int 1))) ng4
    have h20 : L2.upd H19 g4' (.lst ([.str "q", .int (-1), r, .int 4] ++ ((List.range AL.length).map fun i => V.bl (decide (i < 3))) ++ ((List.range AL.length).map fun i => V.bl (decide (3 ≤ i))) ++ ((List.range AL.length).map fun _ => V.int 1))) g4' = some (.lst ([.str "q", .int (-1), r, .int 4] ++ ((List.range AL.length).map fun i => V.bl (decide (i < 3))) ++ ((List.range AL.length).map fun i => V.bl (decide (3 ≤ i))) ++ ((List.range AL.length).map fun _ => V.int 1))) := upd_same
    generalize L2.upd H19 g4' (.lst ([.str "q", .int (-1), r, .int 4] ++ ((List.range AL.length).map fun i => V.bl (decide (i < 3))) ++ ((List.range AL.length).map fun i => V.bl (decide (3 ≤ i))) ++ ((List.range AL.length).map fun _ => V.int 1))) = H20 at s20 h20 ⊢
    have y20 := y18.trans (s19.trans s20)
    have v20 := y20 _ _ u14
    refine ⟨_, rfl, _, rfl, (by show 1 ≤ sizeLine; decide), fun b1 nb1 => ⟨b1, 3, _, rfl, rfl, upd_same, (by decide), (by decide), (by show 1 * 3 ≤ sizeLine; decide), fun c1 nc1 => ⟨uu, c1, _, _, rfl, rfl, same_new nc1 _ _ (same_new nb1 _ _ v20), upd_same, (by show 4 + 3 ≤ sizeLine; decide), fun d1 nd1 => ?_⟩⟩⟩
    refine ⟨by show 1 ≤ sizeLine; decide, fun b2 nb2 => ⟨b2, 8, _, rfl, rfl, upd_same, (by decide), (by decide), (by show 1 * 8 ≤ sizeLine; decide), fun c2 nc2 => ⟨d1, c2, _, _, rfl, rfl, same_new nc2 _ _ (same_new nb2 _ _ upd_same), upd_same, (by show 7 + 8 ≤ sizeLine; decide), fun d2 nd2 => ?_⟩⟩⟩
    refine ⟨by show 1 ≤ sizeLine; decide, fun b3 nb3 => ⟨b3, 5, _, rfl, rfl, upd_same, (by decide), (by decide), (by show 1 * 5 ≤ sizeLine; decide), fun c3 nc3 => ⟨d2, c3, _, _, rfl, rfl, same_new nc3 _ _ (same_new nb3 _ _ upd_same), upd_same, (by show 15 + 5 ≤ sizeLine; decide), fun d3 nd3 => ?_⟩⟩⟩
    refine ⟨by show 1 ≤ sizeLine; decide, fun b4 nb4 => ⟨b4, 8, _, rfl, rfl, upd_same, (by decide), (by decide), (by show 1 * 8 ≤ sizeLine; decide), fun c4 nc4 => ⟨d3, c4, _, _, rfl, rfl, same_new nc4 _ _ (same_new nb4 _ _ upd_same), upd_same, (by show 20 + 8 ≤ sizeLine; decide), fun d4 nd4 => ?_⟩⟩⟩
    have fin : ∀ {Hz : Hp}, Same H20 Hz → Hz d4 = some (.lst ([.str "q", .int (-1), .ref p2, .int 4] ++ List.replicate 3 (V.bl true) ++ List.replicate 8 (V.bl false) ++ List.replicate 5 (V.bl true) ++ List.replicate 8 (V.int 1))) → spSame 3 [.ref g4', .ref d4] Hz Q E0 := fun {Hz} sz hz => by
      have hg := sz _ _ h20
      rw [l8] at hg
      refine ⟨handD, .ref g4', .ref d4, rfl, ?_, ?_, handD_dpt, handD_okw, fun H' s' => k H' (S11.trans (y14.trans (y20.trans (sz.trans s'))))⟩
      · exact ⟨g4', _, rfl, hg, _, _, rfl, rfl, _, _, rfl, rfl, _, _, rfl, De.keep (y20.trans sz) _ _ wr, _, _, rfl, rfl, _, _, rfl, rfl, _, _, rfl, rfl, _, _, rfl, rfl, _, _, rfl, rfl, _, _, rfl, rfl, _, _, rfl, rfl, _, _, rfl, rfl, _, _, rfl, rfl, _, _, rfl, rfl, _, _, rfl, rfl, _, _, rfl, rfl, _, _, rfl, rfl, _, _, rfl, rfl, _, _, rfl, rfl, _, _, rfl, rfl, _, _, rfl, rfl, _, _, rfl, rfl, _, _, rfl, rfl, _, _, rfl, rfl, _, _, rfl, rfl, _, _, rfl, rfl, _, _, rfl, rfl, _, _, rfl, rfl, _, _, rfl, rfl, rfl⟩
      · exact ⟨d4, _, rfl, hz, _, _, rfl, rfl, _, _, rfl, rfl, _, _, rfl, De.keep (y20.trans sz) _ _ wp, _, _, rfl, rfl, _, _, rfl, rfl, _, _, rfl, rfl, _, _, rfl, rfl, _, _, rfl, rfl, _, _, rfl, rfl, _, _, rfl, rfl, _, _, rfl, rfl, _, _, rfl, rfl, _, _, rfl, rfl, _, _, rfl, rfl, _, _, rfl, rfl, _, _, rfl, rfl, _, _, rfl, rfl, _, _, rfl, rfl, _, _, rfl, rfl, _, _, rfl, rfl, _, _, rfl, rfl, _, _, rfl, rfl, _, _, rfl, rfl, _, _, rfl, rfl, _, _, rfl, rfl, _, _, rfl, rfl, _, _, rfl, rfl, _, _, rfl, rfl, rfl⟩
    exact fin ((same_new nb1).trans ((same_new nc1).trans ((same_new nd1).trans ((same_new nb2).trans ((same_new nc2).trans ((same_new nd2).trans ((same_new nb3).trans ((same_new nc3).trans ((same_new nd3).trans ((same_new nb4).trans ((same_new nc4).trans (same_new nd4)))))))))))) upd_same
end
end Nal

namespace Nal
open PySem L2 RZ PyProof.Rows
abbrev slaw : Stmt := topS 20
abbrev Nlaw : List Str := ["_law_script", "_law_cells_here", "_law_k"]
abbrev Plaw : List Str := ["_law_script"]
theorem sclaw : FnScope ["_law_script", "_law_cells_here", "_law_k"] ["_law_script"] (defScope slaw) := ⟨rfl, rfl, rfl, by decide +kernel, rfl, by decide +kernel, by decide +kernel⟩
theorem spl (n : Nat) : True := trivial
section
variable {P : Program} {w : World} {K : PySem.W.Frag} {mg : Str → Option Value} {base : Heap}
def spLaw (K : PySem.W.Frag) : Sp := fun vs H Q _ => ∃ (a : Addr) (ns : List Int), vs = [.ref a] ∧ SqL K H a (ns.map V.int) ∧ ∀ H', Q (.bl true) H'
theorem ok_law {f f1 f2 f3 f4 : Addr} {fd fd1 fd2 fd3 fd4 : FuncData} (F : Fun K "law" "law" slaw f fd) (T : Txt K mg)
    (G_law_hand_right : FnOk P w K mg base CX0 5 f1 fd1 [] spHand) (m_law_hand_right : mg "_law_hand_right" = some (.ref f1)) (k_law_hand_right : PySem.W.keepIn K (.ref f1) = true) (b_law_hand_right : Binds K fd1 [] [])
    (G_law_cells : FnOk P w K mg base CX0 1 f2 fd2 ["_law_script", "_law_most"] (spCells K)) (m_law_cells : mg "_law_cells" = some (.ref f2)) (k_law_cells : PySem.W.keepIn K (.ref f2) = true) (b_law_cells : Binds K fd2 ["_law_script", "_law_most"] [])
    (G_law_box : FnOk P w K mg base CX0 1 f3 fd3 ["_law_script", "_law_k"] (spBox K)) (m_law_box : mg "_law_box" = some (.ref f3)) (k_law_box : PySem.W.keepIn K (.ref f3) = true) (b_law_box : Binds K fd3 ["_law_script", "_law_k"] [])
    (G_law_right : FnOk P w K mg base CX0 5 f4 fd4 ["_law_tin"] spRight) (m_law_right : mg "_law_right" = some (.ref f4)) (k_law_right : PySem.W.keepIn K (.ref f4) = true) (b_law_right : Binds K fd4 ["_law_tin"] []) :
    FnOk P w K mg base CX0 6 f fd ["_law_script"] (spLaw K) := by
  refine F.ok sclaw (fun vs H Q E h => ?_) (fun cdv A outer s H vs Q E hr h => ?_)
  · obtain ⟨a, ns, rfl, _⟩ := h
    rfl
  · obtain ⟨a, ns, rfl, hS, k⟩ := h
    refine ⟨_, (pss_cons (ps_if (pt_not (pt_val (pe_call0 G_law_hand_right (hr.mono (by decide)) rfl m_law_hand_right k_law_hand_right b_law_hand_right .nil pass0))) (pss_one (ps_ret pe_bl)) pss_nil)
      (pss_cons (ps_set (i := 1) sclaw.nd rfl (Or.inr rfl) (pe_call G_law_cells (hr.mono (by decide)) rfl m_law_cells k_law_cells b_law_cells .nil pass0 (pa_cons (pv 0) (pa_cons pe_int pa_nil))))
      (pss_one (ps_ret (pe_callB (r := rAll K) (cr_all rfl) (by rfl) T.b_all (by decide +kernel) (pa_cons (pe_lc (own := [("_law_k", 2)]) (g := (gName 2)) (tt := tYes) rfl sclaw.nd (pi_range1 (by rfl) T.b_range (pa_cons (pe_callB (r := rLn K) call_len_seq (by rfl) T.b_len (by decide +kernel) (pa_cons (pv 1) pa_nil)) pa_nil)) (blkOk_by (own := [("_law_k", 2)]) (N := ["_law_script", "_law_cells_here", "_law_k"]) (sc := defScope slaw) (by decide +kernel)) (fun _ _ _ _ _ => (pg_name (i := 2) sclaw.nd rfl (Or.inl rfl))) (fun _ _ _ _ _ => pts_nil) (fun _ _ _ _ _ => (pe_call G_law_right (hr.mono (by decide)) rfl m_law_right k_law_right b_law_right .nil pass0 (pa_cons (pe_call G_law_box (hr.mono (by decide)) rfl m_law_box k_law_box b_law_box .nil pass0 (pa_cons (pv 1) (pa_cons (pv 2) pa_nil))) pa_nil)))) pa_nil)))))), ?_⟩
    refine ⟨rfl, fun H1 s1 => ?_⟩
    refine ⟨true, rfl, ite2 (fun c => nomatch c) (fun _ => ?_)⟩
    refine ⟨_, rfl, a, ns, rfl, s1.seq hS, fun p H2 ms hp s2 h2 lm => ?_⟩
    have ln : (ms.map V.int).length = ms.length := List.length_map _
    refine ⟨_, rfl, p, _, rfl, .inl (SqL.of h2), _, rfl, (by omega), (by rw [ln]; omega), fun D hD => lc_it (w := walk_range (lo := 0) (n := (ms.map V.int).length)) (fun i H' => Same H2 H' ∧ H' D = some (.lst ((List.replicate i true).map V.bl))) ⟨same_new hD, upd_same⟩ (fun _ _ _ _ => trivial) ?_ ?_⟩
    · rintro i x _ H3 hi ⟨s3, h3⟩ ⟨rfl, rfl⟩
      refine ⟨rfl, _, rfl, _, rfl, p, ms, i, (by show [V.ref p, V.int (0 + (i : Int))] = [V.ref p, V.int (i : Int)]; rw [Int.zero_add]), SqL.of (s3 _ _ h2), (by omega), fun t H4 nt s4 T4 => ?_⟩
      refine ⟨t, 0, rfl, T4, (by decide), fun H5 s5 => ?_⟩
      have sb : ∀ b o, H3 b = some o → H5 b = some o := fun b o e => s5 b o (ne_of_none e nt) (s4 _ _ e)
      refine ⟨_, sb _ _ h3, Nat.lt_of_le_of_lt (show _ ≤ 1000 by rw [List.length_map, List.length_replicate]; omega) (by decide), fun b o e => ?_, ?_⟩
      · rw [upd_ne (ne_of_none e hD)]
        exact sb _ _ (s3 _ _ e)
      · rw [upd_same, List.replicate_succ', List.map_append]
        rfl
    · rintro H3 ⟨s3, h3⟩
      refine ⟨D, _, rfl, SqL.of h3, ?_⟩
      rw [all_true]
      exact k H3
end
end Nal

namespace Nal
open PySem L2 RZ PyProof.Rows
theorem kit_own {K : PySem.W.Frag} {C : Addr} {T : String} {b : Bool} (m : PySem.W.kitMeta T = true) (e : PySem.W.subIn K (.ref C) (.type T) = some b) : PySem.W.kitOne K (.ref C) (.type T) = some b := by
  show (if (Value.ref C == Value.type T) = true then some true else if PySem.W.kitMeta T = true then PySem.W.subIn K (.ref C) (.type T) else none) = some b
  rw [if_neg (show ¬ ((Value.ref C == Value.type T) = true) from fun z => by
    have z2 : Value.ref C = Value.type T := beq_iff_eq.mp z
    cases z2), if_pos m]
  exact e
theorem kit_ref {K : PySem.W.Frag} {C D : Addr} {b : Bool} (h1 : PySem.W.isClsIn K D = true) (h2 : PySem.W.typeIn K (.ref D) = some (.type "type")) (s : PySem.W.subIn K (.ref C) (.ref C) = some true) (e : PySem.W.subIn K (.ref C) (.ref D) = some b) : PySem.W.kitOne K (.ref C) (.ref D) = some b := by
  show (if (Value.ref C == Value.ref D) = true then some true else if ((PySem.W.clsIn K D).isSome && PySem.W.typeIn K (.ref D) == some (.type "type")) = true then PySem.W.subIn K (.ref C) (.ref D) else none) = some b
  by_cases h : C = D
  · subst h
    rw [s] at e
    rw [if_pos (beq_self_eq_true _)]
    exact e
  · have g : ((PySem.W.clsIn K D).isSome && PySem.W.typeIn K (.ref D) == some (.type "type")) = true := by
      rw [show (PySem.W.clsIn K D).isSome = true from h1, h2]
      rfl
    rw [if_neg (show ¬ ((Value.ref C == Value.ref D) = true) from fun z => by
      have z2 : Value.ref C = Value.ref D := beq_iff_eq.mp z
      cases z2
      exact h rfl), if_pos g]
    exact e
theorem kit_none {K : PySem.W.Frag} {t : Value} {a b : Value} (h1 : PySem.W.kitOne K t a = some false) (h2 : PySem.W.kitOne K t b = some false) : PySem.W.kitAny K t [a, b] = some false :=
  kitAny_cons h1 (fun _ => kitAny_cons h2 (fun _ => kitAny_nil) (fun z => nomatch z)) (fun z => nomatch z)
/-- what the top has written, and what follows of it -/
theorem all_mk {l : PySem.W.OpenLaw} {w : World} {K : PySem.W.Frag} {h : Heap} {mg : Str → Option Value} {fa f0 f1 f2 f3 f4 f5 f6 f7 f8 f9 C0 C1 C2 C3 C4 C5 C6 C7 I0 I1 I2 I3 I4 I5 I6 I7 : Addr} (X : K.In h) (G : h.Ns mainGlobals mg) (hfa : mg "law" = some (.ref fa))
    {od0 an0 od1 an1 od2 an2 od3 an3 od4 an4 od5 an5 od6 an6 od7 an7 od8 an8 od9 an9 iod0 ian0 iod1 ian1 iod2 ian2 iod3 ian3 iod4 ian4 iod5 ian5 iod6 ian6 iod7 ian7 : Option Addr} {sl0 sl1 sl2 sl3 sl4 sl5 sl6 sl7 sl8 sl9 isl0 isl1 isl2 isl3 isl4 isl5 isl6 isl7 : Array (Option Value)}
    {oc0 kV0 dc0 pm0 cd0 ct0 oc1 kV1 dc1 pm1 cd1 ct1 oc2 kV2 dc2 pm2 cd2 ct2 oc3 kV3 dc3 pm3 cd3 ct3 oc4 kV4 dc4 pm4 cd4 ct4 oc5 kV5 dc5 pm5 cd5 ct5 oc6 kV6 dc6 pm6 cd6 ct6 oc7 kV7 dc7 pm7 cd7 ct7 oc8 kV8 dc8 pm8 cd8 ct8 oc9 kV9 dc9 pm9 cd9 ct9 ioc0 ikV0 idc0 ipm0 icd0 ict0 ioc1 ikV1 idc1 ipm1 icd1 ict1 ioc2 ikV2 idc2 ipm2 icd2 ict2 ioc3 ikV3 idc3 ipm3 icd3 ict3 ioc4 ikV4 idc4 ipm4 icd4 ict4 ioc5 ikV5 idc5 ipm5 icd5 ict5 ioc6 ikV6 idc6 ipm6 icd6 ict6 ioc7 ikV7 idc7 ipm7 icd7 ict7 : Value}
    (a0 : PySem.W.nsIn K mainGlobals "as_tuples" = some (some (.ref f0)))
    (l0 : K.lookup f0 = some ⟨oc0, od0, .func (PySem.W.fnOf "as_tuples" "as_tuples" (defArgs sas_tuples) (defBody sas_tuples) (defScope sas_tuples) .none kV0 dc0 pm0 an0 cd0 ct0), sl0⟩)
    (c0 : PySem.W.codeIn K cd0 "as_tuples" = true)
    (k0 : PySem.W.keepIn K (.ref f0) = true)
    (a1 : PySem.W.nsIn K mainGlobals "_law_box" = some (some (.ref f1)))
    (l1 : K.lookup f1 = some ⟨oc1, od1, .func (PySem.W.fnOf "_law_box" "_law_box" (defArgs s_law_box) (defBody s_law_box) (defScope s_law_box) .none kV1 dc1 pm1 an1 cd1 ct1), sl1⟩)
    (c1 : PySem.W.codeIn K cd1 "_law_box" = true)
    (k1 : PySem.W.keepIn K (.ref f1) = true)
    (a2 : PySem.W.nsIn K mainGlobals "_law_take" = some (some (.ref f2)))
    (l2 : K.lookup f2 = some ⟨oc2, od2, .func (PySem.W.fnOf "_law_take" "_law_take" (defArgs s_law_take) (defBody s_law_take) (defScope s_law_take) .none kV2 dc2 pm2 an2 cd2 ct2), sl2⟩)
    (c2 : PySem.W.codeIn K cd2 "_law_take" = true)
    (k2 : PySem.W.keepIn K (.ref f2) = true)
    (a3 : PySem.W.nsIn K mainGlobals "_law_cells" = some (some (.ref f3)))
    (l3 : K.lookup f3 = some ⟨oc3, od3, .func (PySem.W.fnOf "_law_cells" "_law_cells" (defArgs s_law_cells) (defBody s_law_cells) (defScope s_law_cells) .none kV3 dc3 pm3 an3 cd3 ct3), sl3⟩)
    (c3 : PySem.W.codeIn K cd3 "_law_cells" = true)
    (k3 : PySem.W.keepIn K (.ref f3) = true)
    (a4 : PySem.W.nsIn K mainGlobals "_law_of" = some (some (.ref f4)))
    (l4 : K.lookup f4 = some ⟨oc4, od4, .func (PySem.W.fnOf "_law_of" "_law_of" (defArgs s_law_of) (defBody s_law_of) (defScope s_law_of) .none kV4 dc4 pm4 an4 cd4 ct4), sl4⟩)
    (c4 : PySem.W.codeIn K cd4 "_law_of" = true)
    (k4 : PySem.W.keepIn K (.ref f4) = true)
    (a5 : PySem.W.nsIn K mainGlobals "_law_same" = some (some (.ref f5)))
    (l5 : K.lookup f5 = some ⟨oc5, od5, .func (PySem.W.fnOf "_law_same" "_law_same" (defArgs s_law_same) (defBody s_law_same) (defScope s_law_same) .none kV5 dc5 pm5 an5 cd5 ct5), sl5⟩)
    (c5 : PySem.W.codeIn K cd5 "_law_same" = true)
    (k5 : PySem.W.keepIn K (.ref f5) = true)
    (a6 : PySem.W.nsIn K mainGlobals "_law_sorts" = some (some (.ref f6)))
    (l6 : K.lookup f6 = some ⟨oc6, od6, .func (PySem.W.fnOf "_law_sorts" "_law_sorts" (defArgs s_law_sorts) (defBody s_law_sorts) (defScope s_law_sorts) .none kV6 dc6 pm6 an6 cd6 ct6), sl6⟩)
    (c6 : PySem.W.codeIn K cd6 "_law_sorts" = true)
    (k6 : PySem.W.keepIn K (.ref f6) = true)
    (a7 : PySem.W.nsIn K mainGlobals "_law_hand_right" = some (some (.ref f7)))
    (l7 : K.lookup f7 = some ⟨oc7, od7, .func (PySem.W.fnOf "_law_hand_right" "_law_hand_right" (defArgs s_law_hand_right) (defBody s_law_hand_right) (defScope s_law_hand_right) .none kV7 dc7 pm7 an7 cd7 ct7), sl7⟩)
    (c7 : PySem.W.codeIn K cd7 "_law_hand_right" = true)
    (k7 : PySem.W.keepIn K (.ref f7) = true)
    (a8 : PySem.W.nsIn K mainGlobals "_law_right" = some (some (.ref f8)))
    (l8 : K.lookup f8 = some ⟨oc8, od8, .func (PySem.W.fnOf "_law_right" "_law_right" (defArgs s_law_right) (defBody s_law_right) (defScope s_law_right) .none kV8 dc8 pm8 an8 cd8 ct8), sl8⟩)
    (c8 : PySem.W.codeIn K cd8 "_law_right" = true)
    (k8 : PySem.W.keepIn K (.ref f8) = true)
    (a9 : PySem.W.nsIn K mainGlobals "law" = some (some (.ref f9)))
    (l9 : K.lookup f9 = some ⟨oc9, od9, .func (PySem.W.fnOf "law" "law" (defArgs slaw) (defBody slaw) (defScope slaw) .none kV9 dc9 pm9 an9 cd9 ct9), sl9⟩)
    (c9 : PySem.W.codeIn K cd9 "law" = true)
    (k9 : PySem.W.keepIn K (.ref f9) = true)
    (aC0 : PySem.W.nsIn K mainGlobals "NoName" = some (some (.ref C0)))
    (iC0 : PySem.W.findIn K (.ref C0) "__init__" = some (some (.ref I0)))
    (tI0 : PySem.W.typeIn K (.ref I0) = some (.type "function"))
    (lI0 : K.lookup I0 = some ⟨ioc0, iod0, .func (PySem.W.fnOf "__init__" "NoName.__init__" (defArgs iNoName) (defBody iNoName) (defScope iNoName) .none ikV0 idc0 ipm0 ian0 icd0 ict0), isl0⟩)
    (cI0 : PySem.W.codeIn K icd0 "NoName.__init__" = true)
    (kI0 : PySem.W.keepIn K (.ref I0) = true)
    (x10 : PySem.W.excInitIn K C0 [.type "LookupError", .type "Exception", .type "BaseException", .type "object"] "LookupError.__new__" = true)
    (x20 : PySem.W.excOver K C0 [.type "LookupError", .type "Exception", .type "BaseException", .type "object"] = true)
    (x30 : PySem.W.hasDictIn K C0 = true)
    (x40 : PySem.W.findIn K (.ref C0) "__setattr__" = some (some (.builtin "object.__setattr__")))
    (x50 : PySem.W.subIn K (.ref C0) (.type "BaseException") = some true)
    (x60 : PySem.W.typeIn K (.ref C0) = some (.type "type"))
    (x70 : PySem.W.keepIn K (.ref C0) = true)
    (y10 : PySem.W.isClsIn K C0 = true)
    (y20 : PySem.W.findIn K (.ref C0) "__getattribute__" = some (some (.builtin "BaseException.__getattribute__")))
    (y30 : PySem.W.findIn K (.ref C0) "__getattr__" = some none)
    (y40 : PySem.W.findIn K (.ref C0) "__class__" = some (some (.builtin "object.__class__")))
    (y70 : PySem.W.mroIn K C0 (.type "object") = some true)
    (sL0 : PySem.W.subIn K (.ref C0) (.type "LookupError") = some true)
    (sV0 : PySem.W.subIn K (.ref C0) (.type "ValueError") = some false)
    (sK0 : PySem.W.subIn K (.ref C0) (.type "KeyError") = some false)
    (sI0 : PySem.W.subIn K (.ref C0) (.type "IndexError") = some false)
    (tk0 : PySem.W.takerIn K C0 "name" = some none)
    (no0 : PySem.W.findIn K (.ref C0) "name" = some none)
    (aC1 : PySem.W.nsIn K mainGlobals "NoNumber" = some (some (.ref C1)))
    (iC1 : PySem.W.findIn K (.ref C1) "__init__" = some (some (.ref I1)))
    (tI1 : PySem.W.typeIn K (.ref I1) = some (.type "function"))
    (lI1 : K.lookup I1 = some ⟨ioc1, iod1, .func (PySem.W.fnOf "__init__" "NoNumber.__init__" (defArgs iNoNumber) (defBody iNoNumber) (defScope iNoNumber) .none ikV1 idc1 ipm1 ian1 icd1 ict1), isl1⟩)
    (cI1 : PySem.W.codeIn K icd1 "NoNumber.__init__" = true)
    (kI1 : PySem.W.keepIn K (.ref I1) = true)
    (x11 : PySem.W.excInitIn K C1 [.type "LookupError", .type "Exception", .type "BaseException", .type "object"] "LookupError.__new__" = true)
    (x21 : PySem.W.excOver K C1 [.type "LookupError", .type "Exception", .type "BaseException", .type "object"] = true)
    (x31 : PySem.W.hasDictIn K C1 = true)
    (x41 : PySem.W.findIn K (.ref C1) "__setattr__" = some (some (.builtin "object.__setattr__")))
    (x51 : PySem.W.subIn K (.ref C1) (.type "BaseException") = some true)
    (x61 : PySem.W.typeIn K (.ref C1) = some (.type "type"))
    (x71 : PySem.W.keepIn K (.ref C1) = true)
    (y11 : PySem.W.isClsIn K C1 = true)
    (y21 : PySem.W.findIn K (.ref C1) "__getattribute__" = some (some (.builtin "BaseException.__getattribute__")))
    (y31 : PySem.W.findIn K (.ref C1) "__getattr__" = some none)
    (y41 : PySem.W.findIn K (.ref C1) "__class__" = some (some (.builtin "object.__class__")))
    (y71 : PySem.W.mroIn K C1 (.type "object") = some true)
    (sL1 : PySem.W.subIn K (.ref C1) (.type "LookupError") = some true)
    (sV1 : PySem.W.subIn K (.ref C1) (.type "ValueError") = some false)
    (sK1 : PySem.W.subIn K (.ref C1) (.type "KeyError") = some false)
    (sI1 : PySem.W.subIn K (.ref C1) (.type "IndexError") = some false)
    (tk1 : PySem.W.takerIn K C1 "number" = some none)
    (no1 : PySem.W.findIn K (.ref C1) "number" = some none)
    (aC2 : PySem.W.nsIn K mainGlobals "NothingDone" = some (some (.ref C2)))
    (iC2 : PySem.W.findIn K (.ref C2) "__init__" = some (some (.ref I2)))
    (tI2 : PySem.W.typeIn K (.ref I2) = some (.type "function"))
    (lI2 : K.lookup I2 = some ⟨ioc2, iod2, .func (PySem.W.fnOf "__init__" "NothingDone.__init__" (defArgs iNothingDone) (defBody iNothingDone) (defScope iNothingDone) .none ikV2 idc2 ipm2 ian2 icd2 ict2), isl2⟩)
    (cI2 : PySem.W.codeIn K icd2 "NothingDone.__init__" = true)
    (kI2 : PySem.W.keepIn K (.ref I2) = true)
    (x12 : PySem.W.excInitIn K C2 [.type "LookupError", .type "Exception", .type "BaseException", .type "object"] "LookupError.__new__" = true)
    (x22 : PySem.W.excOver K C2 [.type "LookupError", .type "Exception", .type "BaseException", .type "object"] = true)
    (x32 : PySem.W.hasDictIn K C2 = true)
    (x42 : PySem.W.findIn K (.ref C2) "__setattr__" = some (some (.builtin "object.__setattr__")))
    (x52 : PySem.W.subIn K (.ref C2) (.type "BaseException") = some true)
    (x62 : PySem.W.typeIn K (.ref C2) = some (.type "type"))
    (x72 : PySem.W.keepIn K (.ref C2) = true)
    (y12 : PySem.W.isClsIn K C2 = true)
    (y22 : PySem.W.findIn K (.ref C2) "__getattribute__" = some (some (.builtin "BaseException.__getattribute__")))
    (y32 : PySem.W.findIn K (.ref C2) "__getattr__" = some none)
    (y42 : PySem.W.findIn K (.ref C2) "__class__" = some (some (.builtin "object.__class__")))
    (y72 : PySem.W.mroIn K C2 (.type "object") = some true)
    (sL2 : PySem.W.subIn K (.ref C2) (.type "LookupError") = some true)
    (sV2 : PySem.W.subIn K (.ref C2) (.type "ValueError") = some false)
    (sK2 : PySem.W.subIn K (.ref C2) (.type "KeyError") = some false)
    (sI2 : PySem.W.subIn K (.ref C2) (.type "IndexError") = some false)
    (aC3 : PySem.W.nsIn K mainGlobals "Impossible" = some (some (.ref C3)))
    (iC3 : PySem.W.findIn K (.ref C3) "__init__" = some (some (.ref I3)))
    (tI3 : PySem.W.typeIn K (.ref I3) = some (.type "function"))
    (lI3 : K.lookup I3 = some ⟨ioc3, iod3, .func (PySem.W.fnOf "__init__" "Impossible.__init__" (defArgs iImpossible) (defBody iImpossible) (defScope iImpossible) .none ikV3 idc3 ipm3 ian3 icd3 ict3), isl3⟩)
    (cI3 : PySem.W.codeIn K icd3 "Impossible.__init__" = true)
    (kI3 : PySem.W.keepIn K (.ref I3) = true)
    (x13 : PySem.W.excInitIn K C3 [.type "ValueError", .type "Exception", .type "BaseException", .type "object"] "ValueError.__new__" = true)
    (x23 : PySem.W.excOver K C3 [.type "ValueError", .type "Exception", .type "BaseException", .type "object"] = true)
    (x33 : PySem.W.hasDictIn K C3 = true)
    (x43 : PySem.W.findIn K (.ref C3) "__setattr__" = some (some (.builtin "object.__setattr__")))
    (x53 : PySem.W.subIn K (.ref C3) (.type "BaseException") = some true)
    (x63 : PySem.W.typeIn K (.ref C3) = some (.type "type"))
    (x73 : PySem.W.keepIn K (.ref C3) = true)
    (y13 : PySem.W.isClsIn K C3 = true)
    (y23 : PySem.W.findIn K (.ref C3) "__getattribute__" = some (some (.builtin "BaseException.__getattribute__")))
    (y33 : PySem.W.findIn K (.ref C3) "__getattr__" = some none)
    (y43 : PySem.W.findIn K (.ref C3) "__class__" = some (some (.builtin "object.__class__")))
    (y73 : PySem.W.mroIn K C3 (.type "object") = some true)
    (sL3 : PySem.W.subIn K (.ref C3) (.type "LookupError") = some false)
    (sV3 : PySem.W.subIn K (.ref C3) (.type "ValueError") = some true)
    (sK3 : PySem.W.subIn K (.ref C3) (.type "KeyError") = some false)
    (sI3 : PySem.W.subIn K (.ref C3) (.type "IndexError") = some false)
    (tk3 : PySem.W.takerIn K C3 "move" = some none)
    (no3 : PySem.W.findIn K (.ref C3) "move" = some none)
    (aC4 : PySem.W.nsIn K mainGlobals "NoPlan" = some (some (.ref C4)))
    (iC4 : PySem.W.findIn K (.ref C4) "__init__" = some (some (.ref I4)))
    (tI4 : PySem.W.typeIn K (.ref I4) = some (.type "function"))
    (lI4 : K.lookup I4 = some ⟨ioc4, iod4, .func (PySem.W.fnOf "__init__" "NoPlan.__init__" (defArgs iNoPlan) (defBody iNoPlan) (defScope iNoPlan) .none ikV4 idc4 ipm4 ian4 icd4 ict4), isl4⟩)
    (cI4 : PySem.W.codeIn K icd4 "NoPlan.__init__" = true)
    (kI4 : PySem.W.keepIn K (.ref I4) = true)
    (x14 : PySem.W.excInitIn K C4 [.type "ValueError", .type "Exception", .type "BaseException", .type "object"] "ValueError.__new__" = true)
    (x24 : PySem.W.excOver K C4 [.type "ValueError", .type "Exception", .type "BaseException", .type "object"] = true)
    (x34 : PySem.W.hasDictIn K C4 = true)
    (x44 : PySem.W.findIn K (.ref C4) "__setattr__" = some (some (.builtin "object.__setattr__")))
    (x54 : PySem.W.subIn K (.ref C4) (.type "BaseException") = some true)
    (x64 : PySem.W.typeIn K (.ref C4) = some (.type "type"))
    (x74 : PySem.W.keepIn K (.ref C4) = true)
    (y14 : PySem.W.isClsIn K C4 = true)
    (y24 : PySem.W.findIn K (.ref C4) "__getattribute__" = some (some (.builtin "BaseException.__getattribute__")))
    (y34 : PySem.W.findIn K (.ref C4) "__getattr__" = some none)
    (y44 : PySem.W.findIn K (.ref C4) "__class__" = some (some (.builtin "object.__class__")))
    (y74 : PySem.W.mroIn K C4 (.type "object") = some true)
    (sL4 : PySem.W.subIn K (.ref C4) (.type "LookupError") = some false)
    (sV4 : PySem.W.subIn K (.ref C4) (.type "ValueError") = some true)
    (sK4 : PySem.W.subIn K (.ref C4) (.type "KeyError") = some false)
    (sI4 : PySem.W.subIn K (.ref C4) (.type "IndexError") = some false)
    (aC5 : PySem.W.nsIn K mainGlobals "NoRule" = some (some (.ref C5)))
    (iC5 : PySem.W.findIn K (.ref C5) "__init__" = some (some (.ref I5)))
    (tI5 : PySem.W.typeIn K (.ref I5) = some (.type "function"))
    (lI5 : K.lookup I5 = some ⟨ioc5, iod5, .func (PySem.W.fnOf "__init__" "NoRule.__init__" (defArgs iNoRule) (defBody iNoRule) (defScope iNoRule) .none ikV5 idc5 ipm5 ian5 icd5 ict5), isl5⟩)
    (cI5 : PySem.W.codeIn K icd5 "NoRule.__init__" = true)
    (kI5 : PySem.W.keepIn K (.ref I5) = true)
    (x15 : PySem.W.excInitIn K C5 [.type "ValueError", .type "Exception", .type "BaseException", .type "object"] "ValueError.__new__" = true)
    (x25 : PySem.W.excOver K C5 [.type "ValueError", .type "Exception", .type "BaseException", .type "object"] = true)
    (x35 : PySem.W.hasDictIn K C5 = true)
    (x45 : PySem.W.findIn K (.ref C5) "__setattr__" = some (some (.builtin "object.__setattr__")))
    (x55 : PySem.W.subIn K (.ref C5) (.type "BaseException") = some true)
    (x65 : PySem.W.typeIn K (.ref C5) = some (.type "type"))
    (x75 : PySem.W.keepIn K (.ref C5) = true)
    (y15 : PySem.W.isClsIn K C5 = true)
    (y25 : PySem.W.findIn K (.ref C5) "__getattribute__" = some (some (.builtin "BaseException.__getattribute__")))
    (y35 : PySem.W.findIn K (.ref C5) "__getattr__" = some none)
    (y45 : PySem.W.findIn K (.ref C5) "__class__" = some (some (.builtin "object.__class__")))
    (y75 : PySem.W.mroIn K C5 (.type "object") = some true)
    (sL5 : PySem.W.subIn K (.ref C5) (.type "LookupError") = some false)
    (sV5 : PySem.W.subIn K (.ref C5) (.type "ValueError") = some true)
    (sK5 : PySem.W.subIn K (.ref C5) (.type "KeyError") = some false)
    (sI5 : PySem.W.subIn K (.ref C5) (.type "IndexError") = some false)
    (aC6 : PySem.W.nsIn K mainGlobals "BadText" = some (some (.ref C6)))
    (iC6 : PySem.W.findIn K (.ref C6) "__init__" = some (some (.ref I6)))
    (tI6 : PySem.W.typeIn K (.ref I6) = some (.type "function"))
    (lI6 : K.lookup I6 = some ⟨ioc6, iod6, .func (PySem.W.fnOf "__init__" "BadText.__init__" (defArgs iBadText) (defBody iBadText) (defScope iBadText) .none ikV6 idc6 ipm6 ian6 icd6 ict6), isl6⟩)
    (cI6 : PySem.W.codeIn K icd6 "BadText.__init__" = true)
    (kI6 : PySem.W.keepIn K (.ref I6) = true)
    (x16 : PySem.W.excInitIn K C6 [.type "ValueError", .type "Exception", .type "BaseException", .type "object"] "ValueError.__new__" = true)
    (x26 : PySem.W.excOver K C6 [.type "ValueError", .type "Exception", .type "BaseException", .type "object"] = true)
    (x36 : PySem.W.hasDictIn K C6 = true)
    (x46 : PySem.W.findIn K (.ref C6) "__setattr__" = some (some (.builtin "object.__setattr__")))
    (x56 : PySem.W.subIn K (.ref C6) (.type "BaseException") = some true)
    (x66 : PySem.W.typeIn K (.ref C6) = some (.type "type"))
    (x76 : PySem.W.keepIn K (.ref C6) = true)
    (y16 : PySem.W.isClsIn K C6 = true)
    (y26 : PySem.W.findIn K (.ref C6) "__getattribute__" = some (some (.builtin "BaseException.__getattribute__")))
    (y36 : PySem.W.findIn K (.ref C6) "__getattr__" = some none)
    (y46 : PySem.W.findIn K (.ref C6) "__class__" = some (some (.builtin "object.__class__")))
    (y76 : PySem.W.mroIn K C6 (.type "object") = some true)
    (sL6 : PySem.W.subIn K (.ref C6) (.type "LookupError") = some false)
    (sV6 : PySem.W.subIn K (.ref C6) (.type "ValueError") = some true)
    (sK6 : PySem.W.subIn K (.ref C6) (.type "KeyError") = some false)
    (sI6 : PySem.W.subIn K (.ref C6) (.type "IndexError") = some false)
    (aC7 : PySem.W.nsIn K mainGlobals "BadLine" = some (some (.ref C7)))
    (iC7 : PySem.W.findIn K (.ref C7) "__init__" = some (some (.ref I7)))
    (tI7 : PySem.W.typeIn K (.ref I7) = some (.type "function"))
    (lI7 : K.lookup I7 = some ⟨ioc7, iod7, .func (PySem.W.fnOf "__init__" "BadLine.__init__" (defArgs iBadLine) (defBody iBadLine) (defScope iBadLine) .none ikV7 idc7 ipm7 ian7 icd7 ict7), isl7⟩)
    (cI7 : PySem.W.codeIn K icd7 "BadLine.__init__" = true)
    (kI7 : PySem.W.keepIn K (.ref I7) = true)
    (x17 : PySem.W.excInitIn K C7 [.type "ValueError", .type "Exception", .type "BaseException", .type "object"] "ValueError.__new__" = true)
    (x27 : PySem.W.excOver K C7 [.type "ValueError", .type "Exception", .type "BaseException", .type "object"] = true)
    (x37 : PySem.W.hasDictIn K C7 = true)
    (x47 : PySem.W.findIn K (.ref C7) "__setattr__" = some (some (.builtin "object.__setattr__")))
    (x57 : PySem.W.subIn K (.ref C7) (.type "BaseException") = some true)
    (x67 : PySem.W.typeIn K (.ref C7) = some (.type "type"))
    (x77 : PySem.W.keepIn K (.ref C7) = true)
    (y17 : PySem.W.isClsIn K C7 = true)
    (y27 : PySem.W.findIn K (.ref C7) "__getattribute__" = some (some (.builtin "BaseException.__getattribute__")))
    (y37 : PySem.W.findIn K (.ref C7) "__getattr__" = some none)
    (y47 : PySem.W.findIn K (.ref C7) "__class__" = some (some (.builtin "object.__class__")))
    (y77 : PySem.W.mroIn K C7 (.type "object") = some true)
    (sL7 : PySem.W.subIn K (.ref C7) (.type "LookupError") = some false)
    (sV7 : PySem.W.subIn K (.ref C7) (.type "ValueError") = some true)
    (sK7 : PySem.W.subIn K (.ref C7) (.type "KeyError") = some false)
    (sI7 : PySem.W.subIn K (.ref C7) (.type "IndexError") = some false)
    (tk7 : PySem.W.takerIn K C7 "number" = some none)
    (no7 : PySem.W.findIn K (.ref C7) "number" = some none)
    (y5 : PySem.W.specialIn K (.builtin "object.__class__") "__get__" = some (some (.builtin "getset_descriptor.__get__")))
    (y6 : PySem.W.takesIn K (.builtin "object.__class__") = some true)
    (o00 : PySem.W.subIn K (.ref C0) (.ref C0) = some true)
    (o01 : PySem.W.subIn K (.ref C0) (.ref C1) = some false)
    (o02 : PySem.W.subIn K (.ref C0) (.ref C2) = some false)
    (o03 : PySem.W.subIn K (.ref C0) (.ref C3) = some false)
    (o04 : PySem.W.subIn K (.ref C0) (.ref C4) = some false)
    (o05 : PySem.W.subIn K (.ref C0) (.ref C5) = some false)
    (o06 : PySem.W.subIn K (.ref C0) (.ref C6) = some false)
    (o07 : PySem.W.subIn K (.ref C0) (.ref C7) = some false)
    (o10 : PySem.W.subIn K (.ref C1) (.ref C0) = some false)
    (o11 : PySem.W.subIn K (.ref C1) (.ref C1) = some true)
    (o12 : PySem.W.subIn K (.ref C1) (.ref C2) = some false)
    (o13 : PySem.W.subIn K (.ref C1) (.ref C3) = some false)
    (o14 : PySem.W.subIn K (.ref C1) (.ref C4) = some false)
    (o15 : PySem.W.subIn K (.ref C1) (.ref C5) = some false)
    (o16 : PySem.W.subIn K (.ref C1) (.ref C6) = some false)
    (o17 : PySem.W.subIn K (.ref C1) (.ref C7) = some false)
    (o20 : PySem.W.subIn K (.ref C2) (.ref C0) = some false)
    (o21 : PySem.W.subIn K (.ref C2) (.ref C1) = some false)
    (o22 : PySem.W.subIn K (.ref C2) (.ref C2) = some true)
    (o23 : PySem.W.subIn K (.ref C2) (.ref C3) = some false)
    (o24 : PySem.W.subIn K (.ref C2) (.ref C4) = some false)
    (o25 : PySem.W.subIn K (.ref C2) (.ref C5) = some false)
    (o26 : PySem.W.subIn K (.ref C2) (.ref C6) = some false)
    (o27 : PySem.W.subIn K (.ref C2) (.ref C7) = some false)
    (o30 : PySem.W.subIn K (.ref C3) (.ref C0) = some false)
    (o31 : PySem.W.subIn K (.ref C3) (.ref C1) = some false)
    (o32 : PySem.W.subIn K (.ref C3) (.ref C2) = some false)
    (o33 : PySem.W.subIn K (.ref C3) (.ref C3) = some true)
    (o34 : PySem.W.subIn K (.ref C3) (.ref C4) = some false)
    (o35 : PySem.W.subIn K (.ref C3) (.ref C5) = some false)
    (o36 : PySem.W.subIn K (.ref C3) (.ref C6) = some false)
    (o37 : PySem.W.subIn K (.ref C3) (.ref C7) = some false)
    (o40 : PySem.W.subIn K (.ref C4) (.ref C0) = some false)
    (o41 : PySem.W.subIn K (.ref C4) (.ref C1) = some false)
    (o42 : PySem.W.subIn K (.ref C4) (.ref C2) = some false)
    (o43 : PySem.W.subIn K (.ref C4) (.ref C3) = some false)
    (o44 : PySem.W.subIn K (.ref C4) (.ref C4) = some true)
    (o45 : PySem.W.subIn K (.ref C4) (.ref C5) = some false)
    (o46 : PySem.W.subIn K (.ref C4) (.ref C6) = some false)
    (o47 : PySem.W.subIn K (.ref C4) (.ref C7) = some false)
    (o50 : PySem.W.subIn K (.ref C5) (.ref C0) = some false)
    (o51 : PySem.W.subIn K (.ref C5) (.ref C1) = some false)
    (o52 : PySem.W.subIn K (.ref C5) (.ref C2) = some false)
    (o53 : PySem.W.subIn K (.ref C5) (.ref C3) = some false)
    (o54 : PySem.W.subIn K (.ref C5) (.ref C4) = some false)
    (o55 : PySem.W.subIn K (.ref C5) (.ref C5) = some true)
    (o56 : PySem.W.subIn K (.ref C5) (.ref C6) = some false)
    (o57 : PySem.W.subIn K (.ref C5) (.ref C7) = some false)
    (o60 : PySem.W.subIn K (.ref C6) (.ref C0) = some false)
    (o61 : PySem.W.subIn K (.ref C6) (.ref C1) = some false)
    (o62 : PySem.W.subIn K (.ref C6) (.ref C2) = some false)
    (o63 : PySem.W.subIn K (.ref C6) (.ref C3) = some false)
    (o64 : PySem.W.subIn K (.ref C6) (.ref C4) = some false)
    (o65 : PySem.W.subIn K (.ref C6) (.ref C5) = some false)
    (o66 : PySem.W.subIn K (.ref C6) (.ref C6) = some true)
    (o67 : PySem.W.subIn K (.ref C6) (.ref C7) = some false)
    (o70 : PySem.W.subIn K (.ref C7) (.ref C0) = some false)
    (o71 : PySem.W.subIn K (.ref C7) (.ref C1) = some false)
    (o72 : PySem.W.subIn K (.ref C7) (.ref C2) = some false)
    (o73 : PySem.W.subIn K (.ref C7) (.ref C3) = some false)
    (o74 : PySem.W.subIn K (.ref C7) (.ref C4) = some false)
    (o75 : PySem.W.subIn K (.ref C7) (.ref C5) = some false)
    (o76 : PySem.W.subIn K (.ref C7) (.ref C6) = some false)
    (o77 : PySem.W.subIn K (.ref C7) (.ref C7) = some true)
    (vL : PySem.W.findCls K (.type "LookupError") (.type "type") "__init__" = some (.val (.builtin "LookupError.__init__")))
    (vV : PySem.W.findCls K (.type "ValueError") (.type "type") "__init__" = some (.val (.builtin "ValueError.__init__")))
    (z_len : PySem.W.nsIn K mainGlobals "len" = some none)
    (z_abs : PySem.W.nsIn K mainGlobals "abs" = some none)
    (z_int : PySem.W.nsIn K mainGlobals "int" = some none)
    (z_list : PySem.W.nsIn K mainGlobals "list" = some none)
    (z_tuple : PySem.W.nsIn K mainGlobals "tuple" = some none)
    (z_dict : PySem.W.nsIn K mainGlobals "dict" = some none)
    (z_str : PySem.W.nsIn K mainGlobals "str" = some none)
    (z_bool : PySem.W.nsIn K mainGlobals "bool" = some none)
    (z_all : PySem.W.nsIn K mainGlobals "all" = some none)
    (z_min : PySem.W.nsIn K mainGlobals "min" = some none)
    (z_zip : PySem.W.nsIn K mainGlobals "zip" = some none)
    (z_range : PySem.W.nsIn K mainGlobals "range" = some none)
    (z_enumerate : PySem.W.nsIn K mainGlobals "enumerate" = some none)
    (z_sorted : PySem.W.nsIn K mainGlobals "sorted" = some none)
    (z_isinstance : PySem.W.nsIn K mainGlobals "isinstance" = some none)
    (z_LookupError : PySem.W.nsIn K mainGlobals "LookupError" = some none)
    (z_ValueError : PySem.W.nsIn K mainGlobals "ValueError" = some none)
    (z_KeyError : PySem.W.nsIn K mainGlobals "KeyError" = some none)
    (z_IndexError : PySem.W.nsIn K mainGlobals "IndexError" = some none) :
    ∃ fd : FuncData, (∀ (s : Shared) (v : Value), BindsTo s fd ⟨[v], []⟩ [("_law_script", v)]) ∧ ∀ base : Heap, K.In base → base.Ns mainGlobals mg → FnOk l.prog w K mg base CX0 6 fa fd ["_law_script"] (spLaw K) := by
  have e := hfa.symm.trans (PySem.W.mg_of X G a9)
  cases e
  have T : Txt K mg := ⟨PySem.W.mg_none_of X G z_len, PySem.W.mg_none_of X G z_abs, PySem.W.mg_none_of X G z_int, PySem.W.mg_none_of X G z_list, PySem.W.mg_none_of X G z_tuple, PySem.W.mg_none_of X G z_dict, PySem.W.mg_none_of X G z_str, PySem.W.mg_none_of X G z_bool, PySem.W.mg_none_of X G z_all, PySem.W.mg_none_of X G z_min, PySem.W.mg_none_of X G z_zip, PySem.W.mg_none_of X G z_range, PySem.W.mg_none_of X G z_enumerate, PySem.W.mg_none_of X G z_sorted, PySem.W.mg_none_of X G z_isinstance⟩
  have mLE := PySem.W.mg_none_of X G z_LookupError
  have mVE := PySem.W.mg_none_of X G z_ValueError
  have mKE := PySem.W.mg_none_of X G z_KeyError
  have mIE := PySem.W.mg_none_of X G z_IndexError
  have F0 := fun_mk (st := sas_tuples) l0 c0 k0
  have b0 := F0.binds (ps := ["value"]) fun _ _ _ _ _ _ us hl => match us, hl with | [_], _ => rfl
  have m0 := PySem.W.mg_of X G a0
  have F1 := fun_mk (st := s_law_box) l1 c1 k1
  have b1 := F1.binds (ps := ["_law_script", "_law_k"]) fun _ _ _ _ _ _ us hl => match us, hl with | [_, _], _ => rfl
  have m1 := PySem.W.mg_of X G a1
  have F2 := fun_mk (st := s_law_take) l2 c2 k2
  have b2 := F2.binds (ps := ["_law_tin", "_law_top_so"]) fun _ _ _ _ _ _ us hl => match us, hl with | [_, _], _ => rfl
  have m2 := PySem.W.mg_of X G a2
  have F3 := fun_mk (st := s_law_cells) l3 c3 k3
  have b3 := F3.binds (ps := ["_law_script", "_law_most"]) fun _ _ _ _ _ _ us hl => match us, hl with | [_, _], _ => rfl
  have m3 := PySem.W.mg_of X G a3
  have F4 := fun_mk (st := s_law_of) l4 c4 k4
  have b4 := F4.binds (ps := ["_law_tin", "_law_some"]) fun _ _ _ _ _ _ us hl => match us, hl with | [_, _], _ => rfl
  have m4 := PySem.W.mg_of X G a4
  have F5 := fun_mk (st := s_law_same) l5 c5 k5
  have b5 := F5.binds (ps := ["_law_got", "_law_due"]) fun _ _ _ _ _ _ us hl => match us, hl with | [_, _], _ => rfl
  have m5 := PySem.W.mg_of X G a5
  have F6 := fun_mk (st := s_law_sorts) l6 c6 k6
  have b6 := F6.binds (ps := ["_law_error"]) fun _ _ _ _ _ _ us hl => match us, hl with | [_], _ => rfl
  have m6 := PySem.W.mg_of X G a6
  have F7 := fun_mk (st := s_law_hand_right) l7 c7 k7
  have b7 := F7.binds (ps := []) fun _ _ _ _ _ _ us hl => match us, hl with | [], _ => rfl
  have m7 := PySem.W.mg_of X G a7
  have F8 := fun_mk (st := s_law_right) l8 c8 k8
  have b8 := F8.binds (ps := ["_law_tin"]) fun _ _ _ _ _ _ us hl => match us, hl with | [_], _ => rfl
  have m8 := PySem.W.mg_of X G a8
  have F9 := fun_mk (st := slaw) l9 c9 k9
  have FI0 := fun_mk (st := iNoName) lI0 cI0 kI0
  have bI0 := FI0.binds (ps := ["self", "name"]) fun _ _ _ _ _ _ us hl => match us, hl with | [_, _], _ => rfl
  have N0 : Nex K C0 basL := ⟨x10, x20, x30, x40, x50, x60, x70, y10, y20, y30, y40, y5, y6, y70⟩
  have FI1 := fun_mk (st := iNoNumber) lI1 cI1 kI1
  have bI1 := FI1.binds (ps := ["self", "number"]) fun _ _ _ _ _ _ us hl => match us, hl with | [_, _], _ => rfl
  have N1 : Nex K C1 basL := ⟨x11, x21, x31, x41, x51, x61, x71, y11, y21, y31, y41, y5, y6, y71⟩
  have FI2 := fun_mk (st := iNothingDone) lI2 cI2 kI2
  have bI2 := FI2.binds (ps := ["self"]) fun _ _ _ _ _ _ us hl => match us, hl with | [_], _ => rfl
  have N2 : Nex K C2 basL := ⟨x12, x22, x32, x42, x52, x62, x72, y12, y22, y32, y42, y5, y6, y72⟩
  have FI3 := fun_mk (st := iImpossible) lI3 cI3 kI3
  have bI3 := FI3.binds (ps := ["self", "move"]) fun _ _ _ _ _ _ us hl => match us, hl with | [_, _], _ => rfl
  have N3 : Nex K C3 basV := ⟨x13, x23, x33, x43, x53, x63, x73, y13, y23, y33, y43, y5, y6, y73⟩
  have FI4 := fun_mk (st := iNoPlan) lI4 cI4 kI4
  have bI4 := FI4.binds (ps := ["self"]) fun _ _ _ _ _ _ us hl => match us, hl with | [_], _ => rfl
  have N4 : Nex K C4 basV := ⟨x14, x24, x34, x44, x54, x64, x74, y14, y24, y34, y44, y5, y6, y74⟩
  have FI5 := fun_mk (st := iNoRule) lI5 cI5 kI5
  have bI5 := FI5.binds (ps := ["self"]) fun _ _ _ _ _ _ us hl => match us, hl with | [_], _ => rfl
  have N5 : Nex K C5 basV := ⟨x15, x25, x35, x45, x55, x65, x75, y15, y25, y35, y45, y5, y6, y75⟩
  have FI6 := fun_mk (st := iBadText) lI6 cI6 kI6
  have bI6 := FI6.binds (ps := ["self"]) fun _ _ _ _ _ _ us hl => match us, hl with | [_], _ => rfl
  have N6 : Nex K C6 basV := ⟨x16, x26, x36, x46, x56, x66, x76, y16, y26, y36, y46, y5, y6, y76⟩
  have FI7 := fun_mk (st := iBadLine) lI7 cI7 kI7
  have bI7 := FI7.binds (ps := ["self", "number"]) fun _ _ _ _ _ _ us hl => match us, hl with | [_, _], _ => rfl
  have N7 : Nex K C7 basV := ⟨x17, x27, x37, x47, x57, x67, x77, y17, y27, y37, y47, y5, y6, y77⟩
  have kbImp : ∀ (s : Shared) (u v : Value), BindsTo s (PySem.W.fnOf "__init__" "Impossible.__init__" (defArgs iImpossible) (defBody iImpossible) (defScope iImpossible) .none ikV3 idc3 ipm3 ian3 icd3 ict3) ⟨[u], [("move", v)]⟩ ((["self", "move"] : List Str).zip [u, v]) := fun s u v => .of_eq rfl
  obtain ⟨CL, hCL⟩ : ∃ CL : Nat → Addr, CL = (fun i => ([C0, C1, C2, C3, C4, C5, C6, C7] : List Addr).getD i 0) := ⟨_, rfl⟩
  have q0 : CL 0 = C0 := by rw [hCL]; rfl
  have q1 : CL 1 = C1 := by rw [hCL]; rfl
  have q2 : CL 2 = C2 := by rw [hCL]; rfl
  have q3 : CL 3 = C3 := by rw [hCL]; rfl
  have q4 : CL 4 = C4 := by rw [hCL]; rfl
  have q5 : CL 5 = C5 := by rw [hCL]; rfl
  have q6 : CL 6 = C6 := by rw [hCL]; rfl
  have q7 : CL 7 = C7 := by rw [hCL]; rfl
  have E8 : Eight K CL (fun i => if i < 3 then basL else basV) := {
    nx := fun i hi => match i, hi with | 0, _ => (by rw [q0]; exact N0) | 1, _ => (by rw [q1]; exact N1) | 2, _ => (by rw [q2]; exact N2) | 3, _ => (by rw [q3]; exact N3) | 4, _ => (by rw [q4]; exact N4) | 5, _ => (by rw [q5]; exact N5) | 6, _ => (by rw [q6]; exact N6) | 7, _ => (by rw [q7]; exact N7)
    isL := fun i hi => match i, hi with | 0, _ => (by rw [q0]; exact kit_own (by decide +kernel) sL0) | 1, _ => (by rw [q1]; exact kit_own (by decide +kernel) sL1) | 2, _ => (by rw [q2]; exact kit_own (by decide +kernel) sL2) | 3, _ => (by rw [q3]; exact kit_own (by decide +kernel) sL3) | 4, _ => (by rw [q4]; exact kit_own (by decide +kernel) sL4) | 5, _ => (by rw [q5]; exact kit_own (by decide +kernel) sL5) | 6, _ => (by rw [q6]; exact kit_own (by decide +kernel) sL6) | 7, _ => (by rw [q7]; exact kit_own (by decide +kernel) sL7)
    isV := fun i hi => match i, hi with | 0, _ => (by rw [q0]; exact kit_own (by decide +kernel) sV0) | 1, _ => (by rw [q1]; exact kit_own (by decide +kernel) sV1) | 2, _ => (by rw [q2]; exact kit_own (by decide +kernel) sV2) | 3, _ => (by rw [q3]; exact kit_own (by decide +kernel) sV3) | 4, _ => (by rw [q4]; exact kit_own (by decide +kernel) sV4) | 5, _ => (by rw [q5]; exact kit_own (by decide +kernel) sV5) | 6, _ => (by rw [q6]; exact kit_own (by decide +kernel) sV6) | 7, _ => (by rw [q7]; exact kit_own (by decide +kernel) sV7)
    isK := fun i hi => match i, hi with | 0, _ => (by rw [q0]; exact kit_none (kit_own (by decide +kernel) sK0) (kit_own (by decide +kernel) sI0)) | 1, _ => (by rw [q1]; exact kit_none (kit_own (by decide +kernel) sK1) (kit_own (by decide +kernel) sI1)) | 2, _ => (by rw [q2]; exact kit_none (kit_own (by decide +kernel) sK2) (kit_own (by decide +kernel) sI2)) | 3, _ => (by rw [q3]; exact kit_none (kit_own (by decide +kernel) sK3) (kit_own (by decide +kernel) sI3)) | 4, _ => (by rw [q4]; exact kit_none (kit_own (by decide +kernel) sK4) (kit_own (by decide +kernel) sI4)) | 5, _ => (by rw [q5]; exact kit_none (kit_own (by decide +kernel) sK5) (kit_own (by decide +kernel) sI5)) | 6, _ => (by rw [q6]; exact kit_none (kit_own (by decide +kernel) sK6) (kit_own (by decide +kernel) sI6)) | 7, _ => (by rw [q7]; exact kit_none (kit_own (by decide +kernel) sK7) (kit_own (by decide +kernel) sI7))
    own := fun i j hi hj => match i, j, hi, hj with
      | 0, 0, _, _ => (by rw [q0]; exact kit_ref y10 x60 o00 o00)
      | 0, 1, _, _ => (by rw [q0, q1]; exact kit_ref y11 x61 o00 o01)
      | 0, 2, _, _ => (by rw [q0, q2]; exact kit_ref y12 x62 o00 o02)
      | 0, 3, _, _ => (by rw [q0, q3]; exact kit_ref y13 x63 o00 o03)
      | 0, 4, _, _ => (by rw [q0, q4]; exact kit_ref y14 x64 o00 o04)
      | 0, 5, _, _ => (by rw [q0, q5]; exact kit_ref y15 x65 o00 o05)
      | 0, 6, _, _ => (by rw [q0, q6]; exact kit_ref y16 x66 o00 o06)
      | 0, 7, _, _ => (by rw [q0, q7]; exact kit_ref y17 x67 o00 o07)
      | 1, 0, _, _ => (by rw [q1, q0]; exact kit_ref y10 x60 o11 o10)
      | 1, 1, _, _ => (by rw [q1]; exact kit_ref y11 x61 o11 o11)
      | 1, 2, _, _ => (by rw [q1, q2]; exact kit_ref y12 x62 o11 o12)
      | 1, 3, _, _ => (by rw [q1, q3]; exact kit_ref y13 x63 o11 o13)
      | 1, 4, _, _ => (by rw [q1, q4]; exact kit_ref y14 x64 o11 o14)
      | 1, 5, _, _ => (by rw [q1, q5]; exact kit_ref y15 x65 o11 o15)
      | 1, 6, _, _ => (by rw [q1, q6]; exact kit_ref y16 x66 o11 o16)
      | 1, 7, _, _ => (by rw [q1, q7]; exact kit_ref y17 x67 o11 o17)
      | 2, 0, _, _ => (by rw [q2, q0]; exact kit_ref y10 x60 o22 o20)
      | 2, 1, _, _ => (by rw [q2, q1]; exact kit_ref y11 x61 o22 o21)
      | 2, 2, _, _ => (by rw [q2]; exact kit_ref y12 x62 o22 o22)
      | 2, 3, _, _ => (by rw [q2, q3]; exact kit_ref y13 x63 o22 o23)
      | 2, 4, _, _ => (by rw [q2, q4]; exact kit_ref y14 x64 o22 o24)
      | 2, 5, _, _ => (by rw [q2, q5]; exact kit_ref y15 x65 o22 o25)
      | 2, 6, _, _ => (by rw [q2, q6]; exact kit_ref y16 x66 o22 o26)
      | 2, 7, _, _ => (by rw [q2, q7]; exact kit_ref y17 x67 o22 o27)
      | 3, 0, _, _ => (by rw [q3, q0]; exact kit_ref y10 x60 o33 o30)
      | 3, 1, _, _ => (by rw [q3, q1]; exact kit_ref y11 x61 o33 o31)
      | 3, 2, _, _ => (by rw [q3, q2]; exact kit_ref y12 x62 o33 o32)
      | 3, 3, _, _ => (by rw [q3]; exact kit_ref y13 x63 o33 o33)
      | 3, 4, _, _ => (by rw [q3, q4]; exact kit_ref y14 x64 o33 o34)
      | 3, 5, _, _ => (by rw [q3, q5]; exact kit_ref y15 x65 o33 o35)
      | 3, 6, _, _ => (by rw [q3, q6]; exact kit_ref y16 x66 o33 o36)
      | 3, 7, _, _ => (by rw [q3, q7]; exact kit_ref y17 x67 o33 o37)
      | 4, 0, _, _ => (by rw [q4, q0]; exact kit_ref y10 x60 o44 o40)
      | 4, 1, _, _ => (by rw [q4, q1]; exact kit_ref y11 x61 o44 o41)
      | 4, 2, _, _ => (by rw [q4, q2]; exact kit_ref y12 x62 o44 o42)
      | 4, 3, _, _ => (by rw [q4, q3]; exact kit_ref y13 x63 o44 o43)
      | 4, 4, _, _ => (by rw [q4]; exact kit_ref y14 x64 o44 o44)
      | 4, 5, _, _ => (by rw [q4, q5]; exact kit_ref y15 x65 o44 o45)
      | 4, 6, _, _ => (by rw [q4, q6]; exact kit_ref y16 x66 o44 o46)
      | 4, 7, _, _ => (by rw [q4, q7]; exact kit_ref y17 x67 o44 o47)
      | 5, 0, _, _ => (by rw [q5, q0]; exact kit_ref y10 x60 o55 o50)
      | 5, 1, _, _ => (by rw [q5, q1]; exact kit_ref y11 x61 o55 o51)
      | 5, 2, _, _ => (by rw [q5, q2]; exact kit_ref y12 x62 o55 o52)
      | 5, 3, _, _ => (by rw [q5, q3]; exact kit_ref y13 x63 o55 o53)
      | 5, 4, _, _ => (by rw [q5, q4]; exact kit_ref y14 x64 o55 o54)
      | 5, 5, _, _ => (by rw [q5]; exact kit_ref y15 x65 o55 o55)
      | 5, 6, _, _ => (by rw [q5, q6]; exact kit_ref y16 x66 o55 o56)
      | 5, 7, _, _ => (by rw [q5, q7]; exact kit_ref y17 x67 o55 o57)
      | 6, 0, _, _ => (by rw [q6, q0]; exact kit_ref y10 x60 o66 o60)
      | 6, 1, _, _ => (by rw [q6, q1]; exact kit_ref y11 x61 o66 o61)
      | 6, 2, _, _ => (by rw [q6, q2]; exact kit_ref y12 x62 o66 o62)
      | 6, 3, _, _ => (by rw [q6, q3]; exact kit_ref y13 x63 o66 o63)
      | 6, 4, _, _ => (by rw [q6, q4]; exact kit_ref y14 x64 o66 o64)
      | 6, 5, _, _ => (by rw [q6, q5]; exact kit_ref y15 x65 o66 o65)
      | 6, 6, _, _ => (by rw [q6]; exact kit_ref y16 x66 o66 o66)
      | 6, 7, _, _ => (by rw [q6, q7]; exact kit_ref y17 x67 o66 o67)
      | 7, 0, _, _ => (by rw [q7, q0]; exact kit_ref y10 x60 o77 o70)
      | 7, 1, _, _ => (by rw [q7, q1]; exact kit_ref y11 x61 o77 o71)
      | 7, 2, _, _ => (by rw [q7, q2]; exact kit_ref y12 x62 o77 o72)
      | 7, 3, _, _ => (by rw [q7, q3]; exact kit_ref y13 x63 o77 o73)
      | 7, 4, _, _ => (by rw [q7, q4]; exact kit_ref y14 x64 o77 o74)
      | 7, 5, _, _ => (by rw [q7, q5]; exact kit_ref y15 x65 o77 o75)
      | 7, 6, _, _ => (by rw [q7, q6]; exact kit_ref y16 x66 o77 o76)
      | 7, 7, _, _ => (by rw [q7]; exact kit_ref y17 x67 o77 o77) }
  refine ⟨PySem.W.fnOf "law" "law" (defArgs slaw) (defBody slaw) (defScope slaw) .none kV9 dc9 pm9 an9 cd9 ct9, fun s v => .of_eq rfl, fun base _ _ => ?_⟩
  have GT := ok_tuples (P := l.prog) (w := w) (base := base) F0 T m0 k0 b0 2
  have GM := ok_same (P := l.prog) (w := w) (base := base) F5 T m5 k5 b5 3
  have GK := ok_take (P := l.prog) (w := w) (base := base) F2 T
  have GX := ok_box (P := l.prog) (w := w) (base := base) F1 T
  have GC := ok_cells (P := l.prog) (w := w) (base := base) F3 T
  have GO := ok_of (P := l.prog) (w := w) (base := base) F4 T GK m2 k2 b2
  have GI0 := ok_NoName (P := l.prog) (w := w) (base := base) FI0 mLE vL
  have M0 : Made l.prog w K mg base "NoName" (CL 0) I0 basL 1 (PySem.W.fnOf "__init__" "NoName.__init__" (defArgs iNoName) (defBody iNoName) (defScope iNoName) .none ikV0 idc0 ipm0 ian0 icd0 ict0) ["self", "name"] (spOne K basL "name") := by rw [q0]; exact ⟨basL_ok, N0, iC0, tI0, GI0, bI0, PySem.W.mg_of X G aC0⟩
  have GI1 := ok_NoNumber (P := l.prog) (w := w) (base := base) FI1 mLE vL
  have M1 : Made l.prog w K mg base "NoNumber" (CL 1) I1 basL 1 (PySem.W.fnOf "__init__" "NoNumber.__init__" (defArgs iNoNumber) (defBody iNoNumber) (defScope iNoNumber) .none ikV1 idc1 ipm1 ian1 icd1 ict1) ["self", "number"] (spOne K basL "number") := by rw [q1]; exact ⟨basL_ok, N1, iC1, tI1, GI1, bI1, PySem.W.mg_of X G aC1⟩
  have GI2 := ok_NothingDone (P := l.prog) (w := w) (base := base) FI2 mLE vL
  have M2 : Made l.prog w K mg base "NothingDone" (CL 2) I2 basL 1 (PySem.W.fnOf "__init__" "NothingDone.__init__" (defArgs iNothingDone) (defBody iNothingDone) (defScope iNothingDone) .none ikV2 idc2 ipm2 ian2 icd2 ict2) ["self"] (spNil K basL) := by rw [q2]; exact ⟨basL_ok, N2, iC2, tI2, GI2, bI2, PySem.W.mg_of X G aC2⟩
  have GI3 := ok_Impossible (P := l.prog) (w := w) (base := base) FI3 mVE vV GT m0 k0 b0
  have M3 : Made l.prog w K mg base "Impossible" (CL 3) I3 basV 3 (PySem.W.fnOf "__init__" "Impossible.__init__" (defArgs iImpossible) (defBody iImpossible) (defScope iImpossible) .none ikV3 idc3 ipm3 ian3 icd3 ict3) ["self", "move"] (spMove K) := by rw [q3]; exact ⟨basV_ok, N3, iC3, tI3, GI3, bI3, PySem.W.mg_of X G aC3⟩
  have GI4 := ok_NoPlan (P := l.prog) (w := w) (base := base) FI4 mVE vV
  have M4 : Made l.prog w K mg base "NoPlan" (CL 4) I4 basV 1 (PySem.W.fnOf "__init__" "NoPlan.__init__" (defArgs iNoPlan) (defBody iNoPlan) (defScope iNoPlan) .none ikV4 idc4 ipm4 ian4 icd4 ict4) ["self"] (spNil K basV) := by rw [q4]; exact ⟨basV_ok, N4, iC4, tI4, GI4, bI4, PySem.W.mg_of X G aC4⟩
  have GI5 := ok_NoRule (P := l.prog) (w := w) (base := base) FI5 mVE vV
  have M5 : Made l.prog w K mg base "NoRule" (CL 5) I5 basV 1 (PySem.W.fnOf "__init__" "NoRule.__init__" (defArgs iNoRule) (defBody iNoRule) (defScope iNoRule) .none ikV5 idc5 ipm5 ian5 icd5 ict5) ["self"] (spNil K basV) := by rw [q5]; exact ⟨basV_ok, N5, iC5, tI5, GI5, bI5, PySem.W.mg_of X G aC5⟩
  have GI6 := ok_BadText (P := l.prog) (w := w) (base := base) FI6 mVE vV
  have M6 : Made l.prog w K mg base "BadText" (CL 6) I6 basV 1 (PySem.W.fnOf "__init__" "BadText.__init__" (defArgs iBadText) (defBody iBadText) (defScope iBadText) .none ikV6 idc6 ipm6 ian6 icd6 ict6) ["self"] (spNil K basV) := by rw [q6]; exact ⟨basV_ok, N6, iC6, tI6, GI6, bI6, PySem.W.mg_of X G aC6⟩
  have GI7 := ok_BadLine (P := l.prog) (w := w) (base := base) FI7 mVE vV
  have M7 : Made l.prog w K mg base "BadLine" (CL 7) I7 basV 1 (PySem.W.fnOf "__init__" "BadLine.__init__" (defArgs iBadLine) (defBody iBadLine) (defScope iBadLine) .none ikV7 idc7 ipm7 ian7 icd7 ict7) ["self", "number"] (spOne K basV "number") := by rw [q7]; exact ⟨basV_ok, N7, iC7, tI7, GI7, bI7, PySem.W.mg_of X G aC7⟩
  have GS := ok_sorts (P := l.prog) (w := w) (base := base) F6 T E8 M0 M1 M2 M3 M4 M5 M6 M7
  have tq0 : PySem.W.takerIn K (CL 0) "name" = some none := by rw [q0]; exact tk0
  have nq0 : PySem.W.findIn K (.ref (CL 0)) "name" = some none := by rw [q0]; exact no0
  have tq1 : PySem.W.takerIn K (CL 1) "number" = some none := by rw [q1]; exact tk1
  have nq1 : PySem.W.findIn K (.ref (CL 1)) "number" = some none := by rw [q1]; exact no1
  have tq3 : PySem.W.takerIn K (CL 3) "move" = some none := by rw [q3]; exact tk3
  have nq3 : PySem.W.findIn K (.ref (CL 3)) "move" = some none := by rw [q3]; exact no3
  have tq7 : PySem.W.takerIn K (CL 7) "number" = some none := by rw [q7]; exact tk7
  have nq7 : PySem.W.findIn K (.ref (CL 7)) "number" = some none := by rw [q7]; exact no7
  have GH := ok_hand (P := l.prog) (w := w) (base := base) F7 T E8 mLE mVE mKE mIE GS m6 k6 b6 GM m5 k5 b5 M0 M1 M2 M3 M4 M5 M6 M7 tq0 tq1 tq3 tq7 nq0 nq1 nq3 nq7
  have GR := ok_right (P := l.prog) (w := w) (base := base) F8 T GK m2 k2 b2 GO m4 k4 b4 GM m5 k5 b5 M0 M1 M3 M7 kbImp tq0 tq1 tq3 tq7 nq0 nq1 nq3 nq7
  exact ok_law F9 T GH m7 k7 b7 GC m3 k3 b3 GX m1 k1 b1 GR m8 k8 b8
theorem walk {l : PySem.W.OpenLaw} {q : Program} {loose : List Str} {XP : (Str → Option Value) → Heap → Prop} {YP : World → Heap → Prop} {d : DefRec} {K : Params → PySem.W.Frag} (hn : l.most = some 63) (hdf : d.params.defaults = [])
    (hY : ∀ (w : World) (h : Heap), YP w h → (K w.params).In h)
    (F : ∀ (w : World) (mg : Str → Option Value) (fa : Addr) (h : Heap), (K w.params).In h → h.Ns mainGlobals mg → mg d.name = some (.ref fa) →
      ∃ fd : FuncData, (∀ (s : Shared) (u : Value), BindsTo s fd ⟨[u], []⟩ [("_law_script", u)]) ∧ ∀ base : Heap, (K w.params).In base → base.Ns mainGlobals mg → FnOk l.prog w (K w.params) mg base CX0 6 fa fd ["_law_script"] (spLaw (K w.params))) :
    PySem.W.WalkO q loose XP YP l.row.toRowW d [] (fun f vs => PySem.call f vs) :=
  L2.walk_of (n := 63) (k := 6) (x := "_law_script") (CX := fun _ => CX0) (sp := fun w => spLaw (K w.params)) hn (by decide) hdf ⟨rfl, by decide, by decide⟩ hY F (fun _ _ a ns hl _ hS => ⟨a, ns, rfl, hS, fun _ => rfl⟩) fun _ _ _ _ _ z => z
end Nal

open PySem PySem.W PyProof.Rows in
set_option maxRecDepth 100000 in
set_option maxHeartbeats 0 in
theorem PySem.Challenge.cw_namesalone_k06_errors_by_themselves_holds : PySem.Challenge.rw_namesalone_k06_errors_by_themselves.Holds := by
  w_on; o_law; k_head; (case hw => w_witness2)
  k_fill
  refine Nal.walk (l := PySem.Challenge.rw_namesalone_k06_errors_by_themselves) rfl rfl (fun w h Y => PySem.W.kIn_of Y) ?F
  case F =>
    intro w mg fa h KX G hmg
    refine' Nal.all_mk KX G hmg ?a0 ?l0 ?c0 ?k0 ?a1 ?l1 ?c1 ?k1 ?a2 ?l2 ?c2 ?k2 ?a3 ?l3 ?c3 ?k3 ?a4 ?l4 ?c4 ?k4 ?a5 ?l5 ?c5 ?k5 ?a6 ?l6 ?c6 ?k6 ?a7 ?l7 ?c7 ?k7 ?a8 ?l8 ?c8 ?k8 ?a9 ?l9 ?c9 ?k9 ?aC0 ?iC0 ?tI0 ?lI0 ?cI0 ?kI0 ?x10 ?x20 ?x30 ?x40 ?x50 ?x60 ?x70 ?y10 ?y20 ?y30 ?y40 ?y70 ?sL0 ?sV0 ?sK0 ?sI0 ?tk0 ?no0 ?aC1 ?iC1 ?tI1 ?lI1 ?cI1 ?kI1 ?x11 ?x21 ?x31 ?x41 ?x51 ?x61 ?x71 ?y11 ?y21 ?y31 ?y41 ?y71 ?sL1 ?sV1 ?sK1 ?sI1 ?tk1 ?no1 ?aC2 ?iC2 ?tI2 ?lI2 ?cI2 ?kI2 ?x12 ?x22 ?x32 ?x42 ?x52 ?x62 ?x72 ?y12 ?y22 ?y32 ?y42 ?y72 ?sL2 ?sV2 ?sK2 ?sI2 ?aC3 ?iC3 ?tI3 ?lI3 ?cI3 ?kI3 ?x13 ?x23 ?x33 ?x43 ?x53 ?x63 ?x73 ?y13 ?y23 ?y33 ?y43 ?y73 ?sL3 ?sV3 ?sK3 ?sI3 ?tk3 ?no3 ?aC4 ?iC4 ?tI4 ?lI4 ?cI4 ?kI4 ?x14 ?x24 ?x34 ?x44 ?x54 ?x64 ?x74 ?y14 ?y24 ?y34 ?y44 ?y74 ?sL4 ?sV4 ?sK4 ?sI4 ?aC5 ?iC5 ?tI5 ?lI5 ?cI5 ?kI5 ?x15 ?x25 ?x35 ?x45 ?x55 ?x65 ?x75 ?y15 ?y25 ?y35 ?y45 ?y75 ?sL5 ?sV5 ?sK5 ?sI5 ?aC6 ?iC6 ?tI6 ?lI6 ?cI6 ?kI6 ?x16 ?x26 ?x36 ?x46 ?x56 ?x66 ?x76 ?y16 ?y26 ?y36 ?y46 ?y76 ?sL6 ?sV6 ?sK6 ?sI6 ?aC7 ?iC7 ?tI7 ?lI7 ?cI7 ?kI7 ?x17 ?x27 ?x37 ?x47 ?x57 ?x67 ?x77 ?y17 ?y27 ?y37 ?y47 ?y77 ?sL7 ?sV7 ?sK7 ?sI7 ?tk7 ?no7 ?y5 ?y6 ?o00 ?o01 ?o02 ?o03 ?o04 ?o05 ?o06 ?o07 ?o10 ?o11 ?o12 ?o13 ?o14 ?o15 ?o16 ?o17 ?o20 ?o21 ?o22 ?o23 ?o24 ?o25 ?o26 ?o27 ?o30 ?o31 ?o32 ?o33 ?o34 ?o35 ?o36 ?o37 ?o40 ?o41 ?o42 ?o43 ?o44 ?o45 ?o46 ?o47 ?o50 ?o51 ?o52 ?o53 ?o54 ?o55 ?o56 ?o57 ?o60 ?o61 ?o62 ?o63 ?o64 ?o65 ?o66 ?o67 ?o70 ?o71 ?o72 ?o73 ?o74 ?o75 ?o76 ?o77 ?vL ?vV ?z_len ?z_abs ?z_int ?z_list ?z_tuple ?z_dict ?z_str ?z_bool ?z_all ?z_min ?z_zip ?z_range ?z_enumerate ?z_sorted ?z_isinstance ?z_LookupError ?z_ValueError ?z_KeyError ?z_IndexError
    (case a0 => k_is)
    (case l0 => k_is)
    (case c0 => k_is)
    (case k0 => k_is)
    (case a1 => k_is)
    (case l1 => k_is)
    (case c1 => k_is)
    (case k1 => k_is)
    (case a2 => k_is)
    (case l2 => k_is)
    (case c2 => k_is)
    (case k2 => k_is)
    (case a3 => k_is)
    (case l3 => k_is)
    (case c3 => k_is)
    (case k3 => k_is)
    (case a4 => k_is)
    (case l4 => k_is)
    (case c4 => k_is)
    (case k4 => k_is)
    (case a5 => k_is)
    (case l5 => k_is)
    (case c5 => k_is)
    (case k5 => k_is)
    (case a6 => k_is)
    (case l6 => k_is)
    (case c6 => k_is)
    (case k6 => k_is)
    (case a7 => k_is)
    (case l7 => k_is)
    (case c7 => k_is)
    (case k7 => k_is)
    (case a8 => k_is)
    (case l8 => k_is)
    (case c8 => k_is)
    (case k8 => k_is)
    (case a9 => k_is)
    (case l9 => k_is)
    (case c9 => k_is)
    (case k9 => k_is)
    (case aC0 => k_is)
    (case iC0 => k_is)
    (case tI0 => k_is)
    (case lI0 => k_is)
    (case cI0 => k_is)
    (case kI0 => k_is)
    (case x10 => first | kx_is | k_is)
    (case x20 => first | kx_is | k_is)
    (case x30 => k_is)
    (case x40 => k_is)
    (case x50 => k_is)
    (case x60 => k_is)
    (case x70 => k_is)
    (case y10 => k_is)
    (case y20 => k_is)
    (case y30 => k_is)
    (case y40 => k_is)
    (case y70 => k_is)
    (case sL0 => k_is)
    (case sV0 => k_is)
    (case sK0 => k_is)
    (case sI0 => k_is)
    (case tk0 => k_is)
    (case no0 => k_is)
    (case aC1 => k_is)
    (case iC1 => k_is)
    (case tI1 => k_is)
    (case lI1 => k_is)
    (case cI1 => k_is)
    (case kI1 => k_is)
    (case x11 => first | kx_is | k_is)
    (case x21 => first | kx_is | k_is)
    (case x31 => k_is)
    (case x41 => k_is)
    (case x51 => k_is)
    (case x61 => k_is)
    (case x71 => k_is)
    (case y11 => k_is)
    (case y21 => k_is)
    (case y31 => k_is)
    (case y41 => k_is)
    (case y71 => k_is)
    (case sL1 => k_is)
    (case sV1 => k_is)
    (case sK1 => k_is)
    (case sI1 => k_is)
    (case tk1 => k_is)
    (case no1 => k_is)
    (case aC2 => k_is)
    (case iC2 => k_is)
    (case tI2 => k_is)
    (case lI2 => k_is)
    (case cI2 => k_is)
    (case kI2 => k_is)
    (case x12 => first | kx_is | k_is)
    (case x22 => first | kx_is | k_is)
    (case x32 => k_is)
    (case x42 => k_is)
    (case x52 => k_is)
    (case x62 => k_is)
    (case x72 => k_is)
    (case y12 => k_is)
    (case y22 => k_is)
    (case y32 => k_is)
    (case y42 => k_is)
    (case y72 => k_is)
    (case sL2 => k_is)
    (case sV2 => k_is)
    (case sK2 => k_is)
    (case sI2 => k_is)
    (case aC3 => k_is)
    (case iC3 => k_is)
    (case tI3 => k_is)
    (case lI3 => k_is)
    (case cI3 => k_is)
    (case kI3 => k_is)
    (case x13 => first | kx_is | k_is)
    (case x23 => first | kx_is | k_is)
    (case x33 => k_is)
    (case x43 => k_is)
    (case x53 => k_is)
    (case x63 => k_is)
    (case x73 => k_is)
    (case y13 => k_is)
    (case y23 => k_is)
    (case y33 => k_is)
    (case y43 => k_is)
    (case y73 => k_is)
    (case sL3 => k_is)
    (case sV3 => k_is)
    (case sK3 => k_is)
    (case sI3 => k_is)
    (case tk3 => k_is)
    (case no3 => k_is)
    (case aC4 => k_is)
    (case iC4 => k_is)
    (case tI4 => k_is)
    (case lI4 => k_is)
    (case cI4 => k_is)
    (case kI4 => k_is)
    (case x14 => first | kx_is | k_is)
    (case x24 => first | kx_is | k_is)
    (case x34 => k_is)
    (case x44 => k_is)
    (case x54 => k_is)
    (case x64 => k_is)
    (case x74 => k_is)
    (case y14 => k_is)
    (case y24 => k_is)
    (case y34 => k_is)
    (case y44 => k_is)
    (case y74 => k_is)
    (case sL4 => k_is)
    (case sV4 => k_is)
    (case sK4 => k_is)
    (case sI4 => k_is)
    (case aC5 => k_is)
    (case iC5 => k_is)
    (case tI5 => k_is)
    (case lI5 => k_is)
    (case cI5 => k_is)
    (case kI5 => k_is)
    (case x15 => first | kx_is | k_is)
    (case x25 => first | kx_is | k_is)
    (case x35 => k_is)
    (case x45 => k_is)
    (case x55 => k_is)
    (case x65 => k_is)
    (case x75 => k_is)
    (case y15 => k_is)
    (case y25 => k_is)
    (case y35 => k_is)
    (case y45 => k_is)
    (case y75 => k_is)
    (case sL5 => k_is)
    (case sV5 => k_is)
    (case sK5 => k_is)
    (case sI5 => k_is)
    (case aC6 => k_is)
    (case iC6 => k_is)
    (case tI6 => k_is)
    (case lI6 => k_is)
    (case cI6 => k_is)
    (case kI6 => k_is)
    (case x16 => first | kx_is | k_is)
    (case x26 => first | kx_is | k_is)
    (case x36 => k_is)
    (case x46 => k_is)
    (case x56 => k_is)
    (case x66 => k_is)
    (case x76 => k_is)
    (case y16 => k_is)
    (case y26 => k_is)
    (case y36 => k_is)
    (case y46 => k_is)
    (case y76 => k_is)
    (case sL6 => k_is)
    (case sV6 => k_is)
    (case sK6 => k_is)
    (case sI6 => k_is)
    (case aC7 => k_is)
    (case iC7 => k_is)
    (case tI7 => k_is)
    (case lI7 => k_is)
    (case cI7 => k_is)
    (case kI7 => k_is)
    (case x17 => first | kx_is | k_is)
    (case x27 => first | kx_is | k_is)
    (case x37 => k_is)
    (case x47 => k_is)
    (case x57 => k_is)
    (case x67 => k_is)
    (case x77 => k_is)
    (case y17 => k_is)
    (case y27 => k_is)
    (case y37 => k_is)
    (case y47 => k_is)
    (case y77 => k_is)
    (case sL7 => k_is)
    (case sV7 => k_is)
    (case sK7 => k_is)
    (case sI7 => k_is)
    (case tk7 => k_is)
    (case no7 => k_is)
    (case y5 => k_is)
    (case y6 => k_is)
    (case o00 => first | rfl | k_is)
    (case o01 => k_is)
    (case o02 => k_is)
    (case o03 => k_is)
    (case o04 => k_is)
    (case o05 => k_is)
    (case o06 => k_is)
    (case o07 => k_is)
    (case o10 => k_is)
    (case o11 => first | rfl | k_is)
    (case o12 => k_is)
    (case o13 => k_is)
    (case o14 => k_is)
    (case o15 => k_is)
    (case o16 => k_is)
    (case o17 => k_is)
    (case o20 => k_is)
    (case o21 => k_is)
    (case o22 => first | rfl | k_is)
    (case o23 => k_is)
    (case o24 => k_is)
    (case o25 => k_is)
    (case o26 => k_is)
    (case o27 => k_is)
    (case o30 => k_is)
    (case o31 => k_is)
    (case o32 => k_is)
    (case o33 => first | rfl | k_is)
    (case o34 => k_is)
    (case o35 => k_is)
    (case o36 => k_is)
    (case o37 => k_is)
    (case o40 => k_is)
    (case o41 => k_is)
    (case o42 => k_is)
    (case o43 => k_is)
    (case o44 => first | rfl | k_is)
    (case o45 => k_is)
    (case o46 => k_is)
    (case o47 => k_is)
    (case o50 => k_is)
    (case o51 => k_is)
    (case o52 => k_is)
    (case o53 => k_is)
    (case o54 => k_is)
    (case o55 => first | rfl | k_is)
    (case o56 => k_is)
    (case o57 => k_is)
    (case o60 => k_is)
    (case o61 => k_is)
    (case o62 => k_is)
    (case o63 => k_is)
    (case o64 => k_is)
    (case o65 => k_is)
    (case o66 => first | rfl | k_is)
    (case o67 => k_is)
    (case o70 => k_is)
    (case o71 => k_is)
    (case o72 => k_is)
    (case o73 => k_is)
    (case o74 => k_is)
    (case o75 => k_is)
    (case o76 => k_is)
    (case o77 => first | rfl | k_is)
    (case vL => first | k_is | k_dflt k_is)
    (case vV => first | k_is | k_dflt k_is)
    (case z_len => k_is)
    (case z_abs => k_is)
    (case z_int => k_is)
    (case z_list => k_is)
    (case z_tuple => k_is)
    (case z_dict => k_is)
    (case z_str => k_is)
    (case z_bool => k_is)
    (case z_all => k_is)
    (case z_min => k_is)
    (case z_zip => k_is)
    (case z_range => k_is)
    (case z_enumerate => k_is)
    (case z_sorted => k_is)
    (case z_isinstance => k_is)
    (case z_LookupError => k_is)
    (case z_ValueError => k_is)
    (case z_KeyError => k_is)
    (case z_IndexError => k_is)
