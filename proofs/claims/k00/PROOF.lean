import PyProof.Rows.All
import Wide.All
import OpenK.AllK
import Wide.FinOn
import HandS.ForMost
import HandS.Exc
import HandS.ExcOwn
import HandS.WordsExc
import HandS.TryOnly
import HandS.Flow
import HandS.Walk
import HandS.Zip
import HandS.IsInst
import HandS.Wide
import PySem.Challenge.RW_namesalone_k00_jobs_or_none
import HandS.TupAny
import HandS.Strs
import HandS.DictComp
import PyProof.Rows.StrMeet
import HandS.Set
import HandS.SetFor
import HandS.SetTxt0
import PyProof.Rows.SortShellAny
import HandS.Style
import KE.KExcIs
import HandS.ExcIs
import HandS.ExcField
import HandS.Ends
import KE.KExcTry
import KE.KExcStr
set_option Elab.async false
set_option linter.all false
set_option maxRecDepth 100000
set_option maxHeartbeats 16000000
namespace Nal
open PySem L2
/-! ### readings by name -/
def rLn (K : PySem.W.Frag) : List V → Hp → VK → Prop := fun xs H Q => ∃ p ys, xs = [.ref p] ∧ (SqL K H p ys ∨ SqT K H p ys) ∧ Q (.int ys.length) H
def rListOf (K : PySem.W.Frag) : List V → Hp → VK → Prop := fun xs H Q => ∃ p ys, xs = [.ref p] ∧ (SqL K H p ys ∨ SqT K H p ys) ∧ ∀ l, H l = none → Q (.ref l) (upd H l (.lst ys))
def topS (i : Nat) : Stmt := PySem.Challenge.pw_namesalone_k00_jobs_or_none.main.body.getD i (.Pass ⟨0, 0, 0, 0⟩)
structure Txt (K : PySem.W.Frag) (mg : Str → Option Value) : Prop where
  b_len : mg "len" = none
  b_abs : mg "abs" = none
  b_int : mg "int" = none
  b_list : mg "list" = none
  b_tuple : mg "tuple" = none
  b_dict : mg "dict" = none
  b_str : mg "str" = none
  b_bool : mg "bool" = none
  b_all : mg "all" = none
  b_min : mg "min" = none
  b_zip : mg "zip" = none
  b_range : mg "range" = none
  b_enumerate : mg "enumerate" = none
  b_sorted : mg "sorted" = none
  b_isinstance : mg "isinstance" = none
abbrev s_law_take : Stmt := topS 15
abbrev N_law_take : List Str := ["_law_tin", "_law_top_so", "_law_digit_so", "_law_once", "_law_far", "_law_twice"]
abbrev P_law_take : List Str := ["_law_tin", "_law_top_so"]
theorem sc_law_take : FnScope ["_law_tin", "_law_top_so", "_law_digit_so", "_law_once", "_law_far", "_law_twice"] ["_law_tin", "_law_top_so"] (defScope s_law_take) := ⟨rfl, rfl, rfl, by decide +kernel, rfl, by decide +kernel, by decide +kernel⟩
abbrev s_law_box : Stmt := topS 14
abbrev N_law_box : List Str := ["_law_script", "_law_k", "_law_great_so"]
abbrev P_law_box : List Str := ["_law_script", "_law_k"]
theorem sc_law_box : FnScope ["_law_script", "_law_k", "_law_great_so"] ["_law_script", "_law_k"] (defScope s_law_box) := ⟨rfl, rfl, rfl, by decide +kernel, rfl, by decide +kernel, by decide +kernel⟩
abbrev s_law_cells : Stmt := topS 16
abbrev N_law_cells : List Str := ["_law_script", "_law_most", "_law_cells_here", "_law_k", "_law_great_so", "_law_at_so"]
abbrev P_law_cells : List Str := ["_law_script", "_law_most"]
theorem sc_law_cells : FnScope ["_law_script", "_law_most", "_law_cells_here", "_law_k", "_law_great_so", "_law_at_so"] ["_law_script", "_law_most"] (defScope s_law_cells) := ⟨rfl, rfl, rfl, by decide +kernel, rfl, by decide +kernel, by decide +kernel⟩
section
variable {P : Program} {w : World} {K : PySem.W.Frag} {mg : Str → Option Value} {base : Heap}
/-- the draws' state: a list of three ints -/
def Tin (H : Hp) (a : Addr) (n : Nat) : Prop := ∃ t0 t1 t2 : Int, H a = some (.lst [.int t0, .int t1, .int t2]) ∧ 0 ≤ t1 ∧ t1 < 4611686018427387904 ∧ 0 ≤ t2 ∧ t2 ≤ (n : Int)
/-- all but a stands as it stood -/
def SameBut (a : Addr) (H H' : Hp) : Prop := ∀ b o, b ≠ a → H b = some o → H' b = some o
theorem SameBut.upd {a : Addr} {H : Hp} {o : HO} : SameBut a H (upd H a o) := fun b u n e => by rw [upd_ne n]; exact e
def spTake : Sp := fun vs H Q _ => ∃ (a : Addr) (top : Int) (n : Nat), vs = [.ref a, .int top] ∧ Tin H a n ∧ n ≤ 1000000 ∧ 0 < top ∧ top ≤ 1000000000 ∧
  ∀ (d : Int) (H' : Hp), 0 ≤ d → d < top → SameBut a H H' → Tin H' a (n + 1) → Q (.int d) H'
theorem far_ok (x : Int) : -(2 ^ 64) < x % 40009 + 7 ∧ x % 40009 + 7 < 2 ^ 64 := by
  have h1 := Int.emod_nonneg x (show (40009 : Int) ≠ 0 by decide)
  have h2 := Int.emod_lt_of_pos x (show (0 : Int) < 40009 by decide)
  omega
theorem ok_take {f : Addr} {fd : FuncData} (F : Fun K "_law_take" "_law_take" s_law_take f fd) (T : Txt K mg) : FnOk P w K mg base CX0 1 f fd ["_law_tin", "_law_top_so"] spTake := by
  refine F.ok sc_law_take (fun vs H Q E h => ?_) (fun cdv A outer s H vs Q E hr h => ?_)
  · obtain ⟨a, top, n, rfl, _⟩ := h
    rfl
  · obtain ⟨a, top, n, rfl, ⟨t0, t1, t2, hT, b1, b2, b3, b4⟩, hn, p1, p2, k⟩ := h
    refine ⟨_, (pss_cons (ps_if (pt_cmpR op_gt (pe_ix (r := rIxL K) ix_list (pv 0) pe_int (fun _ _ => rfl)) pe_int (nomark _)) (pss_cons (ps_set (i := 2) sc_law_take.nd rfl (Or.inl rfl) (pe_op op_mod (pe_callTy call_int1 (by rfl) T.b_int (by decide +kernel) (pa_cons (pe_ix (r := rIxL K) ix_list (pv 0) pe_int (fun _ _ => rfl)) pa_nil)) (pv 1)))
      (pss_cons (ps_asg (pe_op op_fdivN (pe_ix (r := rIxL K) ix_list (pv 0) pe_int (fun _ _ => rfl)) (pv 1)) (pg_sub (pv 0) pe_int set_list))
      (pss_one (ps_ret (pv 2))))) pss_nil)
      (pss_cons (ps_asg (pe_op op_add (pe_ix (r := rIxL K) ix_list (pv 0) pe_int (fun _ _ => rfl)) pe_int) (pg_sub (pv 0) pe_int set_list))
      (pss_cons (ps_set (i := 3) sc_law_take.nd rfl (Or.inl rfl) (pe_op op_mod (pe_callTy call_int1 (by rfl) T.b_int (by decide +kernel) (pa_cons (pe_op op_mul (pe_op op_add (pe_ix (r := rIxL K) ix_list (pv 0) pe_int (fun _ _ => rfl)) (pe_op op_mul pe_int (pe_ix (r := rIxL K) ix_list (pv 0) pe_int (fun _ _ => rfl)))) (pe_op op_add pe_int (pe_ix (r := rIxL K) ix_list (pv 0) pe_int (fun _ _ => rfl)))) pa_nil)) pe_int))
      (pss_cons (ps_set (i := 4) sc_law_take.nd rfl (Or.inl rfl) (pe_op op_add (pe_op op_mod (pe_callTy call_int1 (by rfl) T.b_int (by decide +kernel) (pa_cons (pv 3) pa_nil)) pe_int) pe_int))
      (pss_cons (ps_set (i := 5) sc_law_take.nd rfl (Or.inl rfl) (pe_op op_mod (pe_callTy call_int1 (by rfl) T.b_int (by decide +kernel) (pa_cons (pe_op op_mul (pe_op op_add (pe_op op_add (pv 3) (pe_ix (r := rIxL K) ix_list (pv 0) pe_int (fun _ _ => rfl))) (pe_op op_fdivN (pe_ix (r := rIxL K) ix_list (pv 0) pe_int (fun _ _ => rfl)) pe_int)) (pv 4)) pa_nil)) pe_int))
      (pss_one (ps_ret (pe_op op_mod (pe_callTy call_int1 (by rfl) T.b_int (by decide +kernel) (pa_cons (pe_op op_fdivN (pe_op op_mod (pe_callTy call_int1 (by rfl) T.b_int (by decide +kernel) (pa_cons (pe_op op_add (pe_op op_mul (pv 5) pe_int) (pv 3)) pa_nil)) pe_int) pe_int) pa_nil)) (pv 1))))))))), ?_⟩
    have S : SqL K H a [.int t0, .int t1, .int t2] := SqL.of hT
    refine ⟨_, rfl, a, _, _, _, rfl, rfl, S, rfl, _, _, rfl, rfl, _, rfl, ?_⟩
    refine ite2 (fun c => ?_) (fun c => ?_)
    · refine ⟨_, rfl, a, _, _, _, rfl, rfl, S, rfl, .inl ⟨_, rfl, _, rfl, _, _, rfl, rfl, p1, ?_⟩⟩
      refine ⟨_, rfl, a, _, _, _, rfl, rfl, S, rfl, _, rfl, _, _, rfl, rfl, ⟨by omega, by omega⟩, _, rfl, a, _, _, _, rfl, rfl, hT, rfl, _, rfl, ?_⟩
      exact k _ _ (Int.emod_nonneg _ (by omega)) (Int.emod_lt_of_pos _ p1) SameBut.upd ⟨_, t1, t2, upd_same, b1, b2, b3, by omega⟩
    · have S2 : SqL K (upd H a (.lst [.int t0, .int t1, .int (t2 + 1)])) a [.int t0, .int t1, .int (t2 + 1)] := SqL.of upd_same
      refine ⟨_, rfl, a, _, _, _, rfl, rfl, S, rfl, _, _, rfl, rfl, _, rfl, a, _, _, _, rfl, rfl, hT, rfl, ?_⟩
      refine ⟨_, rfl, a, _, _, _, rfl, rfl, S2, rfl, _, rfl, a, _, _, _, rfl, rfl, S2, rfl, _, _, rfl, rfl, .inl ⟨by decide, by decide⟩, _, _, rfl, rfl, _, rfl, a, _, _, _, rfl, rfl, S2, rfl, _, _, rfl, rfl, _, _, rfl, rfl, .inr ⟨by omega, by omega⟩, .inl ⟨_, rfl, _, _, rfl, rfl, (by show (0 : Int) < 2147483647; decide), ?_⟩⟩
      refine ⟨_, rfl, .inl ⟨_, rfl, _, _, rfl, rfl, (by show (0 : Int) < 40009; decide), _, _, rfl, rfl, ?_⟩⟩
      refine ⟨_, rfl, _, rfl, a, _, _, _, rfl, rfl, S2, rfl, _, _, rfl, rfl, _, rfl, a, _, _, _, rfl, rfl, S2, rfl, _, _, rfl, rfl, ⟨by decide, by decide⟩, _, _, rfl, rfl, _, rfl, _, _, rfl, rfl, .inr (far_ok _), .inl ⟨_, rfl, _, _, rfl, rfl, (by show (0 : Int) < 2147483629; decide), ?_⟩⟩
      refine ⟨_, rfl, _, _, rfl, rfl, .inr ⟨by decide, by decide⟩, _, rfl, _, _, rfl, rfl, .inl ⟨_, rfl, _, _, rfl, rfl, (by show (0 : Int) < 2147483587; decide), _, _, rfl, rfl, ⟨by decide, by decide⟩, .inl ⟨_, rfl, _, rfl, _, _, rfl, rfl, p1, ?_⟩⟩⟩
      exact k _ _ (Int.emod_nonneg _ (by omega)) (Int.emod_lt_of_pos _ p1) SameBut.upd ⟨t0, t1, t2 + 1, upd_same, b1, b2, by omega, by omega⟩
/-- a box of the cells: the state of draws that is made of the k-th cell -/
def spBox (K : PySem.W.Frag) : Sp := fun vs H Q _ => ∃ (a : Addr) (ns : List Int) (j : Nat), vs = [.ref a, .int (j : Int)] ∧ SqL K H a (ns.map V.int) ∧ j ≤ 1000 ∧
  ∀ p H', H p = none → Same H H' → Tin H' p 0 → Q (.ref p) H'
theorem b01 (b : Bool) : -(2 ^ 64) < (if b = true then 1 else 0 : Int) ∧ (if b = true then 1 else 0 : Int) < 2 ^ 64 := by cases b <;> decide
theorem box_tin {H : Hp} {p : Addr} {j : Nat} {x g c : Int} (hj : j ≤ 1000) (h : H p = some (.lst [.int x, .int (g % 2305843009213693951 + 39373 * (j : Int) + c), .int 0])) (hc : 0 ≤ c := by decide) (hc2 : c ≤ 100000 := by decide) : Tin H p 0 := by
  have h1 := Int.emod_nonneg g (show (2305843009213693951 : Int) ≠ 0 by decide)
  have h2 := Int.emod_lt_of_pos g (show (0 : Int) < 2305843009213693951 by decide)
  exact ⟨_, _, _, h, by omega, by omega, by omega, by omega⟩
theorem ok_box {f : Addr} {fd : FuncData} (F : Fun K "_law_box" "_law_box" s_law_box f fd) (T : Txt K mg) : FnOk P w K mg base CX0 1 f fd ["_law_script", "_law_k"] (spBox K) := by
  refine F.ok sc_law_box (fun vs H Q E h => ?_) (fun cdv A outer s H vs Q E hr h => ?_)
  · obtain ⟨a, ns, j, rfl, _⟩ := h
    rfl
  · obtain ⟨a, ns, j, rfl, hS, hj, k⟩ := h
    refine ⟨_, (pss_cons (ps_set (i := 2) sc_law_box.nd rfl (Or.inl rfl) (pe_ifExp (pt_cmpR op_lt (pv 1) (pe_callB (r := rLn K) call_len_seq (by rfl) T.b_len (by decide +kernel) (pa_cons (pv 0) pa_nil)) (nomark _)) (pe_ix (r := rIxL K) ix_list (pv 0) (pv 1) (fun _ _ => rfl)) pe_int))
      (pss_one (ps_ret (pe_lst (pa_cons (pe_op op_mul (pe_callB call_abs (by rfl) T.b_abs (by decide +kernel) (pa_cons (pv 2) pa_nil)) (pe_callTy call_int1 (by rfl) T.b_int (by decide +kernel) (pa_cons (pe_cmpR op_ge (pe_callB call_abs (by rfl) T.b_abs (by decide +kernel) (pa_cons (pv 2) pa_nil)) (pe_op op_pow pe_int pe_int) (nomark _)) pa_nil))) (pa_cons (pe_op op_add (pe_op op_add (pe_op op_mod (pe_callTy call_int1 (by rfl) T.b_int (by decide +kernel) (pa_cons (pv 2) pa_nil)) pe_int) (pe_op op_mul pe_int (pv 1))) pe_int) (pa_cons pe_int pa_nil))))))), ?_⟩
    refine ⟨_, rfl, _, rfl, _, _, rfl, .inl hS, _, _, rfl, rfl, _, rfl, ?_⟩
    refine ite2 (fun c => ?_) (fun c => ?_)
    · have hlt : j < (ns.map V.int).length := by have := of_decide_eq_true c; omega
      obtain ⟨g, hg⟩ : ∃ g : Int, (ns.map V.int)[j]? = some (V.int g) := by
        rw [List.getElem?_map, List.getElem?_eq_getElem (by simpa using hlt)]
        exact ⟨_, rfl⟩
      refine ⟨_, rfl, _, rfl, a, _, _, _, rfl, rfl, hS, atI_nat hg, ?_⟩
      refine ⟨_, rfl, _, rfl, _, rfl, _, rfl, _, _, rfl, rfl, ⟨by decide, by decide, by decide⟩, _, _, rfl, rfl, .inr ⟨_, rfl, _, _, rfl, rfl, .inr (b01 _), ?_⟩⟩
      refine ⟨_, rfl, .inl ⟨_, rfl, _, _, rfl, rfl, (by show (0 : Int) < 2305843009213693951; decide), _, rfl, _, _, rfl, rfl, .inl ⟨by decide, by decide⟩, _, _, rfl, rfl, _, _, rfl, rfl, (by show 3 ≤ sizeLine; decide), fun p hp => ?_⟩⟩
      exact k p _ hp (fun b o e => by rw [upd_ne (ne_of_none e hp)]; exact e) (box_tin hj upd_same)
    · refine ⟨_, rfl, _, rfl, _, rfl, _, rfl, _, _, rfl, rfl, ⟨by decide, by decide, by decide⟩, _, _, rfl, rfl, .inr ⟨_, rfl, _, _, rfl, rfl, .inr (b01 _), ?_⟩⟩
      refine ⟨_, rfl, .inl ⟨_, rfl, _, _, rfl, rfl, (by show (0 : Int) < 2305843009213693951; decide), _, rfl, _, _, rfl, rfl, .inl ⟨by decide, by decide⟩, _, _, rfl, rfl, _, _, rfl, rfl, (by show 3 ≤ sizeLine; decide), fun p hp => ?_⟩⟩
      exact k p _ hp (fun b o e => by rw [upd_ne (ne_of_none e hp)]; exact e) (box_tin hj upd_same)

theorem cut_head (ns : List Int) : cutV (ns.map V.int) none (some 3) = (ns.take 3).map V.int := by
  unfold cutV
  have e : HT.sIx (ns.map V.int).length 0 none = 0 := rfl
  have e2 : HT.sIx (ns.map V.int).length (ns.map V.int).length (some 3) = min 3 (ns.map V.int).length := HT.sIx_nat _ _ 3
  rw [e, e2, List.drop_zero, List.length_map, ← List.map_take]
  congr 1
  rcases Nat.le_total 3 ns.length with h | h
  · rw [Nat.min_eq_left h, Nat.sub_zero]
  · rw [Nat.min_eq_right h, Nat.sub_zero, List.take_of_length_le (Nat.le_refl _), List.take_of_length_le h]
theorem cut_tail (ns : List Int) : ∃ rs : List Int, cutV (ns.map V.int) (some 3) (some 63) = rs.map V.int ∧ (0 < rs.length → 3 ≤ ns.length) ∧ rs.length ≤ 63 := by
  unfold cutV
  have e : HT.sIx (ns.map V.int).length 0 (some 3) = min 3 (ns.map V.int).length := HT.sIx_nat _ _ 3
  have e2 : HT.sIx (ns.map V.int).length (ns.map V.int).length (some 63) = min 63 (ns.map V.int).length := HT.sIx_nat _ _ 63
  rw [e, e2, List.length_map, ← List.map_drop, ← List.map_take]
  refine ⟨_, rfl, fun h => ?_, ?_⟩
  · rw [List.length_take, List.length_drop] at h
    omega
  · rw [List.length_take, List.length_drop]
    omega
theorem ix_of {n j : Nat} {z : Int} (e : z = (j : Int)) (h : j < n) : ixN n z = some j := by
  subst e
  unfold ixN
  rw [if_pos (by omega), if_pos (by omega)]
  simp
theorem int_at {ns : List Int} {j : Nat} (h : j < ns.length) : (ns.map V.int)[j]? = some (V.int ns[j]) := by
  rw [List.getElem?_map, List.getElem?_eq_getElem h]
  rfl
theorem same_new {H : Hp} {p : Addr} {o : HO} (hp : H p = none) : Same H (upd H p o) := fun b u e => by rw [upd_ne (ne_of_none e hp)]; exact e
/-- the cells of the script: at most three of them -/
def spCells (K : PySem.W.Frag) : Sp := fun vs H Q _ => ∃ (a : Addr) (ns : List Int), vs = [.ref a, .int 3] ∧ SqL K H a (ns.map V.int) ∧
  ∀ p H' (ms : List Int), H p = none → Same H H' → H' p = some (.lst (ms.map V.int)) → ms.length ≤ 3 → Q (.ref p) H'
theorem ok_cells {f : Addr} {fd : FuncData} (F : Fun K "_law_cells" "_law_cells" s_law_cells f fd) (T : Txt K mg) : FnOk P w K mg base CX0 1 f fd ["_law_script", "_law_most"] (spCells K) := by
  refine F.ok sc_law_cells (fun vs H Q E h => ?_) (fun cdv A outer s H vs Q E hr h => ?_)
  · obtain ⟨a, ns, rfl, _⟩ := h
    rfl
  · obtain ⟨a, ns, rfl, hS, k⟩ := h
    refine ⟨_, (pss_cons (ps_set (i := 2) sc_law_cells.nd rfl (Or.inl rfl) (pe_orT (pe_callTy (r := rListOf K) call_list_of (by rfl) T.b_list (by decide +kernel) (pa_cons (pe_slice sl_list (pv 0) po_none (po_some (pv 1))) pa_nil)) (pe_one (pe_lst (pa_cons pe_int pa_nil)))))
      (pss_cons (ps_for PassesOwn.never rfl (pi_enum (by rfl) T.b_enumerate (pa_cons (pe_slice sl_list (pv 0) (po_some (pv 1)) (po_some pe_int)) pa_nil)) (pg_tup rfl (pgs_cons (pg_name (i := 3) sc_law_cells.nd rfl (Or.inl rfl)) (pgs_cons (pg_name (i := 4) sc_law_cells.nd rfl (Or.inl rfl)) pgs_nil))) (pss_cons (ps_set (i := 5) sc_law_cells.nd rfl (Or.inl rfl) (pe_op op_mod (pe_callTy call_int1 (by rfl) T.b_int (by decide +kernel) (pa_cons (pv 3) pa_nil)) (pv 1)))
      (pss_one (ps_asg (pe_op op_add (pe_ix (r := rIxL K) ix_list (pv 2) (pv 5) (fun _ _ => rfl)) (pe_op op_mul (pv 4) (pe_op op_add (pv 3) pe_int))) (pg_sub (pv 2) (pv 5) set_list)))))
      (pss_one (ps_ret (pv 2))))), ?_⟩
    refine ⟨_, rfl, _, rfl, _, rfl, a, _, rfl, hS, fun p hp => ⟨p, _, rfl, .inl (SqL.of upd_same), fun l0 hl => ?_⟩⟩
    rw [cut_head] at *
    have nl0 : H l0 = none := by
      have := hl
      rw [upd_ne (fun e => by rw [e, upd_same] at this; cases this)] at this
      exact this
    refine ⟨_, .inl ⟨_, SqL.of upd_same, rfl⟩, ?_⟩
    have sm0 : Same H (upd (upd H p (.lst ((ns.take 3).map V.int))) l0 (.lst ((ns.take 3).map V.int))) := (same_new hp).trans (same_new hl)
    refine ite2 (fun c => ?_) (fun c => ?_)
    · have nl := nl0
      have hL : upd (upd H p (.lst ((ns.take 3).map V.int))) l0 (.lst ((ns.take 3).map V.int)) l0 = some (.lst ((ns.take 3).map V.int)) := upd_same
      have sm := sm0
      have hm : (ns.take 3).length ≤ 3 := by rw [List.length_take]; omega
      have hm3 : 3 ≤ ns.length → (ns.take 3).length = 3 := fun h => by rw [List.length_take]; omega
      clear sm0 hl
      generalize upd (upd H p (.lst ((ns.take 3).map V.int))) l0 (.lst ((ns.take 3).map V.int)) = H1 at *
      generalize ns.take 3 = ms0 at *
      generalize l0 = l at *
      obtain ⟨rs, hrs, hr3, hr63⟩ := cut_tail ns
      refine ⟨_, rfl, _, rfl, _, rfl, _, rfl, a, _, rfl, sm.seq hS, fun q hq => ⟨q, rs.map V.int, rfl, ?_, ?_⟩⟩
      · rw [hrs]
        exact SqL.of upd_same
      rw [hrs]
      have nql : q ≠ l := fun e => by rw [e, hL] at hq; cases hq
      have sm2 : Same H (upd H1 q (.lst (rs.map V.int))) := sm.trans (same_new hq)
      refine for_it (w := walk_enum (K := K) (a := q) (xs := rs.map V.int)) (fun i σ H' => ∃ (ms : List Int) (kv gv av : Option V), σ = [some (.ref a), some (.int 3), some (.ref l), kv, gv, av] ∧ Same H H' ∧ H' l = some (.lst (ms.map V.int)) ∧ H' q = some (.lst (rs.map V.int)) ∧ ms.length ≤ 3 ∧ (3 ≤ ns.length → ms.length = 3))
        ⟨_, none, none, none, rfl, sm2, (by rw [upd_ne (Ne.symm nql)]; exact hL), upd_same, hm, hm3⟩ (fun i σ H' _ ⟨_, _, _, _, _, _, _, h, _⟩ => SqL.of h) ?_ ?_
      · rintro i x σ H2 H3 hi ⟨ms, kv, gv, av, rfl, s2, h2, h3, m1, m2⟩ ⟨T1, x1, y1, rfl, hT1, rfl, e1, e2⟩
        have hi' : i < rs.length := by rwa [List.length_map] at hi
        cases e1
        cases (int_at hi').symm.trans e2
        have hmm := m2 (hr3 (by omega))
        have nlT : l ≠ T1 := ne_of_none h2 hT1
        have nqT : q ≠ T1 := ne_of_none h3 hT1
        have h2' : upd H2 T1 (.tup [.int (i : Nat), .int rs[i]]) l = some (.lst (ms.map V.int)) := by rw [upd_ne nlT]; exact h2
        have hj : i % 3 < ms.length := by omega
        have hz : ((i : Nat) : Int) % 3 = ((i % 3 : Nat) : Int) := by omega
        refine ⟨T1, _, rfl, SqT.of upd_same, rfl, _, _, rfl, _, _, rfl, rfl, ?_⟩
        refine ⟨_, rfl, .inl ⟨_, rfl, _, rfl, _, _, rfl, rfl, (by show (0 : Int) < 3; decide), ?_⟩⟩
        refine ⟨_, rfl, _, rfl, l, _, _, _, rfl, rfl, SqL.of h2', L2.at_of hz (int_at hj), _, rfl, _, rfl, _, _, rfl, rfl, _, _, rfl, rfl, .inr ⟨by omega, by omega⟩, _, _, rfl, rfl, _, rfl, _, rfl, l, _, _, _, rfl, rfl, h2', ix_of hz (by rw [List.length_map]; exact hj), ?_⟩
        refine ⟨ms.set (i % 3) (ms[i % 3] + rs[i] * ((i : Int) + 2)), _, _, _, rfl, fun b o e => ?_, ?_, ?_, (by rw [List.length_set]; exact m1), fun h => by rw [List.length_set]; exact m2 h⟩
        · have nb : b ≠ l := fun z => by rw [z, nl] at e; cases e
          rw [upd_ne nb]
          exact (s2.trans (same_new hT1)) b o e
        · rw [upd_same, List.map_set]
        · rw [upd_ne nql, upd_ne nqT]
          exact h3
      · rintro σ H' ⟨ms, kv, gv, av, rfl, s2, h2, h3, m1, m2⟩
        exact ⟨_, rfl, k l H' ms nl s2 h2 m1⟩

    · refine ⟨by show 1 ≤ sizeLine; decide, fun l hl2 => ?_⟩
      have nl : H l = none := sm0.free hl2
      have hL : upd (upd (upd H p (.lst ((ns.take 3).map V.int))) l0 (.lst ((ns.take 3).map V.int))) l (.lst [.int 0]) l = some (.lst ([(0 : Int)].map V.int)) := upd_same
      have sm := sm0.trans (same_new (o := .lst [.int 0]) hl2)
      have hm : [(0 : Int)].length ≤ 3 := by decide
      have hm3 : 3 ≤ ns.length → [(0 : Int)].length = 3 := fun h => by
        exfalso
        apply c
        cases ns with
        | nil => cases h
        | cons x r => rfl
      generalize upd (upd (upd H p (.lst ((ns.take 3).map V.int))) l0 (.lst ((ns.take 3).map V.int))) l (.lst [.int 0]) = H1 at *
      generalize [(0 : Int)] = ms0 at *
      obtain ⟨rs, hrs, hr3, hr63⟩ := cut_tail ns
      refine ⟨_, rfl, _, rfl, _, rfl, _, rfl, a, _, rfl, sm.seq hS, fun q hq => ⟨q, rs.map V.int, rfl, ?_, ?_⟩⟩
      · rw [hrs]
        exact SqL.of upd_same
      rw [hrs]
      have nql : q ≠ l := fun e => by rw [e, hL] at hq; cases hq
      have sm2 : Same H (upd H1 q (.lst (rs.map V.int))) := sm.trans (same_new hq)
      refine for_it (w := walk_enum (K := K) (a := q) (xs := rs.map V.int)) (fun i σ H' => ∃ (ms : List Int) (kv gv av : Option V), σ = [some (.ref a), some (.int 3), some (.ref l), kv, gv, av] ∧ Same H H' ∧ H' l = some (.lst (ms.map V.int)) ∧ H' q = some (.lst (rs.map V.int)) ∧ ms.length ≤ 3 ∧ (3 ≤ ns.length → ms.length = 3))
        ⟨_, none, none, none, rfl, sm2, (by rw [upd_ne (Ne.symm nql)]; exact hL), upd_same, hm, hm3⟩ (fun i σ H' _ ⟨_, _, _, _, _, _, _, h, _⟩ => SqL.of h) ?_ ?_
      · rintro i x σ H2 H3 hi ⟨ms, kv, gv, av, rfl, s2, h2, h3, m1, m2⟩ ⟨T1, x1, y1, rfl, hT1, rfl, e1, e2⟩
        have hi' : i < rs.length := by rwa [List.length_map] at hi
        cases e1
        cases (int_at hi').symm.trans e2
        have hmm := m2 (hr3 (by omega))
        have nlT : l ≠ T1 := ne_of_none h2 hT1
        have nqT : q ≠ T1 := ne_of_none h3 hT1
        have h2' : upd H2 T1 (.tup [.int (i : Nat), .int rs[i]]) l = some (.lst (ms.map V.int)) := by rw [upd_ne nlT]; exact h2
        have hj : i % 3 < ms.length := by omega
        have hz : ((i : Nat) : Int) % 3 = ((i % 3 : Nat) : Int) := by omega
        refine ⟨T1, _, rfl, SqT.of upd_same, rfl, _, _, rfl, _, _, rfl, rfl, ?_⟩
        refine ⟨_, rfl, .inl ⟨_, rfl, _, rfl, _, _, rfl, rfl, (by show (0 : Int) < 3; decide), ?_⟩⟩
        refine ⟨_, rfl, _, rfl, l, _, _, _, rfl, rfl, SqL.of h2', L2.at_of hz (int_at hj), _, rfl, _, rfl, _, _, rfl, rfl, _, _, rfl, rfl, .inr ⟨by omega, by omega⟩, _, _, rfl, rfl, _, rfl, _, rfl, l, _, _, _, rfl, rfl, h2', ix_of hz (by rw [List.length_map]; exact hj), ?_⟩
        refine ⟨ms.set (i % 3) (ms[i % 3] + rs[i] * ((i : Int) + 2)), _, _, _, rfl, fun b o e => ?_, ?_, ?_, (by rw [List.length_set]; exact m1), fun h => by rw [List.length_set]; exact m2 h⟩
        · have nb : b ≠ l := fun z => by rw [z, nl] at e; cases e
          rw [upd_ne nb]
          exact (s2.trans (same_new hT1)) b o e
        · rw [upd_same, List.map_set]
        · rw [upd_ne nql, upd_ne nqT]
          exact h3
      · rintro σ H' ⟨ms, kv, gv, av, rfl, s2, h2, h3, m1, m2⟩
        exact ⟨_, rfl, k l H' ms nl s2 h2 m1⟩
end
end Nal

namespace Nal
open PySem L2
abbrev s_law_pick : Stmt := topS 18
abbrev N_law_pick : List Str := ["_law_tin", "_law_pool", "_law_size_so", "_law_rest", "_law_some", "_law_turn"]
abbrev P_law_pick : List Str := ["_law_tin", "_law_pool", "_law_size_so"]
theorem sc_law_pick : FnScope ["_law_tin", "_law_pool", "_law_size_so", "_law_rest", "_law_some", "_law_turn"] ["_law_tin", "_law_pool", "_law_size_so"] (defScope s_law_pick) := ⟨rfl, rfl, rfl, by decide +kernel, rfl, by decide +kernel, by decide +kernel⟩
section
variable {P : Program} {w : World} {K : PySem.W.Frag} {mg : Str → Option Value} {base : Heap}
theorem SameBut.trans {a : Addr} {H H1 H2 : Hp} (x : SameBut a H H1) (y : SameBut a H1 H2) : SameBut a H H2 := fun b o n e => y b o n (x b o n e)
theorem Same.but {a : Addr} {H H1 : Hp} (x : Same H H1) : SameBut a H H1 := fun b o _ e => x b o e
theorem Tin.ref {H : Hp} {t : Addr} {n : Nat} (h : Tin H t n) : ∃ xs, H t = some (.lst xs) := by
  obtain ⟨_, _, _, e, _⟩ := h
  exact ⟨_, e⟩
theorem Tin.ne {H : Hp} {t p : Addr} {n : Nat} (h : Tin H t n) (hp : H p = none) : p ≠ t := by
  obtain ⟨xs, e⟩ := h.ref
  exact (ne_of_none e hp).symm
theorem Tin.keep {H H' : Hp} {t : Addr} {n : Nat} (h : Tin H t n) (e : H' t = H t) : Tin H' t n := by
  obtain ⟨a, b, c, q, r⟩ := h
  exact ⟨a, b, c, e.trans q, r⟩
theorem Tin.mono {H : Hp} {t : Addr} {n m : Nat} (h : Tin H t n) (e : n ≤ m) : Tin H t m := by
  obtain ⟨a, b, c, q, r1, r2, r3, r4⟩ := h
  exact ⟨a, b, c, q, r1, r2, r3, by omega⟩
theorem Tin.upd {H : Hp} {t p : Addr} {n : Nat} {o : HO} (h : Tin H t n) (hp : p ≠ t) : Tin (L2.upd H p o) t n := h.keep (upd_ne hp.symm)
theorem seq_ix {z : Int} {n j : Nat} (e : z = (j : Int)) (h : j < n) : seqIndex? z n = some j := by
  subst e
  unfold seqIndex?
  simp only [show ¬ ((j : Int) < 0) by omega, if_false]
  simp [h]
theorem toNat_min (a b : Nat) : (if (b : Int) < (a : Int) then (b : Int) else (a : Int)).toNat = min a b := by
  split <;> omega
theorem erase_perm {α : Type} : ∀ {l : List α} {j : Nat} (h : j < l.length), ([l[j]] ++ l.eraseIdx j).Perm l
  | x :: r, 0, _ => List.Perm.refl _
  | x :: r, j + 1, h => by
    have h' : j < r.length := Nat.lt_of_succ_lt_succ h
    show (r[j] :: x :: r.eraseIdx j).Perm (x :: r)
    exact (List.Perm.swap _ _ _).trans (List.Perm.cons x (erase_perm h'))
/-- some things of a pool, without those drawn ahead -/
def spPick (K : PySem.W.Frag) : Sp := fun vs H Q _ => ∃ (t p : Addr) (n m : Nat) (xs : List V), vs = [.ref t, .ref p, .int (n : Int)] ∧ Tin H t m ∧ (SqL K H p xs ∨ SqT K H p xs) ∧ xs.length ≤ 1000 ∧ n ≤ 1000 ∧ m + min n xs.length ≤ 1000000 ∧
  ∀ (l : Addr) (H' : Hp) (ys : List V), H l = none → SameBut t H H' → Tin H' t (m + min n xs.length) → H' l = some (.lst ys) → (∃ rest, (ys ++ rest).Perm xs) → ys.length = min n xs.length → Q (.ref l) H'
theorem ok_pick {f f1 : Addr} {fd fd_law_take : FuncData} (F : Fun K "_law_pick" "_law_pick" s_law_pick f fd) (T : Txt K mg) (G_law_take : FnOk P w K mg base CX0 1 f1 fd_law_take ["_law_tin", "_law_top_so"] spTake) (m_law_take : mg "_law_take" = some (.ref f1)) (k_law_take : PySem.W.keepIn K (.ref f1) = true)
    (b_law_take : Binds K fd_law_take ["_law_tin", "_law_top_so"] []) : FnOk P w K mg base CX0 2 f fd ["_law_tin", "_law_pool", "_law_size_so"] (spPick K) := by
  refine F.ok sc_law_pick (fun vs H Q E h => ?_) (fun cdv A outer s H vs Q E hr h => ?_)
  · obtain ⟨t, p, n, m, xs, rfl, _⟩ := h
    rfl
  · obtain ⟨t, p, n, m, xs, rfl, hT, hS, hx, hn, hm, k⟩ := h
    refine ⟨_, (pss_cons (ps_par (i := 3) (j := 4) (by rfl) sc_law_pick.nd rfl rfl (by decide) rfl rfl (pa_cons (pe_callTy (r := rListOf K) call_list_of (by rfl) T.b_list (by decide +kernel) (pa_cons (pv 1) pa_nil)) (pa_cons (pe_lst pa_nil) pa_nil)) (by rfl))
      (pss_cons (ps_for PassesOwn.never rfl (pi_range1 (by rfl) T.b_range (pa_cons (pe_callB (call_min2 rfl) (by rfl) T.b_min (by decide +kernel) (pa_cons (pv 2) (pa_cons (pe_callB (r := rLn K) call_len_seq (by rfl) T.b_len (by decide +kernel) (pa_cons (pv 3) pa_nil)) pa_nil))) pa_nil)) (pg_name (i := 5) sc_law_pick.nd rfl (Or.inl rfl)) (pss_one (ps_expr (pe_bm PySem.F.plainAttrs_list PySem.F.slot_list_append PySem.F.type_list_append mt_append (pv 4) (pa_cons (pe_bm PySem.F.plainAttrs_list PySem.F.slot_list_pop PySem.F.type_list_pop mt_popAt (pv 3) (pa_cons (pe_call G_law_take (hr.mono (by decide)) rfl m_law_take k_law_take b_law_take .nil pass0 (pa_cons (pv 0) (pa_cons (pe_callB (r := rLn K) call_len_seq (by rfl) T.b_len (by decide +kernel) (pa_cons (pv 3) pa_nil)) pa_nil))) pa_nil)) pa_nil)))))
      (pss_one (ps_ret (pv 4))))), ?_⟩
    refine ⟨_, rfl, p, xs, rfl, hS, fun r hr0 => ?_⟩
    refine ⟨by show 0 ≤ sizeLine; decide, fun l hl => ?_⟩
    have nrl : r ≠ l := fun e => by rw [e, upd_same] at hl; cases hl
    have nl : H l = none := by rw [upd_ne nrl.symm] at hl; exact hl
    have nrt : r ≠ t := hT.ne hr0
    have nlt : l ≠ t := hT.ne nl
    have hr1 : L2.upd (L2.upd H r (.lst xs)) l (.lst []) r = some (.lst xs) := by rw [upd_ne nrl]; exact upd_same
    refine ⟨_, _, rfl, ?_⟩
    refine ⟨_, rfl, _, rfl, r, _, rfl, .inl (SqL.of hr1), _, _, rfl, _, rfl, (by split <;> omega), (by split <;> omega), ?_⟩
    rw [toNat_min]
    refine for_it (w := walk_range (lo := 0) (n := min n xs.length)) (fun i σ H' => ∃ (ys rest : List V) (tv : Option V), σ = [some (.ref t), some (.ref p), some (.int (n : Int)), some (.ref r), some (.ref l), tv] ∧ SameBut t H H' ∧ Tin H' t (m + i) ∧ H' r = some (.lst rest) ∧ H' l = some (.lst ys) ∧ (ys ++ rest).Perm xs ∧ ys.length = i)
      ⟨[], xs, none, rfl, Nal.Same.but ((same_new hr0).trans (same_new hl)), (hT.upd nrt).upd nlt, hr1, upd_same, List.Perm.refl _, rfl⟩ (fun _ _ _ _ _ => trivial) ?_ ?_
    · rintro i x σ H1 H2 hi ⟨ys, rest, tv, rfl, sb, t1, h1, h2, pm, el⟩ ⟨rfl, rfl⟩
      have lr : rest.length = xs.length - i := by
        have := pm.length_eq
        rw [List.length_append] at this
        omega
      refine ⟨_, rfl, .inl ⟨rfl, _, SqL.of h2⟩, _, rfl, .inl ⟨rfl, _, SqL.of h1⟩, _, rfl, _, rfl, r, _, rfl, .inl (SqL.of h1), ?_⟩
      refine ⟨t, _, m + i, rfl, t1, by omega, by omega, by omega, fun d H3 d1 d2 sb3 t3 => ?_⟩
      have h1' : H3 r = some (.lst rest) := sb3 _ _ nrt h1
      have h2' : H3 l = some (.lst ys) := sb3 _ _ nlt h2
      have hd : d.toNat < rest.length := by omega
      refine ⟨r, rest, d, d.toNat, rest[d.toNat], rfl, rfl, h1', by omega, by omega, seq_ix (by omega) hd, List.getElem?_eq_getElem hd, ?_⟩
      refine ⟨l, ys, _, rfl, rfl, (by rw [upd_ne nrl.symm]; exact h2'), Nat.lt_of_le_of_lt (show ys.length ≤ 1000 by omega) (by decide), ?_⟩
      refine ⟨ys ++ [rest[d.toNat]], rest.eraseIdx d.toNat, _, rfl, fun b o nb e => ?_, ?_, ?_, upd_same, ?_, by rw [List.length_append, List.length_singleton, el]⟩
      · have nbr : b ≠ r := fun z => by rw [z, hr0] at e; cases e
        have nbl : b ≠ l := fun z => by rw [z, nl] at e; cases e
        rw [upd_ne nbl, upd_ne nbr]
        exact (sb.trans sb3) b o nb e
      · exact ((t3.upd nrt).upd nlt).mono (by omega)
      · rw [upd_ne nrl]
        exact upd_same
      · rw [List.append_assoc]
        refine List.Perm.trans (List.Perm.append_left ys ?_) pm
        exact erase_perm hd
    · rintro σ H' ⟨ys, rest, tv, rfl, sb, t1, h1, h2, pm, el⟩
      exact ⟨_, rfl, k l H' ys nl sb t1 h2 ⟨rest, pm⟩ el⟩
end
end Nal

namespace Nal
open PySem L2 PyProof.Rows
/-! ### tuples that are known to be plain -/
def tTupF (t : TA) : TE := fun σ H Q => t σ H fun xs H1 => xs.length ≤ sizeLine ∧ ∀ (p : Addr) (o : Obj), o.dict = none → H1 p = none → Q (.ref p) (upd H1 p (.frz o (.tup xs)))
theorem pe_tupF {X : Cx} {es : List Expr} {t : TA} {pos : Pos} {x1 : Nat} (h : PA X es t) : PE X (.Tuple es x1 pos) (tTupF t) := by
  refine ⟨fun pins s σ H Q I hq => ?_⟩
  refine wpAny_Tuple_spliced (thn (h.run pos pins s σ H _ I hq) fun us s1 w1 => ?_)
  obtain ⟨xs, H1, I1, r, z, q⟩ := w1
  refine ⟨(by rw [← r.length]; exact z), ?_⟩
  have free : H1 s1.heap.objs.size = none := I1.hok.fresh (Nat.le_refl _)
  let ob : Obj := { cls := .type "tuple", data := .seq us.toArray }
  have at_ : (s1.heap.push ob).get? s1.heap.objs.size = some ob := Heap.get?_push_size _ rfl
  have ok : ObjOk X.prog X.w (upd H1 s1.heap.objs.size (.frz ob (.tup xs))) (s1.heap.push ob) s1.heap.objs.size (.frz ob (.tup xs)) := ⟨at_, z, us, r, ⟨ob, at_, rfl, _, rfl⟩⟩
  exact ⟨.ref s1.heap.objs.size, _, I1.laid (t' := s1.toks) (fun b u e => Heap.get?_push_of_some _ e) (Nat.le_refl _) ok, rfl, q _ ob rfl free⟩
def rTupF (K : PySem.W.Frag) : List V → Hp → VK → Prop := fun xs H Q => ∃ p ys, xs = [.ref p] ∧ ((SqL K H p ys ∧ ∀ (l : Addr) (o : Obj), o.dict = none → H l = none → Q (.ref l) (upd H l (.frz o (.tup ys)))) ∨ (SqT K H p ys ∧ Q (.ref p) H))
theorem call_tupF {X : Cx} : CallR X (.type "tuple") (rTupF X.K) := by
  intro pins s σ H xs us Q I r h
  obtain ⟨p, ys, rfl, h⟩ := h
  obtain ⟨u, rfl, rx⟩ := vals1 r
  cases rx
  rcases h with ⟨hq, q⟩ | ⟨hq, q⟩
  · obtain ⟨its, r', pl, hz⟩ := I.list hq
    have el := r'.length
    refine call_tuple_list pl.isList (fun h' kp => ?_) (by simp only [List.size_toArray]; omega)
    let ob : Obj := { cls := .type "tuple", data := .seq its.toArray }
    have at_ : (h'.push ob).get? h'.objs.size = some ob := Heap.get?_push_size _ rfl
    have J : Inv X pins σ H { s with heap := h' } := I.kept (t' := s.toks) kp
    have ok : ObjOk X.prog X.w (upd H h'.objs.size (.frz ob (.tup ys))) (h'.push ob) h'.objs.size (.frz ob (.tup ys)) := ⟨at_, hz, its, r', ⟨ob, at_, rfl, _, rfl⟩⟩
    exact ⟨.ref h'.objs.size, _, J.laid (t' := s.toks) (fun b o e => Heap.get?_push_of_some _ e) (Nat.le_refl _) ok, rfl, q _ ob rfl (J.hok.fresh (Nat.le_refl _))⟩
  · obtain ⟨its, r', pl, hz⟩ := I.tuple hq
    exact call_tuple_same pl ⟨.ref p, H, I, rfl, q⟩
/-- at a stands a tuple of xs, a plain one -/
def PT (H : Hp) (a : Addr) (xs : List V) : Prop := ∃ o : Obj, H a = some (.frz o (.tup xs)) ∧ o.dict = none
theorem PT.sq {K : PySem.W.Frag} {H : Hp} {a : Addr} {xs : List V} (h : PT H a xs) : SqT K H a xs := by
  obtain ⟨o, e, _⟩ := h
  exact .inl (.inr ⟨o, e⟩)
theorem PT.keep {H H' : Hp} {a : Addr} {xs : List V} (k : ∀ b o, H b = some o → H' b = some o) (h : PT H a xs) : PT H' a xs := by
  obtain ⟨o, e, d⟩ := h
  exact ⟨o, k _ _ e, d⟩
/-! ### data in the heap -/
mutual
def De (H : Hp) : PyData → V → Prop
  | .none, v => v = .non
  | .bool b, v => v = .bl b
  | .int i, v => v = .int i
  | .str x, v => v = .str x
  | .list ds, v => ∃ a xs, v = .ref a ∧ H a = some (.lst xs) ∧ DeAll H ds xs
  | .tuple ds, v => ∃ a xs, v = .ref a ∧ PT H a xs ∧ DeAll H ds xs
  | .dict _, _ => False
def DeAll (H : Hp) : List PyData → List V → Prop
  | [], xs => xs = []
  | d :: ds, xs => ∃ v vs, xs = v :: vs ∧ De H d v ∧ DeAll H ds vs
end
mutual
theorem De.keep {H H' : Hp} (k : ∀ b o, H b = some o → H' b = some o) : ∀ (d : PyData) (v : V), De H d v → De H' d v
  | .none, _, h => h
  | .bool _, _, h => h
  | .int _, _, h => h
  | .str _, _, h => h
  | .list ds, _, h => by
    obtain ⟨a, xs, e, ha, hs⟩ := h
    exact ⟨a, xs, e, k _ _ ha, DeAll.keep k ds xs hs⟩
  | .tuple ds, _, h => by
    obtain ⟨a, xs, e, ha, hs⟩ := h
    exact ⟨a, xs, e, ha.keep k, DeAll.keep k ds xs hs⟩
  | .dict _, _, h => h.elim
theorem DeAll.keep {H H' : Hp} (k : ∀ b o, H b = some o → H' b = some o) : ∀ (ds : List PyData) (xs : List V), DeAll H ds xs → DeAll H' ds xs
  | [], _, h => h
  | d :: ds, _, h => by
    obtain ⟨v, vs, e, h1, h2⟩ := h
    exact ⟨v, vs, e, De.keep k d v h1, DeAll.keep k ds vs h2⟩
end
theorem DeAll.len {H : Hp} : ∀ {ds : List PyData} {xs : List V}, DeAll H ds xs → xs.length = ds.length
  | [], _, h => by
    cases (show _ = [] from h)
    rfl
  | d :: ds, _, h => by
    obtain ⟨v, vs, rfl, _, h2⟩ := h
    rw [List.length_cons, List.length_cons, DeAll.len h2]
theorem DeAll.at {H : Hp} : ∀ {ds : List PyData} {xs : List V} {i : Nat} {x : V}, DeAll H ds xs → xs[i]? = some x → ∃ d, ds[i]? = some d ∧ De H d x
  | [], _, i, x, h, e => by
    cases (show _ = [] from h)
    simp at e
  | d :: ds, _, 0, x, h, e => by
    obtain ⟨v, vs, rfl, h1, _⟩ := h
    cases (Option.some.inj e)
    exact ⟨d, rfl, h1⟩
  | d :: ds, _, i + 1, x, h, e => by
    obtain ⟨v, vs, rfl, _, h2⟩ := h
    exact DeAll.at (i := i) h2 e
theorem DeAll.snoc {H : Hp} : ∀ {ds : List PyData} {xs : List V} {d : PyData} {x : V}, DeAll H ds xs → De H d x → DeAll H (ds ++ [d]) (xs ++ [x])
  | [], _, d, x, h, e => by
    cases (show _ = [] from h)
    exact ⟨x, [], rfl, e, rfl⟩
  | c :: ds, _, d, x, h, e => by
    obtain ⟨v, vs, rfl, h1, h2⟩ := h
    exact ⟨v, vs ++ [x], rfl, h1, DeAll.snoc h2 e⟩
mutual
def dpt : PyData → Nat
  | .list ds => dptAll ds + 1
  | .tuple ds => dptAll ds + 1
  | _ => 0
def dptAll : List PyData → Nat
  | [] => 0
  | d :: ds => max (dpt d) (dptAll ds)
end
theorem dptAll_at : ∀ {ds : List PyData} {i : Nat} {d : PyData}, ds[i]? = some d → dpt d ≤ dptAll ds
  | [], i, d, e => by simp at e
  | c :: ds, 0, d, e => by
    cases (Option.some.inj e)
    exact Nat.le_max_left _ _
  | c :: ds, i + 1, d, e => Nat.le_trans (dptAll_at (i := i) e) (Nat.le_max_right _ _)
mutual
def toLists : PyData → PyData
  | .list ds => .list (toListsAll ds)
  | .tuple ds => .list (toListsAll ds)
  | d => d
def toListsAll : List PyData → List PyData
  | [] => []
  | d :: ds => toLists d :: toListsAll ds
end
mutual
def toTuples : PyData → PyData
  | .list ds => .tuple (toTuplesAll ds)
  | .tuple ds => .tuple (toTuplesAll ds)
  | d => d
def toTuplesAll : List PyData → List PyData
  | [] => []
  | d :: ds => toTuples d :: toTuplesAll ds
end
theorem toListsAll_eq : ∀ ds : List PyData, toListsAll ds = ds.map toLists
  | [] => by unfold toListsAll; rfl
  | d :: ds => by unfold toListsAll; rw [toListsAll_eq ds]; rfl
theorem toTuplesAll_eq : ∀ ds : List PyData, toTuplesAll ds = ds.map toTuples
  | [] => by unfold toTuplesAll; rfl
  | d :: ds => by unfold toTuplesAll; rw [toTuplesAll_eq ds]; rfl
def tyN : PyData → String
  | .none => "NoneType"
  | .bool _ => "bool"
  | .int _ => "int"
  | .str _ => "str"
  | .list _ => "list"
  | .tuple _ => "tuple"
  | .dict _ => "dict"
def isSeq : PyData → Bool
  | .list _ => true
  | .tuple _ => true
  | _ => false
theorem De.ty {K : PySem.W.Frag} {H : Hp} : ∀ {d : PyData} {v : V}, De H d v → TyX K H v (.type (tyN d))
  | .none, _, h => by cases (show _ = _ from h); exact .base .non
  | .bool b, _, h => by cases (show _ = _ from h); exact .base (.bl b)
  | .int i, _, h => by cases (show _ = _ from h); exact .base (.int i)
  | .str x, _, h => by cases (show _ = _ from h); exact .base (.str x)
  | .list ds, _, h => by
    obtain ⟨a, xs, rfl, ha, _⟩ := h
    exact .base (.lst ha)
  | .tuple ds, _, h => by
    obtain ⟨a, xs, rfl, ⟨o, ha, _⟩, _⟩ := h
    exact .fTuple ha
  | .dict _, _, h => h.elim
theorem kit_two {K : PySem.W.Frag} {t a b : String} {x y r : Bool} (h1 : kitB t a = some x) (h2 : kitB t b = some y) (e : r = (x || y)) : PySem.W.kitAny K (.type t) [.type a, .type b] = some r := by
  subst e
  refine kitAny_cons (kit_ty h1) (fun hx => ?_) (fun hx => by rw [hx]; rfl)
  rw [hx]
  refine kitAny_cons (kit_ty h2) (fun hy => ?_) (fun hy => by rw [hy]; rfl)
  rw [hy]
  exact kitAny_nil
theorem kit_seq {K : PySem.W.Frag} : ∀ d : PyData, PySem.W.kitAny K (.type (tyN d)) [.type "list", .type "tuple"] = some (isSeq d)
  | .none => kit_two (t := "NoneType") (x := false) (y := false) (by decide +kernel) (by decide +kernel) rfl
  | .bool _ => kit_two (t := "bool") (x := false) (y := false) (by decide +kernel) (by decide +kernel) rfl
  | .int _ => kit_two (t := "int") (x := false) (y := false) (by decide +kernel) (by decide +kernel) rfl
  | .str _ => kit_two (t := "str") (x := false) (y := false) (by decide +kernel) (by decide +kernel) rfl
  | .list _ => kit_two (t := "list") (x := true) (y := false) (by decide +kernel) (by decide +kernel) rfl
  | .tuple _ => kit_two (t := "tuple") (x := false) (y := true) (by decide +kernel) (by decide +kernel) rfl
  | .dict _ => kit_two (t := "dict") (x := false) (y := false) (by decide +kernel) (by decide +kernel) rfl
theorem cls_two {a b : String} : Paired ClsV [.ty a, .ty b] [.type a, .type b] := .cons (.ty a) (.cons (.ty b) .nil)
/-- what is new in H', seen from H, stands so in H'' -/
def Fresh (H H' H'' : Hp) : Prop := ∀ b o, H b = none → H' b = some o → H'' b = some o
end Nal

namespace Nal
open PySem L2
mutual
def okw : PyData → Prop
  | .list ds => ds.length ≤ 1000 ∧ okwAll ds
  | .tuple ds => ds.length ≤ 1000 ∧ okwAll ds
  | _ => True
def okwAll : List PyData → Prop
  | [] => True
  | d :: ds => okw d ∧ okwAll ds
end
theorem okwAll_at : ∀ {ds : List PyData} {i : Nat} {d : PyData}, okwAll ds → ds[i]? = some d → okw d
  | [], i, d, _, e => by simp at e
  | c :: ds, 0, d, h, e => by
    cases (Option.some.inj e)
    exact h.1
  | c :: ds, i + 1, d, h, e => okwAll_at (i := i) h.2 e
section
variable {P : Program} {w : World} {K : PySem.W.Frag} {mg : Str → Option Value} {base : Heap}
theorem ok_never {f : Addr} {fd : FuncData} {ps : List Str} {k : Nat} : FnOk P w K mg base CX0 k f fd ps (fun _ _ _ _ => False) :=
  ⟨fun _ _ _ _ h => h.elim, fun _ _ _ _ _ _ _ _ _ _ _ _ _ h => h.elim⟩
end
end Nal

namespace Nal
open PySem L2 RZ
abbrev s_law_same : Stmt := topS 19
abbrev N_law_same : List Str := ["_law_got", "_law_due", "_law_lot_so", "_law_mine", "_law_its"]
abbrev P_law_same : List Str := ["_law_got", "_law_due"]
theorem sc_law_same : FnScope ["_law_got", "_law_due", "_law_lot_so", "_law_mine", "_law_its"] ["_law_got", "_law_due"] (defScope s_law_same) := ⟨rfl, rfl, rfl, by decide +kernel, rfl, by decide +kernel, by decide +kernel⟩
theorem walk_zipT {K : PySem.W.Frag} {a b : Addr} {xs ys : List V} {n : Nat} (hn : n = min xs.length ys.length) : Walk (ItzT K a b) n (fun H => SqT K H a xs ∧ SqT K H b ys) (YPair (fun i => xs[i]?) (fun i => ys[i]?)) := by
  subst hn
  refine ⟨fun i _ hi q => ?_, fun _ q => ⟨xs, ys, q.1, q.2, (by omega)⟩, fun i H v H' _ q y => ?_⟩
  · have h1 : i < xs.length := by omega
    have h2 : i < ys.length := by omega
    exact ⟨xs, ys, xs[i], ys[i], q.1, q.2, List.getElem?_eq_getElem h1, List.getElem?_eq_getElem h2⟩
  · obtain ⟨T, x, z, e1, e2, e3, e4, e5⟩ := y
    exact ⟨T, x, z, e1, e2, e3, e4 xs q.1, e5 ys q.2⟩
theorem all_true (n : Nat) : (List.replicate n true).all id = true := by
  induction n with
  | zero => rfl
  | succ n ih => rw [List.replicate_succ, List.all_cons, ih]; rfl
section
variable {P : Program} {w : World} {K : PySem.W.Frag} {mg : Str → Option Value} {base : Heap}
/-- the very same data twice: True -/
def spSame : Nat → Sp
  | 0 => fun _ _ _ _ => False
  | n + 1 => fun vs H Q _ => ∃ (d : PyData) (x y : V), vs = [x, y] ∧ De H d x ∧ De H d y ∧ dpt d ≤ n ∧ okw d ∧ ∀ H', Same H H' → Q (.bl true) H'
theorem kit_b {K : PySem.W.Frag} {t a : String} {r : Bool} (h : kitB t a = some r) : PySem.W.kitOne K (.type t) (.type a) = some r := kit_ty h
theorem ok_same {f : Addr} {fd : FuncData} (F : Fun K "_law_same" "_law_same" s_law_same f fd) (T : Txt K mg) (m_law_same : mg "_law_same" = some (.ref f)) (k_law_same : PySem.W.keepIn K (.ref f) = true)
    (b_law_same : Binds K fd ["_law_got", "_law_due"] []) : ∀ n, FnOk P w K mg base CX0 n f fd ["_law_got", "_law_due"] (spSame n)
  | 0 => ok_never
  | n + 1 => by
    have G_law_same := ok_same F T m_law_same k_law_same b_law_same n
    refine F.ok sc_law_same (fun vs H Q E h => ?_) (fun cdv A outer s H vs Q E hr h => ?_)
    · obtain ⟨d, x, y, rfl, _⟩ := h
      rfl
    · obtain ⟨d, x, y, rfl, hx, hy, hn, hw, k⟩ := h
      refine ⟨_, (pss_cons (ps_if (pt_val (pe_callB (r := rIsiT K) call_isiT (by rfl) T.b_isinstance (by decide +kernel) (pa_cons (pv 1) (pa_cons (pe_tup (pa_cons (pe_bltn (v := .ty "list") (u := .type "list") (by rfl) T.b_list (by decide +kernel) (by rfl)) (pa_cons (pe_bltn (v := .ty "tuple") (u := .type "tuple") (by rfl) T.b_tuple (by decide +kernel) (by rfl)) pa_nil))) pa_nil)))) (pss_cons (ps_if (PW.pt (pw_or (pt_cmpR op_ne (pe_callB (r := rIsi K) call_isi (by rfl) T.b_isinstance (by decide +kernel) (pa_cons (pv 0) (pa_cons (pe_bltn (v := .ty "list") (u := .type "list") (by rfl) T.b_list (by decide +kernel) (by rfl)) pa_nil))) (pe_callB (r := rIsi K) call_isi (by rfl) T.b_isinstance (by decide +kernel) (pa_cons (pv 1) (pa_cons (pe_bltn (v := .ty "list") (u := .type "list") (by rfl) T.b_list (by decide +kernel) (by rfl)) pa_nil))) (nomark _)) (pw_or1 (pt_cmpR op_ne (pe_callB (r := rIsi K) call_isi (by rfl) T.b_isinstance (by decide +kernel) (pa_cons (pv 0) (pa_cons (pe_bltn (v := .ty "tuple") (u := .type "tuple") (by rfl) T.b_tuple (by decide +kernel) (by rfl)) pa_nil))) (pe_callB (r := rIsi K) call_isi (by rfl) T.b_isinstance (by decide +kernel) (pa_cons (pv 1) (pa_cons (pe_bltn (v := .ty "tuple") (u := .type "tuple") (by rfl) T.b_tuple (by decide +kernel) (by rfl)) pa_nil))) (nomark _))))) (pss_one (ps_ret pe_bl)) pss_nil)
      (pss_one (ps_ret (pe_and (pe_cmpR op_eq (pe_callB (r := rLn K) call_len_seq (by rfl) T.b_len (by decide +kernel) (pa_cons (pv 0) pa_nil)) (pe_callB (r := rLn K) call_len_seq (by rfl) T.b_len (by decide +kernel) (pa_cons (pv 1) pa_nil)) (nomark _)) (pe_one (pe_callB (r := rAll K) (cr_all rfl) (by rfl) T.b_all (by decide +kernel) (pa_cons (pe_lc (own := [("_law_mine", 3), ("_law_its", 4)]) (g := (gTup K 2 (gCons (gName 3) (gCons (gName 4) gNil)))) (tt := tYes) rfl sc_law_same.nd (pi_zipA (by rfl) T.b_zip (pa_cons (pv 0) (pa_cons (pv 1) pa_nil))) (blkOk_by (own := [("_law_mine", 3), ("_law_its", 4)]) (N := ["_law_got", "_law_due", "_law_lot_so", "_law_mine", "_law_its"]) (sc := defScope s_law_same) (by decide +kernel)) (fun _ _ _ _ _ => (pg_tup rfl (pgs_cons (pg_name (i := 3) sc_law_same.nd rfl (Or.inl rfl)) (pgs_cons (pg_name (i := 4) sc_law_same.nd rfl (Or.inl rfl)) pgs_nil)))) (fun _ _ _ _ _ => pts_nil) (fun _ _ _ _ _ => (pe_call G_law_same hr rfl m_law_same k_law_same b_law_same .nil pass0 (pa_cons (pv 3) (pa_cons (pv 4) pa_nil))))) pa_nil))))))) pss_nil)
      (pss_cons (ps_if (pt_val (pe_callB (r := rIsi K) call_isi (by rfl) T.b_isinstance (by decide +kernel) (pa_cons (pv 1) (pa_cons (pe_bltn (v := .ty "dict") (u := .type "dict") (by rfl) T.b_dict (by decide +kernel) (by rfl)) pa_nil)))) (pss_cons ps_never
      (pss_one ps_never)) pss_nil)
      (pss_cons (ps_if (PW.pt (pw_or (pt_cmpR op_isN (pv 1) pe_non (nomark _)) (pw_or1 (pt_val (pe_callB (r := rIsiT K) call_isiT (by rfl) T.b_isinstance (by decide +kernel) (pa_cons (pv 1) (pa_cons (pe_tup (pa_cons (pe_bltn (v := .ty "bool") (u := .type "bool") (by rfl) T.b_bool (by decide +kernel) (by rfl)) (pa_cons (pe_bltn (v := .ty "str") (u := .type "str") (by rfl) T.b_str (by decide +kernel) (by rfl)) pa_nil))) pa_nil))))))) (pss_one (ps_ret (pe_and (pe_cmpR op_eq (pv 0) (pv 1) (nomark _)) (pe_and (pe_cmpR op_eq (pe_callB (r := rIsi K) call_isi (by rfl) T.b_isinstance (by decide +kernel) (pa_cons (pv 0) (pa_cons (pe_bltn (v := .ty "bool") (u := .type "bool") (by rfl) T.b_bool (by decide +kernel) (by rfl)) pa_nil))) (pe_callB (r := rIsi K) call_isi (by rfl) T.b_isinstance (by decide +kernel) (pa_cons (pv 1) (pa_cons (pe_bltn (v := .ty "bool") (u := .type "bool") (by rfl) T.b_bool (by decide +kernel) (by rfl)) pa_nil))) (nomark _)) (pe_one (pe_cmpR op_eq (pe_cmpR op_isN (pv 0) pe_non (nomark _)) (pe_cmpR op_isN (pv 1) pe_non (nomark _)) (nomark _))))))) pss_nil)
      (pss_one (ps_ret (pe_and (pe_callB (r := rIsi K) call_isi (by rfl) T.b_isinstance (by decide +kernel) (pa_cons (pv 0) (pa_cons (pe_bltn (v := .ty "int") (u := .type "int") (by rfl) T.b_int (by decide +kernel) (by rfl)) pa_nil))) (pe_and (pe_not (pe_callB (r := rIsi K) call_isi (by rfl) T.b_isinstance (by decide +kernel) (pa_cons (pv 0) (pa_cons (pe_bltn (v := .ty "bool") (u := .type "bool") (by rfl) T.b_bool (by decide +kernel) (by rfl)) pa_nil)))) (pe_one (pe_cmpR op_eq (pv 0) (pv 1) (nomark _)))))))))), ?_⟩
      refine ⟨_, rfl, (by show 2 ≤ sizeLine; decide), fun tp htp => ⟨y, tp, _, _, _, _, rfl, upd_same, cls_two, (hy.keep (same_new htp)).ty, kit_seq d, _, rfl, ?_⟩⟩
      have sm1 := same_new (o := .tup [.ty "list", .ty "tuple"]) htp
      have hx1 := De.keep sm1 d x hx
      have hy1 := De.keep sm1 d y hy
      generalize L2.upd H tp (.tup [.ty "list", .ty "tuple"]) = H1 at sm1 hx1 hy1 ⊢
      cases d with
      | none =>
        cases (show x = .non from hx)
        cases (show y = .non from hy)
        refine iteF ⟨_, rfl, _, _, _, _, _, rfl, .ty "dict", hy1.ty, kit_b (t := "NoneType") (r := false) (by decide +kernel), _, rfl, iteF ?_⟩
        refine ⟨_, rfl, rfl, _, rfl, ite2 (fun _ => iteT ?_) (fun c => (c (decide_eq_true rfl)).elim)⟩
        refine ⟨_, rfl, _, rfl, rfl, _, rfl, ite2 (fun _ => ?_) (fun c => (c (decide_eq_true rfl)).elim)⟩
        refine ⟨_, rfl, _, _, _, _, _, rfl, .ty "bool", hx1.ty, kit_b (t := "NoneType") (r := false) (by decide +kernel), _, rfl, _, _, _, _, _, rfl, .ty "bool", hy1.ty, kit_b (t := "NoneType") (r := false) (by decide +kernel), rfl, _, rfl, ite2 (fun _ => ?_) (fun c => (c (decide_eq_true rfl)).elim)⟩
        exact ⟨_, rfl, rfl, _, rfl, rfl, rfl, k _ sm1⟩
      | bool b =>
        cases (show x = .bl b from hx)
        cases (show y = .bl b from hy)
        refine iteF ⟨_, rfl, _, _, _, _, _, rfl, .ty "dict", hy1.ty, kit_b (t := "bool") (r := false) (by decide +kernel), _, rfl, iteF ?_⟩
        refine ⟨_, rfl, rfl, _, rfl, ite2 (fun c => nomatch (of_decide_eq_true c)) (fun _ => ?_)⟩
        refine ⟨_, rfl, (by show 2 ≤ sizeLine; decide), fun t2 ht2 => ⟨_, t2, _, _, _, _, rfl, upd_same, cls_two, (hy1.keep (same_new ht2)).ty, kit_two (t := "bool") (x := true) (y := false) (r := true) (by decide +kernel) (by decide +kernel) rfl, _, rfl, iteT ?_⟩⟩
        have sm2 := same_new (o := .tup [.ty "bool", .ty "str"]) ht2
        have hx2 := De.keep sm2 _ _ hx1
        have hy2 := De.keep sm2 _ _ hy1
        refine ⟨_, rfl, _, rfl, rfl, _, rfl, ite2 (fun _ => ?_) (fun c => (c (decide_eq_true rfl)).elim)⟩
        refine ⟨_, rfl, _, _, _, _, _, rfl, .ty "bool", hx2.ty, kit_b (t := "bool") (r := true) (by decide +kernel), _, rfl, _, _, _, _, _, rfl, .ty "bool", hy2.ty, kit_b (t := "bool") (r := true) (by decide +kernel), rfl, _, rfl, ite2 (fun _ => ?_) (fun c => (c (decide_eq_true rfl)).elim)⟩
        exact ⟨_, rfl, rfl, _, rfl, rfl, rfl, k _ (sm1.trans sm2)⟩
      | str z =>
        cases (show x = .str z from hx)
        cases (show y = .str z from hy)
        refine iteF ⟨_, rfl, _, _, _, _, _, rfl, .ty "dict", hy1.ty, kit_b (t := "str") (r := false) (by decide +kernel), _, rfl, iteF ?_⟩
        refine ⟨_, rfl, rfl, _, rfl, ite2 (fun c => nomatch (of_decide_eq_true c)) (fun _ => ?_)⟩
        refine ⟨_, rfl, (by show 2 ≤ sizeLine; decide), fun t2 ht2 => ⟨_, t2, _, _, _, _, rfl, upd_same, cls_two, (hy1.keep (same_new ht2)).ty, kit_two (t := "str") (x := false) (y := true) (r := true) (by decide +kernel) (by decide +kernel) rfl, _, rfl, iteT ?_⟩⟩
        have sm2 := same_new (o := .tup [.ty "bool", .ty "str"]) ht2
        have hx2 := De.keep sm2 _ _ hx1
        have hy2 := De.keep sm2 _ _ hy1
        refine ⟨_, rfl, _, rfl, rfl, _, rfl, ite2 (fun _ => ?_) (fun c => (c (decide_eq_true rfl)).elim)⟩
        refine ⟨_, rfl, _, _, _, _, _, rfl, .ty "bool", hx2.ty, kit_b (t := "str") (r := false) (by decide +kernel), _, rfl, _, _, _, _, _, rfl, .ty "bool", hy2.ty, kit_b (t := "str") (r := false) (by decide +kernel), rfl, _, rfl, ite2 (fun _ => ?_) (fun c => (c (decide_eq_true rfl)).elim)⟩
        exact ⟨_, rfl, rfl, _, rfl, rfl, rfl, k _ (sm1.trans sm2)⟩
      | int i =>
        cases (show x = .int i from hx)
        cases (show y = .int i from hy)
        refine iteF ⟨_, rfl, _, _, _, _, _, rfl, .ty "dict", hy1.ty, kit_b (t := "int") (r := false) (by decide +kernel), _, rfl, iteF ?_⟩
        refine ⟨_, rfl, rfl, _, rfl, ite2 (fun c => nomatch (of_decide_eq_true c)) (fun _ => ?_)⟩
        refine ⟨_, rfl, (by show 2 ≤ sizeLine; decide), fun t2 ht2 => ⟨_, t2, _, _, _, _, rfl, upd_same, cls_two, (hy1.keep (same_new ht2)).ty, kit_two (t := "int") (x := false) (y := false) (r := false) (by decide +kernel) (by decide +kernel) rfl, _, rfl, iteF ?_⟩⟩
        have sm2 := same_new (o := .tup [.ty "bool", .ty "str"]) ht2
        have hx2 := De.keep sm2 _ _ hx1
        have hy2 := De.keep sm2 _ _ hy1
        refine ⟨_, rfl, _, _, _, _, _, rfl, .ty "int", hx2.ty, kit_b (t := "int") (r := true) (by decide +kernel), _, rfl, iteT ?_⟩
        refine ⟨_, rfl, _, _, _, _, _, rfl, .ty "bool", hx2.ty, kit_b (t := "int") (r := false) (by decide +kernel), _, rfl, _, rfl, iteT ?_⟩
        refine ⟨_, rfl, _, rfl, rfl, ?_⟩
        have e : decide (V.int i = V.int i) = true := decide_eq_true rfl
        show Q (.bl (decide (V.int i = V.int i))) _
        rw [e]
        exact k _ (sm1.trans sm2)
      | list ds =>
        obtain ⟨a, xs, rfl, ha, hxs⟩ := hx
        obtain ⟨b, ys, rfl, hb, hys⟩ := hy
        have ha1 := sm1 _ _ ha
        have hb1 := sm1 _ _ hb
        have hxs1 := DeAll.keep sm1 ds xs hxs
        have hys1 := DeAll.keep sm1 ds ys hys
        have hle : dptAll ds + 1 ≤ n := hn
        obtain ⟨m, rfl⟩ : ∃ m, n = m + 1 := ⟨n - 1, by omega⟩
        have lx : xs.length = ds.length := hxs.len
        have ly : ys.length = ds.length := hys.len
        refine iteT ⟨_, rfl, _, _, _, _, _, rfl, .ty "list", hx1.ty, kit_b (t := "list") (r := true) (by decide +kernel), _, rfl, _, _, _, _, _, rfl, .ty "list", hy1.ty, kit_b (t := "list") (r := true) (by decide +kernel), rfl, _, rfl, iteF ?_⟩
        refine ⟨_, rfl, _, _, _, _, _, rfl, .ty "tuple", hx1.ty, kit_b (t := "list") (r := false) (by decide +kernel), _, rfl, _, _, _, _, _, rfl, .ty "tuple", hy1.ty, kit_b (t := "list") (r := false) (by decide +kernel), rfl, _, rfl, iteF ?_⟩
        refine ⟨_, rfl, a, _, rfl, .inl (SqL.of ha1), _, rfl, b, _, rfl, .inl (SqL.of hb1), rfl, _, rfl, ite2 (fun _ => ?_) (fun c => (c (decide_eq_true (by rw [lx, ly]))).elim)⟩
        refine ⟨_, rfl, _, rfl, a, b, xs, ys, rfl, .inl ⟨SqL.of ha1, SqL.of hb1, fun D hD => lc_it (w := walk_zip (K := K) (a := a) (b := b) (xs := xs) (ys := ys) (n := ds.length) (by omega))
          (fun i H' => Same H1 H' ∧ H' D = some (.lst ((List.replicate i true).map V.bl))) ⟨same_new hD, upd_same⟩ (fun i H' _ h => ⟨SqL.of (h.1 _ _ ha1), SqL.of (h.1 _ _ hb1)⟩) ?_ ?_⟩⟩
        · rintro i x H2 _ hi ⟨s2, hacc⟩ ⟨T1, x1, y1, rfl, hT1, rfl, e1, e2⟩
          obtain ⟨dx, ex, hdx⟩ := hxs1.at e1
          obtain ⟨dy, ey, hdy⟩ := hys1.at e2
          cases ex.symm.trans ey
          have sT := s2.trans (same_new (o := .tup [x1, y1]) hT1)
          refine ⟨T1, _, rfl, SqT.of upd_same, rfl, _, _, rfl, _, _, rfl, rfl, rfl, ?_⟩
          refine ⟨_, rfl, _, rfl, dx, x1, y1, rfl, De.keep sT _ _ hdx, De.keep sT _ _ hdy, (by have := dptAll_at ex; omega), okwAll_at hw.2 ex, fun H4 s4 => ?_⟩
          have hD4 := s4 _ _ ((same_new (o := .tup [x1, y1]) hT1) _ _ hacc)
          refine ⟨_, hD4, Nat.lt_of_le_of_lt (show _ ≤ 1000 by rw [List.length_map, List.length_replicate]; have := hw.1; omega) (by decide), fun b' o e => ?_, ?_⟩
          · rw [upd_ne (ne_of_none e hD)]
            exact s4 _ _ (sT _ _ e)
          · rw [upd_same, List.replicate_succ', List.map_append]
            rfl
        · rintro H' ⟨s2, hacc⟩
          refine ⟨D, _, rfl, SqL.of hacc, ?_⟩
          rw [all_true]
          exact k H' (sm1.trans s2)
      | tuple ds =>
        obtain ⟨a, xs, rfl, ha, hxs⟩ := hx
        obtain ⟨b, ys, rfl, hb, hys⟩ := hy
        have ha1 := PT.keep sm1 ha
        have hb1 := PT.keep sm1 hb
        have hxs1 := DeAll.keep sm1 ds xs hxs
        have hys1 := DeAll.keep sm1 ds ys hys
        have hle : dptAll ds + 1 ≤ n := hn
        obtain ⟨m, rfl⟩ : ∃ m, n = m + 1 := ⟨n - 1, by omega⟩
        have lx : xs.length = ds.length := hxs.len
        have ly : ys.length = ds.length := hys.len
        refine iteT ⟨_, rfl, _, _, _, _, _, rfl, .ty "list", hx1.ty, kit_b (t := "tuple") (r := false) (by decide +kernel), _, rfl, _, _, _, _, _, rfl, .ty "list", hy1.ty, kit_b (t := "tuple") (r := false) (by decide +kernel), rfl, _, rfl, iteF ?_⟩
        refine ⟨_, rfl, _, _, _, _, _, rfl, .ty "tuple", hx1.ty, kit_b (t := "tuple") (r := true) (by decide +kernel), _, rfl, _, _, _, _, _, rfl, .ty "tuple", hy1.ty, kit_b (t := "tuple") (r := true) (by decide +kernel), rfl, _, rfl, iteF ?_⟩
        refine ⟨_, rfl, a, _, rfl, .inr (PT.sq ha1), _, rfl, b, _, rfl, .inr (PT.sq hb1), rfl, _, rfl, ite2 (fun _ => ?_) (fun c => (c (decide_eq_true (by rw [lx, ly]))).elim)⟩
        refine ⟨_, rfl, _, rfl, a, b, xs, ys, rfl, .inr ⟨PT.sq ha1, PT.sq hb1, fun D hD => lc_it (w := walk_zipT (K := K) (a := a) (b := b) (xs := xs) (ys := ys) (n := ds.length) (by omega))
          (fun i H' => Same H1 H' ∧ H' D = some (.lst ((List.replicate i true).map V.bl))) ⟨same_new hD, upd_same⟩ (fun i H' _ h => ⟨PT.sq (PT.keep h.1 ha1), PT.sq (PT.keep h.1 hb1)⟩) ?_ ?_⟩⟩
        · rintro i x H2 _ hi ⟨s2, hacc⟩ ⟨T1, x1, y1, rfl, hT1, rfl, e1, e2⟩
          obtain ⟨dx, ex, hdx⟩ := hxs1.at e1
          obtain ⟨dy, ey, hdy⟩ := hys1.at e2
          cases ex.symm.trans ey
          have sT := s2.trans (same_new (o := .tup [x1, y1]) hT1)
          refine ⟨T1, _, rfl, SqT.of upd_same, rfl, _, _, rfl, _, _, rfl, rfl, rfl, ?_⟩
          refine ⟨_, rfl, _, rfl, dx, x1, y1, rfl, De.keep sT _ _ hdx, De.keep sT _ _ hdy, (by have := dptAll_at ex; omega), okwAll_at hw.2 ex, fun H4 s4 => ?_⟩
          have hD4 := s4 _ _ ((same_new (o := .tup [x1, y1]) hT1) _ _ hacc)
          refine ⟨_, hD4, Nat.lt_of_le_of_lt (show _ ≤ 1000 by rw [List.length_map, List.length_replicate]; have := hw.1; omega) (by decide), fun b' o e => ?_, ?_⟩
          · rw [upd_ne (ne_of_none e hD)]
            exact s4 _ _ (sT _ _ e)
          · rw [upd_same, List.replicate_succ', List.map_append]
            rfl
        · rintro H' ⟨s2, hacc⟩
          refine ⟨D, _, rfl, SqL.of hacc, ?_⟩
          rw [all_true]
          exact k H' (sm1.trans s2)
      | dict kvs => exact hx.elim
end
end Nal

namespace Nal
open PySem L2 RZ
abbrev s_law_task : Stmt := topS 20
abbrev N_law_task : List Str := ["_law_tin", "_law_many", "_law_full", "_law_tags", "_law_spots", "_law_first", "_law_ends", "_law_way_so", "_law_ways", "_law_letter", "_law_k"]
abbrev P_law_task : List Str := ["_law_tin", "_law_many", "_law_full"]
theorem sc_law_task : FnScope ["_law_tin", "_law_many", "_law_full", "_law_tags", "_law_spots", "_law_first", "_law_ends", "_law_way_so", "_law_ways", "_law_letter", "_law_k"] ["_law_tin", "_law_many", "_law_full"] (defScope s_law_task) := ⟨rfl, rfl, rfl, by decide +kernel, rfl, by decide +kernel, by decide +kernel⟩
/-! ### jobs -/
/-- the tags that are drawn from -/
def tagP (c : Nat) : Str := Str.ofString "p" ++ (⟨#[c]⟩ : Str)
def tagQ (c : Nat) : Str := Str.ofString "q" ++ (⟨#[c]⟩ : Str)
def tagsP : List Str := (Str.ofString "abcdefghijklmnopqrstuvwxyz").cps.toList.map tagP
def tagsQ : List Str := (Str.ofString "abcdefghijklmn").cps.toList.map tagQ
def tagsL : List Str := tagsP ++ tagsQ
theorem tags_len : tagsL.length = 40 := by decide +kernel
theorem tagsP_len : tagsP.length = 26 := by decide +kernel
theorem tagsQ_len : tagsQ.length = 14 := by decide +kernel
theorem tags_nodup : tagsL.Nodup := by decide +kernel
theorem len_p (c : Nat) : (Str.ofString "p").length + (⟨#[c]⟩ : Str).length ≤ sizeLine := by
  have e : (Str.ofString "p").length = 1 := by decide +kernel
  rw [e]
  show 1 + 1 ≤ sizeLine
  decide
theorem len_q (c : Nat) : (Str.ofString "q").length + (⟨#[c]⟩ : Str).length ≤ sizeLine := by
  have e : (Str.ofString "q").length = 1 := by decide +kernel
  rw [e]
  show 1 + 1 ≤ sizeLine
  decide
def optD : Option Str → PyData
  | none => .none
  | some x => .str x
def wayD (g : Str × Option Str) : PyData := .tuple [.str g.1, optD g.2]
/-- a job: its places, and for each box where it goes -/
structure Jb where
  ps : List Str
  gs : List (Str × Option Str)
def jobD (J : Jb) : PyData := .tuple [.tuple (J.ps.map .str), .tuple (J.gs.map wayD)]
def endsOf (J : Jb) : List Str := J.gs.filterMap (·.2)
structure Jb.Good (J : Jb) : Prop where
  some_ : J.ps ≠ []
  from_ : ∃ n, J.ps = tagsL.take n
  inP : ∀ b ∈ J.gs.map (·.1), b ∈ J.ps
  up : PyProof.Rows.sortedS (J.gs.map (·.1)) = true
  nd : (J.gs.map (·.1)).Nodup
  endP : ∀ e ∈ endsOf J, e ∈ J.ps
  endN : (endsOf J).Nodup
theorem Jb.Good.len {J : Jb} (g : J.Good) : J.ps.length ≤ 40 := by
  obtain ⟨n, e⟩ := g.from_
  rw [e, List.length_take, tags_len]
  omega
theorem nodup_len {α : Type} [DecidableEq α] : ∀ {l m : List α}, l.Nodup → (∀ x ∈ l, x ∈ m) → l.length ≤ m.length
  | [], _, _, _ => Nat.zero_le _
  | x :: r, m, h, hs => by
    have h2 : r.length ≤ (m.erase x).length := nodup_len (List.nodup_cons.mp h).2 fun y hy => by
      have ne : y ≠ x := fun e => (List.nodup_cons.mp h).1 (e ▸ hy)
      exact (List.mem_erase_of_ne ne).mpr (hs y (List.mem_cons_of_mem _ hy))
    have h3 := List.length_erase_of_mem (hs x List.mem_cons_self)
    have h4 : 0 < m.length := List.length_pos_of_mem (hs x List.mem_cons_self)
    rw [List.length_cons]
    omega
theorem Jb.Good.glen {J : Jb} (g : J.Good) : J.gs.length ≤ 40 := by
  have h := nodup_len g.nd g.inP
  rw [List.length_map] at h
  exact Nat.le_trans h g.len
def unS : V → Str
  | .str x => x
  | _ => ⟨#[]⟩
theorem unS_map (l : List Str) : (l.map V.str).map unS = l := by
  rw [List.map_map]
  exact List.map_id l
theorem all_str : ∀ {ys : List V}, (∀ y ∈ ys, ∃ x, y = V.str x) → ys = (ys.map unS).map V.str
  | [], _ => rfl
  | y :: r, h => by
    obtain ⟨x, e⟩ := h y List.mem_cons_self
    rw [List.map_cons, List.map_cons, ← all_str fun z hz => h z (List.mem_cons_of_mem _ hz), e]
    rfl
/-- what is picked from texts is texts -/
theorem picked {ys rest : List V} {ps : List Str} (h : (ys ++ rest).Perm (ps.map V.str)) : ∃ ss rs : List Str, ys = ss.map V.str ∧ (ss ++ rs).Perm ps := by
  have hy : ∀ y ∈ ys, ∃ x, y = V.str x := fun y hm => by
    obtain ⟨x, _, e⟩ := List.mem_map.mp (h.mem_iff.mp (List.mem_append_left _ hm))
    exact ⟨x, e.symm⟩
  refine ⟨ys.map unS, rest.map unS, all_str hy, ?_⟩
  have q := h.map unS
  rw [unS_map, List.map_append] at q
  exact q
end Nal

namespace Nal
open PySem L2 RZ
theorem cut_tags (d : Int) (h0 : 0 ≤ d) (xs : List Str) : ∃ n : Nat, 0 < n ∧ cutV (xs.map V.str) none (some (1 + d)) = (xs.take n).map V.str := by
  obtain ⟨j, rfl⟩ : ∃ j : Nat, d = (j : Int) := ⟨d.toNat, by omega⟩
  unfold cutV
  have e : HT.sIx (xs.map V.str).length 0 none = 0 := rfl
  have e2 : HT.sIx (xs.map V.str).length (xs.map V.str).length (some (1 + (j : Int))) = min (1 + j) (xs.map V.str).length := by
    have q := HT.sIx_nat (xs.map V.str).length (xs.map V.str).length (1 + j)
    rwa [show (((1 + j : Nat)) : Int) = 1 + (j : Int) by omega] at q
  rw [e, e2, List.drop_zero, List.length_map, ← List.map_take]
  refine ⟨1 + j, by omega, ?_⟩
  congr 1
  rcases Nat.le_total (1 + j) xs.length with h | h
  · rw [Nat.min_eq_left h, Nat.sub_zero]
  · rw [Nat.min_eq_right h, Nat.sub_zero, List.take_of_length_le (Nat.le_refl _), List.take_of_length_le h]
theorem SameBut.not_new {a p : Addr} {H H' : Hp} (x : SameBut a H H') (hp : H' p = none) (hpa : p ≠ a) : H p = none := by
  cases e : H p with
  | none => rfl
  | some o => rw [x _ _ hpa e] at hp; cases hp
/-- a list that holds something else is not the draws' -/
def isInt : V → Bool
  | .int _ => true
  | _ => false
theorem Tin.neOf {H : Hp} {t p : Addr} {n : Nat} {xs : List V} (h : Tin H t n) (hp : H p = some (.lst xs)) (hx : (xs.all isInt && xs.length == 3) = false) : p ≠ t := by
  intro e
  obtain ⟨a, b, c, q, _⟩ := h
  rw [e, q] at hp
  cases hp
  cases hx
theorem lit_ne (ss : List Str) : ((ss.map V.str).all isInt && (ss.map V.str).length == 3) = false := by
  cases ss with
  | nil => rfl
  | cons x r => rfl
theorem acc_small {f : Nat → Str} {i n : Nat} {l : List Nat} (h : i < n) (hn : n ≤ 1000) : (((l.take i).map f).map V.str).length < sizeLine := by
  refine Nat.lt_of_le_of_lt (m := 1000) ?_ (by decide)
  rw [List.length_map, List.length_map, List.length_take]
  omega
theorem str_at {ss : List Str} {j : Nat} (h : j < ss.length) : (ss.map V.str)[j]? = some (V.str ss[j]) := by
  rw [List.getElem?_map, List.getElem?_eq_getElem h]
  rfl
def optV : Option Str → V
  | none => .non
  | some x => .str x
theorem wayV (H : Hp) (x : Str) (o : Option Str) : DeAll H [.str x, optD o] [.str x, optV o] := by
  cases o with
  | none => exact ⟨_, _, rfl, rfl, _, _, rfl, rfl, rfl⟩
  | some y => exact ⟨_, _, rfl, rfl, _, _, rfl, rfl, rfl⟩
theorem ends_ok : ∀ (os : List (Option Str)) (es : List Str), (∀ (k : Nat) (o : Str), os[k]? = some (some o) → es[k]? = some o) → es.Nodup → (os.filterMap id).Nodup ∧ ∀ x ∈ os.filterMap id, x ∈ es
  | [], _, _, _ => ⟨List.nodup_nil, fun x h => by cases h⟩
  | none :: os, [], h, hn => by
    have q := ends_ok os [] (fun k o e => by have z := h (k + 1) o e; simp at z) hn
    exact q
  | some x :: os, [], h, _ => by
    have z := h 0 x rfl
    simp at z
  | none :: os, y :: es, h, hn => by
    have q := ends_ok os es (fun k o e => h (k + 1) o e) (List.nodup_cons.mp hn).2
    exact ⟨q.1, fun x hx => List.mem_cons_of_mem _ (q.2 x hx)⟩
  | some x :: os, y :: es, h, hn => by
    have q := ends_ok os es (fun k o e => h (k + 1) o e) (List.nodup_cons.mp hn).2
    have e : y = x := Option.some.inj (h 0 x rfl)
    subst e
    refine ⟨List.nodup_cons.mpr ⟨fun hm => (List.nodup_cons.mp hn).1 (q.2 _ hm), q.1⟩, fun z hz => ?_⟩
    rcases List.mem_cons.mp hz with rfl | hz
    · exact List.mem_cons_self
    · exact List.mem_cons_of_mem _ (q.2 z hz)
theorem strs_all (H : Hp) : ∀ l : List Str, DeAll H (l.map .str) (l.map V.str)
  | [] => rfl
  | x :: r => ⟨_, _, rfl, rfl, strs_all H r⟩
section
variable {P : Program} {w : World} {K : PySem.W.Frag} {mg : Str → Option Value} {base : Heap}
/-- a drawn job, of tuples -/
def spTask : Sp := fun vs H Q _ => ∃ (t : Addr) (many full : Int) (m : Nat), vs = [.ref t, .int many, .int full] ∧ Tin H t m ∧ m ≤ 900000 ∧ 0 < many ∧ many ≤ 40 ∧ 0 ≤ full ∧ full ≤ 39 ∧
  ∀ (r : V) (H' : Hp) (J : Jb), J.Good → SameBut t H H' → Tin H' t (m + 300) → (∀ H'', Fresh H H' H'' → De H'' (jobD J) r) → Q r H'
theorem ok_task {f f1 f2 : Addr} {fd fd_take fd_pick : FuncData} (F : Fun K "_law_task" "_law_task" s_law_task f fd) (T : Txt K mg) (G_law_take : FnOk P w K mg base CX0 1 f1 fd_take ["_law_tin", "_law_top_so"] spTake) (m_law_take : mg "_law_take" = some (.ref f1)) (k_law_take : PySem.W.keepIn K (.ref f1) = true)
    (b_law_take : Binds K fd_take ["_law_tin", "_law_top_so"] []) (G_law_pick : FnOk P w K mg base CX0 2 f2 fd_pick ["_law_tin", "_law_pool", "_law_size_so"] (spPick K)) (m_law_pick : mg "_law_pick" = some (.ref f2)) (k_law_pick : PySem.W.keepIn K (.ref f2) = true)
    (b_law_pick : Binds K fd_pick ["_law_tin", "_law_pool", "_law_size_so"] []) : FnOk P w K mg base CX0 3 f fd ["_law_tin", "_law_many", "_law_full"] spTask := by
  refine F.ok sc_law_task (fun vs H Q E h => ?_) (fun cdv A outer s H vs Q E hr h => ?_)
  · obtain ⟨t, many, full, m, rfl, _⟩ := h
    rfl
  · obtain ⟨t, many, full, m, rfl, hT, hm, m1, m2, f1', f2', k⟩ := h
    refine ⟨_, (pss_cons (ps_setLc (i := 3) (own := [("_law_letter", 9)]) (g := (gName 9)) (tt := tYes) rfl sc_law_task.nd rfl rfl (sw_true rfl rfl rfl (by decide +kernel)) (pi_str pe_str) (blkOk_by (own := [("_law_letter", 9)]) (N := ["_law_tin", "_law_many", "_law_full", "_law_tags", "_law_spots", "_law_first", "_law_ends", "_law_way_so", "_law_ways", "_law_letter", "_law_k"]) (sc := defScope s_law_task) (by decide +kernel)) (fun _ _ _ _ _ => (pg_name (i := 9) sc_law_task.nd rfl (Or.inl rfl))) (fun _ _ _ _ _ => pts_nil) (fun _ _ _ _ _ => (pe_op op_add_str pe_str (pv 9))))
      (pss_cons (ps_set (i := 3) sc_law_task.nd rfl (Or.inl rfl) (pe_op op_cat (pv 3) (pe_lc (own := [("_law_letter", 9)]) (g := (gName 9)) (tt := tYes) rfl sc_law_task.nd (pi_str pe_str) (blkOk_by (own := [("_law_letter", 9)]) (N := ["_law_tin", "_law_many", "_law_full", "_law_tags", "_law_spots", "_law_first", "_law_ends", "_law_way_so", "_law_ways", "_law_letter", "_law_k"]) (sc := defScope s_law_task) (by decide +kernel)) (fun _ _ _ _ _ => (pg_name (i := 9) sc_law_task.nd rfl (Or.inl rfl))) (fun _ _ _ _ _ => pts_nil) (fun _ _ _ _ _ => (pe_op op_add_str pe_str (pv 9))))))
      (pss_cons (ps_set (i := 4) sc_law_task.nd rfl (Or.inl rfl) (pe_slice sl_list (pv 3) po_none (po_some (pe_op op_add pe_int (pe_call G_law_take (hr.mono (by decide)) rfl m_law_take k_law_take b_law_take .nil pass0 (pa_cons (pv 0) (pa_cons (pv 1) pa_nil)))))))
      (pss_cons (ps_set (i := 5) sc_law_task.nd rfl (Or.inr rfl) (pe_callB (r := rSortedS K) cr_sortedS (by rfl) T.b_sorted (by decide +kernel) (pa_cons (pe_call G_law_pick (hr.mono (by decide)) rfl m_law_pick k_law_pick b_law_pick .nil pass0 (pa_cons (pv 0) (pa_cons (pv 4) (pa_cons (pe_callB (call_min2 rfl) (by rfl) T.b_min (by decide +kernel) (pa_cons (pe_callB (r := rLn K) call_len_seq (by rfl) T.b_len (by decide +kernel) (pa_cons (pv 4) pa_nil)) (pa_cons (pe_call G_law_take (hr.mono (by decide)) rfl m_law_take k_law_take b_law_take .nil pass0 (pa_cons (pv 0) (pa_cons (pe_op op_add (pv 2) pe_int) pa_nil))) pa_nil))) pa_nil)))) pa_nil)))
      (pss_cons (ps_set (i := 6) sc_law_task.nd rfl (Or.inr rfl) (pe_call G_law_pick (hr.mono (by decide)) rfl m_law_pick k_law_pick b_law_pick .nil pass0 (pa_cons (pv 0) (pa_cons (pv 4) (pa_cons (pe_callB (r := rLn K) call_len_seq (by rfl) T.b_len (by decide +kernel) (pa_cons (pv 5) pa_nil)) pa_nil)))))
      (pss_cons (ps_set (i := 7) sc_law_task.nd rfl (Or.inl rfl) (pe_call G_law_take (hr.mono (by decide)) rfl m_law_take k_law_take b_law_take .nil pass0 (pa_cons (pv 0) (pa_cons pe_int pa_nil))))
      (pss_cons (ps_if (PW.pt (pw_and (pt_cmpR op_eq (pv 7) pe_int (nomark _)) (pw_and1 (pt_cmpR op_gt (pe_callB (r := rLn K) call_len_seq (by rfl) T.b_len (by decide +kernel) (pa_cons (pv 5) pa_nil)) pe_int (nomark _))))) (pss_one (ps_set (i := 6) sc_law_task.nd rfl (Or.inr rfl) (pe_call G_law_pick (hr.mono (by decide)) rfl m_law_pick k_law_pick b_law_pick .nil pass0 (pa_cons (pv 0) (pa_cons (pv 5) (pa_cons (pe_callB (r := rLn K) call_len_seq (by rfl) T.b_len (by decide +kernel) (pa_cons (pv 5) pa_nil)) pa_nil)))))) pss_nil)
      (pss_cons (ps_setLc (i := 8) (own := [("_law_k", 10)]) (g := (gName 10)) (tt := tYes) rfl sc_law_task.nd rfl rfl (sw_true rfl rfl rfl (by decide +kernel)) (pi_range1 (by rfl) T.b_range (pa_cons (pe_callB (r := rLn K) call_len_seq (by rfl) T.b_len (by decide +kernel) (pa_cons (pv 5) pa_nil)) pa_nil)) (blkOk_by (own := [("_law_k", 10)]) (N := ["_law_tin", "_law_many", "_law_full", "_law_tags", "_law_spots", "_law_first", "_law_ends", "_law_way_so", "_law_ways", "_law_letter", "_law_k"]) (sc := defScope s_law_task) (by decide +kernel)) (fun _ _ _ _ _ => (pg_name (i := 10) sc_law_task.nd rfl (Or.inl rfl))) (fun _ _ _ _ _ => pts_nil) (fun _ _ _ _ _ => (pe_tupF (pa_cons (pe_ix (r := rIxL K) ix_list (pv 5) (pv 10) (fun _ _ => rfl)) (pa_cons (pe_ifExp (pt_cmpR op_gt (pe_call G_law_take (hr.mono (by decide)) rfl m_law_take k_law_take b_law_take .nil pass0 (pa_cons (pv 0) (pa_cons pe_int pa_nil))) pe_int (nomark _)) (pe_ix (r := rIxL K) ix_list (pv 6) (pv 10) (fun _ _ => rfl)) pe_non) pa_nil)))))
      (pss_one (ps_ret (pe_tupF (pa_cons (pe_callTy (r := rTupF K) call_tupF (by rfl) T.b_tuple (by decide +kernel) (pa_cons (pv 4) pa_nil)) (pa_cons (pe_callTy (r := rTupF K) call_tupF (by rfl) T.b_tuple (by decide +kernel) (pa_cons (pv 8) pa_nil)) pa_nil))))))))))))), ?_⟩
    refine ⟨_, rfl, fun D hD => lc_it (w := walk_str) (fun i H' => Same H H' ∧ H' D = some (.lst ((((Str.ofString "abcdefghijklmnopqrstuvwxyz").cps.toList.take i).map tagP).map V.str))) ⟨same_new hD, upd_same⟩ (fun _ _ _ _ => trivial) ?_ ?_⟩
    · rintro i x H1 _ hi ⟨s1, h1⟩ ⟨rfl, c, ec, rfl⟩
      refine ⟨rfl, _, rfl, _, _, rfl, rfl, len_p c, _, h1, ?_, fun b o e => ?_, ?_⟩
      · exact acc_small hi (by decide +kernel)
      · rw [upd_ne (ne_of_none e hD)]
        exact s1 _ _ e
      · rw [upd_same, List.take_add_one, show (Str.ofString "abcdefghijklmnopqrstuvwxyz").cps.toList[i]? = some c by simpa using ec, List.map_append, List.map_append]
        rfl
    · rintro H1 ⟨s1, h1⟩
      have h1' : H1 D = some (.lst (tagsP.map V.str)) := by
        rw [h1, List.take_of_length_le (by simp)]
        rfl
      refine ⟨_, rfl, _, rfl, fun D2 hD2 => lc_it (w := walk_str) (fun i H' => Same H1 H' ∧ H' D2 = some (.lst ((((Str.ofString "abcdefghijklmn").cps.toList.take i).map tagQ).map V.str))) ⟨same_new hD2, upd_same⟩ (fun _ _ _ _ => trivial) ?_ ?_⟩
      · rintro i x H1' _ hi ⟨s1', h2⟩ ⟨rfl, c, ec, rfl⟩
        refine ⟨rfl, _, rfl, _, _, rfl, rfl, len_q c, _, h2, ?_, fun b o e => ?_, ?_⟩
        · exact acc_small hi (by decide +kernel)
        · rw [upd_ne (ne_of_none e hD2)]
          exact s1' _ _ e
        · rw [upd_same, List.take_add_one, show (Str.ofString "abcdefghijklmn").cps.toList[i]? = some c by simpa using ec, List.map_append, List.map_append]
          rfl
      · rintro H2 ⟨s2, h2⟩
        have h2' : H2 D2 = some (.lst (tagsQ.map V.str)) := by
          rw [h2, List.take_of_length_le (by simp)]
          rfl
        refine ⟨D, D2, _, _, rfl, rfl, s2 _ _ h1', h2', (by rw [List.length_map, List.length_map, tagsP_len, tagsQ_len]; decide), fun p3 hp3 => ?_⟩
        have s3 : Same H (L2.upd H2 p3 (.lst (tagsP.map V.str ++ tagsQ.map V.str))) := (s1.trans s2).trans (same_new hp3)
        have h3 : L2.upd H2 p3 (.lst (tagsP.map V.str ++ tagsQ.map V.str)) p3 = some (.lst (tagsL.map V.str)) := by
          rw [upd_same, tagsL, List.map_append]
        generalize L2.upd H2 p3 (.lst (tagsP.map V.str ++ tagsQ.map V.str)) = H3 at s3 h3 ⊢
        have T3 : Tin H3 t m := by
          obtain ⟨xs0, e0⟩ := hT.ref
          exact hT.keep ((s3 _ _ e0).trans e0.symm)
        refine ⟨_, rfl, _, rfl, _, rfl, t, many, m, rfl, T3, (by omega), m1, (by omega), fun d H4 d0 d1 sb4 t4 => ⟨_, _, rfl, rfl, _, rfl, p3, _, rfl, SqL.of (sb4 _ _ (T3.neOf h3 (by rw [lit_ne])) h3), fun p4 hp4 => ?_⟩⟩
        obtain ⟨n, hn, ecut⟩ := cut_tags d d0 tagsL
        rw [ecut]
        have h4 : L2.upd H4 p4 (.lst ((tagsL.take n).map V.str)) p4 = some (.lst ((tagsL.take n).map V.str)) := upd_same
        have n4t : p4 ≠ t := t4.ne hp4
        have T4 : Tin (L2.upd H4 p4 (.lst ((tagsL.take n).map V.str))) t (m + 1) := t4.upd n4t
        have S4 : SameBut t H (L2.upd H4 p4 (.lst ((tagsL.take n).map V.str))) := (Nal.Same.but s3).trans (sb4.trans (Nal.Same.but (same_new hp4)))
        have L4 : (tagsL.take n).length ≤ 40 := by rw [List.length_take, tags_len]; omega
        have N4 : (tagsL.take n).Nodup := List.Sublist.nodup (List.take_sublist _ _) tags_nodup
        have P4 : tagsL.take n ≠ [] := fun e => by
          have q := congrArg List.length e
          rw [List.length_take, tags_len] at q
          simp at q
          omega
        generalize L2.upd H4 p4 (.lst ((tagsL.take n).map V.str)) = H5 at h4 T4 S4 ⊢
        generalize hsp : tagsL.take n = sp at h4 L4 N4 P4 ⊢
        refine ⟨_, rfl, _, rfl, _, rfl, p4, _, rfl, .inl (SqL.of h4), _, rfl, _, rfl, _, _, rfl, rfl, t, full + 1, m + 1, rfl, T4, (by omega), (by omega), (by omega), fun e H6 e0 e1 sb6 t6 => ?_⟩
        obtain ⟨nn, hnn, lnn⟩ : ∃ nn : Nat, (if e < (((sp.map V.str).length : Nat) : Int) then e else (((sp.map V.str).length : Nat) : Int)) = (nn : Int) ∧ nn ≤ 1000 := by
          rw [List.length_map]
          split
          · exact ⟨e.toNat, by omega, by omega⟩
          · exact ⟨sp.length, rfl, by omega⟩
        have h6 := sb6 _ _ (T4.neOf h4 (lit_ne _)) h4
        refine ⟨_, _, rfl, t, p4, nn, m + 2, _, congrArg (fun z => [V.ref t, .ref p4, .int z]) hnn, t6, .inl (SqL.of h6), (by rw [List.length_map]; omega), lnn, (by rw [List.length_map]; omega), fun l7 H7 ys hl7 sb7 t7 h7 ⟨rest, pm⟩ el => ?_⟩
        obtain ⟨ss, rs, rfl, pms⟩ := picked pm
        have lss : ss.length ≤ 40 := by
          have q := pms.length_eq
          rw [List.length_append] at q
          omega
        refine ⟨l7, ss, rfl, SqL.of h7, (by omega), fun zs p8 pm8 srt hp8 => ?_⟩
        have h8 : L2.upd H7 p8 (.lst (zs.map V.str)) p8 = some (.lst (zs.map V.str)) := upd_same
        have n8t : p8 ≠ t := t7.ne hp8
        have T8 : Tin (L2.upd H7 p8 (.lst (zs.map V.str))) t (m + 50) := (t7.upd n8t).mono (by rw [List.length_map]; omega)
        have S8 : SameBut t H (L2.upd H7 p8 (.lst (zs.map V.str))) := S4.trans (sb6.trans (sb7.trans (Nal.Same.but (same_new hp8))))
        have h84 : L2.upd H7 p8 (.lst (zs.map V.str)) p4 = some (.lst (sp.map V.str)) := same_new hp8 _ _ (sb7 _ _ (t6.neOf h6 (lit_ne _)) h6)
        have lzs : zs.length ≤ 40 := by rw [pm8.length_eq]; exact lss
        have zsIn : ∀ x ∈ zs, x ∈ sp := fun x hx => pms.mem_iff.mp (List.mem_append_left _ (pm8.mem_iff.mp hx))
        have zsN : zs.Nodup := pm8.nodup_iff.mpr (List.nodup_append.mp (pms.nodup_iff.mpr N4)).1
        have lzsp : zs.length ≤ sp.length := nodup_len zsN zsIn
        generalize L2.upd H7 p8 (.lst (zs.map V.str)) = H8 at h8 T8 S8 h84 ⊢
        have lz8 : (zs.map V.str).length = zs.length := List.length_map _
        have lsp8 : (sp.map V.str).length = sp.length := List.length_map _
        refine ⟨_, rfl, _, rfl, _, rfl, p8, _, rfl, .inl (SqL.of h8), t, p4, (zs.map V.str).length, m + 50, _, rfl, T8, .inl (SqL.of h84), (by omega), (by omega), (by omega), fun l9 H9 ys9 hl9 sb9 t9 h9 ⟨rest9, pm9⟩ el9 => ?_⟩
        obtain ⟨e9, r9, rfl, pe9⟩ := picked pm9
        have h98 := sb9 _ _ (T8.neOf h8 (lit_ne _)) h8
        have h94 := sb9 _ _ (T8.neOf h84 (lit_ne _)) h84
        have T9 : Tin H9 t (m + 100) := t9.mono (by omega)
        refine ⟨_, rfl, t, 3, m + 100, rfl, T9, (by omega), (by decide), (by decide), fun d10 H10 _ _ sb10 t10 => ?_⟩
        have hA8 := sb10 _ _ (T9.neOf h98 (lit_ne _)) h98
        have hA4 := sb10 _ _ (T9.neOf h94 (lit_ne _)) h94
        have hA9 := sb10 _ _ (T9.neOf h9 (lit_ne _)) h9
        have SA10 := S8.trans (sb9.trans sb10)
        have e9l : e9.length = zs.length := by rw [List.length_map] at el9; omega
        have e9In : ∀ x ∈ e9, x ∈ sp := fun x hx => pe9.mem_iff.mp (List.mem_append_left _ hx)
        have e9N : e9.Nodup := (List.nodup_append.mp (pe9.nodup_iff.mpr N4)).1
        have T10 : Tin H10 t (m + 150) := t10.mono (by omega)
        refine ⟨_, rfl, rfl, _, rfl, ite2 (fun _ => ⟨_, rfl, p8, _, rfl, .inl (SqL.of hA8), _, _, rfl, rfl, _, rfl, ite2 (fun _ => ?_) (fun _ => ?_)⟩) (fun _ => iteF ?_)⟩
        · refine ⟨_, rfl, _, rfl, _, rfl, p8, _, rfl, .inl (SqL.of hA8), t, p8, (zs.map V.str).length, m + 150, _, rfl, T10, .inl (SqL.of hA8), (by omega), (by omega), (by omega), fun lE HE ys11 hl11 sb11 t11 h11 ⟨rest11, pm11⟩ el11 => ?_⟩
          obtain ⟨es, r11, rfl, pe11⟩ := picked pm11
          have K8 := sb11 _ _ (T10.neOf hA8 (lit_ne _)) hA8
          have K4 := sb11 _ _ (T10.neOf hA4 (lit_ne _)) hA4
          have KE' := h11
          have SE := SA10.trans sb11
          have esl : es.length = zs.length := by rw [List.length_map] at el11; omega
          have esIn : ∀ x ∈ es, x ∈ sp := fun x hx => zsIn x (pe11.mem_iff.mp (List.mem_append_left _ hx))
          have esN : es.Nodup := (List.nodup_append.mp (pe11.nodup_iff.mpr zsN)).1
          have TE : Tin HE t (m + 200) := t11.mono (by omega)
          have g8 : HE p8 = some (.lst (zs.map V.str)) := K8
          have gE : HE lE = some (.lst (es.map V.str)) := KE'
          refine ⟨_, rfl, p8, _, rfl, .inl (SqL.of g8), _, rfl, (by omega), (by rw [List.length_map]; omega), fun D' hD' => lc_it (w := walk_range (lo := 0) (n := (zs.map V.str).length))
            (fun i H' => SameBut t HE H' ∧ Tin H' t (m + 200 + i) ∧ ∃ (acc : List V) (os : List (Option Str)), H' D' = some (.lst acc) ∧ acc.length = i ∧ os.length = i ∧ (∀ (k : Nat) (o : Str), os[k]? = some (some o) → es[k]? = some o) ∧
              ∀ H'', (∀ b o, b ≠ D' → HE b = none → H' b = some o → H'' b = some o) → DeAll H'' (((zs.take i).zip os).map wayD) acc)
            ⟨Nal.Same.but (same_new hD'), (TE.upd (TE.ne hD')), [], [], upd_same, rfl, rfl, (fun k o e => by simp at e), fun H'' _ => by rw [List.take_zero]; rfl⟩ (fun _ _ _ _ => trivial) ?_ ?_⟩
          · rintro i x HA _ hi ⟨sA, TA, acc, os, hacc, el1, el2, hos, hde⟩ ⟨rfl, rfl⟩
            have hiz : i < zs.length := by rwa [List.length_map] at hi
            have hie : i < es.length := by omega
            have nD' : D' ≠ t := TE.ne hD'
            have a8 := sA _ _ (TE.neOf g8 (by rw [lit_ne])) g8
            have aE := sA _ _ (TE.neOf gE (by rw [lit_ne])) gE
            refine ⟨rfl, _, rfl, _, rfl, p8, _, _, _, rfl, rfl, SqL.of a8, L2.at_of (by omega : (0 : Int) + (i : Int) = (i : Int)) (str_at hiz), _, rfl, t, 8, m + 200 + i, rfl, TA, (by omega), (by decide), (by decide), fun dk HB b0 b1 sB TB => ⟨_, _, rfl, rfl, _, rfl, ?_⟩⟩
            have bE := sB _ _ (TA.neOf aE (by rw [lit_ne])) aE
            have bD := sB _ _ nD' hacc
            have fin : ∀ (o : Option Str), (∀ x, o = some x → es[i]? = some x) → ∀ (p : Addr) (ob : Obj), ob.dict = none → HB p = none → SameBut t HE (L2.upd (L2.upd HB p (.frz ob (.tup [.str zs[i], optV o]))) D' (.lst (acc ++ [.ref p]))) ∧
                Tin (L2.upd (L2.upd HB p (.frz ob (.tup [.str zs[i], optV o]))) D' (.lst (acc ++ [.ref p]))) t (m + 200 + (i + 1)) ∧ ∃ (acc' : List V) (os : List (Option Str)), L2.upd (L2.upd HB p (.frz ob (.tup [.str zs[i], optV o]))) D' (.lst (acc ++ [.ref p])) D' = some (.lst acc') ∧ acc'.length = i + 1 ∧ os.length = i + 1 ∧ (∀ (k : Nat) (o : Str), os[k]? = some (some o) → es[k]? = some o) ∧
                ∀ H'', (∀ b o', b ≠ D' → HE b = none → L2.upd (L2.upd HB p (.frz ob (.tup [.str zs[i], optV o]))) D' (.lst (acc ++ [.ref p])) b = some o' → H'' b = some o') → DeAll H'' (((zs.take (i + 1)).zip os).map wayD) acc' := by
              intro o ho p ob hob hp
              have npD : p ≠ D' := fun e => by rw [e, bD] at hp; cases hp
              have npt : p ≠ t := TB.ne hp
              refine ⟨fun b o' nb e => ?_, ((TB.upd npt).upd nD').mono (by omega), acc ++ [.ref p], os ++ [o], upd_same, (by rw [List.length_append, el1]; rfl), (by rw [List.length_append, el2]; rfl), fun k o' e => ?_, fun H'' hf => ?_⟩
              · have nbD : b ≠ D' := fun z => by rw [z, hD'] at e; cases e
                have nbp : b ≠ p := fun z => by rw [z, (sA.trans sB).not_new hp npt] at e; cases e
                rw [upd_ne nbD, upd_ne nbp]
                exact (sA.trans sB) b o' nb e
              · rcases Nat.lt_trichotomy k i with h | h | h
                · rw [List.getElem?_append_left (by omega)] at e
                  exact hos k o' e
                · subst h
                  rw [List.getElem?_append_right (by omega), el2, Nat.sub_self] at e
                  exact ho o' (Option.some.inj e)
                · rw [List.getElem?_eq_none (by rw [List.length_append, el2]; show i + 1 ≤ k; omega)] at e
                  cases e
              · rw [List.take_add_one, List.getElem?_eq_getElem hiz, List.zip_append (by rw [List.length_take, el2]; omega), List.map_append]
                refine DeAll.snoc (hde H'' fun b o' nb e0 e => hf b o' nb e0 ?_) ?_
                · have nbp : b ≠ p := fun z => by rw [z] at e; rw [sB.not_new hp npt] at e; cases e
                  rw [upd_ne nb, upd_ne nbp]
                  exact sB b o' (fun z => by rw [z] at e0; obtain ⟨xs0, q⟩ := TE.ref; rw [q] at e0; cases e0) e
                · exact ⟨p, _, rfl, ⟨ob, hf p _ npD ((sA.trans sB).not_new hp npt) (by rw [upd_ne npD]; exact upd_same), hob⟩, wayV _ _ _⟩
            refine ite2 (fun _ => ?_) (fun _ => ?_)
            · refine ⟨_, rfl, _, rfl, lE, _, _, _, rfl, rfl, SqL.of bE, L2.at_of (by omega : (0 : Int) + (i : Int) = (i : Int)) (str_at hie), (by show 2 ≤ sizeLine; decide), fun p ob hob hp => ?_⟩
              have npD : p ≠ D' := fun e => by rw [e, bD] at hp; cases hp
              exact ⟨acc, (by rw [upd_ne npD.symm]; exact bD), Nat.lt_of_le_of_lt (show acc.length ≤ 1000 by omega) (by decide), fin (some es[i]) (fun x e => by cases e; exact List.getElem?_eq_getElem hie) p ob hob hp⟩
            · refine ⟨(by show 2 ≤ sizeLine; decide), fun p ob hob hp => ?_⟩
              have npD : p ≠ D' := fun e => by rw [e, bD] at hp; cases hp
              exact ⟨acc, (by rw [upd_ne npD.symm]; exact bD), Nat.lt_of_le_of_lt (show acc.length ≤ 1000 by omega) (by decide), fin none (fun x e => nomatch e) p ob hob hp⟩
          · rintro HA ⟨sA, TA, acc, os, hacc, el1, el2, hos, hde⟩
            have lz : (zs.map V.str).length = zs.length := List.length_map _
            rw [lz] at el1 el2 TA
            rw [show List.take (zs.map V.str).length zs = zs by rw [lz, List.take_length]] at hde
            have a4 := sA _ _ (TE.neOf K4 (by rw [lit_ne])) K4
            refine ⟨_, rfl, p4, _, rfl, .inl ⟨SqL.of a4, fun q1 o1 ho1 hq1 => ⟨_, rfl, D', _, rfl, .inl ⟨SqL.of (by rw [upd_ne (ne_of_none hacc hq1)]; exact hacc), fun q2 o2 ho2 hq2 => ⟨by show 2 ≤ sizeLine; decide, fun q3 o3 ho3 hq3 => ?_⟩⟩⟩⟩⟩
            have q1t : q1 ≠ t := TA.ne hq1
            have TA1 := TA.upd (o := .frz o1 (.tup (sp.map V.str))) q1t
            have q2t : q2 ≠ t := TA1.ne hq2
            have TA2 := TA1.upd (o := .frz o2 (.tup acc)) q2t
            have q3t : q3 ≠ t := TA2.ne hq3
            have TA3 := TA2.upd (o := .frz o3 (.tup [.ref q1, .ref q2])) q3t
            have q12 : q1 ≠ q2 := fun e => by rw [← e, upd_same] at hq2; cases hq2
            have q13 : q1 ≠ q3 := fun e => by rw [← e, upd_ne q12, upd_same] at hq3; cases hq3
            have q23 : q2 ≠ q3 := fun e => by rw [← e, upd_same] at hq3; cases hq3
            have hq2' : HA q2 = none := by rw [upd_ne q12.symm] at hq2; exact hq2
            have hq3' : HA q3 = none := by rw [upd_ne q23.symm, upd_ne q13.symm] at hq3; exact hq3
            have SA := SE.trans sA
            have z1 := SA.not_new hq1 q1t
            have z2 := SA.not_new hq2' q2t
            have z3 := SA.not_new hq3' q3t
            have oz : os.length = zs.length := el2
            have em : (zs.zip os).map (·.2) = os := List.map_snd_zip (by omega)
            have fm : (zs.zip os).map (·.1) = zs := List.map_fst_zip (by omega)
            have ee : endsOf ⟨sp, zs.zip os⟩ = os.filterMap id := by
              show (zs.zip os).filterMap (·.2) = _
              rw [← em, List.filterMap_map, em]
              rfl
            have en := ends_ok os es hos esN
            refine k (.ref q3) _ ⟨sp, zs.zip os⟩ ⟨P4, ⟨n, hsp.symm⟩, ?_, ?_, ?_, ?_, ?_⟩ ?_ (TA3.mono (by omega)) fun H'' hf => ⟨q3, _, rfl, ⟨o3, hf _ _ z3 upd_same, ho3⟩, _, _, rfl, ⟨q1, _, rfl, ⟨o1, hf _ _ z1 (by rw [upd_ne q13, upd_ne q12]; exact upd_same), ho1⟩, strs_all _ _⟩, _, _, rfl, ⟨q2, acc, rfl, ⟨o2, hf _ _ z2 (by rw [upd_ne q23]; exact upd_same), ho2⟩, ?_⟩, rfl⟩
            · intro b hb
              exact zsIn b (by rwa [fm] at hb)
            · show PyProof.Rows.sortedS ((zs.zip os).map (·.1)) = true
              rw [fm]
              exact srt
            · show ((zs.zip os).map (·.1)).Nodup
              rw [fm]
              exact zsN
            · intro b hb
              rw [ee] at hb
              exact esIn b (en.2 b hb)
            · rw [ee]
              exact en.1
            · intro b o nb e
              have nb1 : b ≠ q1 := fun z => by rw [z, z1] at e; cases e
              have nb2 : b ≠ q2 := fun z => by rw [z, z2] at e; cases e
              have nb3 : b ≠ q3 := fun z => by rw [z, z3] at e; cases e
              rw [upd_ne nb3, upd_ne nb2, upd_ne nb1]
              exact SA b o nb e
            · refine hde H'' fun b o nb e0 e => ?_
              by_cases hz : H b = none
              · have nb1 : b ≠ q1 := fun z => by rw [z, hq1] at e; cases e
                have nb2 : b ≠ q2 := fun z => by rw [z, hq2'] at e; cases e
                have nb3 : b ≠ q3 := fun z => by rw [z, hq3'] at e; cases e
                exact hf b o hz (by rw [upd_ne nb3, upd_ne nb2, upd_ne nb1]; exact e)
              · exfalso
                obtain ⟨u, hu⟩ := Option.ne_none_iff_exists'.mp hz
                by_cases hbt : b = t
                · obtain ⟨xs0, q⟩ := TE.ref
                  rw [hbt, q] at e0
                  cases e0
                · rw [SE b u hbt hu] at e0
                  cases e0
        · have K8 := hA8
          have K4 := hA4
          have KE' := hA9
          have SE := SA10
          have esl := e9l
          have esIn := e9In
          have esN := e9N
          have TE : Tin H10 t (m + 200) := T10.mono (by omega)
          generalize H10 = HE at *
          generalize l9 = lE at *
          generalize e9 = es at *
          have g8 : HE p8 = some (.lst (zs.map V.str)) := K8
          have gE : HE lE = some (.lst (es.map V.str)) := KE'
          refine ⟨_, rfl, p8, _, rfl, .inl (SqL.of g8), _, rfl, (by omega), (by rw [List.length_map]; omega), fun D' hD' => lc_it (w := walk_range (lo := 0) (n := (zs.map V.str).length))
            (fun i H' => SameBut t HE H' ∧ Tin H' t (m + 200 + i) ∧ ∃ (acc : List V) (os : List (Option Str)), H' D' = some (.lst acc) ∧ acc.length = i ∧ os.length = i ∧ (∀ (k : Nat) (o : Str), os[k]? = some (some o) → es[k]? = some o) ∧
              ∀ H'', (∀ b o, b ≠ D' → HE b = none → H' b = some o → H'' b = some o) → DeAll H'' (((zs.take i).zip os).map wayD) acc)
            ⟨Nal.Same.but (same_new hD'), (TE.upd (TE.ne hD')), [], [], upd_same, rfl, rfl, (fun k o e => by simp at e), fun H'' _ => by rw [List.take_zero]; rfl⟩ (fun _ _ _ _ => trivial) ?_ ?_⟩
          · rintro i x HA _ hi ⟨sA, TA, acc, os, hacc, el1, el2, hos, hde⟩ ⟨rfl, rfl⟩
            have hiz : i < zs.length := by rwa [List.length_map] at hi
            have hie : i < es.length := by omega
            have nD' : D' ≠ t := TE.ne hD'
            have a8 := sA _ _ (TE.neOf g8 (by rw [lit_ne])) g8
            have aE := sA _ _ (TE.neOf gE (by rw [lit_ne])) gE
            refine ⟨rfl, _, rfl, _, rfl, p8, _, _, _, rfl, rfl, SqL.of a8, L2.at_of (by omega : (0 : Int) + (i : Int) = (i : Int)) (str_at hiz), _, rfl, t, 8, m + 200 + i, rfl, TA, (by omega), (by decide), (by decide), fun dk HB b0 b1 sB TB => ⟨_, _, rfl, rfl, _, rfl, ?_⟩⟩
            have bE := sB _ _ (TA.neOf aE (by rw [lit_ne])) aE
            have bD := sB _ _ nD' hacc
            have fin : ∀ (o : Option Str), (∀ x, o = some x → es[i]? = some x) → ∀ (p : Addr) (ob : Obj), ob.dict = none → HB p = none → SameBut t HE (L2.upd (L2.upd HB p (.frz ob (.tup [.str zs[i], optV o]))) D' (.lst (acc ++ [.ref p]))) ∧
                Tin (L2.upd (L2.upd HB p (.frz ob (.tup [.str zs[i], optV o]))) D' (.lst (acc ++ [.ref p]))) t (m + 200 + (i + 1)) ∧ ∃ (acc' : List V) (os : List (Option Str)), L2.upd (L2.upd HB p (.frz ob (.tup [.str zs[i], optV o]))) D' (.lst (acc ++ [.ref p])) D' = some (.lst acc') ∧ acc'.length = i + 1 ∧ os.length = i + 1 ∧ (∀ (k : Nat) (o : Str), os[k]? = some (some o) → es[k]? = some o) ∧
                ∀ H'', (∀ b o', b ≠ D' → HE b = none → L2.upd (L2.upd HB p (.frz ob (.tup [.str zs[i], optV o]))) D' (.lst (acc ++ [.ref p])) b = some o' → H'' b = some o') → DeAll H'' (((zs.take (i + 1)).zip os).map wayD) acc' := by
              intro o ho p ob hob hp
              have npD : p ≠ D' := fun e => by rw [e, bD] at hp; cases hp
              have npt : p ≠ t := TB.ne hp
              refine ⟨fun b o' nb e => ?_, ((TB.upd npt).upd nD').mono (by omega), acc ++ [.ref p], os ++ [o], upd_same, (by rw [List.length_append, el1]; rfl), (by rw [List.length_append, el2]; rfl), fun k o' e => ?_, fun H'' hf => ?_⟩
              · have nbD : b ≠ D' := fun z => by rw [z, hD'] at e; cases e
                have nbp : b ≠ p := fun z => by rw [z, (sA.trans sB).not_new hp npt] at e; cases e
                rw [upd_ne nbD, upd_ne nbp]
                exact (sA.trans sB) b o' nb e
              · rcases Nat.lt_trichotomy k i with h | h | h
                · rw [List.getElem?_append_left (by omega)] at e
                  exact hos k o' e
                · subst h
                  rw [List.getElem?_append_right (by omega), el2, Nat.sub_self] at e
                  exact ho o' (Option.some.inj e)
                · rw [List.getElem?_eq_none (by rw [List.length_append, el2]; show i + 1 ≤ k; omega)] at e
                  cases e
              · rw [List.take_add_one, List.getElem?_eq_getElem hiz, List.zip_append (by rw [List.length_take, el2]; omega), List.map_append]
                refine DeAll.snoc (hde H'' fun b o' nb e0 e => hf b o' nb e0 ?_) ?_
                · have nbp : b ≠ p := fun z => by rw [z] at e; rw [sB.not_new hp npt] at e; cases e
                  rw [upd_ne nb, upd_ne nbp]
                  exact sB b o' (fun z => by rw [z] at e0; obtain ⟨xs0, q⟩ := TE.ref; rw [q] at e0; cases e0) e
                · exact ⟨p, _, rfl, ⟨ob, hf p _ npD ((sA.trans sB).not_new hp npt) (by rw [upd_ne npD]; exact upd_same), hob⟩, wayV _ _ _⟩
            refine ite2 (fun _ => ?_) (fun _ => ?_)
            · refine ⟨_, rfl, _, rfl, lE, _, _, _, rfl, rfl, SqL.of bE, L2.at_of (by omega : (0 : Int) + (i : Int) = (i : Int)) (str_at hie), (by show 2 ≤ sizeLine; decide), fun p ob hob hp => ?_⟩
              have npD : p ≠ D' := fun e => by rw [e, bD] at hp; cases hp
              exact ⟨acc, (by rw [upd_ne npD.symm]; exact bD), Nat.lt_of_le_of_lt (show acc.length ≤ 1000 by omega) (by decide), fin (some es[i]) (fun x e => by cases e; exact List.getElem?_eq_getElem hie) p ob hob hp⟩
            · refine ⟨(by show 2 ≤ sizeLine; decide), fun p ob hob hp => ?_⟩
              have npD : p ≠ D' := fun e => by rw [e, bD] at hp; cases hp
              exact ⟨acc, (by rw [upd_ne npD.symm]; exact bD), Nat.lt_of_le_of_lt (show acc.length ≤ 1000 by omega) (by decide), fin none (fun x e => nomatch e) p ob hob hp⟩
          · rintro HA ⟨sA, TA, acc, os, hacc, el1, el2, hos, hde⟩
            have lz : (zs.map V.str).length = zs.length := List.length_map _
            rw [lz] at el1 el2 TA
            rw [show List.take (zs.map V.str).length zs = zs by rw [lz, List.take_length]] at hde
            have a4 := sA _ _ (TE.neOf K4 (by rw [lit_ne])) K4
            refine ⟨_, rfl, p4, _, rfl, .inl ⟨SqL.of a4, fun q1 o1 ho1 hq1 => ⟨_, rfl, D', _, rfl, .inl ⟨SqL.of (by rw [upd_ne (ne_of_none hacc hq1)]; exact hacc), fun q2 o2 ho2 hq2 => ⟨by show 2 ≤ sizeLine; decide, fun q3 o3 ho3 hq3 => ?_⟩⟩⟩⟩⟩
            have q1t : q1 ≠ t := TA.ne hq1
            have TA1 := TA.upd (o := .frz o1 (.tup (sp.map V.str))) q1t
            have q2t : q2 ≠ t := TA1.ne hq2
            have TA2 := TA1.upd (o := .frz o2 (.tup acc)) q2t
            have q3t : q3 ≠ t := TA2.ne hq3
            have TA3 := TA2.upd (o := .frz o3 (.tup [.ref q1, .ref q2])) q3t
            have q12 : q1 ≠ q2 := fun e => by rw [← e, upd_same] at hq2; cases hq2
            have q13 : q1 ≠ q3 := fun e => by rw [← e, upd_ne q12, upd_same] at hq3; cases hq3
            have q23 : q2 ≠ q3 := fun e => by rw [← e, upd_same] at hq3; cases hq3
            have hq2' : HA q2 = none := by rw [upd_ne q12.symm] at hq2; exact hq2
            have hq3' : HA q3 = none := by rw [upd_ne q23.symm, upd_ne q13.symm] at hq3; exact hq3
            have SA := SE.trans sA
            have z1 := SA.not_new hq1 q1t
            have z2 := SA.not_new hq2' q2t
            have z3 := SA.not_new hq3' q3t
            have oz : os.length = zs.length := el2
            have em : (zs.zip os).map (·.2) = os := List.map_snd_zip (by omega)
            have fm : (zs.zip os).map (·.1) = zs := List.map_fst_zip (by omega)
            have ee : endsOf ⟨sp, zs.zip os⟩ = os.filterMap id := by
              show (zs.zip os).filterMap (·.2) = _
              rw [← em, List.filterMap_map, em]
              rfl
            have en := ends_ok os es hos esN
            refine k (.ref q3) _ ⟨sp, zs.zip os⟩ ⟨P4, ⟨n, hsp.symm⟩, ?_, ?_, ?_, ?_, ?_⟩ ?_ (TA3.mono (by omega)) fun H'' hf => ⟨q3, _, rfl, ⟨o3, hf _ _ z3 upd_same, ho3⟩, _, _, rfl, ⟨q1, _, rfl, ⟨o1, hf _ _ z1 (by rw [upd_ne q13, upd_ne q12]; exact upd_same), ho1⟩, strs_all _ _⟩, _, _, rfl, ⟨q2, acc, rfl, ⟨o2, hf _ _ z2 (by rw [upd_ne q23]; exact upd_same), ho2⟩, ?_⟩, rfl⟩
            · intro b hb
              exact zsIn b (by rwa [fm] at hb)
            · show PyProof.Rows.sortedS ((zs.zip os).map (·.1)) = true
              rw [fm]
              exact srt
            · show ((zs.zip os).map (·.1)).Nodup
              rw [fm]
              exact zsN
            · intro b hb
              rw [ee] at hb
              exact esIn b (en.2 b hb)
            · rw [ee]
              exact en.1
            · intro b o nb e
              have nb1 : b ≠ q1 := fun z => by rw [z, z1] at e; cases e
              have nb2 : b ≠ q2 := fun z => by rw [z, z2] at e; cases e
              have nb3 : b ≠ q3 := fun z => by rw [z, z3] at e; cases e
              rw [upd_ne nb3, upd_ne nb2, upd_ne nb1]
              exact SA b o nb e
            · refine hde H'' fun b o nb e0 e => ?_
              by_cases hz : H b = none
              · have nb1 : b ≠ q1 := fun z => by rw [z, hq1] at e; cases e
                have nb2 : b ≠ q2 := fun z => by rw [z, hq2'] at e; cases e
                have nb3 : b ≠ q3 := fun z => by rw [z, hq3'] at e; cases e
                exact hf b o hz (by rw [upd_ne nb3, upd_ne nb2, upd_ne nb1]; exact e)
              · exfalso
                obtain ⟨u, hu⟩ := Option.ne_none_iff_exists'.mp hz
                by_cases hbt : b = t
                · obtain ⟨xs0, q⟩ := TE.ref
                  rw [hbt, q] at e0
                  cases e0
                · rw [SE b u hbt hu] at e0
                  cases e0
        · have K8 := hA8
          have K4 := hA4
          have KE' := hA9
          have SE := SA10
          have esl := e9l
          have esIn := e9In
          have esN := e9N
          have TE : Tin H10 t (m + 200) := T10.mono (by omega)
          generalize H10 = HE at *
          generalize l9 = lE at *
          generalize e9 = es at *
          have g8 : HE p8 = some (.lst (zs.map V.str)) := K8
          have gE : HE lE = some (.lst (es.map V.str)) := KE'
          refine ⟨_, rfl, p8, _, rfl, .inl (SqL.of g8), _, rfl, (by omega), (by rw [List.length_map]; omega), fun D' hD' => lc_it (w := walk_range (lo := 0) (n := (zs.map V.str).length))
            (fun i H' => SameBut t HE H' ∧ Tin H' t (m + 200 + i) ∧ ∃ (acc : List V) (os : List (Option Str)), H' D' = some (.lst acc) ∧ acc.length = i ∧ os.length = i ∧ (∀ (k : Nat) (o : Str), os[k]? = some (some o) → es[k]? = some o) ∧
              ∀ H'', (∀ b o, b ≠ D' → HE b = none → H' b = some o → H'' b = some o) → DeAll H'' (((zs.take i).zip os).map wayD) acc)
            ⟨Nal.Same.but (same_new hD'), (TE.upd (TE.ne hD')), [], [], upd_same, rfl, rfl, (fun k o e => by simp at e), fun H'' _ => by rw [List.take_zero]; rfl⟩ (fun _ _ _ _ => trivial) ?_ ?_⟩
          · rintro i x HA _ hi ⟨sA, TA, acc, os, hacc, el1, el2, hos, hde⟩ ⟨rfl, rfl⟩
            have hiz : i < zs.length := by rwa [List.length_map] at hi
            have hie : i < es.length := by omega
            have nD' : D' ≠ t := TE.ne hD'
            have a8 := sA _ _ (TE.neOf g8 (by rw [lit_ne])) g8
            have aE := sA _ _ (TE.neOf gE (by rw [lit_ne])) gE
            refine ⟨rfl, _, rfl, _, rfl, p8, _, _, _, rfl, rfl, SqL.of a8, L2.at_of (by omega : (0 : Int) + (i : Int) = (i : Int)) (str_at hiz), _, rfl, t, 8, m + 200 + i, rfl, TA, (by omega), (by decide), (by decide), fun dk HB b0 b1 sB TB => ⟨_, _, rfl, rfl, _, rfl, ?_⟩⟩
            have bE := sB _ _ (TA.neOf aE (by rw [lit_ne])) aE
            have bD := sB _ _ nD' hacc
            have fin : ∀ (o : Option Str), (∀ x, o = some x → es[i]? = some x) → ∀ (p : Addr) (ob : Obj), ob.dict = none → HB p = none → SameBut t HE (L2.upd (L2.upd HB p (.frz ob (.tup [.str zs[i], optV o]))) D' (.lst (acc ++ [.ref p]))) ∧
                Tin (L2.upd (L2.upd HB p (.frz ob (.tup [.str zs[i], optV o]))) D' (.lst (acc ++ [.ref p]))) t (m + 200 + (i + 1)) ∧ ∃ (acc' : List V) (os : List (Option Str)), L2.upd (L2.upd HB p (.frz ob (.tup [.str zs[i], optV o]))) D' (.lst (acc ++ [.ref p])) D' = some (.lst acc') ∧ acc'.length = i + 1 ∧ os.length = i + 1 ∧ (∀ (k : Nat) (o : Str), os[k]? = some (some o) → es[k]? = some o) ∧
                ∀ H'', (∀ b o', b ≠ D' → HE b = none → L2.upd (L2.upd HB p (.frz ob (.tup [.str zs[i], optV o]))) D' (.lst (acc ++ [.ref p])) b = some o' → H'' b = some o') → DeAll H'' (((zs.take (i + 1)).zip os).map wayD) acc' := by
              intro o ho p ob hob hp
              have npD : p ≠ D' := fun e => by rw [e, bD] at hp; cases hp
              have npt : p ≠ t := TB.ne hp
              refine ⟨fun b o' nb e => ?_, ((TB.upd npt).upd nD').mono (by omega), acc ++ [.ref p], os ++ [o], upd_same, (by rw [List.length_append, el1]; rfl), (by rw [List.length_append, el2]; rfl), fun k o' e => ?_, fun H'' hf => ?_⟩
              · have nbD : b ≠ D' := fun z => by rw [z, hD'] at e; cases e
                have nbp : b ≠ p := fun z => by rw [z, (sA.trans sB).not_new hp npt] at e; cases e
                rw [upd_ne nbD, upd_ne nbp]
                exact (sA.trans sB) b o' nb e
              · rcases Nat.lt_trichotomy k i with h | h | h
                · rw [List.getElem?_append_left (by omega)] at e
                  exact hos k o' e
                · subst h
                  rw [List.getElem?_append_right (by omega), el2, Nat.sub_self] at e
                  exact ho o' (Option.some.inj e)
                · rw [List.getElem?_eq_none (by rw [List.length_append, el2]; show i + 1 ≤ k; omega)] at e
                  cases e
              · rw [List.take_add_one, List.getElem?_eq_getElem hiz, List.zip_append (by rw [List.length_take, el2]; omega), List.map_append]
                refine DeAll.snoc (hde H'' fun b o' nb e0 e => hf b o' nb e0 ?_) ?_
                · have nbp : b ≠ p := fun z => by rw [z] at e; rw [sB.not_new hp npt] at e; cases e
                  rw [upd_ne nb, upd_ne nbp]
                  exact sB b o' (fun z => by rw [z] at e0; obtain ⟨xs0, q⟩ := TE.ref; rw [q] at e0; cases e0) e
                · exact ⟨p, _, rfl, ⟨ob, hf p _ npD ((sA.trans sB).not_new hp npt) (by rw [upd_ne npD]; exact upd_same), hob⟩, wayV _ _ _⟩
            refine ite2 (fun _ => ?_) (fun _ => ?_)
            · refine ⟨_, rfl, _, rfl, lE, _, _, _, rfl, rfl, SqL.of bE, L2.at_of (by omega : (0 : Int) + (i : Int) = (i : Int)) (str_at hie), (by show 2 ≤ sizeLine; decide), fun p ob hob hp => ?_⟩
              have npD : p ≠ D' := fun e => by rw [e, bD] at hp; cases hp
              exact ⟨acc, (by rw [upd_ne npD.symm]; exact bD), Nat.lt_of_le_of_lt (show acc.length ≤ 1000 by omega) (by decide), fin (some es[i]) (fun x e => by cases e; exact List.getElem?_eq_getElem hie) p ob hob hp⟩
            · refine ⟨(by show 2 ≤ sizeLine; decide), fun p ob hob hp => ?_⟩
              have npD : p ≠ D' := fun e => by rw [e, bD] at hp; cases hp
              exact ⟨acc, (by rw [upd_ne npD.symm]; exact bD), Nat.lt_of_le_of_lt (show acc.length ≤ 1000 by omega) (by decide), fin none (fun x e => nomatch e) p ob hob hp⟩
          · rintro HA ⟨sA, TA, acc, os, hacc, el1, el2, hos, hde⟩
            have lz : (zs.map V.str).length = zs.length := List.length_map _
            rw [lz] at el1 el2 TA
            rw [show List.take (zs.map V.str).length zs = zs by rw [lz, List.take_length]] at hde
            have a4 := sA _ _ (TE.neOf K4 (by rw [lit_ne])) K4
            refine ⟨_, rfl, p4, _, rfl, .inl ⟨SqL.of a4, fun q1 o1 ho1 hq1 => ⟨_, rfl, D', _, rfl, .inl ⟨SqL.of (by rw [upd_ne (ne_of_none hacc hq1)]; exact hacc), fun q2 o2 ho2 hq2 => ⟨by show 2 ≤ sizeLine; decide, fun q3 o3 ho3 hq3 => ?_⟩⟩⟩⟩⟩
            have q1t : q1 ≠ t := TA.ne hq1
            have TA1 := TA.upd (o := .frz o1 (.tup (sp.map V.str))) q1t
            have q2t : q2 ≠ t := TA1.ne hq2
            have TA2 := TA1.upd (o := .frz o2 (.tup acc)) q2t
            have q3t : q3 ≠ t := TA2.ne hq3
            have TA3 := TA2.upd (o := .frz o3 (.tup [.ref q1, .ref q2])) q3t
            have q12 : q1 ≠ q2 := fun e => by rw [← e, upd_same] at hq2; cases hq2
            have q13 : q1 ≠ q3 := fun e => by rw [← e, upd_ne q12, upd_same] at hq3; cases hq3
            have q23 : q2 ≠ q3 := fun e => by rw [← e, upd_same] at hq3; cases hq3
            have hq2' : HA q2 = none := by rw [upd_ne q12.symm] at hq2; exact hq2
            have hq3' : HA q3 = none := by rw [upd_ne q23.symm, upd_ne q13.symm] at hq3; exact hq3
            have SA := SE.trans sA
            have z1 := SA.not_new hq1 q1t
            have z2 := SA.not_new hq2' q2t
            have z3 := SA.not_new hq3' q3t
            have oz : os.length = zs.length := el2
            have em : (zs.zip os).map (·.2) = os := List.map_snd_zip (by omega)
            have fm : (zs.zip os).map (·.1) = zs := List.map_fst_zip (by omega)
            have ee : endsOf ⟨sp, zs.zip os⟩ = os.filterMap id := by
              show (zs.zip os).filterMap (·.2) = _
              rw [← em, List.filterMap_map, em]
              rfl
            have en := ends_ok os es hos esN
            refine k (.ref q3) _ ⟨sp, zs.zip os⟩ ⟨P4, ⟨n, hsp.symm⟩, ?_, ?_, ?_, ?_, ?_⟩ ?_ (TA3.mono (by omega)) fun H'' hf => ⟨q3, _, rfl, ⟨o3, hf _ _ z3 upd_same, ho3⟩, _, _, rfl, ⟨q1, _, rfl, ⟨o1, hf _ _ z1 (by rw [upd_ne q13, upd_ne q12]; exact upd_same), ho1⟩, strs_all _ _⟩, _, _, rfl, ⟨q2, acc, rfl, ⟨o2, hf _ _ z2 (by rw [upd_ne q23]; exact upd_same), ho2⟩, ?_⟩, rfl⟩
            · intro b hb
              exact zsIn b (by rwa [fm] at hb)
            · show PyProof.Rows.sortedS ((zs.zip os).map (·.1)) = true
              rw [fm]
              exact srt
            · show ((zs.zip os).map (·.1)).Nodup
              rw [fm]
              exact zsN
            · intro b hb
              rw [ee] at hb
              exact esIn b (en.2 b hb)
            · rw [ee]
              exact en.1
            · intro b o nb e
              have nb1 : b ≠ q1 := fun z => by rw [z, z1] at e; cases e
              have nb2 : b ≠ q2 := fun z => by rw [z, z2] at e; cases e
              have nb3 : b ≠ q3 := fun z => by rw [z, z3] at e; cases e
              rw [upd_ne nb3, upd_ne nb2, upd_ne nb1]
              exact SA b o nb e
            · refine hde H'' fun b o nb e0 e => ?_
              by_cases hz : H b = none
              · have nb1 : b ≠ q1 := fun z => by rw [z, hq1] at e; cases e
                have nb2 : b ≠ q2 := fun z => by rw [z, hq2'] at e; cases e
                have nb3 : b ≠ q3 := fun z => by rw [z, hq3'] at e; cases e
                exact hf b o hz (by rw [upd_ne nb3, upd_ne nb2, upd_ne nb1]; exact e)
              · exfalso
                obtain ⟨u, hu⟩ := Option.ne_none_iff_exists'.mp hz
                by_cases hbt : b = t
                · obtain ⟨xs0, q⟩ := TE.ref
                  rw [hbt, q] at e0
                  cases e0
                · rw [SE b u hbt hu] at e0
                  cases e0
end
end Nal

namespace Nal
open PySem L2 RZ PyProof.Rows
abbrev sis_name : Stmt := topS 3
abbrev Nis_name : List Str := ["thing", "sign"]
abbrev Pis_name : List Str := ["thing"]
theorem scis_name : FnScope ["thing", "sign"] ["thing"] (defScope sis_name) := ⟨rfl, rfl, rfl, by decide +kernel, rfl, by decide +kernel, by decide +kernel⟩
abbrev sis_pair : Stmt := topS 4
abbrev Nis_pair : List Str := ["thing"]
abbrev Pis_pair : List Str := ["thing"]
theorem scis_pair : FnScope ["thing"] ["thing"] (defScope sis_pair) := ⟨rfl, rfl, rfl, by decide +kernel, rfl, by decide +kernel, by decide +kernel⟩
abbrev sis_name_pair : Stmt := topS 8
abbrev Nis_name_pair : List Str := ["thing"]
abbrev Pis_name_pair : List Str := ["thing"]
theorem scis_name_pair : FnScope ["thing"] ["thing"] (defScope sis_name_pair) := ⟨rfl, rfl, rfl, by decide +kernel, rfl, by decide +kernel, by decide +kernel⟩
abbrev sis_way : Stmt := topS 9
abbrev Nis_way : List Str := ["thing"]
abbrev Pis_way : List Str := ["thing"]
theorem scis_way : FnScope ["thing"] ["thing"] (defScope sis_way) := ⟨rfl, rfl, rfl, by decide +kernel, rfl, by decide +kernel, by decide +kernel⟩
def letters : Str := "abcdefghijklmnopqrstuvwxyz"
mutual
/-- data of which nothing is too great -/
def okz : PyData → Prop
  | .str x => x.cps.size ≤ 1000
  | .list ds => ds.length ≤ 1000 ∧ okzAll ds
  | .tuple ds => ds.length ≤ 1000 ∧ okzAll ds
  | _ => True
def okzAll : List PyData → Prop
  | [] => True
  | d :: ds => okz d ∧ okzAll ds
end
theorem okzAll_at : ∀ {ds : List PyData} {i : Nat} {d : PyData}, okzAll ds → ds[i]? = some d → okz d
  | [], i, d, _, e => by simp at e
  | c :: ds, 0, d, h, e => by
    cases (Option.some.inj e)
    exact h.1
  | c :: ds, i + 1, d, h, e => okzAll_at (i := i) h.2 e
/-- what a NAME is -/
def nameB : PyData → Bool
  | .str x => decide (1 ≤ x.cps.size) && (decide (x.cps.size ≤ 8) && x.cps.toList.all fun c => decide (c ∈ letters.cps.toList))
  | _ => false
/-- what a pair is -/
def pairB : PyData → Bool
  | .tuple ds => ds.length == 2
  | _ => false
def isStrD : PyData → Bool
  | .str _ => true
  | _ => false
def isTupD : PyData → Bool
  | .tuple _ => true
  | _ => false
theorem kit_str {K : PySem.W.Frag} : ∀ d : PyData, PySem.W.kitOne K (.type (tyN d)) (.type "str") = some (isStrD d)
  | .none => kit_b (t := "NoneType") (r := false) (by decide +kernel)
  | .bool _ => kit_b (t := "bool") (r := false) (by decide +kernel)
  | .int _ => kit_b (t := "int") (r := false) (by decide +kernel)
  | .str _ => kit_b (t := "str") (r := true) (by decide +kernel)
  | .list _ => kit_b (t := "list") (r := false) (by decide +kernel)
  | .tuple _ => kit_b (t := "tuple") (r := false) (by decide +kernel)
  | .dict _ => kit_b (t := "dict") (r := false) (by decide +kernel)
theorem kit_tup {K : PySem.W.Frag} : ∀ d : PyData, PySem.W.kitOne K (.type (tyN d)) (.type "tuple") = some (isTupD d)
  | .none => kit_b (t := "NoneType") (r := false) (by decide +kernel)
  | .bool _ => kit_b (t := "bool") (r := false) (by decide +kernel)
  | .int _ => kit_b (t := "int") (r := false) (by decide +kernel)
  | .str _ => kit_b (t := "str") (r := false) (by decide +kernel)
  | .list _ => kit_b (t := "list") (r := false) (by decide +kernel)
  | .tuple _ => kit_b (t := "tuple") (r := true) (by decide +kernel)
  | .dict _ => kit_b (t := "dict") (r := false) (by decide +kernel)
section
variable {P : Program} {w : World} {K : PySem.W.Frag} {mg : Str → Option Value} {base : Heap}
/-- a question about data -/
def spAsk (p : PyData → Bool) : Sp := fun vs H Q _ => ∃ (d : PyData) (v : V), vs = [v] ∧ De H d v ∧ okz d ∧ ∀ H', Same H H' → Q (.bl (p d)) H'
theorem ok_is_name {f : Addr} {fd : FuncData} {uL uN : Value} (F : Fun K "is_name" "is_name" sis_name f fd) (T : Txt K mg) (mLETTERS : mg "LETTERS" = some uL) (rLETTERS : RelV (.str "abcdefghijklmnopqrstuvwxyz") uL) (mLONGEST : mg "LONGEST_NAME" = some uN) (rLONGEST : RelV (.int 8) uN) :
    FnOk P w K mg base CX0 1 f fd ["thing"] (spAsk nameB) := by
  refine F.ok scis_name (fun vs H Q E h => ?_) (fun cdv A outer s H vs Q E hr h => ?_)
  · obtain ⟨d, v, rfl, _⟩ := h
    rfl
  · obtain ⟨d, v, rfl, hd, hz, k⟩ := h
    refine ⟨_, (pss_cons (ps_if (pt_not (pt_val (pe_callB (r := rIsi K) call_isi (by rfl) T.b_isinstance (by decide +kernel) (pa_cons (pv 0) (pa_cons (pe_bltn (v := .ty "str") (u := .type "str") (by rfl) T.b_str (by decide +kernel) (by rfl)) pa_nil))))) (pss_one (ps_ret pe_bl)) pss_nil)
      (pss_one (ps_ret (pe_and (pe_chain op_le op_le pe_int (pe_callB call_len_str (by rfl) T.b_len (by decide +kernel) (pa_cons (pv 0) pa_nil)) (pe_glob (v := .int 8) (by rfl) mLONGEST rLONGEST)) (pe_one (pe_callB (r := rAll K) (cr_all rfl) (by rfl) T.b_all (by decide +kernel) (pa_cons (pe_lc (own := [("sign", 1)]) (g := (gName 1)) (tt := tYes) rfl scis_name.nd (pi_str (pv 0)) (blkOk_by (own := [("sign", 1)]) (N := ["thing", "sign"]) (sc := defScope sis_name) (by decide +kernel)) (fun _ _ _ _ _ => (pg_name (i := 1) scis_name.nd rfl (Or.inl rfl))) (fun _ _ _ _ _ => pts_nil) (fun _ _ _ _ _ => (pe_cmpR op_in_sign (pv 1) (pe_glob (v := .str "abcdefghijklmnopqrstuvwxyz") (by rfl) mLETTERS rLETTERS) rfl))) pa_nil))))))), ?_⟩
    refine ⟨_, rfl, _, _, _, _, _, rfl, .ty "str", hd.ty, kit_str d, _, rfl, ?_⟩
    cases hs : isStrD d with
    | false =>
      refine iteT ?_
      have e : nameB d = false := by
        cases d with
        | str x => cases hs
        | _ => rfl
      have z := k H fun _ _ q => q
      rw [e] at z
      exact z
    | true =>
      cases d with
      | str x =>
        cases (show v = .str x from hd)
        refine iteF ?_
        have zx : x.cps.size ≤ 1000 := hz
        refine ⟨_, rfl, x, rfl, Nat.le_trans zx (by decide), _, _, rfl, rfl, _, rfl, ?_⟩
        have no : nameB (.str x) = false → Q (.bl false) H := fun e => by
          have z := k H fun _ _ q => q
          rw [e] at z
          exact z
        refine ite2 (fun c1 => ?_) (fun c1 => ?_)
        · refine ⟨_, _, rfl, rfl, _, rfl, ite2 (fun c2 => ?_) (fun c2 => ?_)⟩
          · refine ⟨_, rfl, _, rfl, fun D hD => lc_it (w := walk_str) (fun i H' => Same H H' ∧ H' D = some (.lst (((x.cps.toList.take i).map fun c => decide (c ∈ letters.cps.toList)).map V.bl))) ⟨same_new hD, upd_same⟩ (fun _ _ _ _ => trivial) ?_ ?_⟩
            · rintro i y _ H1 hi ⟨s1, h1⟩ ⟨rfl, c, ec, rfl⟩
              refine ⟨rfl, _, rfl, c, _, rfl, rfl, _, h1, Nat.lt_of_le_of_lt (show _ ≤ 1000 by
                rw [List.length_map, List.length_map, List.length_take]
                have q : x.cps.toList.length = x.cps.size := by simp
                omega) (by decide), fun b o e => ?_, ?_⟩
              · rw [upd_ne (ne_of_none e hD)]
                exact s1 _ _ e
              · rw [upd_same, List.take_add_one, show x.cps.toList[i]? = some c by simpa using ec, List.map_append, List.map_append]
                rfl
            · rintro H1 ⟨s1, h1⟩
              rw [List.take_of_length_le (by simp)] at h1
              refine ⟨D, _, rfl, SqL.of h1, ?_⟩
              have e : nameB (.str x) = ((x.cps.toList.map fun c => decide (c ∈ letters.cps.toList)).all id) := by
                have b1 : 1 ≤ x.cps.size := by
                  have z := of_decide_eq_true c1
                  have q : (1 : Int) ≤ (x.cps.size : Int) := z
                  omega
                have b2 : x.cps.size ≤ 8 := by
                  have z := of_decide_eq_true c2
                  have q : (x.cps.size : Int) ≤ 8 := z
                  omega
                show (decide (1 ≤ x.cps.size) && (decide (x.cps.size ≤ 8) && _)) = _
                rw [decide_eq_true b1, decide_eq_true b2, Bool.true_and, Bool.true_and, List.all_map]
                rfl
              rw [← e]
              exact k H1 s1
          · refine no ?_
            have b2 : ¬ x.cps.size ≤ 8 := fun z => c2 (decide_eq_true (show (x.cps.size : Int) ≤ 8 by omega))
            show (decide (1 ≤ x.cps.size) && (decide (x.cps.size ≤ 8) && _)) = false
            rw [decide_eq_false b2, Bool.false_and, Bool.and_false]
        · refine ⟨_, rfl, ite2 (fun z => nomatch z) (fun _ => no ?_)⟩
          have b1 : ¬ 1 ≤ x.cps.size := fun z => c1 (decide_eq_true (show (1 : Int) ≤ (x.cps.size : Int) by omega))
          show (decide (1 ≤ x.cps.size) && _) = false
          rw [decide_eq_false b1, Bool.false_and]
      | none => cases hs
      | bool b => cases hs
      | int i => cases hs
      | list ds => cases hs
      | tuple ds => cases hs
      | dict kvs => cases hs
theorem ok_is_pair {f : Addr} {fd : FuncData} (F : Fun K "is_pair" "is_pair" sis_pair f fd) (T : Txt K mg) : FnOk P w K mg base CX0 1 f fd ["thing"] (spAsk pairB) := by
  refine F.ok scis_pair (fun vs H Q E h => ?_) (fun cdv A outer s H vs Q E hr h => ?_)
  · obtain ⟨d, v, rfl, _⟩ := h
    rfl
  · obtain ⟨d, v, rfl, hd, hz, k⟩ := h
    refine ⟨_, (pss_one (ps_ret (pe_and (pe_callB (r := rIsi K) call_isi (by rfl) T.b_isinstance (by decide +kernel) (pa_cons (pv 0) (pa_cons (pe_bltn (v := .ty "tuple") (u := .type "tuple") (by rfl) T.b_tuple (by decide +kernel) (by rfl)) pa_nil))) (pe_one (pe_cmpR op_eq (pe_callB (r := rLn K) call_len_seq (by rfl) T.b_len (by decide +kernel) (pa_cons (pv 0) pa_nil)) pe_int (nomark _)))))), ?_⟩
    refine ⟨_, rfl, _, _, _, _, _, rfl, .ty "tuple", hd.ty, kit_tup d, _, rfl, ?_⟩
    cases d with
    | tuple ds =>
      obtain ⟨a, xs, rfl, ha, hs⟩ := hd
      refine iteT ⟨_, rfl, a, xs, rfl, .inr ha.sq, rfl, ?_⟩
      have e : decide (V.int (xs.length : Nat) = V.int 2) = pairB (.tuple ds) := by
        show _ = (ds.length == 2)
        rw [hs.len, L2.dec_int, Bool.eq_iff_iff]
        simp only [beq_iff_eq]
        omega
      show Q (.bl (decide (V.int (xs.length : Nat) = V.int 2))) H
      rw [e]
      exact k H fun _ _ q => q
    | _ =>
      refine iteF ?_
      exact k H fun _ _ q => q
/-- what a pair of NAMEs is -/
def namePairB : PyData → Bool
  | .tuple [a, b] => nameB a && nameB b
  | _ => false
theorem pair_of {d : PyData} (h : pairB d = true) : ∃ a b, d = .tuple [a, b] := by
  cases d with
  | tuple ds =>
    match ds, h with
    | [a, b], _ => exact ⟨a, b, rfl⟩
  | none => cases h
  | bool b => cases h
  | int i => cases h
  | str x => cases h
  | list ds => cases h
  | dict kvs => cases h
theorem not_pair {d : PyData} (h : pairB d = false) : namePairB d = false := by
  cases d with
  | tuple ds =>
    match ds, h with
    | [], _ => rfl
    | [a], _ => rfl
    | a :: b :: c :: r, _ => rfl
  | _ => rfl
theorem ok_is_name_pair {f f1 f2 : Addr} {fd fd1 fd2 : FuncData} (F : Fun K "is_name_pair" "is_name_pair" sis_name_pair f fd) (T : Txt K mg) (Gis_pair : FnOk P w K mg base CX0 1 f1 fd1 ["thing"] (spAsk pairB)) (mis_pair : mg "is_pair" = some (.ref f1)) (kis_pair : PySem.W.keepIn K (.ref f1) = true) (bis_pair : Binds K fd1 ["thing"] [])
    (Gis_name : FnOk P w K mg base CX0 1 f2 fd2 ["thing"] (spAsk nameB)) (mis_name : mg "is_name" = some (.ref f2)) (kis_name : PySem.W.keepIn K (.ref f2) = true) (bis_name : Binds K fd2 ["thing"] []) : FnOk P w K mg base CX0 2 f fd ["thing"] (spAsk namePairB) := by
  refine F.ok scis_name_pair (fun vs H Q E h => ?_) (fun cdv A outer s H vs Q E hr h => ?_)
  · obtain ⟨d, v, rfl, _⟩ := h
    rfl
  · obtain ⟨d, v, rfl, hd, hz, k⟩ := h
    refine ⟨_, (pss_one (ps_ret (pe_and (pe_call Gis_pair (hr.mono (by decide)) rfl mis_pair kis_pair bis_pair .nil pass0 (pa_cons (pv 0) pa_nil)) (pe_and (pe_call Gis_name (hr.mono (by decide)) rfl mis_name kis_name bis_name .nil pass0 (pa_cons (pe_ix (r := rIxT K) ix_tup (pv 0) pe_int (fun _ _ => rfl)) pa_nil)) (pe_one (pe_call Gis_name (hr.mono (by decide)) rfl mis_name kis_name bis_name .nil pass0 (pa_cons (pe_ix (r := rIxT K) ix_tup (pv 0) pe_int (fun _ _ => rfl)) pa_nil))))))), ?_⟩
    refine ⟨_, rfl, d, v, rfl, hd, hz, fun H1 s1 => ⟨_, rfl, ite2 (fun c => ?_) (fun c => ?_)⟩⟩
    · obtain ⟨a, b, rfl⟩ := pair_of c
      obtain ⟨p, xs, rfl, hp, x, r1, rfl, hx, y, r2, rfl, hy, h0⟩ := hd
      cases (show r2 = [] from h0)
      have hp1 := hp.keep s1
      refine ⟨_, rfl, p, _, 0, _, rfl, rfl, hp1.sq, rfl, a, x, rfl, De.keep s1 _ _ hx, hz.2.1, fun H2 s2 => ⟨_, rfl, ite2 (fun c1 => ?_) (fun c1 => ?_)⟩⟩
      · refine ⟨_, rfl, p, _, 1, _, rfl, rfl, (hp1.keep s2).sq, rfl, b, y, rfl, De.keep (s1.trans s2) _ _ hy, hz.2.2.1, fun H3 s3 => ?_⟩
        have z := k H3 (s1.trans (s2.trans s3))
        rw [show namePairB (.tuple [a, b]) = nameB b from by
          show (nameB a && nameB b) = _
          rw [c1, Bool.true_and]] at z
        exact z
      · have z := k H2 (s1.trans s2)
        rw [show namePairB (.tuple [a, b]) = false from by
          show (nameB a && nameB b) = _
          rw [Bool.eq_false_iff.mpr c1, Bool.false_and]] at z
        exact z
    · have z := k H1 s1
      rw [not_pair (Bool.eq_false_iff.mpr c)] at z
      exact z
/-- what a way is -/
def isNoneD : PyData → Bool
  | .none => true
  | _ => false
def wayB : PyData → Bool
  | .tuple [a, b] => nameB a && (nameB b || isNoneD b)
  | _ => false
theorem not_pair2 {d : PyData} (h : pairB d = false) : wayB d = false := by
  cases d with
  | tuple ds =>
    match ds, h with
    | [], _ => rfl
    | [a], _ => rfl
    | a :: b :: c :: r, _ => rfl
  | _ => rfl
theorem non_V {H : Hp} {d : PyData} {v : V} (h : De H d v) : decide (v = V.non) = isNoneD d := by
  cases d with
  | none => rw [show v = .non from h]; rfl
  | bool b => rw [show v = .bl b from h]; rfl
  | int i => rw [show v = .int i from h]; rfl
  | str x => rw [show v = .str x from h]; rfl
  | list ds => obtain ⟨a, xs, rfl, _⟩ := h; rfl
  | tuple ds => obtain ⟨a, xs, rfl, _⟩ := h; rfl
  | dict kvs => exact h.elim
theorem name_way {d : PyData} (h : namePairB d = true) : wayB d = true := by
  cases d with
  | tuple ds =>
    match ds, h with
    | [a, b], h =>
      have q := Bool.and_eq_true_iff.mp (show (nameB a && nameB b) = true from h)
      show (nameB a && (nameB b || isNoneD b)) = true
      rw [q.1, q.2]
      rfl
    | [], h => cases h
    | [a], h => cases h
    | a :: b :: c :: r, h => cases h
  | none => cases h
  | bool b => cases h
  | int i => cases h
  | str x => cases h
  | list ds => cases h
  | dict kvs => cases h
theorem ok_is_way {f f1 f2 f3 : Addr} {fd fd1 fd2 fd3 : FuncData} (F : Fun K "is_way" "is_way" sis_way f fd) (T : Txt K mg) (Gis_pair : FnOk P w K mg base CX0 1 f1 fd1 ["thing"] (spAsk pairB)) (mis_pair : mg "is_pair" = some (.ref f1)) (kis_pair : PySem.W.keepIn K (.ref f1) = true) (bis_pair : Binds K fd1 ["thing"] [])
    (Gis_name : FnOk P w K mg base CX0 1 f2 fd2 ["thing"] (spAsk nameB)) (mis_name : mg "is_name" = some (.ref f2)) (kis_name : PySem.W.keepIn K (.ref f2) = true) (bis_name : Binds K fd2 ["thing"] [])
    (Gis_name_pair : FnOk P w K mg base CX0 2 f3 fd3 ["thing"] (spAsk namePairB)) (mis_name_pair : mg "is_name_pair" = some (.ref f3)) (kis_name_pair : PySem.W.keepIn K (.ref f3) = true) (bis_name_pair : Binds K fd3 ["thing"] []) : FnOk P w K mg base CX0 3 f fd ["thing"] (spAsk wayB) := by
  refine F.ok scis_way (fun vs H Q E h => ?_) (fun cdv A outer s H vs Q E hr h => ?_)
  · obtain ⟨d, v, rfl, _⟩ := h
    rfl
  · obtain ⟨d, v, rfl, hd, hz, k⟩ := h
    refine ⟨_, (pss_one (ps_ret (pe_or (pe_call Gis_name_pair (hr.mono (by decide)) rfl mis_name_pair kis_name_pair bis_name_pair .nil pass0 (pa_cons (pv 0) pa_nil)) (pe_one (pe_and (pe_call Gis_pair (hr.mono (by decide)) rfl mis_pair kis_pair bis_pair .nil pass0 (pa_cons (pv 0) pa_nil)) (pe_and (pe_call Gis_name (hr.mono (by decide)) rfl mis_name kis_name bis_name .nil pass0 (pa_cons (pe_ix (r := rIxT K) ix_tup (pv 0) pe_int (fun _ _ => rfl)) pa_nil)) (pe_one (pe_cmpR op_isN (pe_ix (r := rIxT K) ix_tup (pv 0) pe_int (fun _ _ => rfl)) pe_non (nomark _))))))))), ?_⟩
    refine ⟨_, rfl, d, v, rfl, hd, hz, fun H1 s1 => ⟨_, rfl, ite2 (fun c => ?_) (fun c => ?_)⟩⟩
    · have z := k H1 s1
      rw [name_way c] at z
      exact z
    · have hd1 := De.keep s1 _ _ hd
      refine ⟨_, rfl, d, v, rfl, hd1, hz, fun H2 s2 => ⟨_, rfl, ite2 (fun cp => ?_) (fun cp => ?_)⟩⟩
      · obtain ⟨a, b, rfl⟩ := pair_of cp
        obtain ⟨p, xs, rfl, hp, x, r1, rfl, hx, y, r2, rfl, hy, h0⟩ := hd
        cases (show r2 = [] from h0)
        have s12 := s1.trans s2
        refine ⟨_, rfl, p, _, 0, _, rfl, rfl, (hp.keep s12).sq, rfl, a, x, rfl, De.keep s12 _ _ hx, hz.2.1, fun H3 s3 => ⟨_, rfl, ite2 (fun c1 => ?_) (fun c1 => ?_)⟩⟩
        · refine ⟨_, rfl, p, _, 1, _, rfl, rfl, (hp.keep (s12.trans s3)).sq, rfl, rfl, ?_⟩
          have z := k H3 (s12.trans s3)
          have nb : nameB b = false := by
            have q := Bool.eq_false_iff.mpr c
            have q2 : (nameB a && nameB b) = false := q
            rw [c1, Bool.true_and] at q2
            exact q2
          rw [show wayB (.tuple [a, b]) = isNoneD b from by
            show (nameB a && (nameB b || isNoneD b)) = _
            rw [c1, nb, Bool.true_and, Bool.false_or], ← non_V hy] at z
          exact z
        · have z := k H3 (s12.trans s3)
          rw [show wayB (.tuple [a, b]) = false from by
            show (nameB a && (nameB b || isNoneD b)) = _
            rw [Bool.eq_false_iff.mpr c1, Bool.false_and]] at z
          exact z
      · have z := k H2 (s1.trans s2)
        rw [not_pair2 (Bool.eq_false_iff.mpr cp)] at z
        exact z
end
end Nal

namespace Nal
open PySem L2 RZ PyProof.Rows
abbrev sis_ascending : Stmt := topS 5
abbrev Nis_ascending : List Str := ["row", "low", "high"]
abbrev Pis_ascending : List Str := ["row"]
theorem scis_ascending : FnScope ["row", "low", "high"] ["row"] (defScope sis_ascending) := ⟨rfl, rfl, rfl, by decide +kernel, rfl, by decide +kernel, by decide +kernel⟩
def ltS (p : Str × Str) : Bool := decide (p.1.cps.toList < p.2.cps.toList)
/-- texts ascend -/
def ascB (ss : List Str) : Bool := (ss.zip (ss.drop 1)).all ltS
theorem cut_rest (ss : List Str) : cutV (ss.map V.str) (some 1) none = (ss.drop 1).map V.str := by
  unfold cutV
  have e : HT.sIx (ss.map V.str).length 0 (some 1) = min 1 (ss.map V.str).length := HT.sIx_nat _ _ 1
  have e2 : HT.sIx (ss.map V.str).length (ss.map V.str).length none = (ss.map V.str).length := rfl
  rw [e, e2, List.length_map, ← List.map_drop, ← List.map_take]
  congr 1
  cases ss with
  | nil => rfl
  | cons x r =>
    have m : min 1 (x :: r).length = 1 := by
      rw [List.length_cons]
      omega
    rw [m]
    show (r.take (r.length + 1 - 1)) = r
    rw [Nat.add_sub_cancel, List.take_length]
section
variable {P : Program} {w : World} {K : PySem.W.Frag} {mg : Str → Option Value} {base : Heap}
/-- whether texts in a tuple or a list ascend -/
def spAsc : Sp := fun vs H Q _ => ∃ (a : Addr) (ss : List Str), vs = [.ref a] ∧ (H a = some (.lst (ss.map V.str)) ∨ PT H a (ss.map V.str)) ∧ ss.length ≤ 1000 ∧ ∀ H', Same H H' → Q (.bl (ascB ss)) H'
theorem ok_asc {f : Addr} {fd : FuncData} (F : Fun K "is_ascending" "is_ascending" sis_ascending f fd) (T : Txt K mg) : FnOk P w K mg base CX0 1 f fd ["row"] spAsc := by
  refine F.ok scis_ascending (fun vs H Q E h => ?_) (fun cdv A outer s H vs Q E hr h => ?_)
  · obtain ⟨a, ss, rfl, _⟩ := h
    rfl
  · obtain ⟨a, ss, rfl, ha, hl, k⟩ := h
    have zl : (ss.zip (ss.drop 1)).length = min ss.length (ss.drop 1).length := List.length_zip
    have zn : (ss.zip (ss.drop 1)).length ≤ 1000 := by omega
    have turn : ∀ {H1 H2 : Hp} {D : Addr} {i : Nat} {x y : V}, H1 D = none → i < (ss.zip (ss.drop 1)).length → Same H1 H2 → H2 D = some (.lst ((((ss.zip (ss.drop 1)).take i).map ltS).map V.bl)) → (ss.map V.str)[i]? = some x → ((ss.drop 1).map V.str)[i]? = some y →
        ∃ p q : Str, x = .str p ∧ y = .str q ∧ ∀ {H3 : Hp}, Same H2 H3 → ∃ acc, H3 D = some (.lst acc) ∧ acc.length < sizeLine ∧ Same H1 (L2.upd H3 D (.lst (acc ++ [.bl (decide (p.cps.toList < q.cps.toList))]))) ∧ L2.upd H3 D (.lst (acc ++ [.bl (decide (p.cps.toList < q.cps.toList))])) D = some (.lst ((((ss.zip (ss.drop 1)).take (i + 1)).map ltS).map V.bl)) := by
      intro H1 H2 D i x y hD hi s2 h2 ex ey
      have i1 : i < ss.length := by omega
      have i2 : i < (ss.drop 1).length := by omega
      cases (str_at i1).symm.trans ex
      cases (str_at i2).symm.trans ey
      refine ⟨_, _, rfl, rfl, fun {H3} s3 => ⟨_, s3 _ _ h2, Nat.lt_of_le_of_lt (show _ ≤ 1000 by
        rw [List.length_map, List.length_map, List.length_take]
        omega) (by decide), fun b o e => ?_, ?_⟩⟩
      · rw [upd_ne (ne_of_none e hD)]
        exact s3 _ _ (s2 _ _ e)
      · rw [upd_same, List.take_add_one, List.getElem?_eq_getElem hi, List.getElem_zip, List.map_append, List.map_append]
        rfl
    have fin : ∀ {H1 : Hp} {D : Addr}, Same H H1 → H1 D = some (.lst ((((ss.zip (ss.drop 1)).take (ss.zip (ss.drop 1)).length).map ltS).map V.bl)) → rAll K [.ref D] H1 Q := fun {H1 D} s1 h1 => by
      rw [List.take_length] at h1
      refine ⟨D, _, rfl, SqL.of h1, ?_⟩
      have z := k H1 s1
      rw [show ascB ss = (((ss.zip (ss.drop 1)).map ltS).all id) from by rw [List.all_map]; rfl] at z
      exact z
    rcases ha with ha | ha
    · refine ⟨_, (pss_one (ps_ret (pe_callB (r := rAll K) (cr_all rfl) (by rfl) T.b_all (by decide +kernel) (pa_cons (pe_lc (own := [("low", 1), ("high", 2)]) (g := (gTup K 2 (gCons (gName 1) (gCons (gName 2) gNil)))) (tt := tYes) rfl scis_ascending.nd (pi_zipA (by rfl) T.b_zip (pa_cons (pv 0) (pa_cons (pe_slice sl_list (pv 0) (po_some pe_int) po_none) pa_nil))) (blkOk_by (own := [("low", 1), ("high", 2)]) (N := ["row", "low", "high"]) (sc := defScope sis_ascending) (by decide +kernel)) (fun _ _ _ _ _ => (pg_tup rfl (pgs_cons (pg_name (i := 1) scis_ascending.nd rfl (Or.inl rfl)) (pgs_cons (pg_name (i := 2) scis_ascending.nd rfl (Or.inl rfl)) pgs_nil)))) (fun _ _ _ _ _ => pts_nil) (fun _ _ _ _ _ => (pe_cmpR op_lt_str (pv 1) (pv 2) (nomark _)))) pa_nil)))), ?_⟩
      refine ⟨_, rfl, _, rfl, 1, rfl, a, _, rfl, SqL.of ha, fun b nb => ?_⟩
      rw [cut_rest]
      have s1 := same_new (o := .lst ((ss.drop 1).map V.str)) nb
      have hb : L2.upd H b (.lst ((ss.drop 1).map V.str)) b = some (.lst ((ss.drop 1).map V.str)) := upd_same
      generalize L2.upd H b (.lst ((ss.drop 1).map V.str)) = H1 at s1 hb ⊢
      have ha1 := s1 _ _ ha
      refine ⟨a, b, _, _, rfl, .inl ⟨SqL.of ha1, SqL.of hb, fun D hD => lc_it (w := walk_zip (K := K) (a := a) (b := b) (xs := ss.map V.str) (ys := (ss.drop 1).map V.str) (n := (ss.zip (ss.drop 1)).length) (by rw [List.length_map, List.length_map]; exact zl))
        (fun i H' => Same H1 H' ∧ H' D = some (.lst ((((ss.zip (ss.drop 1)).take i).map ltS).map V.bl))) ⟨same_new hD, upd_same⟩ (fun i H' _ h => ⟨SqL.of (h.1 _ _ ha1), SqL.of (h.1 _ _ hb)⟩) ?_ ?_⟩⟩
      · rintro i x H2 _ hi ⟨s2, h2⟩ ⟨T1, x1, y1, rfl, hT1, rfl, e1, e2⟩
        obtain ⟨p, q, rfl, rfl, go⟩ := turn hD hi s2 h2 e1 e2
        exact ⟨T1, _, rfl, SqT.of upd_same, rfl, _, _, rfl, _, _, rfl, rfl, rfl, _, rfl, _, rfl, p, q, rfl, rfl, go (same_new hT1)⟩
      · rintro H2 ⟨s2, h2⟩
        exact fin (s1.trans s2) h2
    · refine ⟨_, (pss_one (ps_ret (pe_callB (r := rAll K) (cr_all rfl) (by rfl) T.b_all (by decide +kernel) (pa_cons (pe_lc (own := [("low", 1), ("high", 2)]) (g := (gTup K 2 (gCons (gName 1) (gCons (gName 2) gNil)))) (tt := tYes) rfl scis_ascending.nd (pi_zipA (by rfl) T.b_zip (pa_cons (pv 0) (pa_cons (pe_slice sl_tupA (pv 0) (po_some pe_int) po_none) pa_nil))) (blkOk_by (own := [("low", 1), ("high", 2)]) (N := ["row", "low", "high"]) (sc := defScope sis_ascending) (by decide +kernel)) (fun _ _ _ _ _ => (pg_tup rfl (pgs_cons (pg_name (i := 1) scis_ascending.nd rfl (Or.inl rfl)) (pgs_cons (pg_name (i := 2) scis_ascending.nd rfl (Or.inl rfl)) pgs_nil)))) (fun _ _ _ _ _ => pts_nil) (fun _ _ _ _ _ => (pe_cmpR op_lt_str (pv 1) (pv 2) (nomark _)))) pa_nil)))), ?_⟩
      refine ⟨_, rfl, _, rfl, 1, rfl, a, _, rfl, ha.sq, fun wh => ?_, fun _ b nb => ?_⟩
      · have e : HT.sIx (ss.map V.str).length 0 (some 1) = min 1 (ss.map V.str).length := HT.sIx_nat _ _ 1
        have z := wh.1
        rw [e, List.length_map] at z
        have nil : ss = [] := List.length_eq_zero_iff.mp (by omega)
        subst nil
        refine ⟨a, a, _, _, rfl, .inr ⟨ha.sq, ha.sq, fun D hD => lc_it (w := walk_zipT (K := K) (a := a) (b := a) (xs := []) (ys := []) (n := 0) rfl) (fun i H' => Same H H' ∧ H' D = some (.lst [])) ⟨same_new hD, upd_same⟩ (fun i H' _ h => ⟨(ha.keep h.1).sq, (ha.keep h.1).sq⟩) ?_ ?_⟩⟩
        · rintro i x H2 H3 hi _ _
          exact absurd hi (Nat.not_lt_zero _)
        · rintro H2 ⟨s2, h2⟩
          exact fin s2 h2
      · rw [cut_rest]
        have s1 := same_new (o := .tup ((ss.drop 1).map V.str)) nb
        have hb : L2.upd H b (.tup ((ss.drop 1).map V.str)) b = some (.tup ((ss.drop 1).map V.str)) := upd_same
        generalize L2.upd H b (.tup ((ss.drop 1).map V.str)) = H1 at s1 hb ⊢
        have ha1 := ha.keep s1
        refine ⟨a, b, _, _, rfl, .inr ⟨ha1.sq, SqT.of hb, fun D hD => lc_it (w := walk_zipT (K := K) (a := a) (b := b) (xs := ss.map V.str) (ys := (ss.drop 1).map V.str) (n := (ss.zip (ss.drop 1)).length) (by rw [List.length_map, List.length_map]; exact zl))
          (fun i H' => Same H1 H' ∧ H' D = some (.lst ((((ss.zip (ss.drop 1)).take i).map ltS).map V.bl))) ⟨same_new hD, upd_same⟩ (fun i H' _ h => ⟨(ha1.keep h.1).sq, SqT.of (h.1 _ _ hb)⟩) ?_ ?_⟩⟩
        · rintro i x H2 _ hi ⟨s2, h2⟩ ⟨T1, x1, y1, rfl, hT1, rfl, e1, e2⟩
          obtain ⟨p, q, rfl, rfl, go⟩ := turn hD hi s2 h2 e1 e2
          exact ⟨T1, _, rfl, SqT.of upd_same, rfl, _, _, rfl, _, _, rfl, rfl, rfl, _, rfl, _, rfl, p, q, rfl, rfl, go (same_new hT1)⟩
        · rintro H2 ⟨s2, h2⟩
          exact fin (s1.trans s2) h2
end
end Nal

namespace Nal
open PySem PySem.Calls PyProof.Rows
/-- how many different texts -/
def dcnt : List Str → Nat
  | [] => 0
  | x :: r => if r.contains x then dcnt r else dcnt r + 1
theorem dcnt_le : ∀ l : List Str, dcnt l ≤ l.length
  | [] => Nat.le_refl _
  | x :: r => by
    have h := dcnt_le r
    show (if r.contains x then dcnt r else dcnt r + 1) ≤ r.length + 1
    split <;> omega
section
variable {prog : Program} {w : World} {A : Around} {R : Result → Shared → Prop} {I : Addr} {fp wr : List Addr} {G : Array GenState → Array GenState → Prop} {n : Nat} {P : Nat → Value → Prop} {St : Nat → Shared → Prop}
/-- the texts that came so far, the last one first -/
def came (xs : List Str) (i : Nat) : List Str := (xs.take i).reverse
theorem came_next {xs : List Str} {i : Nat} {x : Str} (e : xs[i]? = some x) : came xs (i + 1) = x :: came xs i := by
  unfold came
  rw [List.take_add_one, e, List.reverse_append]
  rfl
/-- set.update's loop over any row of texts -/
theorem loop_texts (W : WalksS prog w A.in1 I fp wr G n P St) (S : Addr) (fresh_ : S ∉ fp) (xs : List Str) (len : xs.length = n) (few : n + 1 < scanBound) (vals : ∀ i v, P i v → ∃ x t, xs[i]? = some x ∧ v = .str x t) :
    ∀ (m i : Nat) (s : Shared), n - i = m → i ≤ n → St i s → s.heap.SetOf (PySem.strKind prog w) S (fun y => (came xs i).contains y) (dcnt (came xs i)) →
      (∀ s', Moved (S :: wr) G s s' → s'.heap.SetOf (PySem.strKind prog w) S (fun y => (came xs n).contains y) (dcnt (came xs n)) → R (.ok (.ret .none)) s') →
      codeAny (model prog w) A (.builtin "set.update.loop" ⟨[.ref S, .ref I], []⟩) R s := by
  have out : S ∉ wr := fun q => fresh_ (W.sub _ q)
  have more : ∀ b ∈ wr, b ∈ S :: wr := fun b q => List.mem_cons_of_mem _ q
  intro m
  induction m with
  | zero =>
    intro i s hm hi st hS fin
    obtain rfl : i = n := by omega
    refine codeAny_builtin PyProof.Rows.F.entry_set_update_loop ?_
    rw [Around.under_plainId PyProof.Rows.F.plain_set_update_loop _]
    show wpAny _ A.in1 (pyNext (.ref I) >>= _) _ _ s
    refine wpAny_bind (W.done s _ _ st fun s' mv => ?_)
    show wpAny _ A.in1 (ret Value.none) _ _ s'
    refine wpAny_pure (fin s' (mv.mono more) ?_)
    obtain ⟨o, es, ep, tb, q, rest⟩ := hS
    exact ⟨o, es, ep, tb, mv.heap S _ out q, rest⟩
  | succ m ih =>
    intro i s hm hi st hS fin
    have lt : i < n := by omega
    refine codeAny_builtin PyProof.Rows.F.entry_set_update_loop ?_
    rw [Around.under_plainId PyProof.Rows.F.plain_set_update_loop _]
    show wpAny _ A.in1 (pyNext (.ref I) >>= _) _ _ s
    refine wpAny_bind (W.item i s _ _ lt st fun v s' pv st' mv => ?_)
    obtain ⟨x, t, ex, rfl⟩ := vals i v pv
    have S1 : s'.heap.SetOf (PySem.strKind prog w) S (fun y => (came xs i).contains y) (dcnt (came xs i)) := by
      obtain ⟨o, es, ep, tb, q, rest⟩ := hS
      exact ⟨o, es, ep, tb, mv.heap S _ out q, rest⟩
    show wpAny _ A.in1 (holding [Value.str x t] (setAdd S (.str x t)) >>= _) _ _ s'
    refine wpAny_bind (wpAny_holding ?_)
    unfold setAdd
    have room : dcnt (came xs i) + 1 < scanBound := by
      have h1 := dcnt_le (came xs i)
      have h2 : (came xs i).length ≤ i := by
        unfold came
        rw [List.length_reverse, List.length_take]
        omega
      omega
    refine wpAny_holding (wpAny_bind ((PySem.strKind prog w).pyHash (k := x) (strKind_is _ _ _ _) ?_))
    refine wpAny_setAddHashed_of (knd := PySem.strKind prog w) (s := { s' with toks := s'.toks + 1 }) (strKind_is _ _ _ _) rfl S1 room fun h' sb S2 => ?_
    have S3 : h'.SetOf (PySem.strKind prog w) S (fun y => (came xs (i + 1)).contains y) (dcnt (came xs (i + 1))) := by
      rw [came_next ex]
      refine PyProof.Rows.SetOf_congr S2 (fun y => ?_) rfl
      show ((came xs i).contains y || decide (y = x)) = (x :: came xs i).contains y
      rw [List.contains_cons, Bool.or_comm]
      congr 1
    refine wpAny_pure ⟨plainId_quiet PyProof.Rows.F.plain_set_update_loop _, ih (i + 1) _ (by omega) lt (W.frame _ s' _ _ st' (Nat.le_succ _) fun b hb o e => ?_) S3 fun s'' mv2 S4 => ?_⟩
    · rw [sb.2 b fun z => fresh_ (z ▸ hb)]
      exact e
    · refine fin s'' (Moved.trans W.gtrans ((mv.mono more).then_heap (Nat.le_succ _) fun b o hb e => ?_) mv2) S4
      rw [sb.2 b fun z => hb (z ▸ List.mem_cons_self)]
      exact e
end
end Nal

namespace Nal
open PySem PySem.Calls PyProof.Rows
section
variable {prog : Program} {w : World} {A : Around} {E : Value → Shared → Prop} {s : Shared}
abbrev newSet (led : Bool) : Obj := { cls := .type "set", dict := none, data := .set #[] 0 (.fresh 0 0 led) }
/-- set(l), l a list of texts -/
theorem set_texts {l : Addr} {items : Array Value} {xs : List Str} {Q : Value → Shared → Prop} (hh : A.handled = none) (hl : s.heap.IsList l items) (hi : PyProof.Rows.StrsAre items.toList xs) (few : xs.length + 1 < scanBound)
    (out : ∀ (h' : Heap) (tk : Nat), h'.SetOf (PySem.strKind prog w) s.heap.objs.size (fun y => (came xs xs.length).contains y) (dcnt (came xs xs.length)) → (∀ b o, b < s.heap.objs.size → s.heap.get? b = some o → h'.get? b = some o) → Q (.ref s.heap.objs.size) { s with heap := h', toks := tk }) :
    wpAny (model prog w) A (call (.type "set") [.ref l]) Q E s := by
  obtain ⟨c, tl, mro_⟩ := PySem.F.called_set.mro
  have made_ := PySem.F.called_set.made
  have sub_ := PySem.F.called_set.sub
  refine wpAny_call (codeAny_of_tree ?_)
  show wpAny _ _ (callAny (.type "set") _) _ _ _
  refine wpAny_pure ⟨Code.quiet_builtin _ (by decide +kernel), codeAny_builtin PySem.F.entry_type_call ?_⟩
  rw [Around.under_plain (weight_type_call_type "set" [.ref l] []) rfl]
  have nt := PySem.F.called_set.notType
  have cc := PySem.F.called_set.canCreate
  have tc1 := PySem.F.typeCall_set_1 (.ref l)
  repeat (any_goals (first
    | assumption
    | wp_step))
  refine codeAny_mono (code_set_new_1 (.ref l) (E := E) (Q₁ := fun obj s₁ => ∃ led : Bool, obj = .ref s.heap.objs.size ∧ s₁ = { s with heap := s.heap.push (newSet led) }) fun led => ⟨led, rfl, rfl⟩) fun r s₁ hr => ?_
  cases r with
  | error e => exact hr
  | ok fl =>
    cases fl with
    | next => exact hr.elim
    | brk => exact hr.elim
    | cont => exact hr.elim
    | ret obj =>
      obtain ⟨led, rfl, rfl⟩ := hr
      have at_ : (s.heap.push (newSet led)).get? s.heap.objs.size = some (newSet led) := Heap.get?_push_size _ rfl
      have ty : Shared.TypeIs { s with heap := s.heap.push (newSet led) } (.ref s.heap.objs.size) "set" := ⟨_, at_, rfl⟩
      have li := PySem.F.called_set.init.lookup
      have bi := PySem.F.called_set.init.bind (.ref s.heap.objs.size)
      repeat (any_goals (first
        | assumption
        | wp_step))
      refine codeAny_mono (codeAny_call_builtin (R := wants (fun r s₂ => r = .none ∧ ∃ h' tk, s₂ = { s with heap := h', toks := tk } ∧ h'.SetOf (PySem.strKind prog w) s.heap.objs.size (fun y => (came xs xs.length).contains y) (dcnt (came xs xs.length)) ∧
          (∀ b o, b < s.heap.objs.size → s.heap.get? b = some o → h'.get? b = some o)) E) PySem.F.called_set.init.plain PySem.F.entry_set_init (check_set_init_1 ty ?_)) fun r₂ s₂ hr₂ => ?_
      · obtain ⟨ol, hol, hcl, nl, hdl⟩ := hl
        obtain ⟨ocls, odict, odata, oslots⟩ := ol
        dsimp only at hcl hdl
        subst hcl hdl
        have hol' : (s.heap.push (newSet led)).get? l = some { cls := .type "list", dict := odict, data := .seq items nl, slots := oslots } := Heap.get?_push_of_some _ hol
        have z1 := PySem.F.sub_list_set
        have z2 := PySem.F.sub_list_frozenset
        have z3 : (Value.type "list" == Value.type "dict") = false := by decide
        have hl1 : (s.heap.push (newSet led)).IsList l items := ⟨_, hol', rfl, nl, rfl⟩
        unfold Builtin.«set.__init__» noKeywords Builtin.Frozenset.updateFrom
        generalize hPI : pyIter = PI
        wp_walk
        subst hPI
        refine wpAny_pyIter_list hl1 ?_
        refine wpAny_bind (wpAny_runValue ?_)
        have lt := Heap.lt_size hol
        have hh3 : A.in1.in1.in1.handled = none := by simp [hh]
        have neI : l ≠ (s.heap.push (newSet led)).objs.size := by
          rw [Heap.size_push]
          exact Nat.ne_of_lt (Nat.lt_succ_of_lt lt)
        have notIn : s.heap.objs.size ∉ [(s.heap.push (newSet led)).objs.size, l] := by
          rw [Heap.size_push]
          simp only [List.mem_cons, List.mem_singleton, List.not_mem_nil, or_false, not_or]
          exact ⟨Nat.ne_of_lt (Nat.lt_succ_self _), Nat.ne_of_gt lt⟩
        have sz : xs.length = items.size := by rw [← StrsAre.len_eq hi, Array.length_toList]
        have vals : ∀ (i : Nat) (v : Value), items[i]? = some v → ∃ x t, xs[i]? = some x ∧ v = .str x t := fun i v hv => by
          have hi' : i < xs.length := by
            rw [sz]
            exact (Array.getElem?_eq_some_iff.mp hv).1
          obtain ⟨t, e⟩ := SS.strs_at hi i v (by rw [Array.getElem?_toList]; exact hv)
          refine ⟨_, t, List.getElem?_eq_getElem hi', ?_⟩
          rw [e, List.getD_eq_getElem?_getD, List.getElem?_eq_getElem hi']
          rfl
        refine loop_texts ((Walks.list hh3 _ l neI items).toS) s.heap.objs.size notIn xs sz (by rw [← sz]; exact few) vals (items.size - 0) 0 _ (by omega) (Nat.zero_le _) ⟨⟨_, Heap.get?_push_size _ rfl, rfl, rfl⟩, (hl1.push _)⟩ ?begin ?finish
        case begin =>
          have got : ((s.heap.push (newSet led)).push { cls := .type "list_iterator", data := .fields #[.ref l, .int 0 0] }).get? s.heap.objs.size = some (newSet led) := Heap.get?_push_of_some _ at_
          exact PyProof.Rows.SetOf_congr ((PyProof.Rows.setObjOf_fresh (knd := PySem.strKind prog w) led).setOf got (by unfold scanBound; omega)) (fun _ => rfl) rfl
        case finish =>
          intro s' hm hS'
          obtain ⟨h', g', d', tk', os'⟩ := s'
          cases (show g' = s.gens from hm.gens)
          cases (show d' = s.drawn from hm.drawn)
          cases (show os' = s.os from hm.os)
          show wpAny _ _ _ _ _ _
          refine wpAny_pure ?_
          show wpAny _ _ (ret Value.none) _ _ _
          rw [← sz] at hS'
          refine wpAny_pure ⟨rfl, h', tk', rfl, hS', fun b o hb e => ?_⟩
          have n1 : b ≠ s.heap.objs.size := Nat.ne_of_lt hb
          have n2 : b ≠ (s.heap.push (newSet led)).objs.size := by
            rw [Heap.size_push]
            exact Nat.ne_of_lt (Nat.lt_succ_of_lt hb)
          exact hm.heap b o (by simp only [List.mem_cons, List.mem_singleton, List.not_mem_nil, or_false, not_or]; exact ⟨n1, n2⟩) (Heap.get?_push_of_some _ (Heap.get?_push_of_some _ e))
      · cases r₂ with
        | error e => exact hr₂
        | ok fl₂ =>
          cases fl₂ with
          | next => exact hr₂.elim
          | brk => exact hr₂.elim
          | cont => exact hr₂.elim
          | ret r =>
            obtain ⟨rfl, h', tk, rfl, hS', hk'⟩ := hr₂
            repeat (any_goals (first
              | assumption
              | wp_step))
            exact out _ _ hS' hk'
end
end Nal

namespace Nal
open PySem L2 RZ PyProof.Rows
abbrev sare_different : Stmt := topS 6
theorem scare_different : FnScope ["names"] ["names"] (defScope sare_different) := ⟨rfl, rfl, rfl, by decide +kernel, rfl, by decide +kernel, by decide +kernel⟩
theorem strs_are : ∀ {xs : List Str} {us : List Value}, Vals (xs.map V.str) us → PyProof.Rows.StrsAre us xs
  | [], _, .nil => .nil
  | x :: r, _, .cons h t => by
    obtain ⟨k, rfl⟩ := (show ∃ t, _ = Value.str x t from h)
    exact .cons x k (strs_are t)
/-- len(set(l)), l a list of texts -/
def tLenTx (te : TE) : TE := fun σ H Q => te σ H fun x H1 => ∃ (l : Addr) (xs : List Str), x = .ref l ∧ H1 l = some (.lst (xs.map V.str)) ∧ xs.length ≤ 1000 ∧ Q (.int (dcnt (came xs xs.length) : Nat)) H1
theorem pe_lenTx {X : Cx} {a : Expr} {te : TE} {p p2 q pos : Pos} (hc : X.calm = true) (g1 : Gl X "len") (m1 : X.mg "len" = none) (g2 : Gl X "set") (m2 : X.mg "set" = none) (ha : PE X a te)
    (na : starEach [a] X.env = (false, eval a X.env) :: starEach [] X.env := by rfl) : PE X (.Call (.Name "len" p) [.Call (.Name "set" p2) [a] [] q] [] pos) (tLenTx te) := by
  refine ⟨fun pins s σ H Q I h => Call_ (ld_blt I g1 m1 boot_len ?_)⟩
  refine PyProof.Rows.callWith_builtin1 (PyProof.Rows.args_cons (Call_ (ld_blt I g2 m2 boot_set ?_)) rfl) rfl rfl
  refine PyProof.Rows.callWith_type1 (PyProof.Rows.args_cons (thn (ha.run pins s σ H _ I h) fun v s1 w1 => PyProof.Rows.args_nil ?_) na) na rfl
  obtain ⟨x, H1, I1, r1, l, xs, rfl, hl, few, q1⟩ := w1
  cases (show v = Value.ref l from r1)
  obtain ⟨its, r, pl, hz⟩ := I1.list (SqL.of hl)
  refine set_texts (I1.ok.hd hc) pl.isList (by simpa using strs_are r) (Nat.lt_of_le_of_lt (Nat.succ_le_succ few) (by decide)) fun h' tk hS kp => PyProof.Rows.args_nil ?_
  obtain ⟨o, es, ep, t, ho, hex, hd, _, _, _, hf, hn⟩ := hS
  have I2 : Inv X pins σ H1 { s1 with heap := h', toks := tk } := I1.kept fun b o e => kp b o (Heap.lt_size e) e
  have le := dcnt_le (came xs xs.length)
  have le2 : (came xs xs.length).length = xs.length := by
    unfold came
    rw [List.length_reverse, List.length_take, Nat.min_self]
  exact call_len_set ho hex hd hf (by rw [hn]; omega) ⟨.int (dcnt (came xs xs.length) : Nat), H1, I2.tok _, ⟨_, by rw [hn]⟩, q1⟩
theorem came_all (xs : List Str) : came xs xs.length = xs.reverse := by
  unfold came
  rw [List.take_length]
section
variable {P : Program} {w : World} {K : PySem.W.Frag} {mg : Str → Option Value} {base : Heap}
/-- whether texts in a list are different -/
def spDiff : Sp := fun vs H Q _ => ∃ (a : Addr) (ss : List Str), vs = [.ref a] ∧ H a = some (.lst (ss.map V.str)) ∧ ss.length ≤ 1000 ∧ Q (.bl (decide (dcnt ss.reverse = ss.length))) H
theorem ok_diff {f : Addr} {fd : FuncData} (F : Fun K "are_different" "are_different" sare_different f fd) (T : Txt K mg) (b_set : mg "set" = none) : FnOk P w K mg base CX0 1 f fd ["names"] spDiff := by
  refine F.ok scare_different (fun vs H Q E h => ?_) (fun cdv A outer s H vs Q E hr h => ?_)
  · obtain ⟨a, ss, rfl, _⟩ := h
    rfl
  · obtain ⟨a, ss, rfl, ha, hl, k⟩ := h
    refine ⟨_, (pss_one (ps_ret (pe_cmpR op_eq (pe_lenTx rfl (by rfl) T.b_len (by rfl) b_set (pv 0)) (pe_callB (r := rLn K) call_len_seq (by rfl) T.b_len (by decide +kernel) (pa_cons (pv 0) pa_nil)) (nomark _)))), ?_⟩
    refine ⟨_, rfl, a, ss, rfl, ha, hl, _, rfl, a, _, rfl, .inl (SqL.of ha), rfl, ?_⟩
    have e : decide (V.int (dcnt (came ss ss.length) : Nat) = V.int ((ss.map V.str).length : Nat)) = decide (dcnt ss.reverse = ss.length) := by
      rw [came_all, List.length_map, L2.dec_int, Bool.eq_iff_iff]
      simp only [beq_iff_eq, decide_eq_true_eq]
      omega
    show Q (.bl (decide (V.int (dcnt (came ss ss.length) : Nat) = V.int ((ss.map V.str).length : Nat)))) H
    rw [e]
    exact k
end
end Nal

namespace Nal
open PySem L2 RZ PyProof.Rows
abbrev sis_name_set : Stmt := topS 7
abbrev Nis_name_set : List Str := ["thing", "item"]
abbrev Pis_name_set : List Str := ["thing"]
theorem scis_name_set : FnScope ["thing", "item"] ["thing"] (defScope sis_name_set) := ⟨rfl, rfl, rfl, by decide +kernel, rfl, by decide +kernel, by decide +kernel⟩
/-- a question asked of each item of a tuple of data -/
theorem rd_ask {K : PySem.W.Frag} {a : Addr} {xs : List V} {ds : List PyData} {t : TE} {g : TG} {te : TE} {vs : List Nat} {σ : L2.St} {H : Hp} {Q : VK} (p : PyData → Bool) (ht : ∀ R : VK, R (.ref a) H → t σ H R) (pa : PT H a xs) (hd : DeAll H ds xs) (hl : ds.length ≤ 1000)
    (step : ∀ (i : Nat) (hi : i < ds.length) (x : V) (H' : Hp) (R : VK), De H' ds[i] x → Same H H' → (∀ H4, Same H' H4 → R (.bl (p ds[i])) H4) → g x (wipe σ vs) H' fun σ2 H2 => wipe σ2 vs = wipe σ vs ∧ te σ2 H2 R)
    (fin : ∀ (D : Addr) (H' : Hp), Same H H' → H' D = some (.lst ((ds.map p).map V.bl)) → Q (.ref D) H') : tLc (iTup K t) g tYes te vs σ H Q := by
  have ln := hd.len
  refine ht _ ⟨a, rfl, ⟨_, PT.sq pa⟩, fun D hD => lc_it (w := walk_tup (K := K) (a := a) (xs := xs)) (fun i H' => Same H H' ∧ H' D = some (.lst (((ds.take i).map p).map V.bl))) ⟨same_new hD, upd_same⟩ (fun i H' _ h => PT.sq (PT.keep h.1 pa)) ?_ ?_⟩
  · rintro i x _ H' hi ⟨s1, h1⟩ ⟨rfl, ex⟩
    have hi' : i < ds.length := by omega
    obtain ⟨d, ed, hx⟩ := hd.at ex
    rw [List.getElem?_eq_getElem hi'] at ed
    cases ed
    refine step i hi' x H' (fun y H4 => ∃ acc, H4 D = some (.lst acc) ∧ acc.length < sizeLine ∧ (Same H (L2.upd H4 D (.lst (acc ++ [y]))) ∧ L2.upd H4 D (.lst (acc ++ [y])) D = some (.lst (((ds.take (i + 1)).map p).map V.bl)))) (De.keep s1 _ _ hx) s1 fun H4 s4 => ?_
    refine ⟨_, s4 _ _ h1, Nat.lt_of_le_of_lt (show _ ≤ 1000 by rw [List.length_map, List.length_map, List.length_take]; omega) (by decide), fun b o e => ?_, ?_⟩
    · rw [upd_ne (ne_of_none e hD)]
      exact s4 _ _ (s1 _ _ e)
    · rw [upd_same, List.take_add_one, List.getElem?_eq_getElem hi', List.map_append, List.map_append]
      rfl
  · rintro H' ⟨s1, h1⟩
    rw [ln, List.take_length] at h1
    exact fin D H' s1 h1
def textsD (ds : List PyData) : List Str := ds.filterMap fun d => match d with
  | .str x => some x
  | _ => none
theorem name_str {d : PyData} (h : nameB d = true) : ∃ x, d = .str x := by
  cases d with
  | str x => exact ⟨x, rfl⟩
  | none => cases h
  | bool b => cases h
  | int i => cases h
  | list ds => cases h
  | tuple ds => cases h
  | dict kvs => cases h
theorem names_V {H : Hp} : ∀ {ds : List PyData} {xs : List V}, ds.all nameB = true → DeAll H ds xs → xs = (textsD ds).map V.str
  | [], _, _, h => h
  | d :: r, _, hb, h => by
    obtain ⟨v, vs, rfl, h1, h2⟩ := h
    obtain ⟨b1, b2⟩ := Bool.and_eq_true_iff.mp (show (nameB d && r.all nameB) = true from hb)
    obtain ⟨x, rfl⟩ := name_str b1
    rw [names_V b2 h2]
    cases (show v = .str x from h1)
    rfl
/-- what a set of NAMEs is -/
def nameSetB : PyData → Bool
  | .tuple ds => ds.all nameB && ascB (textsD ds)
  | _ => false
section
variable {P : Program} {w : World} {K : PySem.W.Frag} {mg : Str → Option Value} {base : Heap}
theorem ok_name_set {f f1 f2 : Addr} {fd fd1 fd2 : FuncData} (F : Fun K "is_name_set" "is_name_set" sis_name_set f fd) (T : Txt K mg) (Gis_name : FnOk P w K mg base CX0 1 f1 fd1 ["thing"] (spAsk nameB)) (mis_name : mg "is_name" = some (.ref f1)) (kis_name : PySem.W.keepIn K (.ref f1) = true) (bis_name : Binds K fd1 ["thing"] [])
    (Gis_ascending : FnOk P w K mg base CX0 1 f2 fd2 ["row"] spAsc) (mis_ascending : mg "is_ascending" = some (.ref f2)) (kis_ascending : PySem.W.keepIn K (.ref f2) = true) (bis_ascending : Binds K fd2 ["row"] []) : FnOk P w K mg base CX0 2 f fd ["thing"] (spAsk nameSetB) := by
  refine F.ok scis_name_set (fun vs H Q E h => ?_) (fun cdv A outer s H vs Q E hr h => ?_)
  · obtain ⟨d, v, rfl, _⟩ := h
    rfl
  · obtain ⟨d, v, rfl, hd, hz, k⟩ := h
    refine ⟨_, (pss_cons (ps_if (PW.pt (pw_or (pt_not (pt_val (pe_callB (r := rIsi K) call_isi (by rfl) T.b_isinstance (by decide +kernel) (pa_cons (pv 0) (pa_cons (pe_bltn (v := .ty "tuple") (u := .type "tuple") (by rfl) T.b_tuple (by decide +kernel) (by rfl)) pa_nil))))) (pw_or1 (pt_not (pt_val (pe_callB (r := rAll K) (cr_all rfl) (by rfl) T.b_all (by decide +kernel) (pa_cons (pe_lc (own := [("item", 1)]) (g := (gName 1)) (tt := tYes) rfl scis_name_set.nd (pi_tup (pv 0)) (blkOk_by (own := [("item", 1)]) (N := ["thing", "item"]) (sc := defScope sis_name_set) (by decide +kernel)) (fun _ _ _ _ _ => (pg_name (i := 1) scis_name_set.nd rfl (Or.inl rfl))) (fun _ _ _ _ _ => pts_nil) (fun _ _ _ _ _ => (pe_call Gis_name (hr.mono (by decide)) rfl mis_name kis_name bis_name .nil pass0 (pa_cons (pv 1) pa_nil)))) pa_nil))))))) (pss_one (ps_ret pe_bl)) pss_nil)
      (pss_one (ps_ret (pe_call Gis_ascending (hr.mono (by decide)) rfl mis_ascending kis_ascending bis_ascending .nil pass0 (pa_cons (pv 0) pa_nil))))), ?_⟩
    refine ⟨_, rfl, _, _, _, _, _, rfl, .ty "tuple", hd.ty, kit_tup d, _, rfl, ?_⟩
    cases d with
    | tuple ds =>
      obtain ⟨a, xs, rfl, ha, hs⟩ := hd
      refine ite2 (fun c => Bool.noConfusion (show false = true from c)) (fun _ => ?_)
      dsimp only [tNot, tB, tCB, tCons, tNil, tCall]
      refine rd_ask nameB (fun R r => ⟨_, rfl, r⟩) ha hs hz.1 (fun i hi x H' R hx sx hR => ?_) fun D H1 s1 h1 => ?_
      · exact ⟨rfl, _, rfl, ds[i], x, rfl, hx, okzAll_at hz.2 (List.getElem?_eq_getElem hi), fun H4 s4 => hR H4 s4⟩
      · have e : (ds.map nameB).all id = ds.all nameB := by rw [List.all_map]; rfl
        refine ⟨D, _, rfl, SqL.of h1, _, rfl, ite2 (fun c => ?_) (fun c => ?_)⟩
        · have z := k H1 s1
          have q : ds.all nameB = false := by
            rw [← e]
            simpa using c
          rw [show nameSetB (.tuple ds) = false from by
            show (ds.all nameB && _) = false
            rw [q, Bool.false_and]] at z
          exact z
        · have q : ds.all nameB = true := by
            rw [← e]
            simpa using c
          have ex := names_V q hs
          subst ex
          have len : (textsD ds).length ≤ 1000 := by
            have z := hs.len
            rw [List.length_map] at z
            rw [z]
            exact hz.1
          refine ⟨_, rfl, a, textsD ds, rfl, .inr (ha.keep s1), len, fun H2 s2 => ?_⟩
          have z := k H2 (s1.trans s2)
          rw [show nameSetB (.tuple ds) = ascB (textsD ds) from by
            show (ds.all nameB && _) = _
            rw [q, Bool.true_and]] at z
          exact z
    | _ =>
      refine ite2 (fun c => ?_) (fun c => ?_)
      · exact k H fun _ _ q => q
      · exact (c rfl).elim
end
end Nal

namespace Nal
open PySem L2 RZ PyProof.Rows
abbrev s_is_goal : Stmt := topS 12
abbrev N_is_goal : List Str := ["thing", "known", "starts", "ends", "pair", "name"]
abbrev P_is_goal : List Str := ["thing", "known"]
theorem sc_is_goal : FnScope ["thing", "known", "starts", "ends", "pair", "name"] ["thing", "known"] (defScope s_is_goal) := ⟨rfl, rfl, rfl, by decide +kernel, rfl, by decide +kernel, by decide +kernel⟩
/-- what stands new in H', seen from H, all but at D, stands so in H'' -/
def FreshBut (D : Addr) (H H' H'' : Hp) : Prop := ∀ b o, b ≠ D → H b = none → H' b = some o → H'' b = some o
/-- a comprehension over a plain tuple: a new list of data; at each item either nothing or one thing more -/
theorem rd_lc {K : PySem.W.Frag} {a : Addr} {xs : List V} {t : TE} {g : TG} {tt : TT} {te : TE} {vs : List Nat} {σ : L2.St} {H : Hp} {Q : VK} {α : Type} (l : List α) (ff : α → Option PyData) (ht : ∀ R : VK, R (.ref a) H → t σ H R) (pa : PT H a xs) (hll : xs.length = l.length) (hl : l.length ≤ 1000)
    (step : ∀ (i : Nat) (hi : i < l.length) (x : V) (H' : Hp) (R : Option V → Hp → Prop), xs[i]? = some x → Same H H' → (∀ H4, ff l[i] = none → Same H' H4 → R none H4) → (∀ d y H4, ff l[i] = some d → Same H' H4 → (∀ H'', Fresh H' H4 H'' → De H'' d y) → R (some y) H4) →
      g x (wipe σ vs) H' fun σ2 H2 => wipe σ2 vs = wipe σ vs ∧ tt σ2 H2 fun b H3 => if b = true then te σ2 H3 fun y H4 => R (some y) H4 else R none H3)
    (fin : ∀ (D : Addr) (H' : Hp) (acc : List V), H D = none → Same H H' → H' D = some (.lst acc) → acc.length ≤ 1000 → (∀ H'', FreshBut D H H' H'' → DeAll H'' (l.filterMap ff) acc) → Q (.ref D) H') : tLc (iTup K t) g tt te vs σ H Q := by
  refine ht _ ⟨a, rfl, ⟨_, PT.sq pa⟩, fun D hD => lc_it (w := walk_tup (K := K) (a := a) (xs := xs))
    (fun i H' => Same H H' ∧ ∃ acc, H' D = some (.lst acc) ∧ acc.length ≤ i ∧ ∀ H'', FreshBut D H H' H'' → DeAll H'' ((l.take i).filterMap ff) acc) ⟨same_new hD, [], upd_same, Nat.le_refl _, fun _ _ => rfl⟩ (fun i H' _ h => PT.sq (PT.keep h.1 pa)) ?_ ?_⟩
  · rintro i x _ H' hi ⟨s1, acc, hacc, el, hde⟩ ⟨rfl, ex⟩
    have hil : i < l.length := by rw [← hll]; exact hi
    have z := step i hil x H' (fun o H4 => match o with
      | some y => ∃ acc, H4 D = some (.lst acc) ∧ acc.length < sizeLine ∧ (Same H (L2.upd H4 D (.lst (acc ++ [y]))) ∧ ∃ acc', L2.upd H4 D (.lst (acc ++ [y])) D = some (.lst acc') ∧ acc'.length ≤ i + 1 ∧ ∀ H'', FreshBut D H (L2.upd H4 D (.lst (acc ++ [y]))) H'' → DeAll H'' ((l.take (i + 1)).filterMap ff) acc')
      | none => Same H H4 ∧ ∃ acc, H4 D = some (.lst acc) ∧ acc.length ≤ i + 1 ∧ ∀ H'', FreshBut D H H4 H'' → DeAll H'' ((l.take (i + 1)).filterMap ff) acc) ex s1 (fun H4 e s4 => ?_) fun d y H4 e s4 hy => ?_
    · exact z
    · refine ⟨s1.trans s4, acc, s4 _ _ hacc, Nat.le_succ_of_le el, fun H'' hf => ?_⟩
      rw [List.take_add_one, List.getElem?_eq_getElem hil, List.filterMap_append, show (some l[i]).toList.filterMap ff = [] by simp [e], List.append_nil]
      exact hde H'' fun b o nb e0 q => hf b o nb e0 (s4 _ _ q)
    · refine ⟨acc, s4 _ _ hacc, Nat.lt_of_le_of_lt (show acc.length ≤ 1000 by omega) (by decide), fun b o q => ?_, acc ++ [y], upd_same, by rw [List.length_append, List.length_singleton]; omega, fun H'' hf => ?_⟩
      · rw [upd_ne (ne_of_none q hD)]
        exact s4 _ _ (s1 _ _ q)
      · rw [List.take_add_one, List.getElem?_eq_getElem hil, List.filterMap_append, show (some l[i]).toList.filterMap ff = [d] by simp [e]]
        refine DeAll.snoc (hde H'' fun b o nb e0 q => hf b o nb e0 (by rw [upd_ne nb]; exact s4 _ _ q)) (hy H'' fun b o e0 q => ?_)
        have nb : b ≠ D := fun z => by rw [z, hacc] at e0; cases e0
        exact hf b o nb (s1.free e0) (by rw [upd_ne nb]; exact q)
  · rintro H' ⟨s1, acc, hacc, el, hde⟩
    rw [hll, List.take_length] at hde
    exact fin D H' acc hD s1 hacc (by omega) hde
theorem way_parts {d : PyData} (h : wayB d = true) : ∃ (x : Str) (o : Option Str), d = .tuple [.str x, optD o] := by
  cases d with
  | tuple ds =>
    match ds, h with
    | [a, b], h =>
      obtain ⟨h1, h2⟩ := Bool.and_eq_true_iff.mp (show (nameB a && (nameB b || isNoneD b)) = true from h)
      obtain ⟨x, rfl⟩ := name_str h1
      cases b with
      | str y => exact ⟨x, some y, rfl⟩
      | none => exact ⟨x, none, rfl⟩
      | bool b => cases h2
      | int i => cases h2
      | list ds => cases h2
      | tuple ds => cases h2
      | dict kvs => cases h2
    | [], h => cases h
    | [a], h => cases h
    | a :: b :: c :: r, h => cases h
  | none => cases h
  | bool b => cases h
  | int i => cases h
  | str x => cases h
  | list ds => cases h
  | dict kvs => cases h
theorem ways_parts : ∀ {ds : List PyData}, ds.all wayB = true → ∃ gs : List (Str × Option Str), ds = gs.map wayD
  | [], _ => ⟨[], rfl⟩
  | d :: r, h => by
    obtain ⟨h1, h2⟩ := Bool.and_eq_true_iff.mp (show (wayB d && r.all wayB) = true from h)
    obtain ⟨x, o, rfl⟩ := way_parts h1
    obtain ⟨gs, rfl⟩ := ways_parts h2
    exact ⟨(x, o) :: gs, rfl⟩
theorem opt_non (o : Option Str) : decide (optV o = V.non) = decide (o = none) := by
  cases o <;> rfl
theorem optD_V {H : Hp} {o : Option Str} {v : V} (h : De H (optD o) v) : v = optV o := by
  cases o <;> exact h
theorem strs_V {H : Hp} : ∀ {l : List Str} {xs : List V}, DeAll H (l.map .str) xs → xs = l.map V.str
  | [], xs, h => h
  | x :: r, xs, h => by
    obtain ⟨v, vs, rfl, h1, h2⟩ := h
    rw [strs_V h2]
    cases (show v = .str x from h1)
    rfl
theorem way_at {H : Hp} {gs : List (Str × Option Str)} {xs : List V} {i : Nat} {x : V} (h : DeAll H (gs.map wayD) xs) (hi : i < gs.length) (ex : xs[i]? = some x) : ∃ T, x = .ref T ∧ PT H T [.str gs[i].1, optV gs[i].2] := by
  obtain ⟨d, ed, hd⟩ := h.at ex
  rw [List.getElem?_map, List.getElem?_eq_getElem hi] at ed
  cases ed
  obtain ⟨T, ys, rfl, hp, x1, r1, rfl, hx, x2, r2, rfl, hy, h0⟩ := hd
  cases (show r2 = [] from h0)
  cases (show x1 = .str gs[i].1 from hx)
  cases optD_V hy
  exact ⟨T, rfl, hp⟩
theorem rd_it0 {K : PySem.W.Frag} {H : Hp} {T : Addr} {x y : V} {Q : VK} (h : PT H T [x, y]) (q : Q x H) : rIxT K (.ref T) (.int 0) H Q := ⟨T, _, _, _, rfl, rfl, h.sq, at_of (j := 0) rfl rfl, q⟩
theorem rd_it1 {K : PySem.W.Frag} {H : Hp} {T : Addr} {x y : V} {Q : VK} (h : PT H T [x, y]) (q : Q y H) : rIxT K (.ref T) (.int 1) H Q := ⟨T, _, _, _, rfl, rfl, h.sq, at_of (j := 1) rfl rfl, q⟩
theorem fm_map {α : Type} (f : α → Str) (l : List α) : l.filterMap (fun g => some (PyData.str (f g))) = (l.map f).map .str := by
  induction l with
  | nil => rfl
  | cons x r ih => rw [List.filterMap_cons, ih]; rfl
theorem fm_opt {α : Type} (f : α → Option Str) (l : List α) : l.filterMap (fun g => (f g).map PyData.str) = (l.filterMap f).map .str := by
  induction l with
  | nil => rfl
  | cons x r ih =>
    rw [List.filterMap_cons, List.filterMap_cons, ih]
    cases f x <;> rfl
theorem fb_all {D : Addr} {H H' : Hp} : FreshBut D H H' H' := fun _ _ _ _ e => e
def wayOf : PyData → Option (Str × Option Str)
  | .tuple [.str x, .none] => some (x, none)
  | .tuple [.str x, .str y] => some (x, some y)
  | _ => none
def gsOf (ds : List PyData) : List (Str × Option Str) := ds.filterMap wayOf
theorem gsOf_map : ∀ gs : List (Str × Option Str), gsOf (gs.map wayD) = gs
  | [] => rfl
  | (x, none) :: r => by
    show (x, none) :: gsOf (r.map wayD) = _
    rw [gsOf_map r]
  | (x, some y) :: r => by
    show (x, some y) :: gsOf (r.map wayD) = _
    rw [gsOf_map r]
/-- where boxes go, as data: of NAMEs, the boxes ascending, no place twice, places alone -/
def goalG (ps : List Str) (gs : List (Str × Option Str)) : Bool :=
  ascB (gs.map (·.1)) && (decide (dcnt (gs.filterMap (·.2)).reverse = (gs.filterMap (·.2)).length) && (gs.map (·.1) ++ gs.filterMap (·.2)).all ps.contains)
def goalB (ps : List Str) : PyData → Bool
  | .tuple ds => ds.all wayB && goalG ps (gsOf ds)
  | _ => false
/-- a question asked of each text of a list that is made for it -/
theorem rd_askC {K : PySem.W.Frag} {ss : List Str} {t : TE} {g : TG} {te : TE} {vs : List Nat} {σ : L2.St} {H : Hp} {Q : VK} (p : Str → Bool) (hl : ss.length ≤ 2000) (ht : ∀ R : VK, (∀ a, H a = none → R (.ref a) (L2.upd H a (.lst (ss.map V.str)))) → t σ H R)
    (step : ∀ (i : Nat) (hi : i < ss.length) (H' : Hp) (R : VK), Same H H' → (∀ H4, Same H' H4 → R (.bl (p ss[i])) H4) → g (.str ss[i]) (wipe σ vs) H' fun σ2 H2 => wipe σ2 vs = wipe σ vs ∧ te σ2 H2 R)
    (fin : ∀ (D : Addr) (H' : Hp), Same H H' → H' D = some (.lst ((ss.map p).map V.bl)) → Q (.ref D) H') : tLc (iList K t) g tYes te vs σ H Q := by
  refine ht _ fun a hna => ?_
  have sa := same_new (o := .lst (ss.map V.str)) hna
  have ha : L2.upd H a (.lst (ss.map V.str)) a = some (.lst (ss.map V.str)) := upd_same
  generalize L2.upd H a (.lst (ss.map V.str)) = H0 at sa ha ⊢
  refine ⟨a, rfl, ⟨_, SqL.of ha⟩, fun D hD => lc_it (w := walk_list (K := K) (a := a) (xs := ss.map V.str)) (fun i H' => Same H0 H' ∧ H' D = some (.lst (((ss.take i).map p).map V.bl))) ⟨same_new hD, upd_same⟩ (fun i H' _ h => SqL.of (h.1 _ _ ha)) ?_ ?_⟩
  · rintro i x _ H' hi ⟨s1, h1⟩ ⟨rfl, ex⟩
    have hi' : i < ss.length := by rw [List.length_map] at hi; exact hi
    cases (Option.some.inj (ex.symm.trans (str_at hi')))
    refine step i hi' H' (fun y H4 => ∃ acc, H4 D = some (.lst acc) ∧ acc.length < sizeLine ∧ (Same H0 (L2.upd H4 D (.lst (acc ++ [y]))) ∧ L2.upd H4 D (.lst (acc ++ [y])) D = some (.lst (((ss.take (i + 1)).map p).map V.bl)))) (sa.trans s1) fun H4 s4 => ?_
    refine ⟨_, s4 _ _ h1, Nat.lt_of_le_of_lt (show _ ≤ 2000 by rw [List.length_map, List.length_map, List.length_take]; omega) (by decide), fun b o e => ?_, ?_⟩
    · rw [upd_ne (ne_of_none e hD)]
      exact s4 _ _ (s1 _ _ e)
    · rw [upd_same, List.take_add_one, List.getElem?_eq_getElem hi', List.map_append, List.map_append]
      rfl
  · rintro H' ⟨s1, h1⟩
    rw [List.length_map, List.take_length] at h1
    exact fin D H' (sa.trans s1) h1
section
variable {P : Program} {w : World} {K : PySem.W.Frag} {mg : Str → Option Value} {base : Heap}
def spGoal : Sp := fun vs H Q _ => ∃ (d : PyData) (v : V) (p : Addr) (kvs : List (Key × V)) (ps : List Str), vs = [v, .ref p] ∧ De H d v ∧ okz d ∧ H p = some (.dK kvs) ∧ (∀ x : Str, (valV kvs (.inr x)).isSome = ps.contains x) ∧ ∀ H', Same H H' → Q (.bl (goalB ps d)) H'
theorem ok_goal {f f1 f2 f3 : Addr} {fd fd1 fd2 fd3 : FuncData} (F : Fun K "_is_goal" "_is_goal" s_is_goal f fd) (T : Txt K mg) (Gis_way : FnOk P w K mg base CX0 3 f1 fd1 ["thing"] (spAsk wayB)) (mis_way : mg "is_way" = some (.ref f1)) (kis_way : PySem.W.keepIn K (.ref f1) = true) (bis_way : Binds K fd1 ["thing"] [])
    (Gis_ascending : FnOk P w K mg base CX0 1 f2 fd2 ["row"] spAsc) (mis_ascending : mg "is_ascending" = some (.ref f2)) (kis_ascending : PySem.W.keepIn K (.ref f2) = true) (bis_ascending : Binds K fd2 ["row"] [])
    (Gare_different : FnOk P w K mg base CX0 1 f3 fd3 ["names"] spDiff) (mare_different : mg "are_different" = some (.ref f3)) (kare_different : PySem.W.keepIn K (.ref f3) = true) (bare_different : Binds K fd3 ["names"] []) : FnOk P w K mg base CX0 4 f fd ["thing", "known"] spGoal := by
  refine F.ok sc_is_goal (fun vs H Q E h => ?_) (fun cdv A outer s H vs Q E hr h => ?_)
  · obtain ⟨d, v, p, kvs, ps, rfl, _⟩ := h
    rfl
  · obtain ⟨d, v, p, kvs, ps, rfl, hd, hz, hp, hk, k⟩ := h
    refine ⟨_, (pss_cons (ps_if (PW.pt (pw_or (pt_not (pt_val (pe_callB (r := rIsi K) call_isi (by rfl) T.b_isinstance (by decide +kernel) (pa_cons (pv 0) (pa_cons (pe_bltn (v := .ty "tuple") (u := .type "tuple") (by rfl) T.b_tuple (by decide +kernel) (by rfl)) pa_nil))))) (pw_or1 (pt_not (pt_val (pe_callB (r := rAll K) (cr_all rfl) (by rfl) T.b_all (by decide +kernel) (pa_cons (pe_lc (own := [("pair", 4)]) (g := (gName 4)) (tt := tYes) rfl sc_is_goal.nd (pi_tup (pv 0)) (blkOk_by (own := [("pair", 4)]) (N := ["thing", "known", "starts", "ends", "pair", "name"]) (sc := defScope s_is_goal) (by decide +kernel)) (fun _ _ _ _ _ => (pg_name (i := 4) sc_is_goal.nd rfl (Or.inl rfl))) (fun _ _ _ _ _ => pts_nil) (fun _ _ _ _ _ => (pe_call Gis_way (hr.mono (by decide)) rfl mis_way kis_way bis_way .nil pass0 (pa_cons (pv 4) pa_nil)))) pa_nil))))))) (pss_one (ps_ret pe_bl)) pss_nil)
      (pss_cons (ps_setLc (i := 2) (own := [("pair", 4)]) (g := (gName 4)) (tt := tYes) rfl sc_is_goal.nd rfl rfl (sw_true rfl rfl rfl (by decide +kernel)) (pi_tup (pv 0)) (blkOk_by (own := [("pair", 4)]) (N := ["thing", "known", "starts", "ends", "pair", "name"]) (sc := defScope s_is_goal) (by decide +kernel)) (fun _ _ _ _ _ => (pg_name (i := 4) sc_is_goal.nd rfl (Or.inl rfl))) (fun _ _ _ _ _ => pts_nil) (fun _ _ _ _ _ => (pe_ix (r := rIxT K) ix_tup (pv 4) pe_int (fun _ _ => rfl))))
      (pss_cons (ps_setLc (i := 3) (own := [("pair", 4)]) (g := (gName 4)) (tt := _) rfl sc_is_goal.nd rfl rfl (sw_true rfl rfl rfl (by decide +kernel)) (pi_tup (pv 0)) (blkOk_by (own := [("pair", 4)]) (N := ["thing", "known", "starts", "ends", "pair", "name"]) (sc := defScope s_is_goal) (by decide +kernel)) (fun _ _ _ _ _ => (pg_name (i := 4) sc_is_goal.nd rfl (Or.inl rfl))) (fun _ _ _ _ _ => pts_one (pt_cmpR op_notN (pe_ix (r := rIxT K) ix_tup (pv 4) pe_int (fun _ _ => rfl)) pe_non (nomark _))) (fun _ _ _ _ _ => (pe_ix (r := rIxT K) ix_tup (pv 4) pe_int (fun _ _ => rfl))))
      (pss_cons (ps_if (PW.pt (pw_or (pt_not (pt_val (pe_call Gis_ascending (hr.mono (by decide)) rfl mis_ascending kis_ascending bis_ascending .nil pass0 (pa_cons (pv 2) pa_nil)))) (pw_or1 (pt_not (pt_val (pe_call Gare_different (hr.mono (by decide)) rfl mare_different kare_different bare_different .nil pass0 (pa_cons (pv 3) pa_nil))))))) (pss_one (ps_ret pe_bl)) pss_nil)
      (pss_one (ps_ret (pe_callB (r := rAll K) (cr_all rfl) (by rfl) T.b_all (by decide +kernel) (pa_cons (pe_lc (own := [("name", 5)]) (g := (gName 5)) (tt := tYes) rfl sc_is_goal.nd (pi_list (pe_op op_cat (pv 2) (pv 3))) (blkOk_by (own := [("name", 5)]) (N := ["thing", "known", "starts", "ends", "pair", "name"]) (sc := defScope s_is_goal) (by decide +kernel)) (fun _ _ _ _ _ => (pg_name (i := 5) sc_is_goal.nd rfl (Or.inl rfl))) (fun _ _ _ _ _ => pts_nil) (fun _ _ _ _ _ => (pe_cmp (pc_din (hu_of hr) (pv 5) (pv 1))))) pa_nil)))))))), ?_⟩
    refine ⟨_, rfl, _, _, _, _, _, rfl, .ty "tuple", hd.ty, kit_tup d, _, rfl, ?_⟩
    cases d with
    | tuple ds =>
      obtain ⟨a, xs, rfl, ha, hs⟩ := hd
      refine ite2 (fun c => Bool.noConfusion (show false = true from c)) (fun _ => ?_)
      dsimp only [tNot, tB, tCB, tCons, tNil, tCall]
      refine rd_ask wayB (fun R r => ⟨_, rfl, r⟩) ha hs hz.1 (fun i hi x H' R hx sx hR => ?_) fun D H1 s1 h1 => ?_
      · exact ⟨rfl, _, rfl, ds[i], x, rfl, hx, okzAll_at hz.2 (List.getElem?_eq_getElem hi), fun H4 s4 => hR H4 s4⟩
      · have e : (ds.map wayB).all id = ds.all wayB := by rw [List.all_map]; rfl
        refine ⟨D, _, rfl, SqL.of h1, _, rfl, ite2 (fun c => ?_) (fun c => ?_)⟩
        · have z := k H1 s1
          have q : ds.all wayB = false := by
            rw [← e]
            simpa using c
          rw [show goalB ps (.tuple ds) = false from by
            show (ds.all wayB && _) = false
            rw [q, Bool.false_and]] at z
          exact z
        · have q : ds.all wayB = true := by
            rw [← e]
            simpa using c
          obtain ⟨gs, rfl⟩ := ways_parts q
          have lg : gs.length ≤ 1000 := by
            have z := hz.1
            rw [List.length_map] at z
            exact z
          have lx : xs.length = gs.length := by rw [hs.len, List.length_map]
          have k2 : ∀ H', Same H H' → Q (.bl (goalG ps gs)) H' := fun H' s' => by
            have z := k H' s'
            rw [show goalB ps (.tuple (gs.map wayD)) = goalG ps gs from by
              show ((gs.map wayD).all wayB && goalG ps (gsOf (gs.map wayD))) = _
              rw [q, Bool.true_and, gsOf_map]] at z
            exact z
          dsimp only [tNext, tSeq, tAsg]
          refine rd_lc gs (fun g => some (.str g.1)) (fun R r => ⟨_, rfl, r⟩) (ha.keep s1) lx lg (fun i hi x H1' R ex sx _ hR => ?_) fun D1 H2 acc hD1 s2 hacc hz1 hde => ?_
          · obtain ⟨T1, rfl, pT⟩ := way_at hs hi ex
            exact ⟨rfl, _, rfl, rd_it0 (pT.keep (s1.trans sx)) (hR _ _ _ rfl (fun _ _ e => e) fun _ _ => rfl)⟩
          · have eacc : acc = (gs.map (·.1)).map V.str := by
              have z := hde H2 fb_all
              rw [fm_map] at z
              exact strs_V z
            subst eacc
            dsimp only [gName, tNext, tSeq, tAsg]
            refine rd_lc gs (fun g => g.2.map PyData.str) (fun R r => ⟨_, rfl, r⟩) (ha.keep (s1.trans s2)) lx lg (fun i hi x H1' R ex sx hN hR => ?_) fun D2 H3 acc2 hD2 s3 hacc2 hz2 hde2 => ?_
            · obtain ⟨T1, rfl, pT⟩ := way_at hs hi ex
              have pT' := pT.keep ((s1.trans s2).trans sx)
              refine ⟨rfl, _, rfl, T1, _, _, _, rfl, rfl, pT'.sq, at_of (j := 1) rfl rfl, rfl, _, rfl, ?_⟩
              refine ite2 (fun c => ?_) (fun c => ?_)
              · refine ⟨_, rfl, T1, _, _, _, rfl, rfl, pT'.sq, at_of (j := 1) rfl rfl, ?_⟩
                have c' : gs[i].2 ≠ none := fun e => by
                  rw [e] at c
                  cases c
                obtain ⟨y, ey⟩ := Option.ne_none_iff_exists'.mp c'
                rw [ey]
                exact hR (.str y) (.str y) _ (by rw [ey]; rfl) (fun _ _ e => e) fun _ _ => rfl
              · refine hN _ ?_ (fun _ _ e => e)
                have c' : gs[i].2 = none := by
                  cases e : gs[i].2 with
                  | none => rfl
                  | some y =>
                    rw [e] at c
                    exact (c rfl).elim
                rw [c']
                rfl
            · have eacc : acc2 = (gs.filterMap (·.2)).map V.str := by
                have z := hde2 H3 fb_all
                rw [fm_opt] at z
                exact strs_V z
              subst eacc
              have s123 := (s1.trans s2).trans s3
              refine ⟨_, rfl, D1, _, rfl, .inl (s3 _ _ hacc), (by rw [List.length_map]; exact lg), fun H4 s4 => ⟨_, rfl, ?_⟩⟩
              have goal_ : goalG ps gs = (ascB (gs.map (·.1)) && (decide (dcnt (gs.filterMap (·.2)).reverse = (gs.filterMap (·.2)).length) && (gs.map (·.1) ++ gs.filterMap (·.2)).all ps.contains)) := rfl
              have le : (gs.filterMap (·.2)).length ≤ 1000 := Nat.le_trans (List.length_filterMap_le _ _) lg
              refine ite2 (fun c1 => ?_) (fun c1 => ?_)
              · have q1 : ascB (gs.map (·.1)) = false := by simpa using c1
                have z := k2 H4 (s123.trans s4)
                rw [goal_, q1, Bool.false_and] at z
                exact z
              · have q1 : ascB (gs.map (·.1)) = true := by simpa using c1
                rw [q1, Bool.true_and] at goal_
                refine ⟨_, rfl, D2, _, rfl, s4 _ _ hacc2, le, _, rfl, ite2 (fun c2 => ?_) (fun c2 => ?_)⟩
                · have q2 : decide (dcnt (gs.filterMap (·.2)).reverse = (gs.filterMap (·.2)).length) = false := by simpa using c2
                  have z := k2 H4 (s123.trans s4)
                  rw [goal_, q2, Bool.false_and] at z
                  exact z
                · have q2 : decide (dcnt (gs.filterMap (·.2)).reverse = (gs.filterMap (·.2)).length) = true := by simpa using c2
                  rw [q2, Bool.true_and] at goal_
                  dsimp only [tRet, tCB, tCons, tNil, tNext]
                  have h41 := s4 _ _ (s3 _ _ hacc)
                  have h42 := s4 _ _ hacc2
                  have el : (gs.map (·.1) ++ gs.filterMap (·.2)).length ≤ 2000 := by
                    rw [List.length_append, List.length_map]
                    omega
                  refine rd_askC (ss := gs.map (·.1) ++ gs.filterMap (·.2)) ps.contains el (fun R r => ⟨_, rfl, _, rfl, D1, D2, _, _, rfl, rfl, h41, h42, Nat.le_trans (show _ ≤ 2000 by rw [← List.length_append, ← List.map_append, List.length_map]; exact el) (by decide), fun p hp => by rw [← List.map_append]; exact r p hp⟩) (fun i hi H' R sx hR => ?_) fun D3 H5 s5 h5 => ?_
                  · refine ⟨rfl, _, rfl, _, rfl, p, _, rfl, .inl ⟨kvs, .inr (gs.map (·.1) ++ gs.filterMap (·.2))[i], .inl (sx _ _ ((s123.trans s4) _ _ hp)), rfl, rfl⟩, ?_⟩
                    rw [hk]
                    exact hR H' fun _ _ e => e
                  · have e5 : (((gs.map (·.1) ++ gs.filterMap (·.2)).map ps.contains).all id) = goalG ps gs := by
                      rw [goal_, List.all_map]
                      rfl
                    refine ⟨D3, _, rfl, SqL.of h5, ?_⟩
                    rw [e5]
                    exact k2 H5 ((s123.trans s4).trans s5)
    | _ =>
      refine ite2 (fun c => ?_) (fun c => ?_)
      · exact k H fun _ _ q => q
      · exact (c rfl).elim
end
end Nal

namespace Nal
open PySem L2 RZ PyProof.Rows
abbrev sis_job : Stmt := topS 11
abbrev Nis_job : List Str := ["thing", "place"]
abbrev Pis_job : List Str := ["thing"]
theorem scis_job : FnScope ["thing", "place"] ["thing"] (defScope sis_job) := ⟨rfl, rfl, rfl, by decide +kernel, rfl, by decide +kernel, by decide +kernel⟩
def psOf : PyData → List Str
  | .tuple ds => textsD ds
  | _ => []
/-- what a job is, as the program looks -/
def jobB : PyData → Bool
  | .tuple [a, b] => nameSetB a && (!(psOf a).isEmpty && goalB (psOf a) b)
  | _ => false
theorem not_pair3 {d : PyData} (h : pairB d = false) : jobB d = false := by
  cases d with
  | tuple ds =>
    match ds, h with
    | [], _ => rfl
    | [a], _ => rfl
    | a :: b :: c :: r, _ => rfl
  | _ => rfl
theorem set_parts {d : PyData} (h : nameSetB d = true) : ∃ ds, d = .tuple ds ∧ ds.all nameB = true ∧ ascB (textsD ds) = true := by
  cases d with
  | tuple ds =>
    obtain ⟨h1, h2⟩ := Bool.and_eq_true_iff.mp (show (ds.all nameB && ascB (textsD ds)) = true from h)
    exact ⟨ds, rfl, h1, h2⟩
  | none => cases h
  | bool b => cases h
  | int i => cases h
  | str x => cases h
  | list ds => cases h
  | dict kvs => cases h
section
variable {P : Program} {w : World} {K : PySem.W.Frag} {mg : Str → Option Value} {base : Heap}
theorem ok_job {f f1 f2 f3 : Addr} {fd fd1 fd2 fd3 : FuncData} (F : Fun K "is_job" "is_job" sis_job f fd) (T : Txt K mg) (Gis_pair : FnOk P w K mg base CX0 1 f1 fd1 ["thing"] (spAsk pairB)) (mis_pair : mg "is_pair" = some (.ref f1)) (kis_pair : PySem.W.keepIn K (.ref f1) = true) (bis_pair : Binds K fd1 ["thing"] [])
    (Gis_name_set : FnOk P w K mg base CX0 2 f2 fd2 ["thing"] (spAsk nameSetB)) (mis_name_set : mg "is_name_set" = some (.ref f2)) (kis_name_set : PySem.W.keepIn K (.ref f2) = true) (bis_name_set : Binds K fd2 ["thing"] [])
    (G_is_goal : FnOk P w K mg base CX0 4 f3 fd3 ["thing", "known"] spGoal) (m_is_goal : mg "_is_goal" = some (.ref f3)) (k_is_goal : PySem.W.keepIn K (.ref f3) = true) (b_is_goal : Binds K fd3 ["thing", "known"] []) : FnOk P w K mg base CX0 5 f fd ["thing"] (spAsk jobB) := by
  refine F.ok scis_job (fun vs H Q E h => ?_) (fun cdv A outer s H vs Q E hr h => ?_)
  · obtain ⟨d, v, rfl, _⟩ := h
    rfl
  · obtain ⟨d, v, rfl, hd, hz, k⟩ := h
    refine ⟨_, (pss_cons (ps_if (PW.pt (pw_or (pt_not (pt_val (pe_call Gis_pair (hr.mono (by decide)) rfl mis_pair kis_pair bis_pair .nil pass0 (pa_cons (pv 0) pa_nil)))) (pw_or (pt_not (pt_val (pe_call Gis_name_set (hr.mono (by decide)) rfl mis_name_set kis_name_set bis_name_set .nil pass0 (pa_cons (pe_ix (r := rIxT K) ix_tup (pv 0) pe_int (fun _ _ => rfl)) pa_nil)))) (pw_or1 (pt_not (pt_truth (pe_ix (r := rIxT K) ix_tup (pv 0) pe_int (fun _ _ => rfl)) (by intro _; rfl))))))) (pss_one (ps_ret pe_bl)) pss_nil)
      (pss_one (ps_ret (pe_call G_is_goal (hr.mono (by decide)) rfl m_is_goal k_is_goal b_is_goal .nil pass0 (pa_cons (pe_ix (r := rIxT K) ix_tup (pv 0) pe_int (fun _ _ => rfl)) (pa_cons (pe_dc (own := [("place", 1)]) (g := (gName 1)) (tt := tYes) rfl scis_job.nd (pi_tup (pe_ix (r := rIxT K) ix_tup (pv 0) pe_int (fun _ _ => rfl))) (blkOk_by (own := [("place", 1)]) (N := ["thing", "place"]) (sc := defScope sis_job) (by decide +kernel)) (fun _ _ _ _ _ => (pg_name (i := 1) scis_job.nd rfl (Or.inl rfl))) (fun _ _ _ _ _ => pts_nil) (fun _ _ _ _ _ => (pv 1)) (fun _ _ _ _ _ => pe_bl)) pa_nil)))))), ?_⟩
    refine ⟨_, rfl, d, v, rfl, hd, hz, fun H1 s1 => ⟨_, rfl, ite2 (fun c => ?_) (fun c => ?_)⟩⟩
    · have z := k H1 s1
      rw [not_pair3 (by simpa using c)] at z
      exact z
    · have cp : pairB d = true := by simpa using c
      obtain ⟨a, b, rfl⟩ := pair_of cp
      obtain ⟨p, xs, rfl, hp, x, r1, rfl, hx, y, r2, rfl, hy, h0⟩ := hd
      cases (show r2 = [] from h0)
      have job_ : jobB (.tuple [a, b]) = (nameSetB a && (!(psOf a).isEmpty && goalB (psOf a) b)) := rfl
      refine ⟨_, rfl, p, _, 0, _, rfl, rfl, (hp.keep s1).sq, rfl, a, x, rfl, De.keep s1 _ _ hx, hz.2.1, fun H2 s2 => ⟨_, rfl, ite2 (fun c1 => ?_) (fun c1 => ?_)⟩⟩
      · have q1 : nameSetB a = false := by simpa using c1
        have z := k H2 (s1.trans s2)
        rw [job_, q1, Bool.false_and] at z
        exact z
      · have q1 : nameSetB a = true := by simpa using c1
        rw [q1, Bool.true_and] at job_
        obtain ⟨ds, rfl, q2, q3⟩ := set_parts q1
        obtain ⟨pa, ys, rfl, hpa, hys⟩ := hx
        cases names_V q2 hys
        have s12 := s1.trans s2
        have hpa2 := hpa.keep s12
        refine ⟨_, rfl, p, _, 0, _, rfl, rfl, (hp.keep s12).sq, rfl, !((textsD ds).map V.str).isEmpty, .inr (.inl ⟨_, hpa2.sq, rfl⟩), ?_⟩
        have em : ((textsD ds).map V.str).isEmpty = (psOf (.tuple ds)).isEmpty := by
          rw [List.isEmpty_map]
          rfl
        rw [em]
        refine ite2 (fun c2 => ?_) (fun c2 => ?_)
        · have q4 : (!(psOf (.tuple ds)).isEmpty) = false := by simpa using c2
          have z := k H2 s12
          rw [job_, q4, Bool.false_and] at z
          exact z
        · have q4 : (!(psOf (.tuple ds)).isEmpty) = true := by simpa using c2
          rw [q4, Bool.true_and] at job_
          have ln : (textsD ds).length ≤ 1000 := by
            have z := hys.len
            rw [List.length_map] at z
            rw [z]
            exact hz.2.1.1
          refine ⟨_, rfl, p, _, 1, _, rfl, rfl, (hp.keep s12).sq, rfl, _, rfl, p, _, 0, _, rfl, rfl, (hp.keep s12).sq, rfl, pa, rfl, ⟨_, hpa2.sq⟩, fun D hD => ?_⟩
          refine dc_tup (xs := (textsD ds).map V.str) (fun i H' => Same H2 H' ∧ ∃ kvs, H' D = some (.dK kvs) ∧ kvs.length ≤ i ∧ ∀ x : Str, (valV kvs (.inr x)).isSome = ((textsD ds).take i).contains x) ⟨same_new hD, [], upd_same, Nat.le_refl _, fun x => rfl⟩ (fun i H' _ h => (hpa2.keep h.1).sq) ?_ ?_
          · rintro i x H3 ex ⟨s3, kvs, h3, l3, m3⟩
            have hi : i < (textsD ds).length := by
              have z := (List.getElem?_eq_some_iff.mp ex).1
              rw [List.length_map] at z
              exact z
            cases (Option.some.inj (ex.symm.trans (str_at hi)))
            refine ⟨rfl, ?_⟩
            refine ⟨_, rfl, kvs, .inr (textsD ds)[i], rfl, h3, Nat.lt_of_le_of_lt (show kvs.length ≤ 1000 by omega) (by decide), fun b o e => ?_, _, upd_same, Nat.le_trans (length_putK _ _ _) (Nat.succ_le_succ l3), fun x => ?_⟩
            · rw [upd_ne (ne_of_none e hD)]
              exact s3 _ _ e
            · rw [valV_put, List.take_add_one, List.getElem?_eq_getElem hi, List.contains_append, ← m3]
              by_cases e : (Sum.inr x : Key) = Sum.inr (textsD ds)[i]
              · rw [if_pos e, Sum.inr.inj e]
                simp
              · rw [if_neg e]
                have e2 : ([(textsD ds)[i]].contains x) = false := by
                  simpa using fun z => e (congrArg Sum.inr z)
                show _ = (_ || [(textsD ds)[i]].contains x)
                rw [e2, Bool.or_false]
          · rintro H3 ⟨s3, kvs, h3, l3, m3⟩
            rw [List.length_map, List.take_length] at m3
            refine ⟨b, y, D, kvs, textsD ds, rfl, De.keep (s12.trans s3) _ _ hy, hz.2.2.1, h3, m3, fun H4 s4 => ?_⟩
            have z := k H4 (s12.trans (s3.trans s4))
            rw [job_] at z
            exact z
end
end Nal

namespace Nal
open PySem L2 RZ PyProof.Rows
/-- one text stands before another -/
def Bef (a b : Str) : Prop := a.cps.toList < b.cps.toList
theorem str_ext {a b : Str} (h : a.cps.toList = b.cps.toList) : a = b := by
  cases a with
  | mk x =>
    cases b with
    | mk y =>
      congr 1
      exact Array.toList_inj.mp h
theorem bef_trans {a b c : Str} (h1 : Bef a b) (h2 : Bef b c) : Bef a c := List.lt_trans h1 h2
theorem bef_irr (a : Str) : ¬ Bef a a := List.lt_irrefl a.cps.toList
theorem bef_tri {a b : Str} (h : ¬ Bef b a) (ne : a ≠ b) : Bef a b := by
  have le : a.cps.toList ≤ b.cps.toList := List.not_lt.mp h
  rcases List.le_iff_lt_or_eq.mp le with z | z
  · exact z
  · exact (ne (str_ext z)).elim
def Asc (l : List Str) : Prop := l.Pairwise Bef
theorem ascB_cons (x y : Str) (r : List Str) : ascB (x :: y :: r) = (ltS (x, y) && ascB (y :: r)) := rfl
theorem ascB_iff : ∀ l : List Str, ascB l = true ↔ Asc l
  | [] => ⟨fun _ => List.Pairwise.nil, fun _ => rfl⟩
  | [x] => ⟨fun _ => List.pairwise_singleton _ _, fun _ => rfl⟩
  | x :: y :: r => by
    rw [ascB_cons, Bool.and_eq_true, ascB_iff (y :: r)]
    constructor
    · rintro ⟨h1, h2⟩
      have b0 : x.cps.toList < y.cps.toList := of_decide_eq_true h1
      have b : Bef x y := b0
      refine List.pairwise_cons.mpr ⟨fun z hz => ?_, h2⟩
      rcases List.mem_cons.mp hz with rfl | hz
      · exact b
      · exact bef_trans b ((List.pairwise_cons.mp h2).1 z hz)
    · intro h
      obtain ⟨h1, h2⟩ := List.pairwise_cons.mp h
      have q : x.cps.toList < y.cps.toList := h1 y List.mem_cons_self
      exact ⟨decide_eq_true q, h2⟩
theorem asc_nodup {l : List Str} (h : Asc l) : l.Nodup := List.Pairwise.imp (fun {a b} (z : Bef a b) (e : a = b) => bef_irr b (e ▸ z)) h
theorem asc_sorted : ∀ {l : List Str}, sortedS l = true → l.Nodup → Asc l
  | [], _, _ => List.Pairwise.nil
  | [x], _, _ => List.pairwise_singleton _ _
  | x :: y :: r, h, hn => by
    obtain ⟨h1, h2⟩ := Bool.and_eq_true_iff.mp (show (!Spec.ltCps y.cps.toList x.cps.toList && risingS y r) = true from h)
    obtain ⟨n1, n2⟩ := List.nodup_cons.mp hn
    have h3 : ascB (y :: r) = true := (ascB_iff _).mpr (asc_sorted (l := y :: r) h2 n2)
    refine (ascB_iff _).mp ?_
    rw [ascB_cons, h3, Bool.and_true]
    refine decide_eq_true (bef_tri (fun z => ?_) fun (e : x = y) => n1 (by rw [e]; exact List.mem_cons_self))
    rw [ltCps_eq, decide_eq_true (show y.cps.toList < x.cps.toList from z)] at h1
    cases h1
theorem asc_unique : ∀ {l m : List Str}, Asc l → Asc m → (∀ y, y ∈ l ↔ y ∈ m) → l = m
  | [], [], _, _, _ => rfl
  | [], y :: m, _, _, h => by
    have z := (h y).mpr List.mem_cons_self
    cases z
  | x :: l, [], _, _, h => by
    have z := (h x).mp List.mem_cons_self
    cases z
  | x :: l, y :: m, h1, h2, h => by
    obtain ⟨a1, a2⟩ := List.pairwise_cons.mp h1
    obtain ⟨b1, b2⟩ := List.pairwise_cons.mp h2
    have e : x = y := by
      rcases List.mem_cons.mp ((h x).mp List.mem_cons_self) with z | z
      · exact z
      · rcases List.mem_cons.mp ((h y).mpr List.mem_cons_self) with z2 | z2
        · exact z2.symm
        · exact (bef_irr x (bef_trans (a1 y z2) (b1 x z))).elim
    subst e
    congr 1
    refine asc_unique a2 b2 fun z => ?_
    constructor
    · intro hz
      rcases List.mem_cons.mp ((h z).mp (List.mem_cons_of_mem _ hz)) with q | q
      · exact (bef_irr x (q ▸ a1 z hz)).elim
      · exact q
    · intro hz
      rcases List.mem_cons.mp ((h z).mpr (List.mem_cons_of_mem _ hz)) with q | q
      · exact (bef_irr x (q ▸ b1 z hz)).elim
      · exact q
/-- a row is the sorted row of its own texts just if it ascends -/
theorem asc_is {ss ys : List Str} (h1 : ys.Nodup) (h2 : sortedS ys = true) (h3 : ∀ y, y ∈ ys ↔ y ∈ ss) : decide (ss = ys) = ascB ss := by
  have ay := asc_sorted h2 h1
  rw [Bool.eq_iff_iff, decide_eq_true_eq, ascB_iff]
  constructor
  · intro e
    rw [e]
    exact ay
  · intro h
    exact asc_unique h ay fun y => (h3 y).symm
theorem dcnt_nodup : ∀ {l : List Str}, l.Nodup → dcnt l = l.length
  | [], _ => rfl
  | x :: r, h => by
    obtain ⟨h1, h2⟩ := List.nodup_cons.mp h
    show (if r.contains x then dcnt r else dcnt r + 1) = r.length + 1
    rw [if_neg (by simpa using h1), dcnt_nodup h2]
theorem tags_named : tagsL.all (fun x => nameB (.str x)) = true := by decide +kernel
theorem tags_asc : ascB tagsL = true := by decide +kernel
theorem texts_map : ∀ l : List Str, textsD (l.map .str) = l
  | [] => rfl
  | x :: r => by
    show x :: textsD (r.map .str) = _
    rw [texts_map r]
theorem Jb.Good.job {J : Jb} (g : J.Good) : jobB (jobD J) = true := by
  obtain ⟨n, en⟩ := g.from_
  have nm : ∀ x ∈ J.ps, nameB (.str x) = true := fun x hx => by
    rw [en] at hx
    exact List.all_eq_true.mp tags_named x (List.mem_of_mem_take hx)
  have ap : ascB J.ps = true := by
    rw [en]
    exact (ascB_iff _).mpr (List.Pairwise.sublist (List.take_sublist _ _) ((ascB_iff _).mp tags_asc))
  have set_ : nameSetB (.tuple (J.ps.map .str)) = true := by
    show ((J.ps.map PyData.str).all nameB && ascB (textsD (J.ps.map .str))) = true
    rw [texts_map, ap, Bool.and_true, List.all_map]
    exact List.all_eq_true.mpr nm
  have ne : (J.ps).isEmpty = false := by
    cases e : J.ps with
    | nil => exact (g.some_ e).elim
    | cons x r => rfl
  have ways : (J.gs.map wayD).all wayB = true := by
    rw [List.all_map]
    refine List.all_eq_true.mpr fun p hp => ?_
    have h1 := nm _ (g.inP p.1 (List.mem_map.mpr ⟨p, hp, rfl⟩))
    show (nameB (.str p.1) && (nameB (optD p.2) || isNoneD (optD p.2))) = true
    rw [h1, Bool.true_and]
    cases e : p.2 with
    | none => rfl
    | some y =>
      have h2 := nm y (g.endP y (List.mem_filterMap.mpr ⟨p, hp, e⟩))
      show (nameB (.str y) || _) = true
      rw [h2, Bool.true_or]
  have goal_ : goalG J.ps J.gs = true := by
    show (ascB (J.gs.map (·.1)) && (decide (dcnt (J.gs.filterMap (·.2)).reverse = (J.gs.filterMap (·.2)).length) && (J.gs.map (·.1) ++ J.gs.filterMap (·.2)).all J.ps.contains)) = true
    rw [(ascB_iff _).mpr (asc_sorted g.up g.nd), Bool.true_and]
    have nd : (J.gs.filterMap (·.2)).reverse.Nodup := (List.reverse_perm _).nodup_iff.mpr g.endN
    rw [dcnt_nodup nd, List.length_reverse, decide_eq_true rfl, Bool.true_and]
    refine List.all_eq_true.mpr fun x hx => ?_
    rcases List.mem_append.mp hx with z | z
    · simpa using g.inP x z
    · simpa using g.endP x z
  show (nameSetB (.tuple (J.ps.map .str)) && (!(textsD (J.ps.map .str)).isEmpty && ((J.gs.map wayD).all wayB && goalG (textsD (J.ps.map .str)) (gsOf (J.gs.map wayD))))) = true
  rw [set_, texts_map, ne, ways, gsOf_map, goal_]
  rfl
end Nal

namespace Nal
open PySem PySem.Calls PyProof.Rows
/-- the text that a member is -/
def txt : Value → Str
  | .str x _ => x
  | _ => ⟨#[]⟩
/-- the payload of a set that holds the texts l, and can be walked -/
structure Pay (P : Program) (w : World) (D : Froz.SD) (l : List Str) : Prop where
  ok : Froz.TxOk P w D l
  nd : l.Nodup
  isT : ∀ e ∈ D.1.toList, ∃ x t, e.2 = Value.str x t
  perm : (D.1.toList.map fun e => txt e.2).Perm l
  ris : L2.Ris D.2.2.place.toList
  led : w.params.followText "set-order" = true ∨ D.2.2.led = true
/-- a set of texts at a -/
def Sx (P : Program) (w : World) (h : Heap) (a : Addr) (l : List Str) : Prop := ∃ D : Froz.SD, h.get? a = some (Froz.sObj "set" D) ∧ Pay P w D l
section
variable {P : Program} {w : World} {A : Around} {E : Value → Shared → Prop} {s : Shared}
theorem off_place (t : SetTable) : (if t.plain = true then { t with plain := false } else t).place = t.place := by split <;> rfl
theorem off_led (t : SetTable) : (if t.plain = true then { t with plain := false } else t).led = t.led := by split <;> rfl
/-- one text more -/
theorem Pay.more {D : Froz.SD} {l : List Str} {k : Str} (u : Tok) (F : Pay P w D l) (hk : k ∉ l) : Pay P w (Froz.addTx (hashStr w k) (.str k u) D) (k :: l) := by
  have ok := Froz.add_ok u F.ok (k := k)
  obtain ⟨es, ep, t⟩ := D
  have p0 := layNew_perm t es (hashStr w k) (.str k u)
  have r0 := L2.layNew_ris t es (hashStr w k) (.str k u) F.ris
  have l0 := L2.layNew_led t es (hashStr w k) (.str k u)
  have sum : ∃ D2 : Froz.SD, Froz.addTx (hashStr w k) (.str k u) (es, ep, t) = D2 ∧ D2.1.toList.Perm (es.toList ++ [(hashStr w k, .str k u)]) ∧ L2.Ris D2.2.2.place.toList ∧ D2.2.2.led = t.led := by
    refine ⟨_, rfl, ?_⟩
    unfold Froz.addTx Froz.tailTx
    dsimp only
    generalize layNew t es (hashStr w k) (.str k u) = Z at p0 r0 l0 ⊢
    obtain ⟨es1, t1, wd, gave⟩ := Z
    dsimp only at p0 r0 l0 ⊢
    rw [Array.toList_push] at p0
    have l1 := (off_led t1).trans l0
    have r1 : L2.Ris (if t1.plain = true then { t1 with plain := false } else t1).place.toList := by
      rw [off_place]
      exact r0
    generalize (if t1.plain = true then { t1 with plain := false } else t1) = t2 at l1 r1 ⊢
    split
    · exact ⟨(relayAll_perm t2 es1 _).trans p0, L2.relayAll_ris t2 es1 _, (L2.relayAll_led t2 es1 _).trans l1⟩
    · exact ⟨p0, r1, l1⟩
  obtain ⟨D2, e2, p2, r2, l2⟩ := sum
  rw [e2] at ok ⊢
  refine ⟨ok, List.nodup_cons.mpr ⟨hk, F.nd⟩, fun e he => ?_, ?_, r2, F.led.imp id fun z => l2.trans z⟩
  · rcases List.mem_append.mp (p2.mem_iff.mp he) with z | z
    · exact F.isT e z
    · rw [List.mem_singleton.mp z]
      exact ⟨k, u, rfl⟩
  · refine (p2.map _).trans ?_
    rw [List.map_append]
    exact (List.perm_append_comm).trans (List.Perm.cons k F.perm)
/-- a text that is there already -/
theorem add_there {a : Addr} {T : String} {D : Froz.SD} {l : List Str} {k : Str} {u : Tok} {Q : Bool → Shared → Prop} (ho : s.heap.get? a = some (Froz.sObj T D)) (F : Froz.TxOk P w D l) (hk : k ∈ l) (hb : l.length < scanBound)
    (h : Q false s) : wpAny (model P w) A (setAddHashed a (.str k u) (hashStr w k)) Q E s := by
  obtain ⟨es, ep, t⟩ := D
  have sz : es.size = l.length := F.sz
  have small : es.size < scanBound := by omega
  obtain ⟨e0, he0, q0⟩ := (F.mem k).mp hk
  unfold setAddHashed setAddHashedIn
  refine wpAny_holding (wpAny_bind (wpAny_setState_of ho (rfl : (Froz.sObj T (es, ep, t)).data = _) F.fit ?_))
  dsimp only
  rw [byScan_of rfl small F.el]
  simp only [↓reduceIte]
  unfold setAddByScan
  refine wpAny_bind (wpAny_bind (wpAny_rule ?_))
  refine wpAny_bind (wpAny_setScan_of (knd := PySem.strKind P w) (Froz.is_str k u) ho rfl F.fit F.el ?_)
  cases found : List.findIdx? (fun e => (PySem.strKind P w).is k e.2) es.toList with
  | some j => exact wpAny_pure (wpAny_pure h)
  | none =>
    have c := List.findIdx?_eq_none_iff.mp found e0 he0
    rw [q0] at c
    cases c
end
section
variable {prog : Program} {w : World} {A : Around} {R : Result → Shared → Prop} {I : Addr} {fp wr : List Addr} {G : Array GenState → Array GenState → Prop} {n : Nat} {P : Nat → Value → Prop} {St : Nat → Shared → Prop}
/-- the members so far: those of the first i texts -/
def Mem (xs : List Str) (i : Nat) (l : List Str) : Prop := l.length ≤ i ∧ ∀ y, y ∈ l ↔ y ∈ xs.take i
/-- set.update's loop over texts, with the way its members stand -/
theorem loop_sx (W : WalksS prog w A.in1 I fp wr G n P St) (S : Addr) (fresh_ : S ∉ fp) (xs : List Str) (len : xs.length = n) (few : n + 1 < scanBound) (vals : ∀ i v, P i v → ∃ x t, xs[i]? = some x ∧ v = .str x t) :
    ∀ (m i : Nat) (s : Shared) (l : List Str), n - i = m → i ≤ n → St i s → Sx prog w s.heap S l → Mem xs i l →
      (∀ s' l', Moved (S :: wr) G s s' → Sx prog w s'.heap S l' → Mem xs n l' → R (.ok (.ret .none)) s') →
      codeAny (model prog w) A (.builtin "set.update.loop" ⟨[.ref S, .ref I], []⟩) R s := by
  have out : S ∉ wr := fun q => fresh_ (W.sub _ q)
  have more : ∀ b ∈ wr, b ∈ S :: wr := fun b q => List.mem_cons_of_mem _ q
  intro m
  induction m with
  | zero =>
    intro i s l hm hi st hS hM fin
    obtain rfl : i = n := by omega
    refine codeAny_builtin PyProof.Rows.F.entry_set_update_loop ?_
    rw [Around.under_plainId PyProof.Rows.F.plain_set_update_loop _]
    show wpAny _ A.in1 (pyNext (.ref I) >>= _) _ _ s
    refine wpAny_bind (W.done s _ _ st fun s' mv => ?_)
    show wpAny _ A.in1 (ret Value.none) _ _ s'
    obtain ⟨D, q, rest⟩ := hS
    exact wpAny_pure (fin s' l (mv.mono more) ⟨D, mv.heap S _ out q, rest⟩ hM)
  | succ m ih =>
    intro i s l hm hi st hS hM fin
    have lt : i < n := by omega
    refine codeAny_builtin PyProof.Rows.F.entry_set_update_loop ?_
    rw [Around.under_plainId PyProof.Rows.F.plain_set_update_loop _]
    show wpAny _ A.in1 (pyNext (.ref I) >>= _) _ _ s
    refine wpAny_bind (W.item i s _ _ lt st fun v s' pv st' mv => ?_)
    obtain ⟨x, t, ex, rfl⟩ := vals i v pv
    obtain ⟨D, q, F⟩ := hS
    have q1 := mv.heap S _ out q
    show wpAny _ A.in1 (holding [Value.str x t] (setAdd S (.str x t)) >>= _) _ _ s'
    refine wpAny_bind (wpAny_holding ?_)
    unfold setAdd
    refine wpAny_holding (wpAny_bind ((PySem.strKind prog w).pyHash (k := x) (strKind_is _ _ _ _) ?_))
    have tk1 : xs.take (i + 1) = xs.take i ++ [x] := by
      rw [List.take_add_one, ex]
      rfl
    by_cases hk : x ∈ l
    · refine add_there (s := { s' with toks := s'.toks + 1 }) q1 F.ok hk (by have z := hM.1; omega) ?_
      refine wpAny_pure ⟨plainId_quiet PyProof.Rows.F.plain_set_update_loop _, ih (i + 1) _ l (by omega) lt (W.frame _ s' _ _ st' (Nat.le_succ _) fun b hb o e => e) ⟨D, q1, F⟩ ⟨Nat.le_succ_of_le hM.1, fun y => ?_⟩ fun s'' l' mv2 S4 M4 => ?_⟩
      · rw [tk1, List.mem_append, ← hM.2 y, List.mem_singleton]
        exact ⟨.inl, fun z => z.elim id fun e => e ▸ hk⟩
      · exact fin s'' l' (Moved.trans W.gtrans ((mv.mono more).then_heap (Nat.le_succ _) fun b o hb e => e) mv2) S4 M4
    · refine Froz.add_x (s := { s' with toks := s'.toks + 1 }) q1 F.ok hk (by have z := hM.1; omega) ?_
      have q2 := Froz.get_upd (Froz.sObj "set" (Froz.addTx (hashStr w x) (.str x t) D)) q1 rfl
      have oth : ∀ b o, b ≠ S → s'.heap.get? b = some o → (s'.heap.update S (fun _ => Froz.sObj "set" (Froz.addTx (hashStr w x) (.str x t) D))).get? b = some o := fun b o hb e => (Heap.get?_update_other _ _ (Ne.symm hb)).trans e
      refine wpAny_pure ⟨plainId_quiet PyProof.Rows.F.plain_set_update_loop _, ih (i + 1) _ (x :: l) (by omega) lt (W.frame _ s' _ _ st' (Nat.le_succ _) fun b hb o e => oth b o (fun z => fresh_ (z ▸ hb)) e) ⟨_, q2, F.more t hk⟩ ⟨Nat.succ_le_succ hM.1, fun y => ?_⟩ fun s'' l' mv2 S4 M4 => ?_⟩
      · rw [tk1, List.mem_append, ← hM.2 y, List.mem_singleton, List.mem_cons]
        exact Or.comm
      · exact fin s'' l' (Moved.trans W.gtrans ((mv.mono more).then_heap (Nat.le_succ _) fun b o hb e => oth b o (fun z => hb (z ▸ List.mem_cons_self)) e) mv2) S4 M4
end
end Nal

namespace Nal
open PySem PySem.Calls PyProof.Rows
section
variable {prog : Program} {w : World} {A : Around} {E : Value → Shared → Prop} {s : Shared}
/-- set(l), l a list of texts -/
theorem set_sx {l : Addr} {items : Array Value} {xs : List Str} {Q : Value → Shared → Prop} (hh : A.handled = none) (hl : s.heap.IsList l items) (hi : PyProof.Rows.StrsAre items.toList xs) (few : xs.length + 1 < scanBound)
    (out : ∀ (h' : Heap) (tk : Nat) (l : List Str), Sx prog w h' s.heap.objs.size l → Mem xs xs.length l → (∀ b o, b < s.heap.objs.size → s.heap.get? b = some o → h'.get? b = some o) → Q (.ref s.heap.objs.size) { s with heap := h', toks := tk }) :
    wpAny (model prog w) A (call (.type "set") [.ref l]) Q E s := by
  obtain ⟨c, tl, mro_⟩ := PySem.F.called_set.mro
  have made_ := PySem.F.called_set.made
  have sub_ := PySem.F.called_set.sub
  refine wpAny_call (codeAny_of_tree ?_)
  show wpAny _ _ (callAny (.type "set") _) _ _ _
  refine wpAny_pure ⟨Code.quiet_builtin _ (by decide +kernel), codeAny_builtin PySem.F.entry_type_call ?_⟩
  rw [Around.under_plain (weight_type_call_type "set" [.ref l] []) rfl]
  have nt := PySem.F.called_set.notType
  have cc := PySem.F.called_set.canCreate
  have tc1 := PySem.F.typeCall_set_1 (.ref l)
  repeat (any_goals (first
    | assumption
    | wp_step))
  refine codeAny_mono (L2.code_set_led1 (.ref l) (E := E) (Q₁ := fun obj s₁ => obj = .ref s.heap.objs.size ∧ s₁ = { s with heap := s.heap.push (newSet (!w.params.followText "set-order")) }) ⟨rfl, rfl⟩) fun r s₁ hr => ?_
  cases r with
  | error e => exact hr
  | ok fl =>
    cases fl with
    | next => exact hr.elim
    | brk => exact hr.elim
    | cont => exact hr.elim
    | ret obj =>
      obtain ⟨rfl, rfl⟩ := hr
      have led0 : w.params.followText "set-order" = true ∨ (!w.params.followText "set-order") = true := by
        cases w.params.followText "set-order"
        · exact .inr rfl
        · exact .inl rfl
      generalize (!w.params.followText "set-order") = led at led0 ⊢
      have at_ : (s.heap.push (newSet led)).get? s.heap.objs.size = some (newSet led) := Heap.get?_push_size _ rfl
      have ty : Shared.TypeIs { s with heap := s.heap.push (newSet led) } (.ref s.heap.objs.size) "set" := ⟨_, at_, rfl⟩
      have li := PySem.F.called_set.init.lookup
      have bi := PySem.F.called_set.init.bind (.ref s.heap.objs.size)
      repeat (any_goals (first
        | assumption
        | wp_step))
      refine codeAny_mono (codeAny_call_builtin (R := wants (fun r s₂ => r = .none ∧ ∃ h' tk l', s₂ = { s with heap := h', toks := tk } ∧ Sx prog w h' s.heap.objs.size l' ∧ Mem xs xs.length l' ∧
          (∀ b o, b < s.heap.objs.size → s.heap.get? b = some o → h'.get? b = some o)) E) PySem.F.called_set.init.plain PySem.F.entry_set_init (check_set_init_1 ty ?_)) fun r₂ s₂ hr₂ => ?_
      · obtain ⟨ol, hol, hcl, nl, hdl⟩ := hl
        obtain ⟨ocls, odict, odata, oslots⟩ := ol
        dsimp only at hcl hdl
        subst hcl hdl
        have hol' : (s.heap.push (newSet led)).get? l = some { cls := .type "list", dict := odict, data := .seq items nl, slots := oslots } := Heap.get?_push_of_some _ hol
        have z1 := PySem.F.sub_list_set
        have z2 := PySem.F.sub_list_frozenset
        have z3 : (Value.type "list" == Value.type "dict") = false := by decide
        have hl1 : (s.heap.push (newSet led)).IsList l items := ⟨_, hol', rfl, nl, rfl⟩
        unfold Builtin.«set.__init__» noKeywords Builtin.Frozenset.updateFrom
        generalize hPI : pyIter = PI
        wp_walk
        subst hPI
        refine wpAny_pyIter_list hl1 ?_
        refine wpAny_bind (wpAny_runValue ?_)
        have lt := Heap.lt_size hol
        have hh3 : A.in1.in1.in1.handled = none := by simp [hh]
        have neI : l ≠ (s.heap.push (newSet led)).objs.size := by
          rw [Heap.size_push]
          exact Nat.ne_of_lt (Nat.lt_succ_of_lt lt)
        have notIn : s.heap.objs.size ∉ [(s.heap.push (newSet led)).objs.size, l] := by
          rw [Heap.size_push]
          simp only [List.mem_cons, List.mem_singleton, List.not_mem_nil, or_false, not_or]
          exact ⟨Nat.ne_of_lt (Nat.lt_succ_self _), Nat.ne_of_gt lt⟩
        have sz : xs.length = items.size := by rw [← StrsAre.len_eq hi, Array.length_toList]
        have vals : ∀ (i : Nat) (v : Value), items[i]? = some v → ∃ x t, xs[i]? = some x ∧ v = .str x t := fun i v hv => by
          have hi' : i < xs.length := by
            rw [sz]
            exact (Array.getElem?_eq_some_iff.mp hv).1
          obtain ⟨t, e⟩ := SS.strs_at hi i v (by rw [Array.getElem?_toList]; exact hv)
          refine ⟨_, t, List.getElem?_eq_getElem hi', ?_⟩
          rw [e, List.getD_eq_getElem?_getD, List.getElem?_eq_getElem hi']
          rfl
        refine loop_sx ((Walks.list hh3 _ l neI items).toS) s.heap.objs.size notIn xs sz (by rw [← sz]; exact few) vals (items.size - 0) 0 _ [] (by omega) (Nat.zero_le _) ⟨⟨_, Heap.get?_push_size _ rfl, rfl, rfl⟩, (hl1.push _)⟩ ?begin ⟨Nat.zero_le _, fun y => by simp⟩ ?finish
        case begin =>
          have got : ((s.heap.push (newSet led)).push { cls := .type "list_iterator", data := .fields #[.ref l, .int 0 0] }).get? s.heap.objs.size = some (newSet led) := Heap.get?_push_of_some _ at_
          exact ⟨(#[], 0, .fresh 0 0 led), got, Froz.TxOk.nil (by rfl), List.nodup_nil, (fun e he => by simp at he), (by simp), List.Pairwise.nil, led0⟩
        case finish =>
          intro s' l' hm hS' hM'
          obtain ⟨h', g', d', tk', os'⟩ := s'
          cases (show g' = s.gens from hm.gens)
          cases (show d' = s.drawn from hm.drawn)
          cases (show os' = s.os from hm.os)
          show wpAny _ _ _ _ _ _
          refine wpAny_pure ?_
          show wpAny _ _ (ret Value.none) _ _ _
          rw [← sz] at hM'
          refine wpAny_pure ⟨rfl, h', tk', l', rfl, hS', hM', fun b o hb e => ?_⟩
          have n1 : b ≠ s.heap.objs.size := Nat.ne_of_lt hb
          have n2 : b ≠ (s.heap.push (newSet led)).objs.size := by
            rw [Heap.size_push]
            exact Nat.ne_of_lt (Nat.lt_succ_of_lt hb)
          exact hm.heap b o (by simp only [List.mem_cons, List.mem_singleton, List.not_mem_nil, or_false, not_or]; exact ⟨n1, n2⟩) (Heap.get?_push_of_some _ (Heap.get?_push_of_some _ e))
      · cases r₂ with
        | error e => exact hr₂
        | ok fl₂ =>
          cases fl₂ with
          | next => exact hr₂.elim
          | brk => exact hr₂.elim
          | cont => exact hr₂.elim
          | ret r =>
            obtain ⟨rfl, h', tk, l', rfl, hS', hM', hk'⟩ := hr₂
            repeat (any_goals (first
              | assumption
              | wp_step))
            exact out _ _ _ hS' hM' hk'
/-- set(l), l a tuple of texts -/
theorem set_sxT {l : Addr} {items : Array Value} {xs : List Str} {Q : Value → Shared → Prop} (hh : A.handled = none) (hl : s.heap.IsTuple l items) (hi : PyProof.Rows.StrsAre items.toList xs) (few : xs.length + 1 < scanBound)
    (out : ∀ (h' : Heap) (tk : Nat) (l : List Str), Sx prog w h' s.heap.objs.size l → Mem xs xs.length l → (∀ b o, b < s.heap.objs.size → s.heap.get? b = some o → h'.get? b = some o) → Q (.ref s.heap.objs.size) { s with heap := h', toks := tk }) :
    wpAny (model prog w) A (call (.type "set") [.ref l]) Q E s := by
  obtain ⟨c, tl, mro_⟩ := PySem.F.called_set.mro
  have made_ := PySem.F.called_set.made
  have sub_ := PySem.F.called_set.sub
  refine wpAny_call (codeAny_of_tree ?_)
  show wpAny _ _ (callAny (.type "set") _) _ _ _
  refine wpAny_pure ⟨Code.quiet_builtin _ (by decide +kernel), codeAny_builtin PySem.F.entry_type_call ?_⟩
  rw [Around.under_plain (weight_type_call_type "set" [.ref l] []) rfl]
  have nt := PySem.F.called_set.notType
  have cc := PySem.F.called_set.canCreate
  have tc1 := PySem.F.typeCall_set_1 (.ref l)
  repeat (any_goals (first
    | assumption
    | wp_step))
  refine codeAny_mono (L2.code_set_led1 (.ref l) (E := E) (Q₁ := fun obj s₁ => obj = .ref s.heap.objs.size ∧ s₁ = { s with heap := s.heap.push (newSet (!w.params.followText "set-order")) }) ⟨rfl, rfl⟩) fun r s₁ hr => ?_
  cases r with
  | error e => exact hr
  | ok fl =>
    cases fl with
    | next => exact hr.elim
    | brk => exact hr.elim
    | cont => exact hr.elim
    | ret obj =>
      obtain ⟨rfl, rfl⟩ := hr
      have led0 : w.params.followText "set-order" = true ∨ (!w.params.followText "set-order") = true := by
        cases w.params.followText "set-order"
        · exact .inr rfl
        · exact .inl rfl
      generalize (!w.params.followText "set-order") = led at led0 ⊢
      have at_ : (s.heap.push (newSet led)).get? s.heap.objs.size = some (newSet led) := Heap.get?_push_size _ rfl
      have ty : Shared.TypeIs { s with heap := s.heap.push (newSet led) } (.ref s.heap.objs.size) "set" := ⟨_, at_, rfl⟩
      have li := PySem.F.called_set.init.lookup
      have bi := PySem.F.called_set.init.bind (.ref s.heap.objs.size)
      repeat (any_goals (first
        | assumption
        | wp_step))
      refine codeAny_mono (codeAny_call_builtin (R := wants (fun r s₂ => r = .none ∧ ∃ h' tk l', s₂ = { s with heap := h', toks := tk } ∧ Sx prog w h' s.heap.objs.size l' ∧ Mem xs xs.length l' ∧
          (∀ b o, b < s.heap.objs.size → s.heap.get? b = some o → h'.get? b = some o)) E) PySem.F.called_set.init.plain PySem.F.entry_set_init (check_set_init_1 ty ?_)) fun r₂ s₂ hr₂ => ?_
      · obtain ⟨ol, hol, hcl, nl, hdl⟩ := hl
        obtain ⟨ocls, odict, odata, oslots⟩ := ol
        dsimp only at hcl hdl
        subst hcl hdl
        have hol' : (s.heap.push (newSet led)).get? l = some { cls := .type "tuple", dict := odict, data := .seq items nl, slots := oslots } := Heap.get?_push_of_some _ hol
        have z1 := PySem.F.sub_tuple_set
        have z2 := PySem.F.sub_tuple_frozenset
        have z3 : (Value.type "tuple" == Value.type "dict") = false := by decide
        have hl1 : (s.heap.push (newSet led)).IsTuple l items := ⟨_, hol', rfl, nl, rfl⟩
        unfold Builtin.«set.__init__» noKeywords Builtin.Frozenset.updateFrom
        generalize hPI : pyIter = PI
        wp_walk
        subst hPI
        refine wpAny_pyIter_tuple hl1 ?_
        refine wpAny_bind (wpAny_runValue ?_)
        have lt := Heap.lt_size hol
        have hh3 : A.in1.in1.in1.handled = none := by simp [hh]
        have neI : l ≠ (s.heap.push (newSet led)).objs.size := by
          rw [Heap.size_push]
          exact Nat.ne_of_lt (Nat.lt_succ_of_lt lt)
        have notIn : s.heap.objs.size ∉ [(s.heap.push (newSet led)).objs.size, l] := by
          rw [Heap.size_push]
          simp only [List.mem_cons, List.mem_singleton, List.not_mem_nil, or_false, not_or]
          exact ⟨Nat.ne_of_lt (Nat.lt_succ_self _), Nat.ne_of_gt lt⟩
        have sz : xs.length = items.size := by rw [← StrsAre.len_eq hi, Array.length_toList]
        have vals : ∀ (i : Nat) (v : Value), items[i]? = some v → ∃ x t, xs[i]? = some x ∧ v = .str x t := fun i v hv => by
          have hi' : i < xs.length := by
            rw [sz]
            exact (Array.getElem?_eq_some_iff.mp hv).1
          obtain ⟨t, e⟩ := SS.strs_at hi i v (by rw [Array.getElem?_toList]; exact hv)
          refine ⟨_, t, List.getElem?_eq_getElem hi', ?_⟩
          rw [e, List.getD_eq_getElem?_getD, List.getElem?_eq_getElem hi']
          rfl
        refine loop_sx ((Walks.tuple hh3 _ l neI items).toS) s.heap.objs.size notIn xs sz (by rw [← sz]; exact few) vals (items.size - 0) 0 _ [] (by omega) (Nat.zero_le _) ⟨⟨_, Heap.get?_push_size _ rfl, rfl, rfl⟩, (hl1.push _)⟩ ?begin ⟨Nat.zero_le _, fun y => by simp⟩ ?finish
        case begin =>
          have got : ((s.heap.push (newSet led)).push { cls := .type "tuple_iterator", data := .fields #[.ref l, .int 0 0] }).get? s.heap.objs.size = some (newSet led) := Heap.get?_push_of_some _ at_
          exact ⟨(#[], 0, .fresh 0 0 led), got, Froz.TxOk.nil (by rfl), List.nodup_nil, (fun e he => by simp at he), (by simp), List.Pairwise.nil, led0⟩
        case finish =>
          intro s' l' hm hS' hM'
          obtain ⟨h', g', d', tk', os'⟩ := s'
          cases (show g' = s.gens from hm.gens)
          cases (show d' = s.drawn from hm.drawn)
          cases (show os' = s.os from hm.os)
          show wpAny _ _ _ _ _ _
          refine wpAny_pure ?_
          show wpAny _ _ (ret Value.none) _ _ _
          rw [← sz] at hM'
          refine wpAny_pure ⟨rfl, h', tk', l', rfl, hS', hM', fun b o hb e => ?_⟩
          have n1 : b ≠ s.heap.objs.size := Nat.ne_of_lt hb
          have n2 : b ≠ (s.heap.push (newSet led)).objs.size := by
            rw [Heap.size_push]
            exact Nat.ne_of_lt (Nat.lt_succ_of_lt hb)
          exact hm.heap b o (by simp only [List.mem_cons, List.mem_singleton, List.not_mem_nil, or_false, not_or]; exact ⟨n1, n2⟩) (Heap.get?_push_of_some _ (Heap.get?_push_of_some _ e))
      · cases r₂ with
        | error e => exact hr₂
        | ok fl₂ =>
          cases fl₂ with
          | next => exact hr₂.elim
          | brk => exact hr₂.elim
          | cont => exact hr₂.elim
          | ret r =>
            obtain ⟨rfl, h', tk, l', rfl, hS', hM', hk'⟩ := hr₂
            repeat (any_goals (first
              | assumption
              | wp_step))
            exact out _ _ _ hS' hM' hk'
end
end Nal

namespace Nal
open PySem PySem.Calls PyProof.Rows
theorem strs_of : ∀ l : List Value, (∀ v ∈ l, ∃ x t, v = Value.str x t) → StrsAre l (l.map txt)
  | [], _ => .nil
  | v :: r, h => by
    obtain ⟨x, t, rfl⟩ := h v List.mem_cons_self
    exact .cons x t (strs_of r fun u hu => h u (List.mem_cons_of_mem _ hu))
section
variable {P : Program} {w : World} {A : Around} {E : Value → Shared → Prop} {s : Shared} {a : Addr}
/-- sorted(a set of texts) -/
theorem sorted_sx {l : List Str} {Q : Value → Shared → Prop} (R : Sx P w s.heap a l) (hh : A.handled = none) (small : l.length ≤ 2000)
    (hQ : ∀ s' p (out : Array Value) (c : Nat) (ys : List Str), (∀ b o, s.heap.get? b = some o → s'.heap.get? b = some o) → s'.gens = s.gens → s'.os = s.os → s.heap.objs.size ≤ p →
      s'.heap.get? p = some (seqObj "list" out c) → StrsAre out.toList ys → ys.Perm l → sortedS ys = true → Q (.ref p) s') :
    wpAny (model P w) A (call (.builtin "sorted") [.ref a]) Q E s := by
  obtain ⟨⟨es, ep, t⟩, ho, F⟩ := R
  have sz : es.size = l.length := F.ok.sz
  have fit : t.fits es.size = true := F.ok.fit
  have room : es.size < scanBound := by
    rw [sz]
    exact Nat.lt_of_le_of_lt small (by decide)
  refine Calls.call_function_entry kind_sorted plain_sorted entry_sorted (args_sorted1 _) ?_
  unfold Builtin.«sorted»
  refine wpAny_bind (m := checkCount "sorted" 1 1 _) (wpAny_pure ?_)
  refine wpAny_bind (L2.collect_set (A := A.in1) hh ⟨_, ho, rfl, rfl⟩ fit room F.ris F.led fun s1 vs k1 hz g1 o1 pm => ?_)
  have vl : vs.length = l.length := by rw [pm.length_eq, List.length_map, Array.length_toList]; exact sz
  have hS : StrsAre vs (vs.map txt) := strs_of vs fun v hv => by
    obtain ⟨e, he, q⟩ := List.mem_map.mp (pm.mem_iff.mp hv)
    obtain ⟨x, tk, h1⟩ := F.isT e he
    exact ⟨x, tk, by rw [← q]; exact h1⟩
  have pl : (vs.map txt).Perm l := by
    have q := pm.map txt
    rw [List.map_map] at q
    exact q.trans F.perm
  have vz : vs.length ≤ sizeLine := by rw [vl]; exact Nat.le_trans small (by decide)
  refine wpAny_bind (wpAny_newList ?_ vz)
  have hoL : (s1.heap.push (seqObj "list" vs.toArray 0)).get? s1.heap.objs.size = some (seqObj "list" vs.toArray 0) := Heap.get?_push_size _ rfl
  refine wpAny_bind (wpAny_holding (wpAny_call_entry slot_list_sort ⟨_, hoL, rfl⟩ entry_list_sort (list_sort_treeKAny strKind_oneLt hoL hS.keysOf (fun v₁ v₂ rest e => keyKind_strs (by rw [← e]; exact hS)) vz fun st' hp hs => ⟨_, rfl, ?_⟩) (args_list_sort _)))
  obtain ⟨ys, b1, b2, b3⟩ := sorted_out_str hS hp hs
  obtain ⟨c, hc⟩ := sortedHeap_at (vs := vs) (out := (arrOf st').map (·.2)) hoL
  refine wpAny_pure ⟨_, rfl, hQ _ s1.heap.objs.size _ c ys (fun b u e => ?_) g1 o1 hz hc b1 (b2.trans pl) b3⟩
  have q := k1 b u e
  have hlt := Heap.lt_size q
  show (sortedHeap (s1.heap.push (seqObj "list" vs.toArray 0)) s1.heap.objs.size vs _).get? b = some u
  rw [sortedHeap_old (Nat.ne_of_lt hlt) (by rw [size_push']; exact Nat.lt_succ_of_lt hlt)]
  exact Heap.get?_push_of_some _ q
end
end Nal

namespace Nal
open PySem L2 RZ PyProof.Rows
/-- the set of the texts l at a -/
def SxO (P : Program) (w : World) (a : Addr) (l : List Str) : HO := .ext fun h => Sx P w h a l
section
variable {X : Cx}
theorem sx_at {P : Program} {w : World} {h h' : Heap} {a : Addr} {l : List Str} (R : Sx P w h a l) (k : ∀ o, h.get? a = some o → h'.get? a = some o) : Sx P w h' a l := by
  obtain ⟨D, ho, r⟩ := R
  exact ⟨D, k _ ho, r⟩
theorem sx_new {P : Program} {w : World} {H : Hp} {h : Heap} {a : Addr} {l : List Str} (R : Sx P w h a l) : ObjOk P w H h a (SxO P w a l) := by
  have ⟨D, ho, _⟩ := R
  exact ⟨R, ⟨_, ho⟩, fun h1 h2 p k => sx_at p k⟩
/-- texts at l, a list or a tuple of them -/
def TxAt (H : Hp) (l : Addr) (xs : List Str) : Prop := H l = some (.lst (xs.map V.str)) ∨ PT H l (xs.map V.str)
/-- set(texts) -/
def rSetTx (P : Program) (w : World) : List V → Hp → VK → Prop := fun vs H Q => ∃ (l : Addr) (xs : List Str), vs = [.ref l] ∧ TxAt H l xs ∧ xs.length ≤ 1000 ∧
  ∀ (p : Addr) (ms : List Str), ms.Nodup → ms.length ≤ xs.length → (∀ y, y ∈ ms ↔ y ∈ xs) → H p = none → Q (.ref p) (L2.upd H p (SxO P w p ms))
theorem cr_setTx (hc : X.calm = true) : CallR X (.type "set") (rSetTx X.prog X.w) := by
  intro pins s σ H vs us Q I r h
  obtain ⟨l, xs, rfl, hl, few, q⟩ := h
  rw [Vals.ref1 r]
  have fin : ∀ (h' : Heap) (tk : Nat) (ms : List Str), Sx X.prog X.w h' s.heap.objs.size ms → Mem xs xs.length ms → (∀ b o, b < s.heap.objs.size → s.heap.get? b = some o → h'.get? b = some o) →
      ∃ x H', Inv X pins σ H' { s with heap := h', toks := tk } ∧ RelV x (.ref s.heap.objs.size) ∧ Q x H' := fun h' tk ms hS hM kp => by
    obtain ⟨D, ho, F⟩ := id hS
    refine ⟨.ref s.heap.objs.size, _, I.laid (t' := tk) (fun b o e => kp b o (Heap.lt_size e) e) (Nat.le_refl _) (sx_new hS), rfl, q _ ms F.nd hM.1 (fun y => ?_) (I.hok.fresh (Nat.le_refl _))⟩
    rw [hM.2 y, List.take_length]
  have room : xs.length + 1 < scanBound := Nat.lt_of_le_of_lt (Nat.succ_le_succ few) (by decide)
  rcases hl with hl | hl
  · obtain ⟨its, r, pl, hz⟩ := I.list (SqL.of hl)
    exact set_sx (I.ok.hd hc) pl.isList (by simpa using strs_are r) room fun h' tk ms hS hM kp => fin h' tk ms hS hM kp
  · obtain ⟨its, r, pl, hz⟩ := I.tuple hl.sq
    exact set_sxT (I.ok.hd hc) pl (by simpa using strs_are r) room fun h' tk ms hS hM kp => fin h' tk ms hS hM kp
/-- sorted(a set of texts) -/
def rSortTx (P : Program) (w : World) : List V → Hp → VK → Prop := fun vs H Q => ∃ (a : Addr) (ms : List Str), vs = [.ref a] ∧ H a = some (SxO P w a ms) ∧ ms.length ≤ 2000 ∧
  ∀ (ys : List Str) (p : Addr), ys.Perm ms → sortedS ys = true → H p = none → Q (.ref p) (L2.upd H p (.lst (ys.map V.str)))
theorem vals_strs : ∀ {us : List Value} {xs : List Str}, PyProof.Rows.StrsAre us xs → Vals (xs.map V.str) us
  | _, _, .nil => .nil
  | _, _, .cons x k r => .cons ⟨k, rfl⟩ (vals_strs r)
theorem cr_sortTx (hc : X.calm = true) : CallR X (.builtin "sorted") (rSortTx X.prog X.w) := by
  intro pins s σ H vs us Q I r h
  obtain ⟨a, ms, rfl, ha, few, q⟩ := h
  have R : Sx X.prog X.w s.heap a ms := (I.hok a _ ha).1
  rw [Vals.ref1 r]
  refine sorted_sx R (I.ok.hd hc) few fun s' p out c ys k g o hp hg hi pm hs => ?_
  have hlen : (ys.map V.str).length ≤ sizeLine := by
    rw [List.length_map, pm.length_eq]
    exact Nat.le_trans few (by decide)
  have hn : H p = none := I.hok.fresh hp
  have J : Inv X pins σ (L2.upd H p (.lst (ys.map V.str))) { s with heap := s'.heap, gens := s'.gens, drawn := s'.drawn, toks := s'.toks } :=
    I.call (ch := []) (Un.laid k hp hn) (I.hok.laid k hp ⟨hlen, out.toList, c, vals_strs hi, hg⟩) (by rw [g]; exact I.bare) (fun _ z => nomatch z)
  have e : s' = { s with heap := s'.heap, gens := s'.gens, drawn := s'.drawn, toks := s'.toks } := by
    cases s'
    cases s
    cases o
    rfl
  rw [e]
  exact ⟨.ref p, _, J, rfl, q ys p pm hs hn⟩
end
end Nal

namespace Nal
open PySem L2 RZ PyProof.Rows
abbrev s_law_is_tag : Stmt := topS 21
abbrev N_law_is_tag : List Str := ["_law_matter", "_law_sign"]
abbrev P_law_is_tag : List Str := ["_law_matter"]
theorem sc_law_is_tag : FnScope ["_law_matter", "_law_sign"] ["_law_matter"] (defScope s_law_is_tag) := ⟨rfl, rfl, rfl, by decide +kernel, rfl, by decide +kernel, by decide +kernel⟩
mutual
/-- data of at most m things side by side, n deep -/
def okm (m : Nat) : PyData → Nat → Prop
  | .str x, _ => x.cps.size ≤ 1000 ∧ PyData.canLay0 (.str x) = true
  | .list ds, n => 1 ≤ n ∧ ds.length ≤ m ∧ okmAll m ds (n - 1)
  | .tuple ds, n => 1 ≤ n ∧ ds.length ≤ m ∧ okmAll m ds (n - 1)
  | .dict _, _ => False
  | _, _ => True
def okmAll (m : Nat) : List PyData → Nat → Prop
  | [], _ => True
  | d :: ds, n => okm m d n ∧ okmAll m ds n
end
mutual
theorem okm_mono {m m' : Nat} (hm : m ≤ m') : ∀ {d : PyData} {n n' : Nat}, n ≤ n' → okm m d n → okm m' d n'
  | .none, _, _, _, _ => trivial
  | .bool _, _, _, _, _ => trivial
  | .int _, _, _, _, _ => trivial
  | .str _, _, _, _, h => h
  | .list ds, n, n', hn, h => ⟨Nat.le_trans h.1 hn, Nat.le_trans h.2.1 hm, okmAll_mono hm (Nat.sub_le_sub_right hn 1) h.2.2⟩
  | .tuple ds, n, n', hn, h => ⟨Nat.le_trans h.1 hn, Nat.le_trans h.2.1 hm, okmAll_mono hm (Nat.sub_le_sub_right hn 1) h.2.2⟩
  | .dict _, _, _, _, h => h.elim
theorem okmAll_mono {m m' : Nat} (hm : m ≤ m') : ∀ {ds : List PyData} {n n' : Nat}, n ≤ n' → okmAll m ds n → okmAll m' ds n'
  | [], _, _, _, _ => trivial
  | d :: ds, _, _, hn, h => ⟨okm_mono hm hn h.1, okmAll_mono hm hn h.2⟩
end
mutual
theorem okm_okz {m : Nat} (hm : m ≤ 1000) : ∀ {d : PyData} {n : Nat}, okm m d n → okz d
  | .none, _, _ => trivial
  | .bool _, _, _ => trivial
  | .int _, _, _ => trivial
  | .str _, _, h => h.1
  | .list ds, n, h => ⟨Nat.le_trans h.2.1 hm, okmAll_okz hm h.2.2⟩
  | .tuple ds, n, h => ⟨Nat.le_trans h.2.1 hm, okmAll_okz hm h.2.2⟩
  | .dict _, _, h => h.elim
theorem okmAll_okz {m : Nat} (hm : m ≤ 1000) : ∀ {ds : List PyData} {n : Nat}, okmAll m ds n → okzAll ds
  | [], _, _ => trivial
  | d :: ds, _, h => ⟨okm_okz hm h.1, okmAll_okz hm h.2⟩
end
mutual
theorem okm_lay {m : Nat} : ∀ {d : PyData} {n : Nat}, okm m d n → PyData.canLay0 d = true
  | .none, _, _ => rfl
  | .bool _, _, _ => rfl
  | .int _, _, _ => rfl
  | .str _, _, h => h.2
  | .list ds, n, h => okmAll_lay (ds := ds) h.2.2
  | .tuple ds, n, h => okmAll_lay (ds := ds) h.2.2
  | .dict _, _, h => h.elim
theorem okmAll_lay {m : Nat} : ∀ {ds : List PyData} {n : Nat}, okmAll m ds n → PyData.canLayAll0 ds = true
  | [], _, _ => rfl
  | d :: ds, _, h => by
    show (PyData.canLay0 d && PyData.canLayAll0 ds) = true
    rw [okm_lay h.1, okmAll_lay h.2]
    rfl
end
mutual
theorem okm_deep {m : Nat} : ∀ {d : PyData} {n : Nat}, okm m d n → PyData.depth d ≤ n
  | .none, _, _ => Nat.zero_le _
  | .bool _, _, _ => Nat.zero_le _
  | .int _, _, _ => Nat.zero_le _
  | .str _, _, _ => Nat.zero_le _
  | .list ds, n, h => by
    have z := okmAll_deep (ds := ds) h.2.2
    have q := h.1
    show PyData.depthAll ds + 1 ≤ n
    omega
  | .tuple ds, n, h => by
    have z := okmAll_deep (ds := ds) h.2.2
    have q := h.1
    show PyData.depthAll ds + 1 ≤ n
    omega
  | .dict _, _, h => h.elim
theorem okmAll_deep {m : Nat} : ∀ {ds : List PyData} {n : Nat}, okmAll m ds n → PyData.depthAll ds ≤ n
  | [], _, _ => Nat.zero_le _
  | d :: ds, _, h => by
    have z1 := okm_deep h.1
    have z2 := okmAll_deep h.2
    show max (PyData.depth d) (PyData.depthAll ds) ≤ _
    omega
end
theorem okmAll_at {m n : Nat} : ∀ {ds : List PyData} {i : Nat} {d : PyData}, okmAll m ds n → ds[i]? = some d → okm m d n
  | [], i, d, _, e => by simp at e
  | c :: ds, 0, d, h, e => by
    cases (Option.some.inj e)
    exact h.1
  | c :: ds, i + 1, d, h, e => okmAll_at (i := i) h.2 e
theorem okmAll_of {m n : Nat} : ∀ {ds : List PyData}, (∀ d ∈ ds, okm m d n) → okmAll m ds n
  | [], _ => trivial
  | d :: ds, h => ⟨h d List.mem_cons_self, okmAll_of fun x hx => h x (List.mem_cons_of_mem _ hx)⟩
theorem okmAll_mem {m n : Nat} {ds : List PyData} (h : okmAll m ds n) {d : PyData} (hd : d ∈ ds) : okm m d n := by
  obtain ⟨i, e⟩ := List.mem_iff_getElem?.mp hd
  exact okmAll_at h e
/-- data that a question is asked about -/
def okq (d : PyData) : Prop := okm 100 d 20
theorem okq_tup {ds : List PyData} (h : okq (.tuple ds)) : ds.length ≤ 100 ∧ ∀ d ∈ ds, okq d := ⟨h.2.1, fun d hd => okm_mono (Nat.le_refl _) (by decide) (okmAll_mem h.2.2 hd)⟩
theorem okq_okz {d : PyData} (h : okq d) : okz d := okm_okz (by decide) h
theorem okq_shaped {d : PyData} (h : okq d) : SeqAt.shaped d = true := by
  unfold SeqAt.shaped
  rw [okm_lay h, Bool.true_and]
  have z := okm_deep h
  exact decide_eq_true (by omega)
mutual
theorem De.dp {K : PySem.W.Frag} {H : Hp} : ∀ {d : PyData} {v : V}, De H d v → Dp K H v d
  | .none, _, h => by
    cases (show _ = _ from h)
    exact .non
  | .bool b, _, h => by
    cases (show _ = _ from h)
    exact .bl b
  | .int i, _, h => by
    cases (show _ = _ from h)
    exact .int i
  | .str x, _, h => by
    cases (show _ = _ from h)
    exact .str x
  | .list ds, _, h => by
    obtain ⟨a, xs, rfl, ha, hs⟩ := h
    exact .lst (SqL.of ha) (DeAll.dp hs)
  | .tuple ds, _, h => by
    obtain ⟨a, xs, rfl, ha, hs⟩ := h
    exact .tup ha.sq (DeAll.dp hs)
  | .dict _, _, h => h.elim
theorem DeAll.dp {K : PySem.W.Frag} {H : Hp} : ∀ {ds : List PyData} {xs : List V}, DeAll H ds xs → DpAll K H xs ds
  | [], _, h => by
    cases (show _ = [] from h)
    exact .nil
  | d :: ds, _, h => by
    obtain ⟨v, vs, rfl, h1, h2⟩ := h
    exact .cons (De.dp h1) (DeAll.dp h2)
end
theorem lay_strs : ∀ l : List Str, (∀ x ∈ l, PyData.canLay0 (.str x) = true) → PyData.canLayAll0 (l.map .str) = true
  | [], _ => rfl
  | x :: r, h => by
    show (PyData.canLay0 (.str x) && PyData.canLayAll0 (r.map .str)) = true
    rw [h x List.mem_cons_self, lay_strs r fun y hy => h y (List.mem_cons_of_mem _ hy)]
    rfl
theorem deep_strs : ∀ l : List Str, PyData.depthAll (l.map .str) = 0
  | [] => rfl
  | x :: r => by
    show max 0 (PyData.depthAll (r.map .str)) = 0
    rw [deep_strs r]
    rfl
theorem list_shaped {l : List Str} (h : ∀ x ∈ l, PyData.canLay0 (.str x) = true) : SeqAt.shaped (.list (l.map .str)) = true := by
  unfold SeqAt.shaped
  rw [show PyData.canLay0 (.list (l.map .str)) = PyData.canLayAll0 (l.map .str) from rfl, lay_strs l h, Bool.true_and]
  refine decide_eq_true ?_
  show PyData.depthAll (l.map .str) + 1 ≤ 64
  rw [deep_strs]
  decide
theorem eqv_strs : ∀ l m : List Str, PyData.eqvAll (l.map .str) (m.map .str) = decide (l = m)
  | [], [] => rfl
  | [], y :: m => rfl
  | x :: l, [] => rfl
  | x :: l, y :: m => by
    show ((x == y) && PyData.eqvAll (l.map .str) (m.map .str)) = _
    rw [eqv_strs l m, Bool.eq_iff_iff]
    simp
theorem strsL {H : Hp} {D : Addr} {l : List Str} (h : H D = some (.lst (l.map V.str))) : De H (.list (l.map .str)) (.ref D) := ⟨D, _, rfl, h, strs_all _ _⟩
/-- the signs of a text that are no letters, each a text -/
def badS (cs : List Nat) : List Str := (cs.filter fun c => !decide (c ∈ letters.cps.toList)).map fun c => ⟨#[c]⟩
theorem badS_next (cs : List Nat) (i : Nat) (c : Nat) (e : cs[i]? = some c) : badS (cs.take (i + 1)) = badS (cs.take i) ++ (if !decide (c ∈ letters.cps.toList) then [⟨#[c]⟩] else []) := by
  unfold badS
  rw [List.take_add_one, e, List.filter_append, List.map_append]
  congr 1
  show List.map _ (List.filter _ [c]) = _
  rw [List.filter_cons]
  cases (!decide (c ∈ letters.cps.toList)) <;> rfl
theorem badS_nil (cs : List Nat) : decide (badS cs = []) = cs.all fun c => decide (c ∈ letters.cps.toList) := by
  unfold badS
  rw [Bool.eq_iff_iff, decide_eq_true_eq, List.map_eq_nil_iff, List.filter_eq_nil_iff, List.all_eq_true]
  simp
section
variable {P : Program} {w : World} {K : PySem.W.Frag} {mg : Str → Option Value} {base : Heap}
/-- a question about data, by the law's own look -/
def spAskQ (p : PyData → Bool) : Sp := fun vs H Q _ => ∃ (d : PyData) (v : V), vs = [v] ∧ De H d v ∧ okq d ∧ ∀ H', Same H H' → Q (.bl (p d)) H'
theorem ok_tag {f : Addr} {fd : FuncData} (F : Fun K "_law_is_tag" "_law_is_tag" s_law_is_tag f fd) (T : Txt K mg) : FnOk P w K mg base CX0 1 f fd ["_law_matter"] (spAskQ nameB) := by
  refine F.ok sc_law_is_tag (fun vs H Q E h => ?_) (fun cdv A outer s H vs Q E hr h => ?_)
  · obtain ⟨d, v, rfl, _⟩ := h
    rfl
  · obtain ⟨d, v, rfl, hd, hz, k⟩ := h
    refine ⟨_, (pss_cons (ps_if (PW.pt (pw_or (pt_not (pt_val (pe_callB (r := rIsi K) call_isi (by rfl) T.b_isinstance (by decide +kernel) (pa_cons (pv 0) (pa_cons (pe_bltn (v := .ty "str") (u := .type "str") (by rfl) T.b_str (by decide +kernel) (by rfl)) pa_nil))))) (pw_or (pt_cmpR op_lt (pe_callB call_len_str (by rfl) T.b_len (by decide +kernel) (pa_cons (pv 0) pa_nil)) pe_int (nomark _)) (pw_or1 (pt_cmpR op_gt (pe_callB call_len_str (by rfl) T.b_len (by decide +kernel) (pa_cons (pv 0) pa_nil)) pe_int (nomark _)))))) (pss_one (ps_ret pe_bl)) pss_nil)
      (pss_one (ps_ret (pe_cmpR (r := rEqD K) (op_eqD hr.units) (pe_lc (own := [("_law_sign", 1)]) (g := (gName 1)) (tt := _) rfl sc_law_is_tag.nd (pi_str (pv 0)) (blkOk_by (own := [("_law_sign", 1)]) (N := ["_law_matter", "_law_sign"]) (sc := defScope s_law_is_tag) (by decide +kernel)) (fun _ _ _ _ _ => (pg_name (i := 1) sc_law_is_tag.nd rfl (Or.inl rfl))) (fun _ _ _ _ _ => pts_one (pt_cmpR op_notIn_sign (pv 1) pe_str rfl)) (fun _ _ _ _ _ => (pv 1))) (pe_lst pa_nil) (nomark _))))), ?_⟩
    refine ⟨_, rfl, _, _, _, _, _, rfl, .ty "str", hd.ty, kit_str d, _, rfl, ?_⟩
    cases hs : isStrD d with
    | false =>
      refine iteT ?_
      have e : nameB d = false := by
        cases d with
        | str x => cases hs
        | _ => rfl
      have z := k H fun _ _ q => q
      rw [e] at z
      exact z
    | true =>
      cases d with
      | str x =>
        cases (show v = .str x from hd)
        refine iteF ?_
        have zx : x.cps.size ≤ 1000 := hz.1
        have no : nameB (.str x) = false → Q (.bl false) H := fun e => by
          have z := k H fun _ _ q => q
          rw [e] at z
          exact z
        refine ⟨_, rfl, x, rfl, Nat.le_trans zx (by decide), _, _, rfl, rfl, _, rfl, ite2 (fun c1 => ?_) (fun c1 => ?_)⟩
        · refine no ?_
          have b1 : ¬ 1 ≤ x.cps.size := fun z => by
            have q : (x.cps.size : Int) < 1 := of_decide_eq_true c1
            omega
          show (decide (1 ≤ x.cps.size) && _) = false
          rw [decide_eq_false b1, Bool.false_and]
        · refine ⟨_, rfl, x, rfl, Nat.le_trans zx (by decide), _, _, rfl, rfl, _, rfl, ite2 (fun c2 => ?_) (fun c2 => ?_)⟩
          · refine no ?_
            have b2 : ¬ x.cps.size ≤ 8 := fun z => by
              have q : (8 : Int) < (x.cps.size : Int) := of_decide_eq_true c2
              omega
            show (decide (1 ≤ x.cps.size) && (decide (x.cps.size ≤ 8) && _)) = false
            rw [decide_eq_false b2, Bool.false_and, Bool.and_false]
          · dsimp only [tRet, tOp, tLst, tNil]
            refine ⟨_, rfl, _, rfl, fun D hD => lc_it (w := walk_str) (fun i H' => Same H H' ∧ H' D = some (.lst ((badS (x.cps.toList.take i)).map V.str))) ⟨same_new hD, upd_same⟩ (fun _ _ _ _ => trivial) ?_ ?_⟩
            · rintro i y _ H1 hi ⟨s1, h1⟩ ⟨rfl, c, ec, rfl⟩
              have ec' : x.cps.toList[i]? = some c := by simpa using ec
              refine ⟨rfl, _, rfl, c, _, rfl, rfl, _, rfl, ite2 (fun c3 => ?_) (fun c3 => ?_)⟩
              · refine ⟨_, rfl, _, h1, Nat.lt_of_le_of_lt (show _ ≤ 1000 by
                  rw [List.length_map, badS, List.length_map]
                  refine Nat.le_trans (List.length_filter_le _ _) ?_
                  rw [List.length_take]
                  have q : x.cps.toList.length = x.cps.size := by simp
                  omega) (by decide), fun b o e => ?_, ?_⟩
                · rw [upd_ne (ne_of_none e hD)]
                  exact s1 _ _ e
                · rw [upd_same, badS_next _ _ _ ec', if_pos (show (!decide (c ∈ letters.cps.toList)) = true from c3), List.map_append]
                  rfl
              · refine ⟨s1, ?_⟩
                rw [badS_next _ _ _ ec', if_neg (show ¬ (!decide (c ∈ letters.cps.toList)) = true from c3), List.append_nil]
                exact h1
            · rintro H1 ⟨s1, h1⟩
              rw [List.take_of_length_le (by simp)] at h1
              refine ⟨(by show 0 ≤ sizeLine; decide), fun l hl => ?_⟩
              have s2 := same_new (o := .lst []) hl
              have lay1 : ∀ z ∈ badS x.cps.toList, PyData.canLay0 (.str z) = true := fun z hz2 => ?_
              · refine ⟨_, _, De.dp (strsL (s2 _ _ h1)), De.dp (strsL (l := []) upd_same), list_shaped lay1, list_shaped (l := []) (fun z hz2 => nomatch hz2), ?_⟩
                have e : PyData.eqv (.list ((badS x.cps.toList).map .str)) (.list (([] : List Str).map .str)) = nameB (.str x) := by
                  rw [show PyData.eqv (.list ((badS x.cps.toList).map .str)) (.list (([] : List Str).map .str)) = PyData.eqvAll ((badS x.cps.toList).map .str) (([] : List Str).map .str) from rfl, eqv_strs, badS_nil]
                  have b1 : 1 ≤ x.cps.size := by
                    have z : ¬ ((x.cps.size : Int) < 1) := fun z => c1 (decide_eq_true z)
                    omega
                  have b2 : x.cps.size ≤ 8 := by
                    have z : ¬ ((8 : Int) < (x.cps.size : Int)) := fun z => c2 (decide_eq_true z)
                    omega
                  show _ = (decide (1 ≤ x.cps.size) && (decide (x.cps.size ≤ 8) && _))
                  rw [decide_eq_true b1, decide_eq_true b2, Bool.true_and, Bool.true_and]
                rw [e]
                exact k _ (s1.trans s2)
              · obtain ⟨c, hc, rfl⟩ := List.mem_map.mp hz2
                have hx : c ∈ x.cps.toList := (List.mem_filter.mp hc).1
                have ok : x.cps.all (· < 0x110000) = true := hz.2
                rw [← Array.all_toList] at ok
                have q := List.all_eq_true.mp ok c hx
                show (#[c] : Array Nat).all (· < 0x110000) = true
                rw [← Array.all_toList]
                exact List.all_eq_true.mpr fun z hz3 => by
                  rw [List.mem_singleton.mp hz3]
                  exact q
      | none => cases hs
      | bool b => cases hs
      | int i => cases hs
      | list ds => cases hs
      | tuple ds => cases hs
      | dict kvs => cases hs
end
end Nal

namespace Nal
open PySem L2 RZ PyProof.Rows
abbrev s_law_is_task : Stmt := topS 22
abbrev N_law_is_task : List Str := ["_law_matter", "_law_spots", "_law_ways", "_law_own", "_law_first", "_law_ends"]
abbrev P_law_is_task : List Str := ["_law_matter"]
theorem sc_law_is_task : FnScope ["_law_matter", "_law_spots", "_law_ways", "_law_own", "_law_first", "_law_ends"] ["_law_matter"] (defScope s_law_is_task) := ⟨rfl, rfl, rfl, by decide +kernel, rfl, by decide +kernel, by decide +kernel⟩
/-- whether data is one of these texts -/
def inP (ps : List Str) : PyData → Bool
  | .str x => ps.contains x
  | _ => false
/-- a pair of NAMEs of ps, the second one or None -/
def stepB (ps : List Str) : PyData → Bool
  | .tuple [a, b] => nameB a && (inP ps a && (isNoneD b || (nameB b && inP ps b)))
  | _ => false
theorem not_pair4 {ps : List Str} {d : PyData} (h : pairB d = false) : stepB ps d = false := by
  cases d with
  | tuple ds =>
    match ds, h with
    | [], _ => rfl
    | [a], _ => rfl
    | a :: b :: c :: r, _ => rfl
  | _ => rfl
theorem step_way {ps : List Str} {d : PyData} (h : stepB ps d = true) : wayB d = true := by
  cases hp : pairB d with
  | false =>
    rw [not_pair4 hp] at h
    cases h
  | true =>
    obtain ⟨a, b, rfl⟩ := pair_of hp
    have q : (nameB a && (inP ps a && (isNoneD b || (nameB b && inP ps b)))) = true := h
    show (nameB a && (nameB b || isNoneD b)) = true
    cases h1 : nameB a <;> cases h2 : nameB b <;> cases h3 : isNoneD b <;> simp_all
theorem goal_step {ps : List Str} {es : List PyData} (h : goalB ps (.tuple es) = true) : ∀ e ∈ es, stepB ps e = true := by
  obtain ⟨h1, h2⟩ := Bool.and_eq_true_iff.mp (show (es.all wayB && goalG ps (gsOf es)) = true from h)
  obtain ⟨gs, rfl⟩ := ways_parts h1
  rw [gsOf_map] at h2
  have h3 := (Bool.and_eq_true_iff.mp (Bool.and_eq_true_iff.mp (show (ascB (gs.map (·.1)) && (decide (dcnt (gs.filterMap (·.2)).reverse = (gs.filterMap (·.2)).length) && (gs.map (·.1) ++ gs.filterMap (·.2)).all ps.contains)) = true from h2)).2).2
  intro e he
  have w := List.all_eq_true.mp h1 e he
  obtain ⟨⟨x, o⟩, hg, rfl⟩ := List.mem_map.mp he
  have c1 : ps.contains x = true := List.all_eq_true.mp h3 x (List.mem_append_left _ (List.mem_map.mpr ⟨_, hg, rfl⟩))
  obtain ⟨w1, w2⟩ := Bool.and_eq_true_iff.mp (show (nameB (.str x) && (nameB (optD o) || isNoneD (optD o))) = true from w)
  show (nameB (.str x) && (ps.contains x && (isNoneD (optD o) || (nameB (optD o) && inP ps (optD o))))) = true
  rw [w1, c1]
  cases o with
  | none => rfl
  | some y =>
    have c2 : ps.contains y = true := List.all_eq_true.mp h3 y (List.mem_append_right _ (List.mem_filterMap.mpr ⟨_, hg, rfl⟩))
    have w3 : nameB (.str y) = true := by
      have z : (nameB (.str y) || false) = true := w2
      rwa [Bool.or_false] at z
    show (nameB (.str y) && ps.contains y) = true
    rw [w3, c2]
    rfl
theorem step_goal {ps : List Str} {es : List PyData} (h : ∀ e ∈ es, stepB ps e = true) : ∃ gs : List (Str × Option Str), es = gs.map wayD ∧ goalB ps (.tuple es) = (ascB (gs.map (·.1)) && decide (dcnt (gs.filterMap (·.2)).reverse = (gs.filterMap (·.2)).length)) := by
  have h1 : es.all wayB = true := List.all_eq_true.mpr fun e he => step_way (h e he)
  obtain ⟨gs, rfl⟩ := ways_parts h1
  refine ⟨gs, rfl, ?_⟩
  show ((gs.map wayD).all wayB && goalG ps (gsOf (gs.map wayD))) = _
  rw [h1, gsOf_map, Bool.true_and]
  show (ascB (gs.map (·.1)) && (decide (dcnt (gs.filterMap (·.2)).reverse = (gs.filterMap (·.2)).length) && (gs.map (·.1) ++ gs.filterMap (·.2)).all ps.contains)) = _
  have c : (gs.map (·.1) ++ gs.filterMap (·.2)).all ps.contains = true := by
    refine List.all_eq_true.mpr fun x hx => ?_
    rcases List.mem_append.mp hx with z | z
    · obtain ⟨g, hg, rfl⟩ := List.mem_map.mp z
      have q : (nameB (.str g.1) && (ps.contains g.1 && _)) = true := h _ (List.mem_map.mpr ⟨g, hg, rfl⟩)
      exact (Bool.and_eq_true_iff.mp (Bool.and_eq_true_iff.mp q).2).1
    · obtain ⟨⟨u, o⟩, hg, e⟩ := List.mem_filterMap.mp z
      have e' : o = some x := e
      subst e'
      have q : (nameB (.str u) && (ps.contains u && (false || (nameB (.str x) && ps.contains x)))) = true := h _ (List.mem_map.mpr ⟨_, hg, rfl⟩)
      have q2 := (Bool.and_eq_true_iff.mp (Bool.and_eq_true_iff.mp q).2).2
      rw [Bool.false_or] at q2
      exact (Bool.and_eq_true_iff.mp q2).2
  rw [c, Bool.and_true]
theorem job_parts (a b : PyData) : jobB (.tuple [a, b]) = (nameSetB a && (!(psOf a).isEmpty && goalB (psOf a) b)) := rfl
theorem flat_strs (l : List Str) : (l.map V.str).all flatV = true := List.all_eq_true.mpr fun y hy => by
  obtain ⟨x, _, rfl⟩ := List.mem_map.mp hy
  rfl
theorem inV_strs (x : Str) (l : List Str) : inV (.str x) (l.map V.str) = l.contains x := by
  unfold inV
  rw [List.any_map]
  induction l with
  | nil => rfl
  | cons y r ih =>
    rw [List.any_cons, List.contains_cons, ih]
    congr 1
    show eqV (.str y) (.str x) = (x == y)
    rw [Bool.eq_iff_iff]
    constructor
    · intro h
      have h2 : y = x := by simpa [eqV] using h
      rw [h2]
      exact beq_self_eq_true _
    · intro h
      have h2 : x = y := by simpa using h
      rw [h2]
      simp [eqV]
theorem fm_not (p : PyData → Bool) : ∀ ds : List PyData, (ds.filter fun d => !p d).isEmpty = ds.all p
  | [] => rfl
  | d :: r => by
    rw [List.filter_cons, List.all_cons, ← fm_not p r]
    cases p d <;> rfl
theorem eqv_nil' (ds : List PyData) : PyData.eqv (.tuple ds) (.tuple []) = ds.isEmpty := by
  cases ds <;> rfl
theorem eqv_nil (ds : List PyData) : PyData.eqvAll ds [] = ds.isEmpty := by
  cases ds <;> rfl
theorem ifs_len {t : Nat} (h : (!decide (V.int (t : Nat) = V.int 2)) = true) : t ≠ 2 := fun e => by
  subst e
  cases h
/-- those of the items of a tuple that something holds of -/
theorem rd_sel {K : PySem.W.Frag} {a : Addr} {xs : List V} {ds : List PyData} {t : TE} {g : TG} {tt : TT} {te : TE} {vs : List Nat} {σ : L2.St} {H : Hp} {Q : VK} (p : PyData → Bool) (ht : ∀ R : VK, R (.ref a) H → t σ H R) (pa : PT H a xs) (hd : DeAll H ds xs) (hl : ds.length ≤ 1000)
    (step : ∀ (i : Nat) (hi : i < ds.length) (x : V) (H' : Hp) (R : Option V → Hp → Prop), De H' ds[i] x → Same H H' → (∀ H4, p ds[i] = false → Same H' H4 → R none H4) → (∀ H4, p ds[i] = true → Same H' H4 → R (some x) H4) →
      g x (wipe σ vs) H' fun σ2 H2 => wipe σ2 vs = wipe σ vs ∧ tt σ2 H2 fun b H3 => if b = true then te σ2 H3 fun y H4 => R (some y) H4 else R none H3)
    (fin : ∀ (D : Addr) (H' : Hp) (acc : List V), H D = none → Same H H' → H' D = some (.lst acc) → DeAll H (ds.filter p) acc → Q (.ref D) H') : tLc (iTup K t) g tt te vs σ H Q := by
  have ln := hd.len
  refine ht _ ⟨a, rfl, ⟨_, PT.sq pa⟩, fun D hD => lc_it (w := walk_tup (K := K) (a := a) (xs := xs)) (fun i H' => Same H H' ∧ ∃ acc, H' D = some (.lst acc) ∧ acc.length ≤ i ∧ DeAll H ((ds.take i).filter p) acc) ⟨same_new hD, [], upd_same, Nat.le_refl _, rfl⟩ (fun i H' _ h => PT.sq (PT.keep h.1 pa)) ?_ ?_⟩
  · rintro i x _ H' hi ⟨s1, acc, hacc, el, hde⟩ ⟨rfl, ex⟩
    have hi' : i < ds.length := by omega
    obtain ⟨d, ed, hx⟩ := hd.at ex
    rw [List.getElem?_eq_getElem hi'] at ed
    cases ed
    have nx : (ds.take (i + 1)).filter p = (ds.take i).filter p ++ [ds[i]].filter p := by
      rw [List.take_add_one, List.getElem?_eq_getElem hi', List.filter_append]
      rfl
    have z := step i hi' x H' (fun o H4 => match o with
      | some y => ∃ acc, H4 D = some (.lst acc) ∧ acc.length < sizeLine ∧ (Same H (L2.upd H4 D (.lst (acc ++ [y]))) ∧ ∃ acc', L2.upd H4 D (.lst (acc ++ [y])) D = some (.lst acc') ∧ acc'.length ≤ i + 1 ∧ DeAll H ((ds.take (i + 1)).filter p) acc')
      | none => Same H H4 ∧ ∃ acc, H4 D = some (.lst acc) ∧ acc.length ≤ i + 1 ∧ DeAll H ((ds.take (i + 1)).filter p) acc) (De.keep s1 _ _ hx) s1 (fun H4 e s4 => ?_) fun H4 e s4 => ?_
    · exact z
    · refine ⟨s1.trans s4, acc, s4 _ _ hacc, Nat.le_succ_of_le el, ?_⟩
      rw [nx, List.filter_cons_of_neg (by rw [e]; decide), List.filter_nil, List.append_nil]
      exact hde
    · refine ⟨acc, s4 _ _ hacc, Nat.lt_of_le_of_lt (show acc.length ≤ 1000 by omega) (by decide), fun b o q => ?_, acc ++ [x], upd_same, by rw [List.length_append, List.length_singleton]; omega, ?_⟩
      · rw [upd_ne (ne_of_none q hD)]
        exact s4 _ _ (s1 _ _ q)
      · rw [nx, List.filter_cons_of_pos e, List.filter_nil]
        exact DeAll.snoc hde hx
  · rintro H' ⟨s1, acc, hacc, el, hde⟩
    rw [ln, List.take_length] at hde
    exact fin D H' acc hD s1 hacc hde
theorem okm_shaped {d : PyData} {m n : Nat} (hn : n ≤ 64) (h : okm m d n) : SeqAt.shaped d = true := by
  unfold SeqAt.shaped
  rw [okm_lay h, Bool.true_and]
  have z := okm_deep h
  exact decide_eq_true (by omega)
theorem names_texts : ∀ {ds : List PyData}, ds.all nameB = true → ds = (textsD ds).map .str
  | [], _ => rfl
  | d :: r, hb => by
    obtain ⟨b1, b2⟩ := Bool.and_eq_true_iff.mp (show (nameB d && r.all nameB) = true from hb)
    obtain ⟨x, rfl⟩ := name_str b1
    show _ = PyData.str x :: (textsD r).map .str
    rw [← names_texts b2]
theorem not_tup {d : PyData} (h : isTupD d = false) {ps : List Str} : stepB ps d = false := by
  cases d with
  | tuple ds => cases h
  | _ => rfl
theorem tup_of {d : PyData} (h : isTupD d = true) : ∃ ds, d = .tuple ds := by
  cases d with
  | tuple ds => exact ⟨ds, rfl⟩
  | none => cases h
  | bool b => cases h
  | int i => cases h
  | str x => cases h
  | list ds => cases h
  | dict kvs => cases h
section
variable {P : Program} {w : World} {K : PySem.W.Frag} {mg : Str → Option Value} {base : Heap}
theorem ok_is_task {f f1 : Addr} {fd fd1 : FuncData} (F : Fun K "_law_is_task" "_law_is_task" s_law_is_task f fd) (T : Txt K mg) (b_set : mg "set" = none)
    (G_law_is_tag : FnOk P w K mg base CX0 1 f1 fd1 ["_law_matter"] (spAskQ nameB)) (m_law_is_tag : mg "_law_is_tag" = some (.ref f1)) (k_law_is_tag : PySem.W.keepIn K (.ref f1) = true) (b_law_is_tag : Binds K fd1 ["_law_matter"] []) :
    FnOk P w K mg base CX0 2 f fd ["_law_matter"] (spAskQ jobB) := by
  refine F.ok sc_law_is_task (fun vs H Q E h => ?_) (fun cdv A outer s H vs Q E hr h => ?_)
  · obtain ⟨d, v, rfl, _⟩ := h
    rfl
  · obtain ⟨d, v, rfl, hd, hz, k⟩ := h
    refine ⟨_, (pss_cons (ps_if (PW.pt (pw_or (pt_not (pt_val (pe_callB (r := rIsi K) call_isi (by rfl) T.b_isinstance (by decide +kernel) (pa_cons (pv 0) (pa_cons (pe_bltn (v := .ty "tuple") (u := .type "tuple") (by rfl) T.b_tuple (by decide +kernel) (by rfl)) pa_nil))))) (pw_or1 (pt_cmpR op_ne (pe_callB (r := rLn K) call_len_seq (by rfl) T.b_len (by decide +kernel) (pa_cons (pv 0) pa_nil)) pe_int (nomark _))))) (pss_one (ps_ret pe_bl)) pss_nil)
      (pss_cons (ps_if (PW.pt (pw_or (pt_not (pt_val (pe_callB (r := rIsi K) call_isi (by rfl) T.b_isinstance (by decide +kernel) (pa_cons (pe_ix (r := rIxT K) ix_tup (pv 0) pe_int (fun _ _ => rfl)) (pa_cons (pe_bltn (v := .ty "tuple") (u := .type "tuple") (by rfl) T.b_tuple (by decide +kernel) (by rfl)) pa_nil))))) (pw_or1 (pt_not (pt_val (pe_callB (r := rIsi K) call_isi (by rfl) T.b_isinstance (by decide +kernel) (pa_cons (pe_ix (r := rIxT K) ix_tup (pv 0) pe_int (fun _ _ => rfl)) (pa_cons (pe_bltn (v := .ty "tuple") (u := .type "tuple") (by rfl) T.b_tuple (by decide +kernel) (by rfl)) pa_nil)))))))) (pss_one (ps_ret pe_bl)) pss_nil)
      (pss_cons (ps_asg (pv 0) (pg_tup rfl (pgs_cons (pg_name (i := 1) sc_law_is_task.nd rfl (Or.inl rfl)) (pgs_cons (pg_name (i := 2) sc_law_is_task.nd rfl (Or.inl rfl)) pgs_nil))))
      (pss_cons (ps_if (PW.pt (pw_or (pt_cmpR (r := rEqD K) (op_eqD hr.units) (pv 1) (pe_tupF pa_nil) (nomark _)) (pw_or (pt_cmpR (r := rNeD K) (op_neD hr.units) (pe_lc (own := [("_law_own", 3)]) (g := (gName 3)) (tt := _) rfl sc_law_is_task.nd (pi_tup (pv 1)) (blkOk_by (own := [("_law_own", 3)]) (N := ["_law_matter", "_law_spots", "_law_ways", "_law_own", "_law_first", "_law_ends"]) (sc := defScope s_law_is_task) (by decide +kernel)) (fun _ _ _ _ _ => (pg_name (i := 3) sc_law_is_task.nd rfl (Or.inl rfl))) (fun _ _ _ _ _ => pts_one (pt_not (pt_val (pe_call G_law_is_tag (hr.mono (by decide)) rfl m_law_is_tag k_law_is_tag b_law_is_tag .nil pass0 (pa_cons (pv 3) pa_nil))))) (fun _ _ _ _ _ => (pv 3))) (pe_lst pa_nil) (nomark _)) (pw_or1 (pt_cmpR (r := rNeD K) (op_neD hr.units) (pe_callTy (r := rListOf K) call_list_of (by rfl) T.b_list (by decide +kernel) (pa_cons (pv 1) pa_nil)) (pe_callB (r := rSortTx P w) (cr_sortTx rfl) (by rfl) T.b_sorted (by decide +kernel) (pa_cons (pe_callTy (r := rSetTx P w) (cr_setTx rfl) (by rfl) b_set (by decide +kernel) (pa_cons (pv 1) pa_nil)) pa_nil)) (nomark _)))))) (pss_one (ps_ret pe_bl)) pss_nil)
      (pss_cons (ps_for PassesOwn.never rfl (pi_tup (pv 2)) (pg_name (i := 3) sc_law_is_task.nd rfl (Or.inl rfl)) (pss_cons (ps_if (PW.pt (pw_or (pt_not (pt_val (pe_callB (r := rIsi K) call_isi (by rfl) T.b_isinstance (by decide +kernel) (pa_cons (pv 3) (pa_cons (pe_bltn (v := .ty "tuple") (u := .type "tuple") (by rfl) T.b_tuple (by decide +kernel) (by rfl)) pa_nil))))) (pw_or (pt_cmpR op_ne (pe_callB (r := rLn K) call_len_seq (by rfl) T.b_len (by decide +kernel) (pa_cons (pv 3) pa_nil)) pe_int (nomark _)) (pw_or (pt_not (pt_val (pe_call G_law_is_tag (hr.mono (by decide)) rfl m_law_is_tag k_law_is_tag b_law_is_tag .nil pass0 (pa_cons (pe_ix (r := rIxT K) ix_tup (pv 3) pe_int (fun _ _ => rfl)) pa_nil)))) (pw_or1 (pt_cmpR (r := rIn K true) op_notIn_seq (pe_ix (r := rIxT K) ix_tup (pv 3) pe_int (fun _ _ => rfl)) (pv 1) rfl)))))) (pss_one (ps_ret pe_bl)) pss_nil)
      (pss_one (ps_if (PW.pt (pw_and (pt_cmpR op_notN (pe_ix (r := rIxT K) ix_tup (pv 3) pe_int (fun _ _ => rfl)) pe_non (nomark _)) (pw_and1 (PW.pt (pw_or (pt_not (pt_val (pe_call G_law_is_tag (hr.mono (by decide)) rfl m_law_is_tag k_law_is_tag b_law_is_tag .nil pass0 (pa_cons (pe_ix (r := rIxT K) ix_tup (pv 3) pe_int (fun _ _ => rfl)) pa_nil)))) (pw_or1 (pt_cmpR (r := rIn K true) op_notIn_seq (pe_ix (r := rIxT K) ix_tup (pv 3) pe_int (fun _ _ => rfl)) (pv 1) rfl))))))) (pss_one (ps_ret pe_bl)) pss_nil))))
      (pss_cons (ps_par (i := 4) (j := 5) (by rfl) sc_law_is_task.nd rfl rfl (by decide) rfl rfl (pa_cons (pe_lc (own := [("_law_own", 3)]) (g := (gName 3)) (tt := tYes) rfl sc_law_is_task.nd (pi_tup (pv 2)) (blkOk_by (own := [("_law_own", 3)]) (N := ["_law_matter", "_law_spots", "_law_ways", "_law_own", "_law_first", "_law_ends"]) (sc := defScope s_law_is_task) (by decide +kernel)) (fun _ _ _ _ _ => (pg_name (i := 3) sc_law_is_task.nd rfl (Or.inl rfl))) (fun _ _ _ _ _ => pts_nil) (fun _ _ _ _ _ => (pe_ix (r := rIxT K) ix_tup (pv 3) pe_int (fun _ _ => rfl)))) (pa_cons (pe_lc (own := [("_law_own", 3)]) (g := (gName 3)) (tt := _) rfl sc_law_is_task.nd (pi_tup (pv 2)) (blkOk_by (own := [("_law_own", 3)]) (N := ["_law_matter", "_law_spots", "_law_ways", "_law_own", "_law_first", "_law_ends"]) (sc := defScope s_law_is_task) (by decide +kernel)) (fun _ _ _ _ _ => (pg_name (i := 3) sc_law_is_task.nd rfl (Or.inl rfl))) (fun _ _ _ _ _ => pts_one (pt_cmpR op_notN (pe_ix (r := rIxT K) ix_tup (pv 3) pe_int (fun _ _ => rfl)) pe_non (nomark _))) (fun _ _ _ _ _ => (pe_ix (r := rIxT K) ix_tup (pv 3) pe_int (fun _ _ => rfl)))) pa_nil)) (by rfl))
      (pss_one (ps_ret (pe_and (pe_cmpR (r := rEqD K) (op_eqD hr.units) (pv 4) (pe_callB (r := rSortTx P w) (cr_sortTx rfl) (by rfl) T.b_sorted (by decide +kernel) (pa_cons (pe_callTy (r := rSetTx P w) (cr_setTx rfl) (by rfl) b_set (by decide +kernel) (pa_cons (pv 4) pa_nil)) pa_nil)) (nomark _)) (pe_one (pe_cmpR op_eq (pe_lenTx rfl (by rfl) T.b_len (by rfl) b_set (pv 5)) (pe_callB (r := rLn K) call_len_seq (by rfl) T.b_len (by decide +kernel) (pa_cons (pv 5) pa_nil)) (nomark _)))))))))))), ?_⟩
    refine ⟨_, rfl, _, _, _, _, _, rfl, .ty "tuple", hd.ty, kit_tup d, _, rfl, ?_⟩
    cases hp : pairB d with
    | false =>
      have no : ∀ H', Same H H' → Q (.bl false) H' := fun H' s' => by
        have z := k H' s'
        rw [not_pair3 hp] at z
        exact z
      cases d with
      | tuple ds =>
        obtain ⟨p, xs, rfl, hp1, hs⟩ := hd
        refine iteF ⟨_, rfl, p, xs, rfl, .inr hp1.sq, rfl, _, rfl, ite2 (fun c => no H fun _ _ q => q) (fun c => ?_)⟩
        have q : (ds.length == 2) = false := hp
        have l2 : xs.length = 2 := by
          have z := Bool.eq_false_iff.mpr c
          have z2 : decide (V.int (xs.length : Nat) = V.int 2) = true := by simpa using z
          rw [L2.dec_int] at z2
          have z3 : ((xs.length : Nat) : Int) = 2 := by simpa using z2
          omega
        rw [← hs.len, l2] at q
        cases q
      | none => exact iteT (no H fun _ _ q => q)
      | bool b => exact iteT (no H fun _ _ q => q)
      | int i => exact iteT (no H fun _ _ q => q)
      | str x => exact iteT (no H fun _ _ q => q)
      | list ds => exact iteT (no H fun _ _ q => q)
      | dict kvs => exact hd.elim
    | true =>
      obtain ⟨a, b, rfl⟩ := pair_of hp
      have hz2 := (okq_tup hz).2
      have za : okq a := hz2 a List.mem_cons_self
      have zb : okq b := hz2 b (List.mem_cons_of_mem _ List.mem_cons_self)
      obtain ⟨p, xs, rfl, hp1, x, r1, rfl, hx, y, r2, rfl, hy, h0⟩ := hd
      cases (show r2 = [] from h0)
      refine iteF ⟨_, rfl, p, _, rfl, .inr hp1.sq, rfl, _, rfl, iteF ?_⟩
      have no : (nameSetB a && (!(psOf a).isEmpty && goalB (psOf a) b)) = false → ∀ H', Same H H' → Q (.bl false) H' := fun e H' s' => by
        have z := k H' s'
        rw [job_parts, e] at z
        exact z
      refine ⟨_, rfl, p, _, 0, _, rfl, rfl, hp1.sq, rfl, _, _, _, _, _, rfl, .ty "tuple", hx.ty, kit_tup a, _, rfl, ite2 (fun c => ?_) (fun c => ?_)⟩
      · refine no ?_ H fun _ _ q => q
        have q : isTupD a = false := by simpa using c
        cases a with
        | tuple ds => cases q
        | _ => rfl
      · have q : isTupD a = true := by simpa using c
        obtain ⟨ds, rfl⟩ : ∃ ds, a = .tuple ds := by
          cases a with
          | tuple ds => exact ⟨ds, rfl⟩
          | none => cases q
          | bool b => cases q
          | int i => cases q
          | str x => cases q
          | list ds => cases q
          | dict kvs => cases q
        refine ⟨_, rfl, p, _, 1, _, rfl, rfl, hp1.sq, rfl, _, _, _, _, _, rfl, .ty "tuple", hy.ty, kit_tup b, _, rfl, ite2 (fun c2 => ?_) (fun c2 => ?_)⟩
        · refine no ?_ H fun _ _ q => q
          have q : isTupD b = false := by simpa using c2
          have q2 : goalB (psOf (.tuple ds)) b = false := by
            cases b with
            | tuple ds => cases q
            | _ => rfl
          rw [q2, Bool.and_false, Bool.and_false]
        · have q : isTupD b = true := by simpa using c2
          obtain ⟨es, rfl⟩ : ∃ es, b = .tuple es := by
            cases b with
            | tuple ds => exact ⟨ds, rfl⟩
            | none => cases q
            | bool b => cases q
            | int i => cases q
            | str x => cases q
            | list ds => cases q
            | dict kvs => cases q
          obtain ⟨pa, ys, rfl, hpa, hys⟩ := id hx
          obtain ⟨pb, ws, rfl, hpb, hws⟩ := id hy
          have dl := (okq_tup za).1
          have el := (okq_tup zb).1
          refine ⟨_, rfl, p, _, rfl, hp1.sq, rfl, _, _, rfl, _, _, rfl, rfl, ?_⟩
          refine ⟨_, rfl, (by show 0 ≤ sizeLine; decide), fun e1 o1 ho1 ne1 => ?_⟩
          have s1 := same_new (o := .frz o1 (.tup [])) ne1
          have u1 : De (L2.upd H e1 (.frz o1 (.tup []))) (.tuple []) (.ref e1) := ⟨e1, [], rfl, ⟨o1, upd_same, ho1⟩, rfl⟩
          generalize L2.upd H e1 (.frz o1 (.tup [])) = H1 at s1 u1 ⊢
          refine ⟨.tuple ds, .tuple [], De.dp (De.keep s1 _ _ hx), De.dp u1, okq_shaped za, by decide, _, rfl, ite2 (fun c3 => ?_) (fun c3 => ?_)⟩
          · refine no ?_ H1 s1
            have q : ds.isEmpty = true := by
              rw [← eqv_nil]
              exact c3
            rw [List.isEmpty_iff] at q
            subst q
            rw [show (psOf (.tuple [])).isEmpty = true from rfl, Bool.not_true, Bool.false_and, Bool.and_false]
          · dsimp only [tOr, tTest, tOp]
            refine rd_sel (fun d => !nameB d) (fun R r => ⟨_, rfl, r⟩) (hpa.keep s1) (DeAll.keep s1 _ _ hys) (by omega) (fun i hi x H' R hdx sx hN hR => ?_) fun D H2 acc hD s2 hacc hde => ?_
            · refine ⟨rfl, _, rfl, ds[i], x, rfl, hdx, (okq_tup za).2 _ (List.getElem_mem hi), fun H4 s4 => ⟨_, rfl, ite2 (fun c => ?_) (fun c => ?_)⟩⟩
              · exact ⟨_, rfl, hR H4 c s4⟩
              · exact hN H4 (Bool.eq_false_iff.mpr c) s4
            · refine ⟨by show 0 ≤ sizeLine; decide, fun e2 ne2 => ?_⟩
              have s3 := same_new (o := .lst []) ne2
              have u2 : De (L2.upd H2 e2 (.lst [])) (.list []) (.ref e2) := ⟨e2, [], rfl, upd_same, rfl⟩
              have S3 := s1.trans (s2.trans s3)
              have w2 : De (L2.upd H2 e2 (.lst [])) (.list (ds.filter fun d => !nameB d)) (.ref D) := ⟨D, acc, rfl, s3 _ _ hacc, DeAll.keep (s2.trans s3) _ _ hde⟩
              generalize L2.upd H2 e2 (.lst []) = H3 at s3 u2 w2 S3 ⊢
              have okf : okm 100 (.list (ds.filter fun d => !nameB d)) 21 := ⟨by decide, Nat.le_trans (List.length_filter_le _ _) dl, okmAll_of fun d hd => (okq_tup za).2 d (List.mem_filter.mp hd).1⟩
              refine ⟨_, _, De.dp w2, De.dp u2, okm_shaped (by decide) okf, by decide, _, rfl, ite2 (fun c4 => ?_) (fun c4 => ?_)⟩
              · refine no ?_ H3 S3
                have q : ds.all nameB = false := by
                  have z : (!(ds.filter fun d => !nameB d).isEmpty) = true := by
                    rw [← eqv_nil]
                    exact c4
                  rw [fm_not] at z
                  simpa using z
                show ((ds.all nameB && _) && _) = false
                rw [q, Bool.false_and, Bool.false_and]
              · have q : ds.all nameB = true := by
                  have z : ¬ (!(ds.filter fun d => !nameB d).isEmpty) = true := by
                    rw [← eqv_nil]
                    exact c4
                  rw [fm_not] at z
                  simpa using z
                have eds := names_texts q
                have eys := names_V q hys
                subst eys
                have ssz : (textsD ds).length ≤ 100 := by
                  have z := hys.len
                  rw [List.length_map] at z
                  omega
                have laySS : ∀ x ∈ textsD ds, PyData.canLay0 (.str x) = true := fun x hx => by
                  have z : PyData.str x ∈ ds := by
                    rw [eds]
                    exact List.mem_map.mpr ⟨x, hx, rfl⟩
                  exact okm_lay ((okq_tup za).2 _ z)
                have hpa3 := hpa.keep S3
                refine ⟨_, rfl, pa, _, rfl, .inr hpa3.sq, fun l1 hl1 => ⟨_, rfl, pa, textsD ds, rfl, .inr (hpa3.keep (same_new hl1)), by omega, fun ps ms nd lm mem hps => ⟨ps, ms, rfl, upd_same, by omega, fun zs p2 pm srt hp2 => ?_⟩⟩⟩
                have t1 := same_new (o := .lst ((textsD ds).map V.str)) hl1
                have t2 := same_new (o := SxO P w ps ms) hps
                have t3 := same_new (o := .lst (zs.map V.str)) hp2
                have S4 := S3.trans (t1.trans (t2.trans t3))
                have v1 := strsL ((t2.trans t3) _ _ (upd_same (H := H3) (a := l1) (o := .lst ((textsD ds).map V.str))))
                have v2 := strsL (upd_same (H := L2.upd (L2.upd H3 l1 (.lst ((textsD ds).map V.str))) ps (SxO P w ps ms)) (a := p2) (o := .lst (zs.map V.str)))
                generalize L2.upd (L2.upd (L2.upd H3 l1 (.lst ((textsD ds).map V.str))) ps (SxO P w ps ms)) p2 (.lst (zs.map V.str)) = H4 at S4 v1 v2 ⊢
                have zmem : ∀ y, y ∈ zs ↔ y ∈ textsD ds := fun y => (pm.mem_iff).trans (mem y)
                have znd : zs.Nodup := pm.nodup_iff.mpr nd
                have layZ : ∀ x ∈ zs, PyData.canLay0 (.str x) = true := fun x hx => laySS x ((zmem x).mp hx)
                have e4 : PyData.eqv (.list ((textsD ds).map .str)) (.list (zs.map .str)) = ascB (textsD ds) := by
                  rw [show PyData.eqv (.list ((textsD ds).map .str)) (.list (zs.map .str)) = PyData.eqvAll ((textsD ds).map .str) (zs.map .str) from rfl, eqv_strs]
                  exact asc_is znd srt zmem
                refine ⟨_, _, De.dp v1, De.dp v2, list_shaped laySS, list_shaped layZ, _, rfl, ite2 (fun c5 => ?_) (fun c5 => ?_)⟩
                · refine no ?_ H4 S4
                  have q5 : ascB (textsD ds) = false := by
                    rw [e4] at c5
                    simpa using c5
                  show ((ds.all nameB && ascB (textsD ds)) && _) = false
                  rw [q5, Bool.and_false, Bool.false_and]
                · have q5 : ascB (textsD ds) = true := by
                    rw [e4] at c5
                    simpa using c5
                  have ne5 : (textsD ds).isEmpty = false := by
                    cases ds with
                    | nil =>
                      rw [eqv_nil'] at c3
                      exact (c3 rfl).elim
                    | cons d r =>
                      cases e : textsD (d :: r) with
                      | nil =>
                        rw [e] at eds
                        cases eds
                      | cons u v => rfl
                  have k3 : ∀ H', Same H H' → Q (.bl (goalB (textsD ds) (.tuple es))) H' := fun H' s' => by
                    have z := k H' s'
                    rw [job_parts, show nameSetB (.tuple ds) = (ds.all nameB && ascB (textsD ds)) from rfl, q, q5, show psOf (.tuple ds) = textsD ds from rfl, ne5] at z
                    exact z
                  have bad : ∀ H' (i : Nat) (hi : i < es.length), stepB (textsD ds) es[i] = false → Same H H' → Q (.bl false) H' := fun H' i hi e s' => by
                    have z := k3 H' s'
                    rw [show goalB (textsD ds) (.tuple es) = false from Bool.eq_false_iff.mpr fun g => by
                      rw [goal_step g _ (List.getElem_mem hi)] at e
                      cases e] at z
                    exact z
                  refine ⟨_, rfl, pb, rfl, ⟨ws, (hpb.keep S4).sq⟩, for_it (w := walk_tup (K := K) (a := pb) (xs := ws)) (fun i σ H' => ∃ ov, σ = [some (.ref p), some (.ref pa), some (.ref pb), ov, none, none] ∧ Same H H' ∧ ∀ j (hj : j < es.length), j < i → stepB (textsD ds) es[j] = true)
                    ⟨none, rfl, S4, fun j hj z => nomatch z⟩ (fun i σ H' _ h => ?_) ?_ ?_⟩
                  · obtain ⟨ov, _, s', _⟩ := h
                    exact (hpb.keep s').sq
                  · rintro i x σ _ H5 hi ⟨ov, rfl, s5, hj⟩ ⟨rfl, ex⟩
                    have hie : i < es.length := by
                      have z := hws.len
                      omega
                    obtain ⟨d, ed, hdx⟩ := hws.at ex
                    rw [List.getElem?_eq_getElem hie] at ed
                    cases ed
                    have hx5 := De.keep s5 _ _ hdx
                    have zi := (okq_tup zb).2 _ (List.getElem_mem hie)
                    refine ⟨_, rfl, _, _, _, _, _, rfl, .ty "tuple", hx5.ty, kit_tup _, _, rfl, ite2 (fun c6 => ?_) (fun c6 => ?_)⟩
                    · exact bad H5 i hie (not_tup (by simpa using c6)) s5
                    · obtain ⟨fs, efs⟩ := tup_of (d := es[i]) (by simpa using c6)
                      rw [efs] at hx5 zi
                      obtain ⟨pi, us, rfl, hpi, hus⟩ := id hx5
                      refine ⟨_, rfl, pi, us, rfl, .inr hpi.sq, rfl, _, rfl, ite2 (fun c7 => ?_) (fun c7 => ?_)⟩
                      · refine bad H5 i hie ?_ s5
                        rw [efs]
                        refine not_pair4 ?_
                        show (fs.length == 2) = false
                        rw [← hus.len]
                        have z : us.length ≠ 2 := fun e => by
                          rw [e] at c7
                          cases c7
                        simpa using z
                      · have l2 : us.length = 2 := by
                          have z2 : decide (V.int (us.length : Nat) = V.int 2) = true := by simpa using c7
                          rw [L2.dec_int] at z2
                          have z3 : ((us.length : Nat) : Int) = 2 := by simpa using z2
                          omega
                        obtain ⟨a1, b1, rfl⟩ : ∃ a1 b1, fs = [a1, b1] := by
                          have z := hus.len
                          match fs, z with
                          | [a1, b1], _ => exact ⟨a1, b1, rfl⟩
                          | [], z => rw [l2] at z; cases z
                          | [a1], z => rw [l2] at z; cases z
                          | a1 :: b1 :: c1 :: r, z => rw [l2] at z; simp at z
                        obtain ⟨x1, r3, rfl, hx1, y1, r4, rfl, hy1, h00⟩ := hus
                        cases (show r4 = [] from h00)
                        have step_ : stepB (textsD ds) es[i] = (nameB a1 && (inP (textsD ds) a1 && (isNoneD b1 || (nameB b1 && inP (textsD ds) b1)))) := by
                          rw [efs]
                          rfl
                        have za1 : okq a1 := (okq_tup zi).2 _ List.mem_cons_self
                        have zb1 : okq b1 := (okq_tup zi).2 _ (List.mem_cons_of_mem _ List.mem_cons_self)
                        refine ⟨_, rfl, pi, _, 0, _, rfl, rfl, hpi.sq, rfl, a1, x1, rfl, hx1, za1, fun H6 s6 => ⟨_, rfl, ite2 (fun c8 => ?_) (fun c8 => ?_)⟩⟩
                        · refine bad H6 i hie ?_ (s5.trans s6)
                          rw [step_, show nameB a1 = false by simpa using c8, Bool.false_and]
                        · have n1 : nameB a1 = true := by simpa using c8
                          obtain ⟨z1, rfl⟩ := name_str n1
                          cases (show x1 = .str z1 from hx1)
                          have hpi6 := hpi.keep s6
                          have S6 := s5.trans s6
                          refine ⟨_, rfl, pi, _, 0, _, rfl, rfl, hpi6.sq, rfl, _, rfl, pa, _, rfl, .inr (hpa.keep S6).sq, rfl, flat_strs _, _, rfl, ?_⟩
                          show if (!inV (V.str z1) ((textsD ds).map V.str)) = true then _ else _
                          rw [inV_strs]
                          refine ite2 (fun c9 => ?_) (fun c9 => ?_)
                          · refine bad H6 i hie ?_ S6
                            have q9 : inP (textsD ds) (.str z1) = false := by simpa [inP] using c9
                            rw [step_, q9, Bool.false_and, Bool.and_false]
                          · have q9 : inP (textsD ds) (.str z1) = true := by simpa [inP] using c9
                            rw [n1, q9, Bool.true_and, Bool.true_and] at step_
                            refine ⟨_, rfl, pi, _, 1, _, rfl, rfl, hpi6.sq, rfl, rfl, _, rfl, ?_⟩
                            have hy6 := De.keep s6 _ _ hy1
                            have next_ : stepB (textsD ds) es[i] = true → ∀ j (hj2 : j < es.length), j < i + 1 → stepB (textsD ds) es[j] = true := fun e j hj2 z => by
                              rcases Nat.lt_succ_iff_lt_or_eq.mp z with z | rfl
                              · exact hj j hj2 z
                              · exact e
                            show if (!decide (y1 = V.non)) = true then _ else _
                            rw [non_V hy6]
                            refine ite2 (fun cA => ?_) (fun cA => ?_)
                            · have qA : isNoneD b1 = false := by simpa using cA
                              rw [qA, Bool.false_or] at step_
                              refine ⟨_, rfl, pi, _, 1, _, rfl, rfl, hpi6.sq, rfl, b1, y1, rfl, hy6, zb1, fun H7 s7 => ⟨_, rfl, ite2 (fun cB => ?_) (fun cB => ?_)⟩⟩
                              · refine bad H7 i hie ?_ (S6.trans s7)
                                rw [step_, show nameB b1 = false by simpa using cB, Bool.false_and]
                              · have n2 : nameB b1 = true := by simpa using cB
                                obtain ⟨z2, rfl⟩ := name_str n2
                                cases (show y1 = .str z2 from hy1)
                                have S7 := S6.trans s7
                                refine ⟨_, rfl, pi, _, 1, _, rfl, rfl, (hpi6.keep s7).sq, rfl, _, rfl, pa, _, rfl, .inr (hpa.keep S7).sq, rfl, flat_strs _, _, rfl, ?_⟩
                                show if (!inV (V.str z2) ((textsD ds).map V.str)) = true then _ else _
                                rw [inV_strs]
                                refine ite2 (fun cC => ?_) (fun cC => ?_)
                                · refine bad H7 i hie ?_ S7
                                  have qC : inP (textsD ds) (.str z2) = false := by simpa [inP] using cC
                                  rw [step_, qC, Bool.and_false]
                                · have qC : inP (textsD ds) (.str z2) = true := by simpa [inP] using cC
                                  rw [n2, qC] at step_
                                  exact ⟨_, rfl, S7, next_ step_⟩
                            · have qA : isNoneD b1 = true := by simpa using cA
                              rw [qA, Bool.true_or] at step_
                              exact ⟨_, rfl, S6, next_ step_⟩
                  · rintro σ H5 ⟨ov, rfl, s5, hj⟩
                    have all_ : ∀ e ∈ es, stepB (textsD ds) e = true := fun e he => by
                      obtain ⟨j, hj2, rfl⟩ := List.mem_iff_getElem.mp he
                      exact hj j hj2 (by have z := hws.len; omega)
                    obtain ⟨gs, rfl, eg⟩ := step_goal all_
                    rw [eg] at k3
                    have lg : gs.length ≤ 100 := by
                      rw [List.length_map] at el
                      exact el
                    have lw : ws.length = gs.length := by
                      rw [hws.len, List.length_map]
                    have okg : ∀ x ∈ gs.map (·.1), PyData.canLay0 (.str x) = true := fun x hx => by
                      obtain ⟨g, hg, rfl⟩ := List.mem_map.mp hx
                      have z := (okq_tup zb).2 _ (List.mem_map.mpr ⟨g, hg, rfl⟩)
                      exact okm_lay ((okq_tup z).2 (.str g.1) List.mem_cons_self)
                    dsimp only [tSeq, tPar, tCons, tNil]
                    refine rd_lc gs (fun g => some (.str g.1)) (fun R r => ⟨_, rfl, r⟩) (hpb.keep s5) lw (by omega) (fun i hi x H1' R ex sx _ hR => ?_) fun D1 H6 acc hD1 s6 hacc hz1 hde => ?_
                    · obtain ⟨T1, rfl, pT⟩ := way_at hws hi ex
                      exact ⟨rfl, _, rfl, rd_it0 (pT.keep (s5.trans sx)) (hR _ _ _ rfl (fun _ _ e => e) fun _ _ => rfl)⟩
                    · have eacc : acc = (gs.map (·.1)).map V.str := by
                        have z := hde H6 fb_all
                        rw [fm_map] at z
                        exact strs_V z
                      subst eacc
                      refine rd_lc gs (fun g => g.2.map PyData.str) (fun R r => ⟨_, rfl, r⟩) (hpb.keep (s5.trans s6)) lw (by omega) (fun i hi x H1' R ex sx hN hR => ?_) fun D2 H7 acc2 hD2 s7 hacc2 hz3 hde2 => ?_
                      · obtain ⟨T1, rfl, pT⟩ := way_at hws hi ex
                        have pT' := pT.keep ((s5.trans s6).trans sx)
                        refine ⟨rfl, _, rfl, T1, _, _, _, rfl, rfl, pT'.sq, at_of (j := 1) rfl rfl, rfl, _, rfl, ?_⟩
                        refine ite2 (fun c => ?_) (fun c => ?_)
                        · refine ⟨_, rfl, T1, _, _, _, rfl, rfl, pT'.sq, at_of (j := 1) rfl rfl, ?_⟩
                          have c' : gs[i].2 ≠ none := fun e => by
                            rw [e] at c
                            cases c
                          obtain ⟨y, ey⟩ := Option.ne_none_iff_exists'.mp c'
                          rw [ey]
                          exact hR (.str y) (.str y) _ (by rw [ey]; rfl) (fun _ _ e => e) fun _ _ => rfl
                        · refine hN _ ?_ (fun _ _ e => e)
                          have c' : gs[i].2 = none := by
                            cases e : gs[i].2 with
                            | none => rfl
                            | some y =>
                              rw [e] at c
                              exact (c rfl).elim
                          rw [c']
                          rfl
                      · have eacc : acc2 = (gs.filterMap (·.2)).map V.str := by
                          have z := hde2 H7 fb_all
                          rw [fm_opt] at z
                          exact strs_V z
                        subst eacc
                        have S7 := (s5.trans s6).trans s7
                        have g1 := s7 _ _ hacc
                        have len1 : (gs.map (·.1)).length ≤ 100 := by
                          rw [List.length_map]
                          exact lg
                        have len2 : (gs.filterMap (·.2)).length ≤ 1000 := Nat.le_trans (List.length_filterMap_le _ _) (by omega)
                        refine ⟨_, _, rfl, _, rfl, _, rfl, D1, gs.map (·.1), rfl, .inl g1, by omega, fun ps ms nd lm mem hps => ⟨ps, ms, rfl, upd_same, by omega, fun zs p2 pm srt hp2 => ?_⟩⟩
                        have t2 := same_new (o := SxO P w ps ms) hps
                        have t3 := same_new (o := .lst (zs.map V.str)) hp2
                        have S8 := S7.trans (t2.trans t3)
                        have v1 := strsL ((t2.trans t3) _ _ g1)
                        have g2 := (t2.trans t3) _ _ hacc2
                        have v2 := strsL (upd_same (H := L2.upd H7 ps (SxO P w ps ms)) (a := p2) (o := .lst (zs.map V.str)))
                        generalize L2.upd (L2.upd H7 ps (SxO P w ps ms)) p2 (.lst (zs.map V.str)) = H8 at S8 v1 v2 g2 ⊢
                        have zmem : ∀ y, y ∈ zs ↔ y ∈ gs.map (·.1) := fun y => (pm.mem_iff).trans (mem y)
                        have znd : zs.Nodup := pm.nodup_iff.mpr nd
                        have layZ2 : ∀ x ∈ zs, PyData.canLay0 (.str x) = true := fun x hx => okg x ((zmem x).mp hx)
                        have e8 : PyData.eqv (.list ((gs.map (·.1)).map .str)) (.list (zs.map .str)) = ascB (gs.map (·.1)) := by
                          rw [show PyData.eqv (.list ((gs.map (·.1)).map .str)) (.list (zs.map .str)) = PyData.eqvAll ((gs.map (·.1)).map .str) (zs.map .str) from rfl, eqv_strs]
                          exact asc_is znd srt zmem
                        refine ⟨_, _, De.dp v1, De.dp v2, list_shaped okg, list_shaped layZ2, _, rfl, ?_⟩
                        rw [e8]
                        refine ite2 (fun cD => ?_) (fun cD => ?_)
                        · refine ⟨_, rfl, D2, _, rfl, g2, len2, _, rfl, D2, _, rfl, .inl (SqL.of g2), rfl, ?_⟩
                          have z := k3 H8 S8
                          rw [cD, Bool.true_and] at z
                          have e9 : decide (V.int (dcnt (came (gs.filterMap (·.2)) (gs.filterMap (·.2)).length) : Nat) = V.int (((gs.filterMap (·.2)).map V.str).length : Nat)) = decide (dcnt (gs.filterMap (·.2)).reverse = (gs.filterMap (·.2)).length) := by
                            rw [came_all, List.length_map, L2.dec_int, Bool.eq_iff_iff]
                            simp only [beq_iff_eq, decide_eq_true_eq]
                            omega
                          show Q (.bl (decide (V.int (dcnt (came (gs.filterMap (·.2)) (gs.filterMap (·.2)).length) : Nat) = V.int (((gs.filterMap (·.2)).map V.str).length : Nat)))) H8
                          rw [e9]
                          exact z
                        · have z := k3 H8 S8
                          rw [show ascB (gs.map (·.1)) = false by simpa using cD, Bool.false_and] at z
                          exact z

end
end Nal

namespace Nal
open PySem L2 RZ PyProof.Rows
abbrev s_law_of : Stmt := topS 17
abbrev N_law_of : List Str := ["_law_tin", "_law_some"]
abbrev P_law_of : List Str := ["_law_tin", "_law_some"]
theorem sc_law_of : FnScope ["_law_tin", "_law_some"] ["_law_tin", "_law_some"] (defScope s_law_of) := ⟨rfl, rfl, rfl, by decide +kernel, rfl, by decide +kernel, by decide +kernel⟩
abbrev s_law_spoilt : Stmt := topS 23
abbrev N_law_spoilt : List Str := ["_law_tin", "_law_matter", "_law_levels", "_law_odd", "_law_way_so", "_law_k", "_law_rest"]
abbrev P_law_spoilt : List Str := ["_law_tin", "_law_matter", "_law_levels"]
theorem sc_law_spoilt : FnScope ["_law_tin", "_law_matter", "_law_levels", "_law_odd", "_law_way_so", "_law_k", "_law_rest"] ["_law_tin", "_law_matter", "_law_levels"] (defScope s_law_spoilt) := ⟨rfl, rfl, rfl, by decide +kernel, rfl, by decide +kernel, by decide +kernel⟩
/-- data made of what is new since H0 -/
def DeF (H0 H : Hp) (d : PyData) (v : V) : Prop := ∀ H'', Fresh H0 H H'' → De H'' d v
def DeFs (H0 H : Hp) (ds : List PyData) (xs : List V) : Prop := ∀ H'', Fresh H0 H H'' → DeAll H'' ds xs
theorem DeF.here {H0 H : Hp} {d : PyData} {v : V} (h : DeF H0 H d v) : De H d v := h H fun _ _ _ e => e
theorem DeFs.here {H0 H : Hp} {ds : List PyData} {xs : List V} (h : DeFs H0 H ds xs) : DeAll H ds xs := h H fun _ _ _ e => e
theorem DeF.same {H0 H H' : Hp} {d : PyData} {v : V} (s : Same H H') (h : DeF H0 H d v) : DeF H0 H' d v := fun H'' fr => h H'' fun b o e0 e => fr b o e0 (s b o e)
theorem DeFs.same {H0 H H' : Hp} {ds : List PyData} {xs : List V} (s : Same H H') (h : DeFs H0 H ds xs) : DeFs H0 H' ds xs := fun H'' fr => h H'' fun b o e0 e => fr b o e0 (s b o e)
theorem DeF.but {t : Addr} {H0 H H' : Hp} {d : PyData} {v : V} (ht : H0 t ≠ none) (s : SameBut t H H') (h : DeF H0 H d v) : DeF H0 H' d v := fun H'' fr => h H'' fun b o e0 e => fr b o e0 (s b o (fun z => ht (z ▸ e0)) e)
theorem DeFs.but {t : Addr} {H0 H H' : Hp} {ds : List PyData} {xs : List V} (ht : H0 t ≠ none) (s : SameBut t H H') (h : DeFs H0 H ds xs) : DeFs H0 H' ds xs := fun H'' fr => h H'' fun b o e0 e => fr b o e0 (s b o (fun z => ht (z ▸ e0)) e)
theorem DeF.tup {H0 H : Hp} {p : Addr} {ds : List PyData} {xs : List V} (h : PT H p xs) (n : H0 p = none) (hs : DeFs H0 H ds xs) : DeF H0 H (.tuple ds) (.ref p) := fun H'' fr => by
  obtain ⟨o, e, d⟩ := h
  exact ⟨p, xs, rfl, ⟨o, fr p _ n e, d⟩, hs H'' fr⟩
theorem DeF.lst {H0 H : Hp} {p : Addr} {ds : List PyData} {xs : List V} (h : H p = some (.lst xs)) (n : H0 p = none) (hs : DeFs H0 H ds xs) : DeF H0 H (.list ds) (.ref p) := fun H'' fr => ⟨p, xs, rfl, fr p _ n h, hs H'' fr⟩
theorem DeF.over {H0 Hb H9 : Hp} {p : Addr} {o o' : HO} {d : PyData} {v : V} (g : Hb p = some o') (k : ∀ b, Hb b = none → H0 b = none) (h : DeF Hb H9 d v) : DeF H0 (L2.upd H9 p o) d v := fun H'' fr => h H'' fun b u e6 e9 => fr b u (k b e6) (by
  rw [upd_ne fun z => by rw [z, g] at e6; cases e6]
  exact e9)
theorem DeAll.uniq {H : Hp} {ds : List PyData} {xs : List V} {i : Nat} {x : V} {d : PyData} (h : DeAll H ds xs) (ex : xs[i]? = some x) (ed : ds[i]? = some d) : De H d x := by
  obtain ⟨d', e, q⟩ := h.at ex
  rw [ed] at e
  cases e
  exact q
theorem DeFs.at {H0 H : Hp} {ds : List PyData} {xs : List V} {i : Nat} {x : V} (h : DeFs H0 H ds xs) (ex : xs[i]? = some x) : ∃ d, ds[i]? = some d ∧ DeF H0 H d x := by
  obtain ⟨d, e, _⟩ := h.here.at ex
  exact ⟨d, e, fun H'' fr => (h H'' fr).uniq ex e⟩
theorem DeAll.app {H : Hp} : ∀ {ds es : List PyData} {xs ys : List V}, DeAll H ds xs → DeAll H es ys → DeAll H (ds ++ es) (xs ++ ys)
  | [], _, _, _, h, g => by
    cases (show _ = [] from h)
    exact g
  | d :: ds, _, _, _, h, g => by
    obtain ⟨v, vs, rfl, h1, h2⟩ := h
    exact ⟨v, vs ++ _, rfl, h1, DeAll.app h2 g⟩
theorem DeAll.drop {H : Hp} : ∀ {ds : List PyData} {xs : List V} (k : Nat), DeAll H ds xs → DeAll H (ds.drop k) (xs.drop k)
  | [], _, k, h => by
    cases (show _ = [] from h)
    rw [List.drop_nil, List.drop_nil]
    rfl
  | d :: ds, _, 0, h => h
  | d :: ds, _, k + 1, h => by
    obtain ⟨v, vs, rfl, h1, h2⟩ := h
    exact DeAll.drop (ds := ds) k h2
theorem DeAll.take {H : Hp} : ∀ {ds : List PyData} {xs : List V} (k : Nat), DeAll H ds xs → DeAll H (ds.take k) (xs.take k)
  | [], _, k, h => by
    cases (show _ = [] from h)
    rw [List.take_nil, List.take_nil]
    rfl
  | d :: ds, _, 0, h => by
    rw [List.take_zero, List.take_zero]
    rfl
  | d :: ds, _, k + 1, h => by
    obtain ⟨v, vs, rfl, h1, h2⟩ := h
    exact ⟨v, vs.take k, rfl, h1, DeAll.take (ds := ds) k h2⟩
theorem DeAll.back {H : Hp} : ∀ {ds : List PyData} {xs : List V}, DeAll H ds xs → DeAll H ds.reverse xs.reverse
  | [], _, h => by
    cases (show _ = [] from h)
    rfl
  | d :: ds, _, h => by
    obtain ⟨v, vs, rfl, h1, h2⟩ := h
    rw [List.reverse_cons, List.reverse_cons]
    exact DeAll.snoc (DeAll.back h2) h1
theorem DeAll.put {H : Hp} : ∀ {ds : List PyData} {xs : List V} {d : PyData} {v : V} (k : Nat), DeAll H ds xs → De H d v → DeAll H (ds.set k d) (xs.set k v)
  | [], _, d, v, k, h, g => by
    cases (show _ = [] from h)
    rfl
  | c :: ds, _, d, v, 0, h, g => by
    obtain ⟨u, vs, rfl, h1, h2⟩ := h
    exact ⟨v, vs, rfl, g, h2⟩
  | c :: ds, _, d, v, k + 1, h, g => by
    obtain ⟨u, vs, rfl, h1, h2⟩ := h
    exact ⟨u, vs.set k v, rfl, h1, DeAll.put (ds := ds) k h2 g⟩
/-- the odd things that stand in for others -/
def oddD : List PyData := [.str "pa", .str "zz", .str "", .str "A", .str "abcdefghi", .none, .int 0, .bool true, .tuple [], .tuple [.str "pa", .str "pb"], .list [.str "pa", .str "pb"], .tuple [.str "pa", .none], .list [], .tuple [.tuple [.str "pa"], .tuple []]]
theorem odd_ok : okmAll 2 oddD 2 := by
  have s1 : okm 2 (.str "pa") 1 := ⟨by decide +kernel, by decide +kernel⟩
  have s2 : okm 2 (.str "pb") 1 := ⟨by decide +kernel, by decide +kernel⟩
  exact ⟨⟨by decide +kernel, by decide +kernel⟩, ⟨by decide +kernel, by decide +kernel⟩, ⟨by decide +kernel, by decide +kernel⟩, ⟨by decide +kernel, by decide +kernel⟩, ⟨by decide +kernel, by decide +kernel⟩, trivial, trivial, trivial,
    ⟨by decide, by decide, trivial⟩, ⟨by decide, by decide, s1, s2, trivial⟩, ⟨by decide, by decide, s1, s2, trivial⟩, ⟨by decide, by decide, s1, trivial, trivial⟩, ⟨by decide, by decide, trivial⟩, ⟨by decide, by decide, ⟨by decide, by decide, s1, trivial⟩, ⟨by decide, by decide, trivial⟩, trivial⟩, trivial⟩
section
variable {P : Program} {w : World} {K : PySem.W.Frag} {mg : Str → Option Value} {base : Heap}
/-- a drawn one of some things -/
def spOf : Sp := fun vs H Q _ => ∃ (t l : Addr) (xs : List V) (m : Nat), vs = [.ref t, .ref l] ∧ Tin H t m ∧ m ≤ 900000 ∧ l ≠ t ∧ H l = some (.lst xs) ∧ 0 < xs.length ∧ xs.length ≤ 1000 ∧ ∀ (i : Nat) (v : V) H', xs[i]? = some v → SameBut t H H' → Tin H' t (m + 1) → Q v H'
theorem ok_of {f f1 : Addr} {fd fd1 : FuncData} (F : Fun K "_law_of" "_law_of" s_law_of f fd) (T : Txt K mg) (G_law_take : FnOk P w K mg base CX0 1 f1 fd1 ["_law_tin", "_law_top_so"] spTake) (m_law_take : mg "_law_take" = some (.ref f1)) (k_law_take : PySem.W.keepIn K (.ref f1) = true)
    (b_law_take : Binds K fd1 ["_law_tin", "_law_top_so"] []) : FnOk P w K mg base CX0 2 f fd ["_law_tin", "_law_some"] spOf := by
  refine F.ok sc_law_of (fun vs H Q E h => ?_) (fun cdv A outer s H vs Q E hr h => ?_)
  · obtain ⟨t, l, xs, m, rfl, _⟩ := h
    rfl
  · obtain ⟨t, l, xs, m, rfl, hT, hm, nl, hl, p1, p2, k⟩ := h
    refine ⟨_, (pss_one (ps_ret (pe_ix (r := rIxL K) ix_list (pv 1) (pe_call G_law_take (hr.mono (by decide)) rfl m_law_take k_law_take b_law_take .nil pass0 (pa_cons (pv 0) (pa_cons (pe_callB (r := rLn K) call_len_seq (by rfl) T.b_len (by decide +kernel) (pa_cons (pv 1) pa_nil)) pa_nil))) (fun _ _ => rfl)))), ?_⟩
    refine ⟨_, rfl, _, rfl, _, rfl, l, _, rfl, .inl (SqL.of hl), t, _, m, rfl, hT, by omega, by omega, by omega, fun d H1 d0 d1 sb t1 => ?_⟩
    have hj : d.toNat < xs.length := by omega
    exact ⟨l, _, d, _, rfl, rfl, SqL.of (sb _ _ nl hl), L2.at_of (j := d.toNat) (by omega) (List.getElem?_eq_getElem hj), k d.toNat _ _ (List.getElem?_eq_getElem hj) sb t1⟩
end
end Nal

namespace Nal
open PySem L2 RZ PyProof.Rows
theorem Same.over {H H' : Hp} {a : Addr} {o : HO} (s : Same H H') (n : H a = none) : Same H (L2.upd H' a o) := fun b u e => by
  rw [upd_ne (ne_of_none e n)]
  exact s b u e
theorem cut_h (xs : List V) {k : Int} (h : 0 ≤ k) : cutV xs none (some k) = xs.take k.toNat := by
  obtain ⟨j, rfl⟩ := Int.eq_ofNat_of_zero_le h
  unfold cutV
  rw [show HT.sIx xs.length 0 none = 0 from rfl, show HT.sIx xs.length xs.length (some (j : Int)) = min j xs.length from HT.sIx_nat _ _ j, List.drop_zero, Nat.sub_zero, Int.toNat_natCast]
  rw [List.take_eq_take_iff]
  omega
theorem cut_t (xs : List V) {k : Int} (h : 0 ≤ k) : cutV xs (some k) none = xs.drop k.toNat := by
  obtain ⟨j, rfl⟩ := Int.eq_ofNat_of_zero_le h
  unfold cutV
  rw [show HT.sIx xs.length 0 (some (j : Int)) = min j xs.length from HT.sIx_nat _ _ j, show HT.sIx xs.length xs.length none = xs.length from rfl, Int.toNat_natCast]
  rw [List.take_of_length_le (by rw [List.length_drop]; omega)]
  by_cases c : j ≤ xs.length
  · rw [Nat.min_eq_left c]
  · rw [Nat.min_eq_right (by omega), List.drop_length, List.drop_eq_nil_of_le (by omega)]
theorem okmAll_app {m n : Nat} {ds es : List PyData} (h : okmAll m ds n) (g : okmAll m es n) : okmAll m (ds ++ es) n := okmAll_of fun d hd => (List.mem_append.mp hd).elim (fun z => okmAll_mem h z) fun z => okmAll_mem g z
theorem okmAll_sub {m n : Nat} {ds es : List PyData} (h : okmAll m ds n) (s : ∀ d ∈ es, d ∈ ds) : okmAll m es n := okmAll_of fun d hd => okmAll_mem h (s d hd)
theorem SameBut.free {t : Addr} {H H' : Hp} {q : Nat} (s : SameBut t H H') (h : Tin H' t q) {b : Addr} (e : H' b = none) : H b = none := by
  cases c : H b with
  | none => rfl
  | some o =>
    obtain ⟨xs, ex⟩ := h.ref
    have nb : b ≠ t := fun z => by rw [z, ex] at e; cases e
    rw [s b o nb c] at e
    cases e
/-- data that is a list or a tuple, and where it stands -/
theorem DeF.seq {K : PySem.W.Frag} {H0 H : Hp} {d : PyData} {v : V} (h : DeF H0 H d v) (hs : isSeq d = true) :
    ∃ (a : Addr) (xs : List V) (ds : List PyData) (oa : HO), v = .ref a ∧ (d = .list ds ∨ d = .tuple ds) ∧ H0 a = none ∧ H a = some oa ∧ (∀ Hc : Hp, Hc a = some oa → SqL K Hc a xs ∨ SqT K Hc a xs) ∧ DeFs H0 H ds xs := by
  have up : ∀ (a : Addr) (o : HO), H0 a ≠ none → Fresh H0 H (L2.upd H a o) := fun a o n b u e0 e => by
    rw [upd_ne fun z => n (by rw [← z]; exact e0)]
    exact e
  cases d with
  | list ds =>
    obtain ⟨a, xs, rfl, ha, _⟩ := h.here
    have na : H0 a = none := Classical.byContradiction fun n => by
      obtain ⟨a', xs', e, ha', _⟩ := h _ (up a (.tup []) n)
      cases e
      rw [upd_same] at ha'
      cases ha'
    refine ⟨a, xs, ds, _, rfl, .inl rfl, na, ha, fun Hc e => .inl (SqL.of e), fun H'' fr => ?_⟩
    obtain ⟨a', xs', e, ha', hs'⟩ := h H'' fr
    cases e
    rw [fr a _ na ha] at ha'
    cases ha'
    exact hs'
  | tuple ds =>
    obtain ⟨a, xs, rfl, ⟨o, ha, ho⟩, _⟩ := h.here
    have na : H0 a = none := Classical.byContradiction fun n => by
      obtain ⟨a', xs', e, ⟨o', ha', _⟩, _⟩ := h _ (up a (.lst []) n)
      cases e
      rw [upd_same] at ha'
      cases ha'
    refine ⟨a, xs, ds, _, rfl, .inr rfl, na, ha, fun Hc e => .inr (PT.sq ⟨o, e, ho⟩), fun H'' fr => ?_⟩
    obtain ⟨a', xs', e, ⟨o', ha', _⟩, hs'⟩ := h H'' fr
    cases e
    rw [fr a _ na ha] at ha'
    cases ha'
    exact hs'
  | none => cases hs
  | bool b => cases hs
  | int i => cases hs
  | str x => cases hs
  | dict kvs => cases hs
/-- a place more counts as old -/
theorem DeFs.old {H0 H H' : Hp} {r : Addr} {o : HO} {ds : List PyData} {xs : List V} (hr : H r = none) (s : Same H H') (h : DeFs H0 H ds xs) : DeFs (L2.upd H0 r o) H' ds xs := fun H'' fr => h H'' fun b u e0 e => fr b u (by
  rw [upd_ne fun z => by rw [z, hr] at e; cases e]
  exact e0) (s b u e)
theorem DeF.young {H0 H : Hp} {r : Addr} {o : HO} {d : PyData} {v : V} (h : DeF (L2.upd H0 r o) H d v) : DeF H0 H d v := fun H'' fr => h H'' fun b u e0 e => fr b u (by
  rw [upd_ne fun z => by rw [z, upd_same] at e0; cases e0] at e0
  exact e0) e
section
variable {P : Program} {w : World} {K : PySem.W.Frag} {mg : Str → Option Value} {base : Heap}
/-- data with one thing changed -/
def spSpoilt : Nat → Sp
  | 0 => fun _ _ _ _ => False
  | l + 1 => fun vs H Q _ => ∃ (t : Addr) (v : V) (d : PyData) (H0 : Hp) (m n q : Nat), vs = [.ref t, v, .int (l : Int)] ∧ Tin H t q ∧ q + 3 * (l + 1) ≤ 900000 ∧ H0 t ≠ none ∧ (∀ b, H b = none → H0 b = none) ∧ DeF H0 H d v ∧ okm m d n ∧ 2 ≤ m ∧ m ≤ 500 ∧
    ∀ (d' : PyData) (v' : V) (H' : Hp), okm (m + 1) d' (n + 3) → SameBut t H H' → Tin H' t (q + 3 * (l + 1)) → DeF H0 H' d' v' → Q v' H'
theorem ok_spoilt {f f1 f2 : Addr} {fd fd1 fd2 : FuncData} (F : Fun K "_law_spoilt" "_law_spoilt" s_law_spoilt f fd) (T : Txt K mg) (G_law_take : FnOk P w K mg base CX0 1 f1 fd1 ["_law_tin", "_law_top_so"] spTake) (m_law_take : mg "_law_take" = some (.ref f1)) (k_law_take : PySem.W.keepIn K (.ref f1) = true) (b_law_take : Binds K fd1 ["_law_tin", "_law_top_so"] [])
    (G_law_of : FnOk P w K mg base CX0 2 f2 fd2 ["_law_tin", "_law_some"] spOf) (m_law_of : mg "_law_of" = some (.ref f2)) (k_law_of : PySem.W.keepIn K (.ref f2) = true) (b_law_of : Binds K fd2 ["_law_tin", "_law_some"] [])
    (m_law_spoilt : mg "_law_spoilt" = some (.ref f)) (k_law_spoilt : PySem.W.keepIn K (.ref f) = true) (b_law_spoilt : Binds K fd ["_law_tin", "_law_matter", "_law_levels"] []) : ∀ l, FnOk P w K mg base CX0 (l + 3) f fd ["_law_tin", "_law_matter", "_law_levels"] (spSpoilt l)
  | 0 => ok_never
  | l + 1 => by
    have G_law_spoilt := ok_spoilt F T G_law_take m_law_take k_law_take b_law_take G_law_of m_law_of k_law_of b_law_of m_law_spoilt k_law_spoilt b_law_spoilt l
    refine F.ok sc_law_spoilt (fun vs H Q E h => ?_) (fun cdv A outer s H vs Q E hr h => ?_)
    · obtain ⟨t, v, d, H0, m, n, q, rfl, _⟩ := h
      rfl
    · obtain ⟨t, v, d, H0, m, n, q, rfl, hT, hq, ht, nn, hd, hk, m1, m2, k⟩ := h
      refine ⟨_, (pss_cons (ps_set (i := 3) sc_law_spoilt.nd rfl (Or.inl rfl) (pe_lst (pa_cons pe_str (pa_cons pe_str (pa_cons pe_str (pa_cons pe_str (pa_cons pe_str (pa_cons pe_non (pa_cons pe_int (pa_cons pe_bl (pa_cons (pe_tupF pa_nil) (pa_cons (pe_tupF (pa_cons pe_str (pa_cons pe_str pa_nil))) (pa_cons (pe_lst (pa_cons pe_str (pa_cons pe_str pa_nil))) (pa_cons (pe_tupF (pa_cons pe_str (pa_cons pe_non pa_nil))) (pa_cons (pe_lst pa_nil) pa_nil)))))))))))))))
      (pss_cons (ps_expr (pe_bm PySem.F.plainAttrs_list PySem.F.slot_list_append PySem.F.type_list_append mt_append (pv 3) (pa_cons (pe_tupF (pa_cons (pe_tupF (pa_cons pe_str pa_nil)) (pa_cons (pe_tupF pa_nil) pa_nil))) pa_nil)))
      (pss_cons (ps_if (PW.pt (pw_or (pt_cmpR op_eq (pv 2) pe_int (nomark _)) (pw_or (pt_not (pt_val (pe_callB (r := rIsiT K) call_isiT (by rfl) T.b_isinstance (by decide +kernel) (pa_cons (pv 1) (pa_cons (pe_tup (pa_cons (pe_bltn (v := .ty "list") (u := .type "list") (by rfl) T.b_list (by decide +kernel) (by rfl)) (pa_cons (pe_bltn (v := .ty "tuple") (u := .type "tuple") (by rfl) T.b_tuple (by decide +kernel) (by rfl)) pa_nil))) pa_nil))))) (pw_or1 (pt_cmpR op_eq (pe_callB (r := rLn K) call_len_seq (by rfl) T.b_len (by decide +kernel) (pa_cons (pv 1) pa_nil)) pe_int (nomark _)))))) (pss_one (ps_ret (pe_call G_law_of (hr.mono (by omega)) rfl m_law_of k_law_of b_law_of .nil pass0 (pa_cons (pv 0) (pa_cons (pv 3) pa_nil))))) pss_nil)
      (pss_cons (ps_par (i := 4) (j := 5) (by rfl) sc_law_spoilt.nd rfl rfl (by decide) rfl rfl (pa_cons (pe_call G_law_take (hr.mono (by omega)) rfl m_law_take k_law_take b_law_take .nil pass0 (pa_cons (pv 0) (pa_cons pe_int pa_nil))) (pa_cons (pe_call G_law_take (hr.mono (by omega)) rfl m_law_take k_law_take b_law_take .nil pass0 (pa_cons (pv 0) (pa_cons (pe_callB (r := rLn K) call_len_seq (by rfl) T.b_len (by decide +kernel) (pa_cons (pv 1) pa_nil)) pa_nil))) pa_nil)) (by rfl))
      (pss_cons (ps_set (i := 6) sc_law_spoilt.nd rfl (Or.inl rfl) (pe_callTy (r := rListOf K) call_list_of (by rfl) T.b_list (by decide +kernel) (pa_cons (pv 1) pa_nil)))
      (pss_cons (ps_if (pt_cmpR op_eq (pv 4) pe_int (nomark _)) (pss_one (ps_ret (pe_callTy (r := rListOf K) call_list_of (by rfl) T.b_list (by decide +kernel) (pa_cons (pv 1) pa_nil)))) pss_nil)
      (pss_cons (ps_if (pt_cmpR op_eq (pv 4) pe_int (nomark _)) (pss_one (ps_ret (pe_callTy (r := rTupF K) call_tupF (by rfl) T.b_tuple (by decide +kernel) (pa_cons (pe_op op_cat (pe_slice sl_list (pv 6) po_none (po_some (pv 5))) (pe_slice sl_list (pv 6) (po_some (pe_op op_add (pv 5) pe_int)) po_none)) pa_nil)))) pss_nil)
      (pss_cons (ps_if (pt_cmpR op_eq (pv 4) pe_int (nomark _)) (pss_one (ps_ret (pe_callTy (r := rTupF K) call_tupF (by rfl) T.b_tuple (by decide +kernel) (pa_cons (pe_op op_cat (pe_slice sl_list (pv 6) po_none (po_some (pe_op op_add (pv 5) pe_int))) (pe_slice sl_list (pv 6) (po_some (pv 5)) po_none)) pa_nil)))) pss_nil)
      (pss_cons (ps_if (pt_cmpR op_eq (pv 4) pe_int (nomark _)) (pss_one (ps_ret (pe_callTy (r := rTupF K) call_tupF (by rfl) T.b_tuple (by decide +kernel) (pa_cons (pe_op op_cat (pe_op op_cat (pe_slice sl_list (pv 6) po_none (po_some (pv 5))) (pe_lst (pa_cons (pe_call G_law_of (hr.mono (by omega)) rfl m_law_of k_law_of b_law_of .nil pass0 (pa_cons (pv 0) (pa_cons (pv 3) pa_nil))) pa_nil))) (pe_slice sl_list (pv 6) (po_some (pv 5)) po_none)) pa_nil)))) pss_nil)
      (pss_cons (ps_if (pt_cmpR op_eq (pv 4) pe_int (nomark _)) (pss_one (ps_ret (pe_callTy (r := rTupF K) call_tupF (by rfl) T.b_tuple (by decide +kernel) (pa_cons (pe_revL (pv 6)) pa_nil)))) pss_nil)
      (pss_cons (ps_asg (pe_call G_law_spoilt hr rfl m_law_spoilt k_law_spoilt b_law_spoilt .nil pass0 (pa_cons (pv 0) (pa_cons (pe_ix (r := rIxL K) ix_list (pv 6) (pv 5) (fun _ _ => rfl)) (pa_cons (pe_op op_sub (pv 2) pe_int) pa_nil)))) (pg_sub (pv 6) (pv 5) set_list))
      (pss_one (ps_ret (pe_callTy (r := rTupF K) call_tupF (by rfl) T.b_tuple (by decide +kernel) (pa_cons (pv 6) pa_nil))))))))))))))), ?_⟩
      refine ⟨by show 0 ≤ sizeLine; decide, fun p1 o1 ho1 n1 => ?_⟩
      have s1 := same_new (o := .frz o1 (.tup [])) n1
      have f1 : DeF H0 (L2.upd H p1 (.frz o1 (.tup []))) (.tuple []) (.ref p1) := DeF.tup ⟨o1, upd_same, ho1⟩ (nn _ n1) (fun H'' fr => rfl)
      generalize L2.upd H p1 (.frz o1 (.tup [])) = H1 at s1 f1 ⊢
      refine ⟨by show 2 ≤ sizeLine; decide, fun p2 o2 ho2 n2 => ?_⟩
      have s2 := same_new (o := .frz o2 (.tup [.str "pa", .str "pb"])) n2
      have f2 : DeF H0 (L2.upd H1 p2 (.frz o2 (.tup [.str "pa", .str "pb"]))) (.tuple [.str "pa", .str "pb"]) (.ref p2) := DeF.tup ⟨o2, upd_same, ho2⟩ (nn _ (s1.free n2)) (fun H'' fr => ⟨_, _, rfl, rfl, _, _, rfl, rfl, rfl⟩)
      generalize L2.upd H1 p2 (.frz o2 (.tup [.str "pa", .str "pb"])) = H2 at s2 f2 ⊢
      refine ⟨by show 2 ≤ sizeLine; decide, fun p3 n3 => ?_⟩
      have s3 := same_new (o := .lst [.str "pa", .str "pb"]) n3
      have f3 : DeF H0 (L2.upd H2 p3 (.lst [.str "pa", .str "pb"])) (.list [.str "pa", .str "pb"]) (.ref p3) := DeF.lst upd_same (nn _ ((s1.trans s2).free n3)) (fun H'' fr => ⟨_, _, rfl, rfl, _, _, rfl, rfl, rfl⟩)
      have g3 : L2.upd H2 p3 (.lst [.str "pa", .str "pb"]) p3 = some (.lst [.str "pa", .str "pb"]) := upd_same
      generalize L2.upd H2 p3 (.lst [.str "pa", .str "pb"]) = H3 at s3 f3 g3 ⊢
      refine ⟨by show 2 ≤ sizeLine; decide, fun p4 o4 ho4 n4 => ?_⟩
      have s4 := same_new (o := .frz o4 (.tup [.str "pa", .non])) n4
      have f4 : DeF H0 (L2.upd H3 p4 (.frz o4 (.tup [.str "pa", .non]))) (.tuple [.str "pa", .none]) (.ref p4) := DeF.tup ⟨o4, upd_same, ho4⟩ (nn _ ((s1.trans (s2.trans s3)).free n4)) (fun H'' fr => ⟨_, _, rfl, rfl, _, _, rfl, rfl, rfl⟩)
      generalize L2.upd H3 p4 (.frz o4 (.tup [.str "pa", .non])) = H4 at s4 f4 ⊢
      refine ⟨by show 0 ≤ sizeLine; decide, fun p5 n5 => ?_⟩
      have s5 := same_new (o := .lst []) n5
      have f5 : DeF H0 (L2.upd H4 p5 (.lst [])) (.list []) (.ref p5) := DeF.lst upd_same (nn _ ((s1.trans (s2.trans (s3.trans s4))).free n5)) (fun H'' fr => rfl)
      have g5 : L2.upd H4 p5 (.lst []) p5 = some (.lst []) := upd_same
      generalize L2.upd H4 p5 (.lst []) = H5 at s5 f5 g5 ⊢
      refine ⟨by show 13 ≤ sizeLine; decide, fun p6 n6 => ?_⟩
      have s6 := same_new (o := .lst [.str "pa", .str "zz", .str "", .str "A", .str "abcdefghi", .non, .int 0, .bl true, .ref p1, .ref p2, .ref p3, .ref p4, .ref p5]) n6
      have g6 : L2.upd H5 p6 (.lst [.str "pa", .str "zz", .str "", .str "A", .str "abcdefghi", .non, .int 0, .bl true, .ref p1, .ref p2, .ref p3, .ref p4, .ref p5]) p6 = some (.lst [.str "pa", .str "zz", .str "", .str "A", .str "abcdefghi", .non, .int 0, .bl true, .ref p1, .ref p2, .ref p3, .ref p4, .ref p5]) := upd_same
      generalize L2.upd H5 p6 (.lst [.str "pa", .str "zz", .str "", .str "A", .str "abcdefghi", .non, .int 0, .bl true, .ref p1, .ref p2, .ref p3, .ref p4, .ref p5]) = H6 at s6 g6 ⊢
      refine ⟨_, rfl, .inl ⟨rfl, _, SqL.of g6⟩, ?_⟩
      refine ⟨by show 1 ≤ sizeLine; decide, fun p7 o7 ho7 n7 => ?_⟩
      have s7 := same_new (o := .frz o7 (.tup [.str "pa"])) n7
      have f7 : DeF H6 (L2.upd H6 p7 (.frz o7 (.tup [.str "pa"]))) (.tuple [.str "pa"]) (.ref p7) := DeF.tup ⟨o7, upd_same, ho7⟩ (id n7) (fun H'' fr => ⟨_, _, rfl, rfl, rfl⟩)
      generalize L2.upd H6 p7 (.frz o7 (.tup [.str "pa"])) = H7 at s7 f7 ⊢
      refine ⟨by show 0 ≤ sizeLine; decide, fun p8 o8 ho8 n8 => ?_⟩
      have s8 := same_new (o := .frz o8 (.tup [])) n8
      have f8 : DeF H6 (L2.upd H7 p8 (.frz o8 (.tup []))) (.tuple []) (.ref p8) := DeF.tup ⟨o8, upd_same, ho8⟩ (id (s7.free n8)) (fun H'' fr => rfl)
      generalize L2.upd H7 p8 (.frz o8 (.tup [])) = H8 at s8 f8 ⊢
      refine ⟨by show 2 ≤ sizeLine; decide, fun p9 o9 ho9 n9 => ?_⟩
      have s9 := same_new (o := .frz o9 (.tup [.ref p7, .ref p8])) n9
      have f9 : DeF H6 (L2.upd H8 p9 (.frz o9 (.tup [.ref p7, .ref p8]))) (.tuple [.tuple [.str "pa"], .tuple []]) (.ref p9) := DeF.tup ⟨o9, upd_same, ho9⟩ (id ((s7.trans s8).free n9)) (fun H'' fr => ⟨_, _, rfl, (DeF.same (s8.trans s9) f7) H'' fr, _, _, rfl, (DeF.same s9 f8) H'' fr, rfl⟩)
      generalize L2.upd H8 p9 (.frz o9 (.tup [.ref p7, .ref p8])) = H9 at s9 f9 ⊢
      refine ⟨p6, _, _, rfl, rfl, ((s7.trans (s8.trans s9)) _ _ g6), (by show 13 < sizeLine; decide), ?_⟩
      have s10 := Same.over (a := p6) (o := .lst ([.str "pa", .str "zz", .str "", .str "A", .str "abcdefghi", .non, .int 0, .bl true, .ref p1, .ref p2, .ref p3, .ref p4, .ref p5] ++ [.ref p9])) (s6.trans (s7.trans (s8.trans s9))) n6
      have g10 : L2.upd H9 p6 (.lst ([.str "pa", .str "zz", .str "", .str "A", .str "abcdefghi", .non, .int 0, .bl true, .ref p1, .ref p2, .ref p3, .ref p4, .ref p5] ++ [.ref p9])) p6 = some (.lst ([.str "pa", .str "zz", .str "", .str "A", .str "abcdefghi", .non, .int 0, .bl true, .ref p1, .ref p2, .ref p3, .ref p4, .ref p5] ++ [.ref p9])) := upd_same
      have f10 : DeF H0 (L2.upd H9 p6 (.lst ([.str "pa", .str "zz", .str "", .str "A", .str "abcdefghi", .non, .int 0, .bl true, .ref p1, .ref p2, .ref p3, .ref p4, .ref p5] ++ [.ref p9]))) (.tuple [.tuple [.str "pa"], .tuple []]) (.ref p9) := DeF.over g6 (fun b e => nn _ ((s1.trans (s2.trans (s3.trans (s4.trans (s5.trans s6))))).free e)) f9
      generalize L2.upd H9 p6 (.lst ([.str "pa", .str "zz", .str "", .str "A", .str "abcdefghi", .non, .int 0, .bl true, .ref p1, .ref p2, .ref p3, .ref p4, .ref p5] ++ [.ref p9])) = H10 at s10 g10 f10 ⊢
      have S : Same H H10 := (s1.trans (s2.trans (s3.trans (s4.trans (s5.trans s10)))))
      obtain ⟨os, hos, hosd, lo⟩ : ∃ os, H10 p6 = some (.lst os) ∧ DeFs H0 H10 oddD os ∧ os.length = 14 := ⟨_, g10, (fun H'' fr => ⟨_, _, rfl, rfl, _, _, rfl, rfl, _, _, rfl, rfl, _, _, rfl, rfl, _, _, rfl, rfl, _, _, rfl, rfl, _, _, rfl, rfl, _, _, rfl, rfl, _, _, rfl, (DeF.same (s2.trans (s3.trans (s4.trans (s5.trans s10)))) f1) H'' fr, _, _, rfl, (DeF.same (s3.trans (s4.trans (s5.trans s10))) f2) H'' fr, _, _, rfl, (DeF.same (s4.trans (s5.trans s10)) f3) H'' fr, _, _, rfl, (DeF.same (s5.trans s10) f4) H'' fr, _, _, rfl, (DeF.same s10 f5) H'' fr, _, _, rfl, f10 H'' fr, rfl⟩), rfl⟩
      have nt : p6 ≠ t := hT.ne ((s1.trans (s2.trans (s3.trans (s4.trans s5)))).free n6)
      clear g10 f1 f2 f3 f4 f5 f7 f8 f9 f10 g3 g5 g6 s1 s2 s3 s4 s5 s6 s7 s8 s9 s10 n1 n2 n3 n4 n5 n6 n7 n8 n9 ho1 ho2 ho4 ho7 ho8 ho9
      obtain ⟨ts, et⟩ := hT.ref
      have T10 : Tin H10 t q := hT.keep ((S _ _ et).trans et.symm)
      have hd10 := hd.same S
      have nn10 : ∀ b, H10 b = none → H0 b = none := fun b e => nn b (S.free e)
      have sb10 : SameBut t H H10 := Nal.Same.but S
      have fin : ∀ (Hc : Hp) (q' : Nat), SameBut t H10 Hc → q' + 1 ≤ q + 3 * (l + 1) → ∀ (i : Nat) (v' : V) (H' : Hp), os[i]? = some v' → SameBut t Hc H' → Tin H' t (q' + 1) → Q v' H' := by
        intro Hc q' sc hle i v' H' ex sb t1
        obtain ⟨d', ed, hd'⟩ := hosd.at ex
        exact k d' v' H' (okm_mono (by omega) (by omega) (okmAll_at odd_ok ed)) (sb10.trans (sc.trans sb)) (t1.mono hle) (hd'.but ht (sc.trans sb))
      refine ⟨_, rfl, rfl, _, rfl, ite2 (fun c0 => ?_) (fun c0 => ?_)⟩
      · exact ⟨_, rfl, _, rfl, t, p6, os, q, rfl, T10, by omega, nt, hos, by omega, by omega, fin H10 q (fun b o _ e => e) (by omega)⟩
      · refine ⟨_, rfl, (by show 2 ≤ sizeLine; decide), fun t2 ht2 => ⟨_, t2, _, _, _, _, rfl, upd_same, cls_two, (De.keep (same_new ht2) _ _ hd10.here).ty, kit_seq d, _, rfl, ?_⟩⟩
        have s11 := same_new (o := .tup [.ty "list", .ty "tuple"]) ht2
        generalize L2.upd H10 t2 (.tup [.ty "list", .ty "tuple"]) = H11 at s11 ⊢
        have T11 : Tin H11 t q := T10.keep ((s11 _ _ (S _ _ et)).trans (S _ _ et).symm)
        have sb11 : SameBut t H10 H11 := Nal.Same.but s11
        cases hs : isSeq d with
        | false => exact iteT ⟨_, rfl, _, rfl, t, p6, os, q, rfl, T11, by omega, nt, s11 _ _ hos, by omega, by omega, fin H11 q sb11 (by omega)⟩
        | true =>
          obtain ⟨a, xs, ds, oa, rfl, hdd, na, ha, hsq, hde⟩ := (hd10.same s11).seq (K := K) hs
          have nat : a ≠ t := fun z => ht (z ▸ na)
          refine iteF ⟨_, rfl, a, xs, rfl, hsq _ ha, rfl, _, rfl, ite2 (fun c1 => ?_) (fun c1 => ?_)⟩
          · exact ⟨_, rfl, _, rfl, t, p6, os, q, rfl, T11, by omega, nt, s11 _ _ hos, by omega, by omega, fin H11 q sb11 (by omega)⟩
          · have c0' : l ≠ 0 := fun z => by
              subst z
              exact c0 rfl
            have xl : 0 < xs.length := by
              cases xs with
              | nil => exact (c1 rfl).elim
              | cons x r => exact Nat.succ_pos _
            have okd : 1 ≤ n ∧ ds.length ≤ m ∧ okmAll m ds (n - 1) := by
              rcases hdd with rfl | rfl
              · exact hk
              · exact hk
            have ln : xs.length = ds.length := hde.here.len
            refine ⟨_, rfl, t, 7, q, rfl, T11, by omega, by decide, by decide, fun way H12 w0 w1 sb12 t12 => ?_⟩
            refine ⟨_, rfl, _, rfl, a, xs, rfl, hsq _ (sb12 _ _ nat ha), t, _, q + 1, rfl, t12, by omega, by omega, by omega, fun kk H13 k0 k1 sb13 t13 => ⟨_, _, rfl, ?_⟩⟩
            have sb1 := sb12.trans sb13
            have ha13 : H13 a = some oa := sb1 _ _ nat ha
            have de13 : DeFs H0 H13 ds xs := hde.but ht sb1
            have nn13 : ∀ b, H13 b = none → H0 b = none := fun b e => nn10 b (s11.free (sb1.free t13 e))
            have hos13 : H13 p6 = some (.lst os) := sb1 _ _ nt (s11 _ _ hos)
            have hkn : kk.toNat < xs.length := by omega
            have sbH : SameBut t H H13 := sb10.trans (sb11.trans sb1)
            have sb1013 : SameBut t H10 H13 := sb11.trans sb1
            obtain ⟨n1, okl, oka⟩ := okd
            refine ⟨_, rfl, a, xs, rfl, hsq _ ha13, fun r hrn => ?_⟩
            have s14 := same_new (o := .lst xs) hrn
            have g14 : L2.upd H13 r (.lst xs) r = some (.lst xs) := upd_same
            have nr : r ≠ t := t13.ne hrn
            have T14 := t13.upd nr (o := .lst xs)
            generalize L2.upd H13 r (.lst xs) = H14 at s14 g14 T14 ⊢
            have ha14 := s14 _ _ ha13
            have de14 := de13.same s14
            have nn14 : ∀ b, H14 b = none → H0 b = none := fun b e => nn13 b (s14.free e)
            have sb14 : SameBut t H H14 := sbH.trans (Nal.Same.but s14)
            have oka' : okmAll (m + 1) ds (n + 2) := okmAll_mono (by omega) (by omega) oka
            have tupfin : ∀ (Hc : Hp) (q' : Nat) (ds' : List PyData) (ys : List V) (p : Addr) (o : Obj), SameBut t H14 Hc → Tin Hc t q' → q' ≤ q + 3 * (l + 1) → Hc p = none → o.dict = none → DeFs H0 Hc ds' ys → ds'.length ≤ m + 1 → okmAll (m + 1) ds' (n + 2) → Q (.ref p) (L2.upd Hc p (.frz o (.tup ys))) := by
              intro Hc q' ds' ys p o sc tc hle hp ho hds hlen hok
              have sp := same_new (o := .frz o (.tup ys)) hp
              exact k (.tuple ds') (.ref p) _ ⟨by omega, hlen, hok⟩ (sb14.trans (sc.trans (Nal.Same.but sp))) ((tc.upd (tc.ne hp)).mono hle) (DeF.tup ⟨o, upd_same, ho⟩ (nn14 _ (sc.free tc hp)) (hds.same sp))
            refine ⟨_, rfl, rfl, _, rfl, ite2 (fun c2 => ?_) (fun c2 => ?_)⟩
            · refine ⟨_, rfl, a, xs, rfl, hsq _ ha14, fun r2 hr2 => ?_⟩
              have s15 := same_new (o := .lst xs) hr2
              exact k (.list ds) (.ref r2) _ ⟨by omega, by omega, oka'⟩ (sb14.trans (Nal.Same.but s15)) ((T14.upd (T14.ne hr2)).mono (by omega)) (DeF.lst upd_same (nn14 _ hr2) (de14.same s15))
            refine ⟨_, rfl, rfl, _, rfl, ite2 (fun c3 => ?_) (fun c3 => ?_)⟩
            · refine ⟨_, rfl, _, rfl, _, rfl, r, xs, rfl, SqL.of g14, fun p1 hp1 => ?_⟩
              rw [cut_h xs k0]
              have s15 := same_new (o := .lst (xs.take kk.toNat)) hp1
              refine ⟨_, rfl, _, rfl, _, _, rfl, rfl, _, rfl, r, xs, rfl, SqL.of (s15 _ _ g14), fun p2 hp2 => ?_⟩
              rw [cut_t xs (show 0 ≤ kk + 1 by omega)]
              have s16 := same_new (o := .lst (xs.drop (kk + 1).toNat)) hp2
              refine ⟨p1, p2, _, _, rfl, rfl, s16 _ _ upd_same, upd_same, Nat.le_trans (show _ ≤ 2000 by rw [List.length_take, List.length_drop]; omega) (by decide), fun p3 hp3 => ?_⟩
              have s17 := same_new (o := .lst (xs.take kk.toNat ++ xs.drop (kk + 1).toNat)) hp3
              have S17 := s15.trans (s16.trans s17)
              refine ⟨p3, _, rfl, .inl ⟨SqL.of upd_same, fun p o ho hp => tupfin _ (q + 2) (ds.take kk.toNat ++ ds.drop (kk + 1).toNat) _ p o (Nal.Same.but S17) (((T14.upd (T14.ne hp1)).upd (T14.ne (s15.free hp2))).upd (T14.ne ((s15.trans s16).free hp3))) (by omega) hp ho (fun H'' fr => ?_) ?_ ?_⟩⟩
              · have z := (de14.same S17) H'' fr
                exact (z.take _).app (z.drop _)
              · rw [List.length_append, List.length_take, List.length_drop]
                omega
              · exact okmAll_app (okmAll_sub oka' fun d hd => List.mem_of_mem_take hd) (okmAll_sub oka' fun d hd => List.mem_of_mem_drop hd)
            refine ⟨_, rfl, rfl, _, rfl, ite2 (fun c4 => ?_) (fun c4 => ?_)⟩
            · refine ⟨_, rfl, _, rfl, _, _, rfl, rfl, _, rfl, r, xs, rfl, SqL.of g14, fun p1 hp1 => ?_⟩
              rw [cut_h xs (show 0 ≤ kk + 1 by omega)]
              have s15 := same_new (o := .lst (xs.take (kk + 1).toNat)) hp1
              refine ⟨_, rfl, _, rfl, _, rfl, r, xs, rfl, SqL.of (s15 _ _ g14), fun p2 hp2 => ?_⟩
              rw [cut_t xs k0]
              have s16 := same_new (o := .lst (xs.drop kk.toNat)) hp2
              refine ⟨p1, p2, _, _, rfl, rfl, s16 _ _ upd_same, upd_same, Nat.le_trans (show _ ≤ 2000 by rw [List.length_take, List.length_drop]; omega) (by decide), fun p3 hp3 => ?_⟩
              have s17 := same_new (o := .lst (xs.take (kk + 1).toNat ++ xs.drop kk.toNat)) hp3
              have S17 := s15.trans (s16.trans s17)
              refine ⟨p3, _, rfl, .inl ⟨SqL.of upd_same, fun p o ho hp => tupfin _ (q + 2) (ds.take (kk + 1).toNat ++ ds.drop kk.toNat) _ p o (Nal.Same.but S17) (((T14.upd (T14.ne hp1)).upd (T14.ne (s15.free hp2))).upd (T14.ne ((s15.trans s16).free hp3))) (by omega) hp ho (fun H'' fr => ?_) ?_ ?_⟩⟩
              · have z := (de14.same S17) H'' fr
                exact (z.take _).app (z.drop _)
              · rw [List.length_append, List.length_take, List.length_drop]
                omega
              · exact okmAll_app (okmAll_sub oka' fun d hd => List.mem_of_mem_take hd) (okmAll_sub oka' fun d hd => List.mem_of_mem_drop hd)
            refine ⟨_, rfl, rfl, _, rfl, ite2 (fun c5 => ?_) (fun c5 => ?_)⟩
            · refine ⟨_, rfl, _, rfl, _, rfl, r, xs, rfl, SqL.of g14, fun p1 hp1 => ?_⟩
              rw [cut_h xs k0]
              have s15 := same_new (o := .lst (xs.take kk.toNat)) hp1
              have T15 := T14.upd (T14.ne hp1) (o := .lst (xs.take kk.toNat))
              have g15 : L2.upd H14 p1 (.lst (xs.take kk.toNat)) p1 = some (.lst (xs.take kk.toNat)) := upd_same
              generalize L2.upd H14 p1 (.lst (xs.take kk.toNat)) = H15 at s15 T15 g15 ⊢
              refine ⟨_, rfl, _, rfl, t, p6, os, q + 2, rfl, T15, by omega, nt, s15 _ _ (s14 _ _ hos13), by omega, by omega, fun i v' H16 ex sb16 t16 => ?_⟩
              obtain ⟨d', ed, hd'⟩ := hosd.at ex
              have okd' : okm (m + 1) d' (n + 2) := okm_mono (by omega) (by omega) (okmAll_at odd_ok ed)
              have sb1416 : SameBut t H14 H16 := (Nal.Same.but s15).trans sb16
              have hd16 : DeF H0 H16 d' v' := hd'.but ht (sb1013.trans ((Nal.Same.but s14).trans sb1416))
              have g16 := sb16 _ _ (T14.ne hp1) g15
              have r16 := sb1416 _ _ nr g14
              have de16 := de14.but ht sb1416
              refine ⟨by show 1 ≤ sizeLine; decide, fun p2 hp2 => ?_⟩
              have s17 := same_new (o := .lst [v']) hp2
              have T17 := t16.upd (t16.ne hp2) (o := .lst [v'])
              refine ⟨p1, p2, _, _, rfl, rfl, s17 _ _ g16, upd_same, Nat.le_trans (show _ ≤ 2000 by rw [List.length_take, List.length_singleton]; omega) (by decide), fun p3 hp3 => ?_⟩
              have s18 := same_new (o := .lst (xs.take kk.toNat ++ [v'])) hp3
              have T18 := T17.upd (T17.ne hp3) (o := .lst (xs.take kk.toNat ++ [v']))
              have g18 : L2.upd (L2.upd H16 p2 (.lst [v'])) p3 (.lst (xs.take kk.toNat ++ [v'])) p3 = some (.lst (xs.take kk.toNat ++ [v'])) := upd_same
              have S18 := s17.trans s18
              generalize L2.upd (L2.upd H16 p2 (.lst [v'])) p3 (.lst (xs.take kk.toNat ++ [v'])) = H18 at S18 T18 g18 ⊢
              refine ⟨_, rfl, _, rfl, _, rfl, r, xs, rfl, SqL.of (S18 _ _ r16), fun p4 hp4 => ?_⟩
              rw [cut_t xs k0]
              have s19 := same_new (o := .lst (xs.drop kk.toNat)) hp4
              have T19 := T18.upd (T18.ne hp4) (o := .lst (xs.drop kk.toNat))
              refine ⟨p3, p4, _, _, rfl, rfl, s19 _ _ g18, upd_same, Nat.le_trans (show _ ≤ 2000 by rw [List.length_append, List.length_take, List.length_drop, List.length_singleton]; omega) (by decide), fun p5 hp5 => ?_⟩
              have s20 := same_new (o := .lst (xs.take kk.toNat ++ [v'] ++ xs.drop kk.toNat)) hp5
              have T20 := T19.upd (T19.ne hp5) (o := .lst (xs.take kk.toNat ++ [v'] ++ xs.drop kk.toNat))
              have S20 := S18.trans (s19.trans s20)
              refine ⟨p5, _, rfl, .inl ⟨SqL.of upd_same, fun p o ho hp => tupfin _ (q + 2 + 1) (ds.take kk.toNat ++ [d'] ++ ds.drop kk.toNat) _ p o (sb1416.trans (Nal.Same.but S20)) T20 (by omega) hp ho (fun H'' fr => ?_) ?_ ?_⟩⟩
              · have z := (de16.same S20) H'' fr
                exact ((z.take _).snoc ((hd16.same S20) H'' fr)).app (z.drop _)
              · rw [List.length_append, List.length_append, List.length_take, List.length_drop, List.length_singleton]
                omega
              · exact okmAll_app (okmAll_app (okmAll_sub oka' fun d hd => List.mem_of_mem_take hd) ⟨okd', trivial⟩) (okmAll_sub oka' fun d hd => List.mem_of_mem_drop hd)
            refine ⟨_, rfl, rfl, _, rfl, ite2 (fun c6 => ?_) (fun c6 => ?_)⟩
            · refine ⟨_, rfl, r, xs, rfl, SqL.of g14, fun p1 hp1 => ?_⟩
              have s15 := same_new (o := .lst xs.reverse) hp1
              refine ⟨p1, _, rfl, .inl ⟨SqL.of upd_same, fun p o ho hp => tupfin _ (q + 2) ds.reverse _ p o (Nal.Same.but s15) (T14.upd (T14.ne hp1)) (by omega) hp ho (fun H'' fr => ?_) ?_ ?_⟩⟩
              · exact ((de14.same s15) H'' fr).back
              · rw [List.length_reverse]
                omega
              · exact okmAll_sub oka' fun d hd => List.mem_reverse.mp hd
            obtain ⟨l', rfl⟩ : ∃ l', l = l' + 1 := ⟨l - 1, by omega⟩
            have hx : xs[kk.toNat]? = some xs[kk.toNat] := List.getElem?_eq_getElem hkn
            obtain ⟨dk, edk, _⟩ := de14.at hx
            have okk : okm m dk (n - 1) := okmAll_at oka edk
            have de0 : DeFs (L2.upd H0 r (.lst [])) H14 ds xs := de13.old hrn s14
            have ek : V.int (((l' + 1 : Nat) : Int) - 1) = V.int (l' : Int) := congrArg V.int (by omega)
            have n0 : (L2.upd H0 r (.lst [])) r ≠ none := fun z => by
              rw [upd_same] at z
              cases z
            have t0 : (L2.upd H0 r (.lst [])) t ≠ none := fun z => by
              rw [upd_ne nr.symm] at z
              exact ht z
            refine ⟨_, rfl, _, rfl, _, rfl, r, xs, kk, _, rfl, rfl, SqL.of g14, L2.at_of (j := kk.toNat) (by omega) hx, _, rfl, _, _, rfl, rfl, t, _, dk, L2.upd H0 r (.lst []), m, n - 1, q + 2, (congrArg (fun z => [V.ref t, xs[kk.toNat], z]) ek), T14, by omega, t0, (fun b e => ?_), (fun H'' fr => ((de0 H'' fr).uniq hx edk)), okk, m1, m2, fun d' v' H15 okd' sb15 t15 hd15 => ?_⟩
            · rw [upd_ne fun z => by rw [z, g14] at e; cases e]
              exact nn14 b e
            · have r15 := sb15 _ _ nr g14
              have hj : kk = (kk.toNat : Int) := by omega
              refine ⟨_, rfl, _, rfl, r, xs, kk, kk.toNat, rfl, rfl, r15, ?_, ?_⟩
              · exact ix_of hj hkn
              · have de15 := (de0.but t0 sb15).but n0 (SameBut.upd (a := r) (o := .lst (xs.set kk.toNat v')))
                have he15 := hd15.but n0 (SameBut.upd (a := r) (o := .lst (xs.set kk.toNat v')))
                refine ⟨_, rfl, r, _, rfl, .inl ⟨SqL.of upd_same, fun p o ho hp => ?_⟩⟩
                have T16 := t15.upd nr (o := .lst (xs.set kk.toNat v'))
                have sb16 : SameBut t H14 H15 := sb15
                have nn16 : ∀ b, L2.upd H15 r (.lst (xs.set kk.toNat v')) b = none → L2.upd H0 r (.lst []) b = none := fun b e => by
                  have nb : b ≠ r := fun z => by
                    rw [z, upd_same] at e
                    cases e
                  rw [upd_ne nb] at e ⊢
                  exact nn14 b (sb15.free t15 e)
                have sp := same_new (o := .frz o (.tup (xs.set kk.toNat v'))) hp
                refine k (.tuple (ds.set kk.toNat d')) (.ref p) _ ⟨by omega, ?_, ?_⟩ (fun b u nb e => ?_) ((T16.upd (T16.ne hp)).mono (by omega)) (DeF.young (DeF.tup ⟨o, upd_same, ho⟩ (nn16 _ hp) (DeFs.same sp fun H'' fr => (de15 H'' fr).put _ (he15 H'' fr))))
                · rw [List.length_set]
                  omega
                · refine okmAll_of fun d hd => ?_
                  rcases List.mem_or_eq_of_mem_set hd with z | rfl
                  · exact okmAll_mem oka' z
                  · exact okm_mono (Nat.le_refl _) (by omega) okd'
                · refine sp _ _ ?_
                  have nb2 : b ≠ r := fun z => by
                    rw [z, sbH.free t13 hrn] at e
                    cases e
                  rw [upd_ne nb2]
                  exact sb15 _ _ nb (sb14 _ _ nb e)
end
end Nal

namespace Nal
open PySem L2 RZ PyProof.Rows
abbrev s_law_right : Stmt := topS 25
abbrev N_law_right : List Str := ["_law_tin", "_law_turn", "_law_task_here", "_law_matter"]
abbrev P_law_right : List Str := ["_law_tin"]
theorem sc_law_right : FnScope ["_law_tin", "_law_turn", "_law_task_here", "_law_matter"] ["_law_tin"] (defScope s_law_right) := ⟨rfl, rfl, rfl, by decide +kernel, rfl, by decide +kernel, by decide +kernel⟩
theorem letters_low : letters.cps.toList.all (fun c => decide (c < 0x110000)) = true := by decide +kernel
theorem name_okm {m n : Nat} {d : PyData} (h : nameB d = true) : okm m d n := by
  obtain ⟨x, rfl⟩ := name_str h
  have q : (decide (1 ≤ x.cps.size) && (decide (x.cps.size ≤ 8) && x.cps.toList.all fun c => decide (c ∈ letters.cps.toList))) = true := h
  obtain ⟨_, q2⟩ := Bool.and_eq_true_iff.mp q
  obtain ⟨q3, q4⟩ := Bool.and_eq_true_iff.mp q2
  refine ⟨Nat.le_trans (of_decide_eq_true q3) (by decide), ?_⟩
  show x.cps.all (· < 0x110000) = true
  rw [← Array.all_toList]
  refine List.all_eq_true.mpr fun c hc => ?_
  exact List.all_eq_true.mp letters_low c (of_decide_eq_true (List.all_eq_true.mp q4 c hc))
theorem way_okm {m n : Nat} (hm : 2 ≤ m) (hn : 1 ≤ n) {d : PyData} (h : wayB d = true) : okm m d n := by
  obtain ⟨x, o, rfl⟩ := way_parts h
  obtain ⟨w1, w2⟩ := Bool.and_eq_true_iff.mp (show (nameB (.str x) && (nameB (optD o) || isNoneD (optD o))) = true from h)
  refine ⟨hn, hm, name_okm w1, ?_, trivial⟩
  cases o with
  | none => trivial
  | some y =>
    have z : (nameB (.str y) || false) = true := w2
    rw [Bool.or_false] at z
    exact name_okm z
theorem job_okm {J : Jb} (g : J.Good) : okm 40 (jobD J) 3 := by
  have j := g.job
  have q : ((((J.ps.map PyData.str).all nameB && ascB (textsD (J.ps.map .str)))) && (!(psOf (.tuple (J.ps.map .str))).isEmpty && ((J.gs.map wayD).all wayB && goalG (psOf (.tuple (J.ps.map .str))) (gsOf (J.gs.map wayD))))) = true := j
  obtain ⟨q1, q2⟩ := Bool.and_eq_true_iff.mp q
  have q3 := (Bool.and_eq_true_iff.mp q1).1
  have q4 := (Bool.and_eq_true_iff.mp (Bool.and_eq_true_iff.mp q2).2).1
  have lp := g.len
  have lg : J.gs.length ≤ 40 := by
    have z := nodup_len g.nd g.inP
    rw [List.length_map] at z
    omega
  refine ⟨by decide, by show 2 ≤ 40; decide, ⟨by decide, by rw [List.length_map]; exact lp, okmAll_of fun d hd => name_okm (List.all_eq_true.mp q3 d hd)⟩, ⟨by decide, by rw [List.length_map]; exact lg, okmAll_of fun d hd => way_okm (by decide) (by decide) (List.all_eq_true.mp q4 d hd)⟩, trivial⟩
theorem Tin.keepS {H H' : Hp} {t : Addr} {n : Nat} (h : Tin H t n) (s : Same H H') : Tin H' t n := by
  obtain ⟨xs, e⟩ := h.ref
  exact h.keep ((s _ _ e).trans e.symm)
section
variable {P : Program} {w : World} {K : PySem.W.Frag} {mg : Str → Option Value} {base : Heap}
/-- thirty drawn jobs, each with one thing changed -/
def spRight : Sp := fun vs H Q _ => ∃ (t : Addr) (m : Nat), vs = [.ref t] ∧ Tin H t m ∧ m ≤ 1000 ∧ ∀ H', SameBut t H H' → Q (.bl true) H'
theorem ok_right {f f1 f2 f3 f4 f5 f6 : Addr} {fd fd1 fd2 fd3 fd4 fd5 fd6 : FuncData} (F : Fun K "_law_right" "_law_right" s_law_right f fd) (T : Txt K mg)
    (G_law_task : FnOk P w K mg base CX0 3 f1 fd1 ["_law_tin", "_law_many", "_law_full"] spTask) (m_law_task : mg "_law_task" = some (.ref f1)) (k_law_task : PySem.W.keepIn K (.ref f1) = true) (b_law_task : Binds K fd1 ["_law_tin", "_law_many", "_law_full"] [])
    (G_law_take : FnOk P w K mg base CX0 1 f2 fd2 ["_law_tin", "_law_top_so"] spTake) (m_law_take : mg "_law_take" = some (.ref f2)) (k_law_take : PySem.W.keepIn K (.ref f2) = true) (b_law_take : Binds K fd2 ["_law_tin", "_law_top_so"] [])
    (G_law_spoilt : FnOk P w K mg base CX0 8 f3 fd3 ["_law_tin", "_law_matter", "_law_levels"] (spSpoilt 5)) (m_law_spoilt : mg "_law_spoilt" = some (.ref f3)) (k_law_spoilt : PySem.W.keepIn K (.ref f3) = true) (b_law_spoilt : Binds K fd3 ["_law_tin", "_law_matter", "_law_levels"] [])
    (G_law_same : FnOk P w K mg base CX0 4 f4 fd4 ["_law_got", "_law_due"] (spSame 4)) (m_law_same : mg "_law_same" = some (.ref f4)) (k_law_same : PySem.W.keepIn K (.ref f4) = true) (b_law_same : Binds K fd4 ["_law_got", "_law_due"] [])
    (Gis_job : FnOk P w K mg base CX0 5 f5 fd5 ["thing"] (spAsk jobB)) (mis_job : mg "is_job" = some (.ref f5)) (kis_job : PySem.W.keepIn K (.ref f5) = true) (bis_job : Binds K fd5 ["thing"] [])
    (G_law_is_task : FnOk P w K mg base CX0 2 f6 fd6 ["_law_matter"] (spAskQ jobB)) (m_law_is_task : mg "_law_is_task" = some (.ref f6)) (k_law_is_task : PySem.W.keepIn K (.ref f6) = true) (b_law_is_task : Binds K fd6 ["_law_matter"] []) :
    FnOk P w K mg base CX0 9 f fd ["_law_tin"] spRight := by
  refine F.ok sc_law_right (fun vs H Q E h => ?_) (fun cdv A outer s H vs Q E hr h => ?_)
  · obtain ⟨t, m, rfl, _⟩ := h
    rfl
  · obtain ⟨t, m, rfl, hT, hm, k⟩ := h
    refine ⟨_, (pss_cons (ps_for PassesOwn.never rfl (pi_range1 (by rfl) T.b_range (pa_cons pe_int pa_nil)) (pg_name (i := 1) sc_law_right.nd rfl (Or.inl rfl)) (pss_cons (ps_set (i := 2) sc_law_right.nd rfl (Or.inl rfl) (pe_call G_law_task (hr.mono (by decide)) rfl m_law_task k_law_task b_law_task .nil pass0 (pa_cons (pv 0) (pa_cons pe_int (pa_cons pe_int pa_nil)))))
      (pss_cons (ps_set (i := 3) sc_law_right.nd rfl (Or.inl rfl) (pe_ifExp (pt_cmpR op_gt (pe_call G_law_take (hr.mono (by decide)) rfl m_law_take k_law_take b_law_take .nil pass0 (pa_cons (pv 0) (pa_cons pe_int pa_nil))) pe_int (nomark _)) (pe_call G_law_spoilt (hr.mono (by decide)) rfl m_law_spoilt k_law_spoilt b_law_spoilt .nil pass0 (pa_cons (pv 0) (pa_cons (pv 2) (pa_cons pe_int pa_nil)))) (pv 2)))
      (pss_one (ps_if (pt_not (pt_val (pe_call G_law_same (hr.mono (by decide)) rfl m_law_same k_law_same b_law_same .nil pass0 (pa_cons (pe_lst (pa_cons (pe_call Gis_job (hr.mono (by decide)) rfl mis_job kis_job bis_job .nil pass0 (pa_cons (pv 3) pa_nil)) (pa_cons (pe_call Gis_job (hr.mono (by decide)) rfl mis_job kis_job bis_job .nil pass0 (pa_cons (pv 2) pa_nil)) pa_nil))) (pa_cons (pe_lst (pa_cons (pe_call G_law_is_task (hr.mono (by decide)) rfl m_law_is_task k_law_is_task b_law_is_task .nil pass0 (pa_cons (pv 3) pa_nil)) (pa_cons pe_bl pa_nil))) pa_nil))))) (pss_one (ps_ret pe_bl)) pss_nil)))))
      (pss_one (ps_ret pe_bl))), ?_⟩
    refine ⟨30, rfl, (by decide), (by decide), for_it (w := walk_range (lo := 0) (n := 30)) (fun i σ H' => ∃ v1 v2 v3 : Option V, σ = [some (.ref t), v1, v2, v3] ∧ SameBut t H H' ∧ Tin H' t (m + 330 * i)) ⟨none, none, none, rfl, fun _ _ _ e => e, hT⟩ (fun _ _ _ _ _ => trivial) ?_ ?_⟩
    · rintro i x σ _ H1 hi ⟨v1, v2, v3, rfl, s1, t1⟩ ⟨rfl, rfl⟩
      refine ⟨_, rfl, t, 12, 9, m + 330 * i, rfl, t1, by omega, by decide, by decide, by decide, by decide, fun r H2 J g sb t2 hr2 => ?_⟩
      have hJ2 : DeF H1 H2 (jobD J) r := hr2
      have h1t : H1 t ≠ none := by
        obtain ⟨xs, e⟩ := t1.ref
        rw [e]
        exact fun z => nomatch z
      refine ⟨_, rfl, t, 3, _, rfl, t2, by omega, by decide, by decide, fun d H3 d0 d1 sb3 t3 => ⟨_, _, rfl, rfl, _, rfl, ite2 (fun c => ?_) (fun c => ?_)⟩⟩
      · refine ⟨_, rfl, _, rfl, t, r, jobD J, H1, 40, 3, _, rfl, t3, by show m + 330 * i + 300 + 1 + 15 ≤ 900000; omega, h1t, (fun b e => sb.free t2 (sb3.free t3 e)), hJ2.but h1t sb3, job_okm g, by decide, by decide, fun d' v' H4 ok4 sb4 t4 hd4 => ?_⟩
        have hJ4 := (hJ2.but h1t sb3).but h1t sb4
        have t4' : Tin H4 t (m + 330 * i + 300 + 1 + 15) := t4
        refine ⟨_, rfl, d', v', rfl, (hd4).here, okm_okz (by decide) (ok4), fun H5 s5 => ⟨_, rfl, jobD J, r, rfl, De.keep s5 _ _ (hJ4).here, okm_okz (by decide) (job_okm g), fun H6 s6 => ⟨(by show 2 ≤ sizeLine; decide), fun l1 n1 => ?_⟩⟩⟩
        rw [g.job]
        have s7 := same_new (o := .lst [.bl (jobB d'), .bl true]) n1
        have g7 : L2.upd H6 l1 (.lst [.bl (jobB d'), .bl true]) l1 = some (.lst [.bl (jobB d'), .bl true]) := upd_same
        have S7 := s5.trans (s6.trans s7)
        generalize L2.upd H6 l1 (.lst [.bl (jobB d'), .bl true]) = H7 at s7 g7 S7 ⊢
        refine ⟨_, rfl, d', v', rfl, De.keep S7 _ _ (hd4).here, okm_mono (by decide) (by decide) (ok4), fun H8 s8 => ⟨(by show 2 ≤ sizeLine; decide), fun l2 n2 => ?_⟩⟩
        have s9 := same_new (o := .lst [.bl (jobB d'), .bl true]) n2
        have S9 := S7.trans (s8.trans s9)
        refine ⟨.list [.bool (jobB d'), .bool true], .ref l1, .ref l2, rfl, ⟨l1, _, rfl, (s8.trans s9) _ _ g7, _, _, rfl, rfl, _, _, rfl, rfl, rfl⟩, ⟨l2, _, rfl, upd_same, _, _, rfl, rfl, _, _, rfl, rfl, rfl⟩, by show 1 ≤ 3; decide, ⟨by show 2 ≤ 1000; decide, trivial, trivial, trivial⟩, fun H10 s10 => ⟨_, rfl, ite2 (fun c => Bool.noConfusion (show false = true from c)) (fun _ => ?_)⟩⟩
        have S10 := S9.trans s10
        exact ⟨_, _, _, rfl, s1.trans ((sb.trans (sb3.trans sb4)).trans (Nal.Same.but S10)), (t4'.keepS S10).mono (by omega)⟩
      · refine ⟨_, rfl, ?_⟩
        have hJ4 := hJ2.but h1t sb3
        refine ⟨_, rfl, (jobD J), r, rfl, (hJ4).here, okm_okz (by decide) (job_okm g), fun H5 s5 => ⟨_, rfl, jobD J, r, rfl, De.keep s5 _ _ (hJ4).here, okm_okz (by decide) (job_okm g), fun H6 s6 => ⟨(by show 2 ≤ sizeLine; decide), fun l1 n1 => ?_⟩⟩⟩
        rw [g.job]
        have s7 := same_new (o := .lst [.bl (true), .bl true]) n1
        have g7 : L2.upd H6 l1 (.lst [.bl (true), .bl true]) l1 = some (.lst [.bl (true), .bl true]) := upd_same
        have S7 := s5.trans (s6.trans s7)
        generalize L2.upd H6 l1 (.lst [.bl (true), .bl true]) = H7 at s7 g7 S7 ⊢
        refine ⟨_, rfl, (jobD J), r, rfl, De.keep S7 _ _ (hJ4).here, okm_mono (by decide) (by decide) (job_okm g), fun H8 s8 => ⟨(by show 2 ≤ sizeLine; decide), fun l2 n2 => ?_⟩⟩
        rw [g.job]
        have s9 := same_new (o := .lst [.bl (true), .bl true]) n2
        have S9 := S7.trans (s8.trans s9)
        refine ⟨.list [.bool (true), .bool true], .ref l1, .ref l2, rfl, ⟨l1, _, rfl, (s8.trans s9) _ _ g7, _, _, rfl, rfl, _, _, rfl, rfl, rfl⟩, ⟨l2, _, rfl, upd_same, _, _, rfl, rfl, _, _, rfl, rfl, rfl⟩, by show 1 ≤ 3; decide, ⟨by show 2 ≤ 1000; decide, trivial, trivial, trivial⟩, fun H10 s10 => ⟨_, rfl, ite2 (fun c => Bool.noConfusion (show false = true from c)) (fun _ => ?_)⟩⟩
        have S10 := S9.trans s10
        exact ⟨_, _, _, rfl, s1.trans ((sb.trans sb3).trans (Nal.Same.but S10)), (t3.keepS S10).mono (by omega)⟩
    · rintro σ H1 ⟨v1, v2, v3, rfl, s1, t1⟩
      exact k H1 s1
end
end Nal

namespace Nal
open PySem L2 RZ PyProof.Rows
/-! ### a call whose arguments are all given by name -/
def turnL {α : Type} (b : Bool) (l : List α) : List α := if b then l.reverse else l
theorem vals_rev : ∀ {vs : List V} {us : List Value}, Vals vs us → Vals vs.reverse us.reverse
  | _, _, .nil => .nil
  | _, _, .cons h t => by
    rw [List.reverse_cons, List.reverse_cons]
    exact (vals_rev t).append (.cons h .nil)
theorem vals_turn {b : Bool} {vs : List V} {us : List Value} (h : Vals vs us) : Vals (turnL b vs) (turnL b us) := by
  cases b
  · exact h
  · exact vals_rev h
structure ByName (K : PySem.W.Frag) (fd : FuncData) (ps ks : List Str) (b : Bool) : Prop where
  to : ∀ (s : Shared) (ws : List Value), K.In s.heap → ws.length = ks.length → BindsTo s fd ⟨[], ks.zip ws⟩ (ps.zip (turnL b ws))
  ln : ks.length = ps.length
def tByName (b : Bool) (sp : Sp) (E : L2.St → XK) (tk : TA) : TE := fun σ H Q => tk σ H fun zs H1 => sp (turnL b zs) H1 Q (E σ)
section
variable {X : Cx} {CX : CXT} {k : Nat} {f : Addr} {fd : FuncData} {ps ks : List Str} {b : Bool} {sp : Sp} {E : L2.St → XK} {x : Str} {p pos : Pos} {kws : List Keyword} {tk : TA}
theorem turn_len {α : Type} {b : Bool} {l : List α} : (turnL b l).length = l.length := by
  cases b
  · rfl
  · exact List.length_reverse
theorem pe_byName (G : FnOk X.prog X.w X.K X.mg X.base CX k f fd ps sp) (hr : Room k X.A) (gl : Gl X x) (hm : X.mg x = some (.ref f)) (kp : PySem.W.keepIn X.K (.ref f) = true) (bn : ByName X.K fd ps ks b) (hx : ∀ σ, PassesAt CX X σ (E σ))
    (hkw : PK X kws tk) (all_ : (backToKw pos (keywordEach kws X.env)).all (·.1.isSome) = true := by rfl) (names : (backToKw pos (keywordEach kws X.env)).filterMap (·.1) = ks := by rfl) (hdb : (x == ("__debug__" : Str)) = false := by decide)
    (plain : ((backTo pos (starEach [] X.env)).any (·.1) || (backToKw pos (keywordEach kws X.env)).any (·.1.isNone)) = false := by rfl) : PE X (.Call (.Name x p) [] kws pos) (tByName b sp E tk) := by
  refine ⟨fun pins s σ H Q I h => ?_⟩
  refine wpAny_Call_Name_kw (ld_glob I gl hm (PySem.W.callWith_KW0 (h₀ := X.base) I.ok.mod.kin kp all_ (thn (hkw.run pos pins s σ H _ I h) fun ws s1 w1 => ?_) plain) hdb)
  obtain ⟨zs, H1, I1, rz, q⟩ := w1
  have rt := vals_turn (b := b) rz
  have len : ws.length = ks.length := by
    have z := G.len _ _ _ _ q
    rw [turn_len, rz.length] at z
    exact z.trans bn.ln.symm
  refine ⟨I1.kIn, ?_⟩
  rw [names]
  refine wpAny_call (codeAny_mono (G.run X.A X.stack s1 H1 ⟨[], ks.zip ws⟩ (turnL b ws) (turnL b zs) Q (E σ) hr I1.env0 (bn.to s1 ws I1.kIn len) rt q) fun r s' out => ?_)
  cases r with
  | error z => exact hx σ pins H1 s1 z s' I1 out
  | ok fl =>
    cases fl with
    | ret u => exact I1.after out
    | next => exact out.elim
    | brk => exact out.elim
    | cont => exact out.elim
end
theorem pass0S {X : Cx} : ∀ σ : L2.St, PassesAt CX0 X σ E0 := fun _ _ _ _ _ _ _ h => h.elim

/-! ### written data -/
/-- a display of nothing but written things: it gives that data, all of it new -/
def Lit (te : TE) (d : PyData) : Prop := ∀ (σ : L2.St) (H : Hp) (Q : VK), (∀ v H', Same H H' → DeF H H' d v → Q v H') → te σ H Q
def LitA (ta : TA) (ds : List PyData) : Prop := ∀ (σ : L2.St) (H : Hp) (Q : List V → Hp → Prop), (∀ vs H', Same H H' → DeFs H H' ds vs → Q vs H') → ta σ H Q
theorem lit_s (x : Str) : Lit (tC (.str x)) (.str x) := fun _ _ _ q => q _ _ (fun _ _ e => e) fun _ _ => rfl
theorem lit_n : Lit (tC .non) .none := fun _ _ _ q => q _ _ (fun _ _ e => e) fun _ _ => rfl
theorem lit_b (b : Bool) : Lit (tC (.bl b)) (.bool b) := fun _ _ _ q => q _ _ (fun _ _ e => e) fun _ _ => rfl
theorem lit_i (i : Int) : Lit (tC (.int i)) (.int i) := fun _ _ _ q => q _ _ (fun _ _ e => e) fun _ _ => rfl
theorem lit_nil : LitA tNil [] := fun _ _ _ q => q _ _ (fun _ _ e => e) fun _ _ => rfl
theorem Same.fresh {H H1 H2 H'' : Hp} (s : Same H H1) (fr : Fresh H H2 H'') : Fresh H1 H2 H'' := fun b o e0 e => fr b o (s.free e0) e
theorem lit_cons {te : TE} {ta : TA} {d : PyData} {ds : List PyData} (h1 : Lit te d) (h2 : LitA ta ds) : LitA (tCons te ta) (d :: ds) := fun σ H Q q =>
  h1 σ H _ fun v H1 s1 d1 => h2 σ H1 _ fun vs H2 s2 d2 => q _ _ (s1.trans s2) fun H'' fr => ⟨v, vs, rfl, (d1.same s2) H'' fr, d2 H'' (Same.fresh s1 fr)⟩
theorem lit_tup {ta : TA} {ds : List PyData} (h : LitA ta ds) (hl : ds.length ≤ 1000) : Lit (tTupF ta) (.tuple ds) := fun σ H Q q =>
  h σ H _ fun vs H1 s1 d1 => ⟨Nat.le_trans (by rw [d1.here.len]; exact hl) (by decide), fun p o ho hp => q _ _ (s1.trans (same_new hp)) (DeF.tup ⟨o, upd_same, ho⟩ (s1.free hp) (d1.same (same_new hp)))⟩
theorem lit_lst {ta : TA} {ds : List PyData} (h : LitA ta ds) (hl : ds.length ≤ 1000) : Lit (tLst ta) (.list ds) := fun σ H Q q =>
  h σ H _ fun vs H1 s1 d1 => ⟨Nat.le_trans (by rw [d1.here.len]; exact hl) (by decide), fun p hp => q _ _ (s1.trans (same_new hp)) (DeF.lst upd_same (s1.free hp) (d1.same (same_new hp)))⟩
/-- a list of data at p that is written again and again: its things are new since H0 and not p -/
def LD (H0 H : Hp) (p : Addr) (ds : List PyData) : Prop := H0 p = none ∧ ∃ vs, H p = some (.lst vs) ∧ vs.length = ds.length ∧ ∀ H'', FreshBut p H0 H H'' → DeAll H'' ds vs
theorem LD.keep {H0 H H' : Hp} {p : Addr} {ds : List PyData} (s : Same H H') (h : LD H0 H p ds) : LD H0 H' p ds := by
  obtain ⟨n, vs, e, l, k⟩ := h
  exact ⟨n, vs, s _ _ e, l, fun H'' fr => k H'' fun b o nb e0 q => fr b o nb e0 (s _ _ q)⟩
theorem LD.data {H0 H : Hp} {p : Addr} {ds : List PyData} (h : LD H0 H p ds) : ∃ vs, H p = some (.lst vs) ∧ vs.length = ds.length ∧ DeAll H ds vs := by
  obtain ⟨n, vs, e, l, k⟩ := h
  exact ⟨vs, e, l, k H fun _ _ _ _ q => q⟩
/-- list display -/
theorem ld_new {H0 : Hp} {ta : TA} {ds : List PyData} (h : LitA ta ds) (hl : ds.length ≤ 1000) {σ : L2.St} {H : Hp} {Q : VK} (s0 : Same H0 H) (q : ∀ p H', H p = none → Same H H' → LD H0 H' p ds → Q (.ref p) H') : tLst ta σ H Q :=
  h σ H _ fun vs H1 s1 d1 => ⟨Nat.le_trans (by rw [d1.here.len]; exact hl) (by decide), fun p hp => q p _ (s1.free hp) (s1.trans (same_new hp)) ⟨s0.free (s1.free hp), vs, upd_same, d1.here.len, fun H'' fr => d1 H'' fun b o e0 e => fr b o (fun z => by rw [z, hp] at e; cases e) (s0.free e0) (same_new hp _ _ e)⟩⟩
/-- + a display -/
theorem ld_cat {H0 : Hp} {ta : TA} {te : TE} {ds es : List PyData} {p : Addr} (h : LitA ta es) (hl : es.length ≤ 500) (hl2 : ds.length ≤ 500) {σ : L2.St} {H : Hp} {Q : VK} (s0 : Same H0 H) (hp : LD H0 H p ds) (ht : ∀ R : VK, R (.ref p) H → te σ H R) (q : ∀ r H', H r = none → Same H H' → LD H0 H' r (ds ++ es) → Q (.ref r) H') : tOp rCat te (tLst ta) σ H Q := by
  refine ht _ (h σ H _ fun us H1 s1 d1 => ⟨Nat.le_trans (by rw [d1.here.len]; exact hl) (by decide), fun p2 hp2 => ?_⟩)
  obtain ⟨n0, vs, e, l, k⟩ := hp
  have s2 := same_new (o := .lst us) hp2
  have lu := d1.here.len
  refine ⟨p, p2, vs, us, rfl, rfl, s2 _ _ (s1 _ _ e), upd_same, Nat.le_trans (show _ ≤ 1000 by omega) (by decide), fun r hr => ?_⟩
  have s3 := same_new (o := .lst (vs ++ us)) hr
  have S := s1.trans (s2.trans s3)
  refine q r _ ((s1.trans s2).free hr) S ⟨s0.free ((s1.trans s2).free hr), _, upd_same, by rw [List.length_append, List.length_append, l, lu], fun H'' fr => DeAll.app (k H'' fun b o nb e0 x => fr b o (fun z => ?_) e0 (S _ _ x)) (d1 H'' fun b o e0 x => fr b o (fun z => ?_) (s0.free e0) ((s2.trans s3) _ _ x))⟩
  · rw [z, (s1.trans s2).free hr] at x
    cases x
  · rw [z, s2.free hr] at x
    cases x
/-- .append of something new but for the list -/
theorem ld_more {H0 H : Hp} {ds : List PyData} {p : Addr} {d : PyData} {v : V} {vs : List V} {H3 : Hp} (s3 : Same H H3) (hp : LD H0 H p ds) (e : H p = some (.lst vs)) (hd : ∀ H'', FreshBut p H0 H3 H'' → De H'' d v) : LD H0 (L2.upd H3 p (.lst (vs ++ [v]))) p (ds ++ [d]) := by
  obtain ⟨n0, vs', e', l, k⟩ := hp
  rw [e] at e'
  cases e'
  refine ⟨n0, _, upd_same, by rw [List.length_append, List.length_append, l]; rfl, fun H'' fr => DeAll.snoc (k H'' fun b o nb e0 x => fr b o nb e0 ?_) (hd H'' fun b o nb e0 x => fr b o nb e0 ?_)⟩
  · rw [upd_ne nb]
    exact s3 _ _ x
  · rw [upd_ne nb]
    exact x
theorem new_but {H0 H H3 : Hp} {p : Addr} {d : PyData} {v : V} {o' : HO} (s0 : Same H0 H) (e : H p = some o') (h : DeF H H3 d v) : ∀ H'', FreshBut p H0 H3 H'' → De H'' d v := fun H'' fr => h H'' fun b o e0 x => fr b o (fun z => by rw [z, e] at e0; cases e0) (s0.free e0) x
theorem old_but {H0 H1 H3 : Hp} {p : Addr} {d : PyData} {v : V} (n : H1 p = none) (s : Same H1 H3) (h : DeF H0 H1 d v) : ∀ H'', FreshBut p H0 H3 H'' → De H'' d v := fun H'' fr => h H'' fun b o e0 x => fr b o (fun z => by rw [z, n] at x; cases x) e0 (s _ _ x)
/-- a question asked of each item of a list of data -/
theorem rd_askL {K : PySem.W.Frag} {xs : List V} {ds : List PyData} {t : TE} {g : TG} {te : TE} {vs : List Nat} {σ : L2.St} {H : Hp} {Q : VK} (p : PyData → Bool) (hl : ds.length ≤ 1000) (ht : ∀ R : VK, (∀ a H1, Same H H1 → H1 a = some (.lst xs) → DeAll H1 ds xs → R (.ref a) H1) → t σ H R)
    (step : ∀ (i : Nat) (hi : i < ds.length) (x : V) (H' : Hp) (R : VK), De H' ds[i] x → Same H H' → (∀ H4, Same H' H4 → R (.bl (p ds[i])) H4) → g x (wipe σ vs) H' fun σ2 H2 => wipe σ2 vs = wipe σ vs ∧ te σ2 H2 R)
    (fin : ∀ (D : Addr) (H' : Hp), Same H H' → H' D = some (.lst ((ds.map p).map V.bl)) → Q (.ref D) H') : tLc (iList K t) g tYes te vs σ H Q := by
  refine ht _ fun a H1 s01 ha hd => ⟨a, rfl, ⟨_, SqL.of ha⟩, fun D hD => lc_it (w := walk_list (K := K) (a := a) (xs := xs)) (fun i H' => Same H1 H' ∧ H' D = some (.lst (((ds.take i).map p).map V.bl))) ⟨same_new hD, upd_same⟩ (fun i H' _ h => SqL.of (h.1 _ _ ha)) ?_ ?_⟩
  · rintro i x _ H' hi ⟨s1, h1⟩ ⟨rfl, ex⟩
    have ln := hd.len
    have hi' : i < ds.length := by omega
    obtain ⟨d, ed, hx⟩ := hd.at ex
    rw [List.getElem?_eq_getElem hi'] at ed
    cases ed
    refine step i hi' x H' (fun y H4 => ∃ acc, H4 D = some (.lst acc) ∧ acc.length < sizeLine ∧ (Same H1 (L2.upd H4 D (.lst (acc ++ [y]))) ∧ L2.upd H4 D (.lst (acc ++ [y])) D = some (.lst (((ds.take (i + 1)).map p).map V.bl)))) (De.keep s1 _ _ hx) (s01.trans s1) fun H4 s4 => ?_
    refine ⟨_, s4 _ _ h1, Nat.lt_of_le_of_lt (show _ ≤ 1000 by rw [List.length_map, List.length_map, List.length_take]; omega) (by decide), fun b o e => ?_, ?_⟩
    · rw [upd_ne (ne_of_none e hD)]
      exact s4 _ _ (s1 _ _ e)
    · rw [upd_same, List.take_add_one, List.getElem?_eq_getElem hi', List.map_append, List.map_append]
      rfl
  · rintro H' ⟨s1, h1⟩
    rw [hd.len, List.take_length] at h1
    exact fin D H' (s01.trans s1) h1
end Nal

namespace Nal
open PySem L2 RZ PyProof.Rows
abbrev s_law_hand_right : Stmt := topS 24
abbrev N_law_hand_right : List Str := ["_law_tags", "_law_fine", "_law_bad", "_law_got", "_law_own"]
abbrev P_law_hand_right : List Str := []
theorem sc_law_hand_right : FnScope ["_law_tags", "_law_fine", "_law_bad", "_law_got", "_law_own"] [] (defScope s_law_hand_right) := ⟨rfl, rfl, rfl, by decide +kernel, rfl, by decide +kernel, by decide +kernel⟩
def hd1 : List PyData := [.tuple [.tuple [.str "a"], .tuple []], .tuple [.tuple [.str "a", .str "b"], .tuple [.tuple [.str "a", .str "b"]]], .tuple [.tuple [.str "a", .str "b"], .tuple [.tuple [.str "a", .str "a"], .tuple [.str "b", .str "b"]]]]
def hd2 : List PyData := [.tuple [.tuple [.str "a", .str "b"], .tuple [.tuple [.str "a", .str "b"], .tuple [.str "b", .str "a"]]]]
def hd3 : List PyData := [.tuple [.tuple [.str "a", .str "b"], .tuple [.tuple [.str "a", .none], .tuple [.str "b", .none]]], .tuple [.tuple [.str "abcdefgh"], .tuple [.tuple [.str "abcdefgh", .str "abcdefgh"]]]]
def hd4 : List PyData := [.tuple [.tuple [.str "a", .str "b", .str "c"], .tuple [.tuple [.str "a", .str "b"], .tuple [.str "b", .none]]], .tuple [.tuple [.str "a", .str "b", .str "c"], .tuple [.tuple [.str "b", .str "a"], .tuple [.str "c", .str "b"]]]]
def hd5 : List PyData := [.tuple [.tuple [], .tuple []], .tuple [.tuple [.str "a"]], .tuple [.tuple [.str "a"], .tuple [], .tuple []], .tuple [.list [.str "a"], .tuple []], .tuple [.tuple [.str "a"], .list []], .list [.tuple [.str "a"], .tuple []], .tuple [.tuple [.str "b", .str "a"], .tuple []]]
def hd6 : List PyData := [.tuple [.tuple [.str "a", .str "a"], .tuple []], .tuple [.tuple [.str "A"], .tuple []], .tuple [.tuple [.str ""], .tuple []]]
def hd7 : List PyData := [.tuple [.tuple [.str "abcdefghi"], .tuple []], .tuple [.tuple [.str "a1"], .tuple []], .tuple [.tuple [.str "a", .str "b"], .tuple [.tuple [.str "a", .str "c"]]], .tuple [.tuple [.str "a", .str "b"], .tuple [.tuple [.str "c", .str "a"]]]]
def hd8 : List PyData := [.tuple [.tuple [.str "a", .str "b"], .tuple [.tuple [.str "a", .str "b"], .tuple [.str "b", .str "b"]]]]
def hd9 : List PyData := [.tuple [.tuple [.str "a", .str "b"], .tuple [.tuple [.str "b", .str "a"], .tuple [.str "a", .str "b"]]], .tuple [.tuple [.str "a", .str "b"], .tuple [.tuple [.str "a", .str "b"], .tuple [.str "a", .str "a"]]]]
def hd10 : List PyData := [.tuple [.tuple [.str "a", .str "b"], .tuple [.tuple [.str "a"]]], .tuple [.tuple [.str "a", .str "b"], .tuple [.tuple [.str "a", .str "b", .str "b"]]]]
def hd11 : List PyData := [.tuple [.tuple [.str "a", .str "b"], .tuple [.list [.str "a", .str "b"]]], .tuple [.tuple [.str "a", .str "b"], .tuple [.str "ab"]], .tuple [.tuple [.str "a", .str "b"], .tuple [.tuple [.none, .str "a"]]]]
def hd12 : List PyData := [.tuple [.tuple [.str "a", .str "b"], .tuple [.tuple [.str "a", .str ""]]], .tuple [.tuple [.str "a", .str "b"], .tuple [.tuple [.str "a", .int 0]]]]
def hd13 : List PyData := [.none, .int 0, .str "", .str "ab", .bool true, .tuple [], .tuple [.str "a", .tuple []], .tuple [.tuple [.str "a"], .none], .tuple [.none, .tuple []], .tuple [.tuple [.none], .tuple []]]
def hd14 : List PyData := [.tuple [.tuple [.str "a", .int 1], .tuple []], .tuple [.tuple [.str "a", .str "b"], .tuple [.tuple [.str "a", .bool false]]], .tuple [.tuple [.str "a", .str "b"], .tuple [.tuple [.str "a", .tuple [.str "b"]]]]]
def tagA (c : Nat) : Str := Str.ofString "a" ++ (⟨#[c]⟩ : Str)
def tagB (c : Nat) : Str := Str.ofString "b" ++ (⟨#[c]⟩ : Str)
def tagsA : List Str := (Str.ofString "abcdefghijklmnopqrstuvwxyz").cps.toList.map tagA
def tagsB : List Str := (Str.ofString "abcdefghijklmno").cps.toList.map tagB
def tagsAB : List Str := tagsA ++ tagsB
def tagJob : PyData := .tuple [.tuple (tagsAB.map .str), .tuple (tagsAB.filterMap fun x => some (.tuple [.str x, .str x]))]
def fineD : List PyData := ((((hd1 ++ hd2) ++ hd3) ++ [tagJob]) ++ hd4)
def badD : List PyData := (((((((((hd5 ++ hd6) ++ hd7) ++ hd8) ++ hd9) ++ hd10) ++ hd11) ++ hd12) ++ hd13) ++ hd14)
def fine1 : PyData := .tuple [.tuple [.str "a", .str "b"], .tuple [.tuple [.str "a", .str "b"]]]
def dueB : List Bool := List.replicate 9 true ++ List.replicate 37 false ++ [true]
mutual
def okzB : PyData → Bool
  | .str x => decide (x.cps.size ≤ 1000)
  | .list ds => decide (ds.length ≤ 1000) && okzBs ds
  | .tuple ds => decide (ds.length ≤ 1000) && okzBs ds
  | _ => true
def okzBs : List PyData → Bool
  | [] => true
  | d :: ds => okzB d && okzBs ds
end
mutual
theorem okzB_ok : ∀ {d : PyData}, okzB d = true → okz d
  | .none, _ => trivial
  | .bool _, _ => trivial
  | .int _, _ => trivial
  | .str x, h => of_decide_eq_true (p := x.cps.size ≤ 1000) h
  | .list ds, h => by
    obtain ⟨h1, h2⟩ := Bool.and_eq_true_iff.mp (show (decide (ds.length ≤ 1000) && okzBs ds) = true from h)
    exact ⟨of_decide_eq_true h1, okzBs_ok h2⟩
  | .tuple ds, h => by
    obtain ⟨h1, h2⟩ := Bool.and_eq_true_iff.mp (show (decide (ds.length ≤ 1000) && okzBs ds) = true from h)
    exact ⟨of_decide_eq_true h1, okzBs_ok h2⟩
  | .dict _, _ => trivial
theorem okzBs_ok : ∀ {ds : List PyData}, okzBs ds = true → okzAll ds
  | [], _ => trivial
  | d :: ds, h => by
    obtain ⟨h1, h2⟩ := Bool.and_eq_true_iff.mp (show (okzB d && okzBs ds) = true from h)
    exact ⟨okzB_ok h1, okzBs_ok h2⟩
end
theorem hand_okz : okzAll (fineD ++ badD) := okzBs_ok (by decide +kernel)
theorem hand_due : (fineD ++ badD).map jobB ++ [jobB fine1] = dueB := by decide +kernel
theorem bools_all (H : Hp) : ∀ l : List Bool, DeAll H (l.map .bool) (l.map V.bl)
  | [] => rfl
  | b :: r => ⟨_, _, rfl, rfl, bools_all H r⟩
theorem okw_bools : ∀ l : List Bool, okwAll (l.map .bool)
  | [] => trivial
  | b :: r => ⟨trivial, okw_bools r⟩
theorem DeAll.head {H : Hp} {d : PyData} {v : V} {ds : List PyData} {vs : List V} (h : DeAll H (d :: ds) (v :: vs)) : De H d v := by
  obtain ⟨v', vs', e, h1, _⟩ := h
  cases e
  exact h1
theorem len_a (c : Nat) : (Str.ofString "a").length + (⟨#[c]⟩ : Str).length ≤ sizeLine := by
  have e : (Str.ofString "a").length = 1 := by decide +kernel
  rw [e]
  show 1 + 1 ≤ sizeLine
  decide
theorem len_b (c : Nat) : (Str.ofString "b").length + (⟨#[c]⟩ : Str).length ≤ sizeLine := by
  have e : (Str.ofString "b").length = 1 := by decide +kernel
  rw [e]
  show 1 + 1 ≤ sizeLine
  decide
theorem rd_c1 {r : List V → Hp → VK → Prop} {ta tr : TA} {σ : L2.St} {H : Hp} {Q : List V → Hp → Prop} (h : ta σ H fun xs H1 => r xs H1 fun x H2 => tr σ H2 fun ys H3 => Q (x :: ys) H3) : tCons (tCB r ta) tr σ H Q := h
theorem rd_c2 {te : TE} {tr : TA} {σ : L2.St} {H : Hp} {Q : List V → Hp → Prop} (h : te σ H fun x H1 => tr σ H1 fun xs H2 => Q (x :: xs) H2) : tCons te tr σ H Q := h
section
variable {P : Program} {w : World} {K : PySem.W.Frag} {mg : Str → Option Value} {base : Heap}
/-- the jobs by hand -/
def spHand : Sp := fun vs H Q _ => vs = [] ∧ ∀ H', Same H H' → Q (.bl true) H'
theorem ok_hand {f f1 f2 : Addr} {fd fd1 fd2 : FuncData} (F : Fun K "_law_hand_right" "_law_hand_right" s_law_hand_right f fd) (T : Txt K mg)
    (Gis_job : FnOk P w K mg base CX0 5 f1 fd1 ["thing"] (spAsk jobB)) (mis_job : mg "is_job" = some (.ref f1)) (kis_job : PySem.W.keepIn K (.ref f1) = true) (bis_job : Binds K fd1 ["thing"] []) (kbis_job : ByName K fd1 ["thing"] ["thing"] false)
    (G_law_same : FnOk P w K mg base CX0 4 f2 fd2 ["_law_got", "_law_due"] (spSame 4)) (m_law_same : mg "_law_same" = some (.ref f2)) (k_law_same : PySem.W.keepIn K (.ref f2) = true) (b_law_same : Binds K fd2 ["_law_got", "_law_due"] []) :
    FnOk P w K mg base CX0 6 f fd [] spHand := by
  refine F.ok sc_law_hand_right (fun vs H Q E h => ?_) (fun cdv A outer s H vs Q E hr h => ?_)
  · obtain ⟨rfl, _⟩ := h
    rfl
  · obtain ⟨rfl, k⟩ := h
    refine ⟨_, (pss_cons (ps_set (i := 0) sc_law_hand_right.nd rfl (Or.inl rfl) (pe_callTy (r := rTupF K) call_tupF (by rfl) T.b_tuple (by decide +kernel) (pa_cons (pe_op op_cat (pe_lc (own := [("_law_own", 4)]) (g := (gName 4)) (tt := tYes) rfl sc_law_hand_right.nd (pi_str pe_str) (blkOk_by (own := [("_law_own", 4)]) (N := ["_law_tags", "_law_fine", "_law_bad", "_law_got", "_law_own"]) (sc := defScope s_law_hand_right) (by decide +kernel)) (fun _ _ _ _ _ => (pg_name (i := 4) sc_law_hand_right.nd rfl (Or.inl rfl))) (fun _ _ _ _ _ => pts_nil) (fun _ _ _ _ _ => (pe_op op_add_str pe_str (pv 4)))) (pe_lc (own := [("_law_own", 4)]) (g := (gName 4)) (tt := tYes) rfl sc_law_hand_right.nd (pi_str pe_str) (blkOk_by (own := [("_law_own", 4)]) (N := ["_law_tags", "_law_fine", "_law_bad", "_law_got", "_law_own"]) (sc := defScope s_law_hand_right) (by decide +kernel)) (fun _ _ _ _ _ => (pg_name (i := 4) sc_law_hand_right.nd rfl (Or.inl rfl))) (fun _ _ _ _ _ => pts_nil) (fun _ _ _ _ _ => (pe_op op_add_str pe_str (pv 4))))) pa_nil)))
      (pss_cons (ps_set (i := 1) sc_law_hand_right.nd rfl (Or.inl rfl) (pe_lst (pa_cons (pe_tupF (pa_cons (pe_tupF (pa_cons pe_str pa_nil)) (pa_cons (pe_tupF pa_nil) pa_nil))) (pa_cons (pe_tupF (pa_cons (pe_tupF (pa_cons pe_str (pa_cons pe_str pa_nil))) (pa_cons (pe_tupF (pa_cons (pe_tupF (pa_cons pe_str (pa_cons pe_str pa_nil))) pa_nil)) pa_nil))) (pa_cons (pe_tupF (pa_cons (pe_tupF (pa_cons pe_str (pa_cons pe_str pa_nil))) (pa_cons (pe_tupF (pa_cons (pe_tupF (pa_cons pe_str (pa_cons pe_str pa_nil))) (pa_cons (pe_tupF (pa_cons pe_str (pa_cons pe_str pa_nil))) pa_nil))) pa_nil))) pa_nil)))))
      (pss_cons (ps_expr (pe_bm PySem.F.plainAttrs_list PySem.F.slot_list_append PySem.F.type_list_append mt_append (pv 1) (pa_cons (pe_tupF (pa_cons (pe_tupF (pa_cons pe_str (pa_cons pe_str pa_nil))) (pa_cons (pe_tupF (pa_cons (pe_tupF (pa_cons pe_str (pa_cons pe_str pa_nil))) (pa_cons (pe_tupF (pa_cons pe_str (pa_cons pe_str pa_nil))) pa_nil))) pa_nil))) pa_nil)))
      (pss_cons (ps_set (i := 1) sc_law_hand_right.nd rfl (Or.inl rfl) (pe_op op_cat (pv 1) (pe_lst (pa_cons (pe_tupF (pa_cons (pe_tupF (pa_cons pe_str (pa_cons pe_str pa_nil))) (pa_cons (pe_tupF (pa_cons (pe_tupF (pa_cons pe_str (pa_cons pe_non pa_nil))) (pa_cons (pe_tupF (pa_cons pe_str (pa_cons pe_non pa_nil))) pa_nil))) pa_nil))) (pa_cons (pe_tupF (pa_cons (pe_tupF (pa_cons pe_str pa_nil)) (pa_cons (pe_tupF (pa_cons (pe_tupF (pa_cons pe_str (pa_cons pe_str pa_nil))) pa_nil)) pa_nil))) pa_nil)))))
      (pss_cons (ps_expr (pe_bm PySem.F.plainAttrs_list PySem.F.slot_list_append PySem.F.type_list_append mt_append (pv 1) (pa_cons (pe_tupF (pa_cons (pv 0) (pa_cons (pe_callTy (r := rTupF K) call_tupF (by rfl) T.b_tuple (by decide +kernel) (pa_cons (pe_lc (own := [("_law_own", 4)]) (g := (gName 4)) (tt := tYes) rfl sc_law_hand_right.nd (pi_tup (pv 0)) (blkOk_by (own := [("_law_own", 4)]) (N := ["_law_tags", "_law_fine", "_law_bad", "_law_got", "_law_own"]) (sc := defScope s_law_hand_right) (by decide +kernel)) (fun _ _ _ _ _ => (pg_name (i := 4) sc_law_hand_right.nd rfl (Or.inl rfl))) (fun _ _ _ _ _ => pts_nil) (fun _ _ _ _ _ => (pe_tupF (pa_cons (pv 4) (pa_cons (pv 4) pa_nil))))) pa_nil)) pa_nil))) pa_nil)))
      (pss_cons (ps_set (i := 1) sc_law_hand_right.nd rfl (Or.inl rfl) (pe_op op_cat (pv 1) (pe_lst (pa_cons (pe_tupF (pa_cons (pe_tupF (pa_cons pe_str (pa_cons pe_str (pa_cons pe_str pa_nil)))) (pa_cons (pe_tupF (pa_cons (pe_tupF (pa_cons pe_str (pa_cons pe_str pa_nil))) (pa_cons (pe_tupF (pa_cons pe_str (pa_cons pe_non pa_nil))) pa_nil))) pa_nil))) (pa_cons (pe_tupF (pa_cons (pe_tupF (pa_cons pe_str (pa_cons pe_str (pa_cons pe_str pa_nil)))) (pa_cons (pe_tupF (pa_cons (pe_tupF (pa_cons pe_str (pa_cons pe_str pa_nil))) (pa_cons (pe_tupF (pa_cons pe_str (pa_cons pe_str pa_nil))) pa_nil))) pa_nil))) pa_nil)))))
      (pss_cons (ps_set (i := 2) sc_law_hand_right.nd rfl (Or.inl rfl) (pe_lst (pa_cons (pe_tupF (pa_cons (pe_tupF pa_nil) (pa_cons (pe_tupF pa_nil) pa_nil))) (pa_cons (pe_tupF (pa_cons (pe_tupF (pa_cons pe_str pa_nil)) pa_nil)) (pa_cons (pe_tupF (pa_cons (pe_tupF (pa_cons pe_str pa_nil)) (pa_cons (pe_tupF pa_nil) (pa_cons (pe_tupF pa_nil) pa_nil)))) (pa_cons (pe_tupF (pa_cons (pe_lst (pa_cons pe_str pa_nil)) (pa_cons (pe_tupF pa_nil) pa_nil))) (pa_cons (pe_tupF (pa_cons (pe_tupF (pa_cons pe_str pa_nil)) (pa_cons (pe_lst pa_nil) pa_nil))) (pa_cons (pe_lst (pa_cons (pe_tupF (pa_cons pe_str pa_nil)) (pa_cons (pe_tupF pa_nil) pa_nil))) (pa_cons (pe_tupF (pa_cons (pe_tupF (pa_cons pe_str (pa_cons pe_str pa_nil))) (pa_cons (pe_tupF pa_nil) pa_nil))) pa_nil)))))))))
      (pss_cons (ps_set (i := 2) sc_law_hand_right.nd rfl (Or.inl rfl) (pe_op op_cat (pv 2) (pe_lst (pa_cons (pe_tupF (pa_cons (pe_tupF (pa_cons pe_str (pa_cons pe_str pa_nil))) (pa_cons (pe_tupF pa_nil) pa_nil))) (pa_cons (pe_tupF (pa_cons (pe_tupF (pa_cons pe_str pa_nil)) (pa_cons (pe_tupF pa_nil) pa_nil))) (pa_cons (pe_tupF (pa_cons (pe_tupF (pa_cons pe_str pa_nil)) (pa_cons (pe_tupF pa_nil) pa_nil))) pa_nil))))))
      (pss_cons (ps_set (i := 2) sc_law_hand_right.nd rfl (Or.inl rfl) (pe_op op_cat (pv 2) (pe_lst (pa_cons (pe_tupF (pa_cons (pe_tupF (pa_cons pe_str pa_nil)) (pa_cons (pe_tupF pa_nil) pa_nil))) (pa_cons (pe_tupF (pa_cons (pe_tupF (pa_cons pe_str pa_nil)) (pa_cons (pe_tupF pa_nil) pa_nil))) (pa_cons (pe_tupF (pa_cons (pe_tupF (pa_cons pe_str (pa_cons pe_str pa_nil))) (pa_cons (pe_tupF (pa_cons (pe_tupF (pa_cons pe_str (pa_cons pe_str pa_nil))) pa_nil)) pa_nil))) (pa_cons (pe_tupF (pa_cons (pe_tupF (pa_cons pe_str (pa_cons pe_str pa_nil))) (pa_cons (pe_tupF (pa_cons (pe_tupF (pa_cons pe_str (pa_cons pe_str pa_nil))) pa_nil)) pa_nil))) pa_nil)))))))
      (pss_cons (ps_expr (pe_bm PySem.F.plainAttrs_list PySem.F.slot_list_append PySem.F.type_list_append mt_append (pv 2) (pa_cons (pe_tupF (pa_cons (pe_tupF (pa_cons pe_str (pa_cons pe_str pa_nil))) (pa_cons (pe_tupF (pa_cons (pe_tupF (pa_cons pe_str (pa_cons pe_str pa_nil))) (pa_cons (pe_tupF (pa_cons pe_str (pa_cons pe_str pa_nil))) pa_nil))) pa_nil))) pa_nil)))
      (pss_cons (ps_set (i := 2) sc_law_hand_right.nd rfl (Or.inl rfl) (pe_op op_cat (pv 2) (pe_lst (pa_cons (pe_tupF (pa_cons (pe_tupF (pa_cons pe_str (pa_cons pe_str pa_nil))) (pa_cons (pe_tupF (pa_cons (pe_tupF (pa_cons pe_str (pa_cons pe_str pa_nil))) (pa_cons (pe_tupF (pa_cons pe_str (pa_cons pe_str pa_nil))) pa_nil))) pa_nil))) (pa_cons (pe_tupF (pa_cons (pe_tupF (pa_cons pe_str (pa_cons pe_str pa_nil))) (pa_cons (pe_tupF (pa_cons (pe_tupF (pa_cons pe_str (pa_cons pe_str pa_nil))) (pa_cons (pe_tupF (pa_cons pe_str (pa_cons pe_str pa_nil))) pa_nil))) pa_nil))) pa_nil)))))
      (pss_cons (ps_set (i := 2) sc_law_hand_right.nd rfl (Or.inl rfl) (pe_op op_cat (pv 2) (pe_lst (pa_cons (pe_tupF (pa_cons (pe_tupF (pa_cons pe_str (pa_cons pe_str pa_nil))) (pa_cons (pe_tupF (pa_cons (pe_tupF (pa_cons pe_str pa_nil)) pa_nil)) pa_nil))) (pa_cons (pe_tupF (pa_cons (pe_tupF (pa_cons pe_str (pa_cons pe_str pa_nil))) (pa_cons (pe_tupF (pa_cons (pe_tupF (pa_cons pe_str (pa_cons pe_str (pa_cons pe_str pa_nil)))) pa_nil)) pa_nil))) pa_nil)))))
      (pss_cons (ps_set (i := 2) sc_law_hand_right.nd rfl (Or.inl rfl) (pe_op op_cat (pv 2) (pe_lst (pa_cons (pe_tupF (pa_cons (pe_tupF (pa_cons pe_str (pa_cons pe_str pa_nil))) (pa_cons (pe_tupF (pa_cons (pe_lst (pa_cons pe_str (pa_cons pe_str pa_nil))) pa_nil)) pa_nil))) (pa_cons (pe_tupF (pa_cons (pe_tupF (pa_cons pe_str (pa_cons pe_str pa_nil))) (pa_cons (pe_tupF (pa_cons pe_str pa_nil)) pa_nil))) (pa_cons (pe_tupF (pa_cons (pe_tupF (pa_cons pe_str (pa_cons pe_str pa_nil))) (pa_cons (pe_tupF (pa_cons (pe_tupF (pa_cons pe_non (pa_cons pe_str pa_nil))) pa_nil)) pa_nil))) pa_nil))))))
      (pss_cons (ps_set (i := 2) sc_law_hand_right.nd rfl (Or.inl rfl) (pe_op op_cat (pv 2) (pe_lst (pa_cons (pe_tupF (pa_cons (pe_tupF (pa_cons pe_str (pa_cons pe_str pa_nil))) (pa_cons (pe_tupF (pa_cons (pe_tupF (pa_cons pe_str (pa_cons pe_str pa_nil))) pa_nil)) pa_nil))) (pa_cons (pe_tupF (pa_cons (pe_tupF (pa_cons pe_str (pa_cons pe_str pa_nil))) (pa_cons (pe_tupF (pa_cons (pe_tupF (pa_cons pe_str (pa_cons pe_int pa_nil))) pa_nil)) pa_nil))) pa_nil)))))
      (pss_cons (ps_set (i := 2) sc_law_hand_right.nd rfl (Or.inl rfl) (pe_op op_cat (pv 2) (pe_lst (pa_cons pe_non (pa_cons pe_int (pa_cons pe_str (pa_cons pe_str (pa_cons pe_bl (pa_cons (pe_tupF pa_nil) (pa_cons (pe_tupF (pa_cons pe_str (pa_cons (pe_tupF pa_nil) pa_nil))) (pa_cons (pe_tupF (pa_cons (pe_tupF (pa_cons pe_str pa_nil)) (pa_cons pe_non pa_nil))) (pa_cons (pe_tupF (pa_cons pe_non (pa_cons (pe_tupF pa_nil) pa_nil))) (pa_cons (pe_tupF (pa_cons (pe_tupF (pa_cons pe_non pa_nil)) (pa_cons (pe_tupF pa_nil) pa_nil))) pa_nil)))))))))))))
      (pss_cons (ps_set (i := 2) sc_law_hand_right.nd rfl (Or.inl rfl) (pe_op op_cat (pv 2) (pe_lst (pa_cons (pe_tupF (pa_cons (pe_tupF (pa_cons pe_str (pa_cons pe_int pa_nil))) (pa_cons (pe_tupF pa_nil) pa_nil))) (pa_cons (pe_tupF (pa_cons (pe_tupF (pa_cons pe_str (pa_cons pe_str pa_nil))) (pa_cons (pe_tupF (pa_cons (pe_tupF (pa_cons pe_str (pa_cons pe_bl pa_nil))) pa_nil)) pa_nil))) (pa_cons (pe_tupF (pa_cons (pe_tupF (pa_cons pe_str (pa_cons pe_str pa_nil))) (pa_cons (pe_tupF (pa_cons (pe_tupF (pa_cons pe_str (pa_cons (pe_tupF (pa_cons pe_str pa_nil)) pa_nil))) pa_nil)) pa_nil))) pa_nil))))))
      (pss_cons (ps_set (i := 3) sc_law_hand_right.nd rfl (Or.inl rfl) (pe_op op_cat (pe_lc (own := [("_law_own", 4)]) (g := (gName 4)) (tt := tYes) rfl sc_law_hand_right.nd (pi_list (pe_op op_cat (pv 1) (pv 2))) (blkOk_by (own := [("_law_own", 4)]) (N := ["_law_tags", "_law_fine", "_law_bad", "_law_got", "_law_own"]) (sc := defScope s_law_hand_right) (by decide +kernel)) (fun _ _ _ _ _ => (pg_name (i := 4) sc_law_hand_right.nd rfl (Or.inl rfl))) (fun _ _ _ _ _ => pts_nil) (fun _ _ _ _ _ => (pe_call Gis_job (hr.mono (by decide)) rfl mis_job kis_job bis_job .nil pass0 (pa_cons (pv 4) pa_nil)))) (pe_lst (pa_cons (pe_byName Gis_job (hr.mono (by decide)) (by rfl) mis_job kis_job kbis_job pass0S (pk_cons (pe_ix (r := rIxL K) ix_list (pv 1) pe_int (fun _ _ => rfl)) pk_nil)) pa_nil))))
      (pss_one (ps_ret (pe_call G_law_same (hr.mono (by decide)) rfl m_law_same k_law_same b_law_same .nil pass0 (pa_cons (pv 3) (pa_cons (pe_op op_cat (pe_op op_cat (pe_op op_rep (pe_lst (pa_cons pe_bl pa_nil)) (pe_callB (r := rLn K) call_len_seq (by rfl) T.b_len (by decide +kernel) (pa_cons (pv 1) pa_nil))) (pe_op op_rep (pe_lst (pa_cons pe_bl pa_nil)) (pe_callB (r := rLn K) call_len_seq (by rfl) T.b_len (by decide +kernel) (pa_cons (pv 2) pa_nil)))) (pe_lst (pa_cons pe_bl pa_nil))) pa_nil)))))))))))))))))))))), ?_⟩
    refine ⟨_, rfl, fun D hD => lc_it (w := walk_str) (fun i H' => Same H H' ∧ H' D = some (.lst ((((Str.ofString "abcdefghijklmnopqrstuvwxyz").cps.toList.take i).map tagA).map V.str))) ⟨same_new hD, upd_same⟩ (fun _ _ _ _ => trivial) ?_ ?_⟩
    · rintro i x H1 _ hi ⟨s1, h1⟩ ⟨rfl, c, ec, rfl⟩
      refine ⟨rfl, _, rfl, _, _, rfl, rfl, len_a c, _, h1, ?_, fun b o e => ?_, ?_⟩
      · exact acc_small hi (by decide +kernel)
      · rw [upd_ne (ne_of_none e hD)]
        exact s1 _ _ e
      · rw [upd_same, List.take_add_one, show (Str.ofString "abcdefghijklmnopqrstuvwxyz").cps.toList[i]? = some c by simpa using ec, List.map_append, List.map_append]
        rfl
    · rintro J1 ⟨j1, i1⟩
      have i1' : J1 D = some (.lst (tagsA.map V.str)) := by
        rw [i1, List.take_of_length_le (by simp)]
        rfl
      refine ⟨_, rfl, fun D2 hD2 => lc_it (w := walk_str) (fun i H' => Same J1 H' ∧ H' D2 = some (.lst ((((Str.ofString "abcdefghijklmno").cps.toList.take i).map tagB).map V.str))) ⟨same_new hD2, upd_same⟩ (fun _ _ _ _ => trivial) ?_ ?_⟩
      · rintro i x H1 _ hi ⟨s1, h1⟩ ⟨rfl, c, ec, rfl⟩
        refine ⟨rfl, _, rfl, _, _, rfl, rfl, len_b c, _, h1, ?_, fun b o e => ?_, ?_⟩
        · exact acc_small hi (by decide +kernel)
        · rw [upd_ne (ne_of_none e hD2)]
          exact s1 _ _ e
        · rw [upd_same, List.take_add_one, show (Str.ofString "abcdefghijklmno").cps.toList[i]? = some c by simpa using ec, List.map_append, List.map_append]
          rfl
      · rintro J2 ⟨j2, i2⟩
        have i2' : J2 D2 = some (.lst (tagsB.map V.str)) := by
          rw [i2, List.take_of_length_le (by simp)]
          rfl
        refine ⟨D, D2, _, _, rfl, rfl, j2 _ _ i1', i2', Nat.le_trans (show _ ≤ 500 by rw [List.length_map, List.length_map]; decide +kernel) (by decide), fun p3 hp3 => ?_⟩
        have j3 := same_new (o := .lst (tagsA.map V.str ++ tagsB.map V.str)) hp3
        have g3 : L2.upd J2 p3 (.lst (tagsA.map V.str ++ tagsB.map V.str)) p3 = some (.lst (tagsAB.map V.str)) := by
          rw [upd_same, tagsAB, List.map_append]
        generalize L2.upd J2 p3 (.lst (tagsA.map V.str ++ tagsB.map V.str)) = J3 at j3 g3 ⊢
        refine ⟨p3, _, rfl, .inl ⟨SqL.of g3, fun pt ot hot npt => ?_⟩⟩
        have j4 := same_new (o := .frz ot (.tup (tagsAB.map V.str))) npt
        have ptg : PT (L2.upd J3 pt (.frz ot (.tup (tagsAB.map V.str)))) pt (tagsAB.map V.str) := ⟨ot, upd_same, hot⟩
        have htg : DeF H (L2.upd J3 pt (.frz ot (.tup (tagsAB.map V.str)))) (.tuple (tagsAB.map .str)) (.ref pt) := DeF.tup ptg ((j1.trans (j2.trans j3)).free npt) (fun H'' fr => strs_all _ _)
        have c0_1 := j1.trans (j2.trans (j3.trans j4))
        generalize L2.upd J3 pt (.frz ot (.tup (tagsAB.map V.str))) = H1 at ptg htg c0_1 ⊢
        try dsimp only [gName, tSeq, tAsg]
        refine ld_new (H0 := H) (ds := hd1) (lit_cons (lit_tup (lit_cons (lit_tup (lit_cons (lit_s _) lit_nil) (by decide)) (lit_cons (lit_tup lit_nil (by decide)) lit_nil)) (by decide)) (lit_cons (lit_tup (lit_cons (lit_tup (lit_cons (lit_s _) (lit_cons (lit_s _) lit_nil)) (by decide)) (lit_cons (lit_tup (lit_cons (lit_tup (lit_cons (lit_s _) (lit_cons (lit_s _) lit_nil)) (by decide)) lit_nil) (by decide)) lit_nil)) (by decide)) (lit_cons (lit_tup (lit_cons (lit_tup (lit_cons (lit_s _) (lit_cons (lit_s _) lit_nil)) (by decide)) (lit_cons (lit_tup (lit_cons (lit_tup (lit_cons (lit_s _) (lit_cons (lit_s _) lit_nil)) (by decide)) (lit_cons (lit_tup (lit_cons (lit_s _) (lit_cons (lit_s _) lit_nil)) (by decide)) lit_nil)) (by decide)) lit_nil)) (by decide)) lit_nil))) (by decide) c0_1 (fun p2 H2 n2 s2 l2 => ?_)
        have c0_2 := c0_1.trans s2
        have c1_2 : Same H1 H2 := s2
        obtain ⟨vs3, e3, z3, _⟩ := LD.data l2
        refine ⟨_, rfl, .inl ⟨rfl, _, SqL.of e3⟩, ?_⟩
        refine (lit_cons (lit_tup (lit_cons (lit_tup (lit_cons (lit_s _) (lit_cons (lit_s _) lit_nil)) (by decide)) (lit_cons (lit_tup (lit_cons (lit_tup (lit_cons (lit_s _) (lit_cons (lit_s _) lit_nil)) (by decide)) (lit_cons (lit_tup (lit_cons (lit_s _) (lit_cons (lit_s _) lit_nil)) (by decide)) lit_nil)) (by decide)) lit_nil)) (by decide)) lit_nil) _ _ _ (fun us3 G3 s3 d3 => ?_)
        obtain ⟨v3, r3, rfl, _, h3⟩ := d3.here
        cases (show r3 = [] from h3)
        refine ⟨p2, vs3, v3, rfl, rfl, s3 _ _ e3, Nat.lt_of_le_of_lt (show _ ≤ 500 by rw [z3]; decide +kernel) (by decide), ?_⟩
        have l3 := ld_more (d := .tuple [.tuple [.str "a", .str "b"], .tuple [.tuple [.str "a", .str "b"], .tuple [.str "b", .str "a"]]]) s3 l2 e3 (new_but c0_2 e3 fun H'' fr => (d3 H'' fr).head)
        have c0_3 : Same H (L2.upd G3 p2 (.lst (vs3 ++ [v3]))) := Same.over (c0_2.trans s3) (c0_1.free n2)
        have c1_3 : Same H1 (L2.upd G3 p2 (.lst (vs3 ++ [v3]))) := Same.over (c1_2.trans s3) n2
        generalize L2.upd G3 p2 (.lst (vs3 ++ [v3])) = H3 at l3 c0_3 c1_3 ⊢
        try dsimp only [gName, tSeq, tAsg]
        refine ld_cat (H0 := H) (es := hd3) (lit_cons (lit_tup (lit_cons (lit_tup (lit_cons (lit_s _) (lit_cons (lit_s _) lit_nil)) (by decide)) (lit_cons (lit_tup (lit_cons (lit_tup (lit_cons (lit_s _) (lit_cons lit_n lit_nil)) (by decide)) (lit_cons (lit_tup (lit_cons (lit_s _) (lit_cons lit_n lit_nil)) (by decide)) lit_nil)) (by decide)) lit_nil)) (by decide)) (lit_cons (lit_tup (lit_cons (lit_tup (lit_cons (lit_s _) lit_nil) (by decide)) (lit_cons (lit_tup (lit_cons (lit_tup (lit_cons (lit_s _) (lit_cons (lit_s _) lit_nil)) (by decide)) lit_nil) (by decide)) lit_nil)) (by decide)) lit_nil)) (by decide) (by decide +kernel) c0_3 l3 (fun R r => ⟨_, rfl, r⟩) (fun p4 H4 n4 s4 l4 => ?_)
        have c0_4 := c0_3.trans s4
        have c1_4 := c1_3.trans s4
        obtain ⟨vs5, e5, z5, _⟩ := LD.data l4
        refine ⟨_, rfl, .inl ⟨rfl, _, SqL.of e5⟩, ?_⟩
        refine ⟨_, rfl, ?_⟩
        refine rd_c1 (rd_c2 ?_)
        refine rd_lc tagsAB (fun x => some (.tuple [.str x, .str x])) (fun R r => ⟨_, rfl, r⟩) (ptg.keep c1_4) (List.length_map _) (by decide +kernel) (fun i hi x H' R ex sx _ hR => ?_) fun D G5 acc hD sD hacc hzD hde => ?_
        · cases (Option.some.inj (ex.symm.trans (str_at hi)))
          exact ⟨rfl, _, rfl, _, rfl, (by show 2 ≤ sizeLine; decide), fun p o ho hp => hR (.tuple [.str _, .str _]) (.ref p) _ rfl (same_new hp) (fun H'' fr => ⟨p, _, rfl, ⟨o, fr _ _ hp upd_same, ho⟩, _, _, rfl, rfl, _, _, rfl, rfl, rfl⟩)⟩
        refine ⟨D, acc, rfl, .inl ⟨SqL.of hacc, fun q1 o1 ho1 nq1 => ?_⟩⟩
        have t1 := same_new (o := .frz o1 (.tup acc)) nq1
        refine ⟨by show 2 ≤ sizeLine; decide, fun q2 o2 ho2 nq2 => ?_⟩
        have t2 := same_new (o := .frz o2 (.tup [.ref pt, .ref q1])) nq2
        have U := sD.trans (t1.trans t2)
        have nn1 : H4 q1 = none := sD.free nq1
        have nn2 : H4 q2 = none := (sD.trans t1).free nq2
        have w1 : q1 ≠ p4 := fun z => by rw [z, e5] at nn1; cases nn1
        have w2 : q2 ≠ p4 := fun z => by rw [z, e5] at nn2; cases nn2
        refine ⟨p4, vs5, .ref q2, rfl, rfl, U _ _ e5, Nat.lt_of_le_of_lt (show _ ≤ 500 by rw [z5]; decide +kernel) (by decide), ?_⟩
        have hsp : ∀ H'', FreshBut p4 H (L2.upd (L2.upd G5 q1 (.frz o1 (.tup acc))) q2 (.frz o2 (.tup [.ref pt, .ref q1]))) H'' → De H'' tagJob (.ref q2) := fun H'' fr => ⟨q2, _, rfl, ⟨o2, fr q2 _ w2 (c0_4.free nn2) upd_same, ho2⟩, .ref pt, _, rfl, old_but (c1_3.free n4) (c1_4.trans U) htg H'' fr, .ref q1, _, rfl, ⟨q1, acc, rfl, ⟨o1, fr q1 _ w1 (c0_4.free nn1) (t2 _ _ upd_same), ho1⟩, hde H'' fun b o nb e0 x => fr b o (fun z => by rw [z, e5] at e0; cases e0) (c0_4.free e0) ((t1.trans t2) _ _ x)⟩, rfl⟩
        have l5 := ld_more (d := tagJob) U l4 e5 hsp
        have c0_5 : Same H (L2.upd (L2.upd (L2.upd G5 q1 (.frz o1 (.tup acc))) q2 (.frz o2 (.tup [.ref pt, .ref q1]))) p4 (.lst (vs5 ++ [.ref q2]))) := Same.over (c0_4.trans U) (c0_3.free n4)
        have c1_5 : Same H1 (L2.upd (L2.upd (L2.upd G5 q1 (.frz o1 (.tup acc))) q2 (.frz o2 (.tup [.ref pt, .ref q1]))) p4 (.lst (vs5 ++ [.ref q2]))) := Same.over (c1_4.trans U) (c1_3.free n4)
        generalize L2.upd (L2.upd (L2.upd G5 q1 (.frz o1 (.tup acc))) q2 (.frz o2 (.tup [.ref pt, .ref q1]))) p4 (.lst (vs5 ++ [.ref q2])) = H5 at l5 c0_5 c1_5 ⊢
        try dsimp only [gName, tSeq, tAsg]
        refine ld_cat (H0 := H) (es := hd4) (lit_cons (lit_tup (lit_cons (lit_tup (lit_cons (lit_s _) (lit_cons (lit_s _) (lit_cons (lit_s _) lit_nil))) (by decide)) (lit_cons (lit_tup (lit_cons (lit_tup (lit_cons (lit_s _) (lit_cons (lit_s _) lit_nil)) (by decide)) (lit_cons (lit_tup (lit_cons (lit_s _) (lit_cons lit_n lit_nil)) (by decide)) lit_nil)) (by decide)) lit_nil)) (by decide)) (lit_cons (lit_tup (lit_cons (lit_tup (lit_cons (lit_s _) (lit_cons (lit_s _) (lit_cons (lit_s _) lit_nil))) (by decide)) (lit_cons (lit_tup (lit_cons (lit_tup (lit_cons (lit_s _) (lit_cons (lit_s _) lit_nil)) (by decide)) (lit_cons (lit_tup (lit_cons (lit_s _) (lit_cons (lit_s _) lit_nil)) (by decide)) lit_nil)) (by decide)) lit_nil)) (by decide)) lit_nil)) (by decide) (by decide +kernel) c0_5 l5 (fun R r => ⟨_, rfl, r⟩) (fun p6 H6 n6 s6 l6 => ?_)
        have c0_6 := c0_5.trans s6
        have c1_6 := c1_5.trans s6
        try dsimp only [gName, tSeq, tAsg]
        refine ld_new (H0 := H) (ds := hd5) (lit_cons (lit_tup (lit_cons (lit_tup lit_nil (by decide)) (lit_cons (lit_tup lit_nil (by decide)) lit_nil)) (by decide)) (lit_cons (lit_tup (lit_cons (lit_tup (lit_cons (lit_s _) lit_nil) (by decide)) lit_nil) (by decide)) (lit_cons (lit_tup (lit_cons (lit_tup (lit_cons (lit_s _) lit_nil) (by decide)) (lit_cons (lit_tup lit_nil (by decide)) (lit_cons (lit_tup lit_nil (by decide)) lit_nil))) (by decide)) (lit_cons (lit_tup (lit_cons (lit_lst (lit_cons (lit_s _) lit_nil) (by decide)) (lit_cons (lit_tup lit_nil (by decide)) lit_nil)) (by decide)) (lit_cons (lit_tup (lit_cons (lit_tup (lit_cons (lit_s _) lit_nil) (by decide)) (lit_cons (lit_lst lit_nil (by decide)) lit_nil)) (by decide)) (lit_cons (lit_lst (lit_cons (lit_tup (lit_cons (lit_s _) lit_nil) (by decide)) (lit_cons (lit_tup lit_nil (by decide)) lit_nil)) (by decide)) (lit_cons (lit_tup (lit_cons (lit_tup (lit_cons (lit_s _) (lit_cons (lit_s _) lit_nil)) (by decide)) (lit_cons (lit_tup lit_nil (by decide)) lit_nil)) (by decide)) lit_nil))))))) (by decide) c0_6 (fun p7 H7 n7 s7 l7 => ?_)
        have c0_7 := c0_6.trans s7
        have c1_7 := c1_6.trans s7
        have c6_7 : Same H6 H7 := s7
        try dsimp only [gName, tSeq, tAsg]
        refine ld_cat (H0 := H) (es := hd6) (lit_cons (lit_tup (lit_cons (lit_tup (lit_cons (lit_s _) (lit_cons (lit_s _) lit_nil)) (by decide)) (lit_cons (lit_tup lit_nil (by decide)) lit_nil)) (by decide)) (lit_cons (lit_tup (lit_cons (lit_tup (lit_cons (lit_s _) lit_nil) (by decide)) (lit_cons (lit_tup lit_nil (by decide)) lit_nil)) (by decide)) (lit_cons (lit_tup (lit_cons (lit_tup (lit_cons (lit_s _) lit_nil) (by decide)) (lit_cons (lit_tup lit_nil (by decide)) lit_nil)) (by decide)) lit_nil))) (by decide) (by decide +kernel) c0_7 l7 (fun R r => ⟨_, rfl, r⟩) (fun p8 H8 n8 s8 l8 => ?_)
        have c0_8 := c0_7.trans s8
        have c1_8 := c1_7.trans s8
        have c6_8 := c6_7.trans s8
        try dsimp only [gName, tSeq, tAsg]
        refine ld_cat (H0 := H) (es := hd7) (lit_cons (lit_tup (lit_cons (lit_tup (lit_cons (lit_s _) lit_nil) (by decide)) (lit_cons (lit_tup lit_nil (by decide)) lit_nil)) (by decide)) (lit_cons (lit_tup (lit_cons (lit_tup (lit_cons (lit_s _) lit_nil) (by decide)) (lit_cons (lit_tup lit_nil (by decide)) lit_nil)) (by decide)) (lit_cons (lit_tup (lit_cons (lit_tup (lit_cons (lit_s _) (lit_cons (lit_s _) lit_nil)) (by decide)) (lit_cons (lit_tup (lit_cons (lit_tup (lit_cons (lit_s _) (lit_cons (lit_s _) lit_nil)) (by decide)) lit_nil) (by decide)) lit_nil)) (by decide)) (lit_cons (lit_tup (lit_cons (lit_tup (lit_cons (lit_s _) (lit_cons (lit_s _) lit_nil)) (by decide)) (lit_cons (lit_tup (lit_cons (lit_tup (lit_cons (lit_s _) (lit_cons (lit_s _) lit_nil)) (by decide)) lit_nil) (by decide)) lit_nil)) (by decide)) lit_nil)))) (by decide) (by decide +kernel) c0_8 l8 (fun R r => ⟨_, rfl, r⟩) (fun p9 H9 n9 s9 l9 => ?_)
        have c0_9 := c0_8.trans s9
        have c1_9 := c1_8.trans s9
        have c6_9 := c6_8.trans s9
        obtain ⟨vs10, e10, z10, _⟩ := LD.data l9
        refine ⟨_, rfl, .inl ⟨rfl, _, SqL.of e10⟩, ?_⟩
        refine (lit_cons (lit_tup (lit_cons (lit_tup (lit_cons (lit_s _) (lit_cons (lit_s _) lit_nil)) (by decide)) (lit_cons (lit_tup (lit_cons (lit_tup (lit_cons (lit_s _) (lit_cons (lit_s _) lit_nil)) (by decide)) (lit_cons (lit_tup (lit_cons (lit_s _) (lit_cons (lit_s _) lit_nil)) (by decide)) lit_nil)) (by decide)) lit_nil)) (by decide)) lit_nil) _ _ _ (fun us10 G10 s10 d10 => ?_)
        obtain ⟨v10, r10, rfl, _, h10⟩ := d10.here
        cases (show r10 = [] from h10)
        refine ⟨p9, vs10, v10, rfl, rfl, s10 _ _ e10, Nat.lt_of_le_of_lt (show _ ≤ 500 by rw [z10]; decide +kernel) (by decide), ?_⟩
        have l10 := ld_more (d := .tuple [.tuple [.str "a", .str "b"], .tuple [.tuple [.str "a", .str "b"], .tuple [.str "b", .str "b"]]]) s10 l9 e10 (new_but c0_9 e10 fun H'' fr => (d10 H'' fr).head)
        have c0_10 : Same H (L2.upd G10 p9 (.lst (vs10 ++ [v10]))) := Same.over (c0_9.trans s10) (c0_8.free n9)
        have c1_10 : Same H1 (L2.upd G10 p9 (.lst (vs10 ++ [v10]))) := Same.over (c1_9.trans s10) (c1_8.free n9)
        have c6_10 : Same H6 (L2.upd G10 p9 (.lst (vs10 ++ [v10]))) := Same.over (c6_9.trans s10) (c6_8.free n9)
        generalize L2.upd G10 p9 (.lst (vs10 ++ [v10])) = H10 at l10 c0_10 c1_10 c6_10 ⊢
        try dsimp only [gName, tSeq, tAsg]
        refine ld_cat (H0 := H) (es := hd9) (lit_cons (lit_tup (lit_cons (lit_tup (lit_cons (lit_s _) (lit_cons (lit_s _) lit_nil)) (by decide)) (lit_cons (lit_tup (lit_cons (lit_tup (lit_cons (lit_s _) (lit_cons (lit_s _) lit_nil)) (by decide)) (lit_cons (lit_tup (lit_cons (lit_s _) (lit_cons (lit_s _) lit_nil)) (by decide)) lit_nil)) (by decide)) lit_nil)) (by decide)) (lit_cons (lit_tup (lit_cons (lit_tup (lit_cons (lit_s _) (lit_cons (lit_s _) lit_nil)) (by decide)) (lit_cons (lit_tup (lit_cons (lit_tup (lit_cons (lit_s _) (lit_cons (lit_s _) lit_nil)) (by decide)) (lit_cons (lit_tup (lit_cons (lit_s _) (lit_cons (lit_s _) lit_nil)) (by decide)) lit_nil)) (by decide)) lit_nil)) (by decide)) lit_nil)) (by decide) (by decide +kernel) c0_10 l10 (fun R r => ⟨_, rfl, r⟩) (fun p11 H11 n11 s11 l11 => ?_)
        have c0_11 := c0_10.trans s11
        have c1_11 := c1_10.trans s11
        have c6_11 := c6_10.trans s11
        try dsimp only [gName, tSeq, tAsg]
        refine ld_cat (H0 := H) (es := hd10) (lit_cons (lit_tup (lit_cons (lit_tup (lit_cons (lit_s _) (lit_cons (lit_s _) lit_nil)) (by decide)) (lit_cons (lit_tup (lit_cons (lit_tup (lit_cons (lit_s _) lit_nil) (by decide)) lit_nil) (by decide)) lit_nil)) (by decide)) (lit_cons (lit_tup (lit_cons (lit_tup (lit_cons (lit_s _) (lit_cons (lit_s _) lit_nil)) (by decide)) (lit_cons (lit_tup (lit_cons (lit_tup (lit_cons (lit_s _) (lit_cons (lit_s _) (lit_cons (lit_s _) lit_nil))) (by decide)) lit_nil) (by decide)) lit_nil)) (by decide)) lit_nil)) (by decide) (by decide +kernel) c0_11 l11 (fun R r => ⟨_, rfl, r⟩) (fun p12 H12 n12 s12 l12 => ?_)
        have c0_12 := c0_11.trans s12
        have c1_12 := c1_11.trans s12
        have c6_12 := c6_11.trans s12
        try dsimp only [gName, tSeq, tAsg]
        refine ld_cat (H0 := H) (es := hd11) (lit_cons (lit_tup (lit_cons (lit_tup (lit_cons (lit_s _) (lit_cons (lit_s _) lit_nil)) (by decide)) (lit_cons (lit_tup (lit_cons (lit_lst (lit_cons (lit_s _) (lit_cons (lit_s _) lit_nil)) (by decide)) lit_nil) (by decide)) lit_nil)) (by decide)) (lit_cons (lit_tup (lit_cons (lit_tup (lit_cons (lit_s _) (lit_cons (lit_s _) lit_nil)) (by decide)) (lit_cons (lit_tup (lit_cons (lit_s _) lit_nil) (by decide)) lit_nil)) (by decide)) (lit_cons (lit_tup (lit_cons (lit_tup (lit_cons (lit_s _) (lit_cons (lit_s _) lit_nil)) (by decide)) (lit_cons (lit_tup (lit_cons (lit_tup (lit_cons lit_n (lit_cons (lit_s _) lit_nil)) (by decide)) lit_nil) (by decide)) lit_nil)) (by decide)) lit_nil))) (by decide) (by decide +kernel) c0_12 l12 (fun R r => ⟨_, rfl, r⟩) (fun p13 H13 n13 s13 l13 => ?_)
        have c0_13 := c0_12.trans s13
        have c1_13 := c1_12.trans s13
        have c6_13 := c6_12.trans s13
        try dsimp only [gName, tSeq, tAsg]
        refine ld_cat (H0 := H) (es := hd12) (lit_cons (lit_tup (lit_cons (lit_tup (lit_cons (lit_s _) (lit_cons (lit_s _) lit_nil)) (by decide)) (lit_cons (lit_tup (lit_cons (lit_tup (lit_cons (lit_s _) (lit_cons (lit_s _) lit_nil)) (by decide)) lit_nil) (by decide)) lit_nil)) (by decide)) (lit_cons (lit_tup (lit_cons (lit_tup (lit_cons (lit_s _) (lit_cons (lit_s _) lit_nil)) (by decide)) (lit_cons (lit_tup (lit_cons (lit_tup (lit_cons (lit_s _) (lit_cons (lit_i _) lit_nil)) (by decide)) lit_nil) (by decide)) lit_nil)) (by decide)) lit_nil)) (by decide) (by decide +kernel) c0_13 l13 (fun R r => ⟨_, rfl, r⟩) (fun p14 H14 n14 s14 l14 => ?_)
        have c0_14 := c0_13.trans s14
        have c1_14 := c1_13.trans s14
        have c6_14 := c6_13.trans s14
        try dsimp only [gName, tSeq, tAsg]
        refine ld_cat (H0 := H) (es := hd13) (lit_cons lit_n (lit_cons (lit_i _) (lit_cons (lit_s _) (lit_cons (lit_s _) (lit_cons (lit_b _) (lit_cons (lit_tup lit_nil (by decide)) (lit_cons (lit_tup (lit_cons (lit_s _) (lit_cons (lit_tup lit_nil (by decide)) lit_nil)) (by decide)) (lit_cons (lit_tup (lit_cons (lit_tup (lit_cons (lit_s _) lit_nil) (by decide)) (lit_cons lit_n lit_nil)) (by decide)) (lit_cons (lit_tup (lit_cons lit_n (lit_cons (lit_tup lit_nil (by decide)) lit_nil)) (by decide)) (lit_cons (lit_tup (lit_cons (lit_tup (lit_cons lit_n lit_nil) (by decide)) (lit_cons (lit_tup lit_nil (by decide)) lit_nil)) (by decide)) lit_nil)))))))))) (by decide) (by decide +kernel) c0_14 l14 (fun R r => ⟨_, rfl, r⟩) (fun p15 H15 n15 s15 l15 => ?_)
        have c0_15 := c0_14.trans s15
        have c1_15 := c1_14.trans s15
        have c6_15 := c6_14.trans s15
        try dsimp only [gName, tSeq, tAsg]
        refine ld_cat (H0 := H) (es := hd14) (lit_cons (lit_tup (lit_cons (lit_tup (lit_cons (lit_s _) (lit_cons (lit_i _) lit_nil)) (by decide)) (lit_cons (lit_tup lit_nil (by decide)) lit_nil)) (by decide)) (lit_cons (lit_tup (lit_cons (lit_tup (lit_cons (lit_s _) (lit_cons (lit_s _) lit_nil)) (by decide)) (lit_cons (lit_tup (lit_cons (lit_tup (lit_cons (lit_s _) (lit_cons (lit_b _) lit_nil)) (by decide)) lit_nil) (by decide)) lit_nil)) (by decide)) (lit_cons (lit_tup (lit_cons (lit_tup (lit_cons (lit_s _) (lit_cons (lit_s _) lit_nil)) (by decide)) (lit_cons (lit_tup (lit_cons (lit_tup (lit_cons (lit_s _) (lit_cons (lit_tup (lit_cons (lit_s _) lit_nil) (by decide)) lit_nil)) (by decide)) lit_nil) (by decide)) lit_nil)) (by decide)) lit_nil))) (by decide) (by decide +kernel) c0_15 l15 (fun R r => ⟨_, rfl, r⟩) (fun p16 H16 n16 s16 l16 => ?_)
        have c0_16 := c0_15.trans s16
        have c1_16 := c1_15.trans s16
        have c6_16 := c6_15.trans s16
        have kF := LD.keep c6_16 l6
        obtain ⟨vf, ef, zf, df⟩ := LD.data kF
        obtain ⟨vb, eb, zb, db⟩ := LD.data l16
        have zf9 : vf.length = 9 := zf.trans (by decide +kernel)
        have zbN : vb.length = 37 := zb.trans (by decide +kernel)
        have hv1 : vf[1]? = some vf[1] := List.getElem?_eq_getElem (by omega)
        have hf1 : De H16 fine1 vf[1] := df.uniq hv1 (by rfl)
        try dsimp only [gName, tSeq, tAsg, tOp]
        refine rd_askL (xs := vf ++ vb) (ds := fineD ++ badD) jobB (by decide +kernel) (fun R r => ⟨_, rfl, _, rfl, p6, p16, vf, vb, rfl, rfl, ef, eb, Nat.le_trans (show _ ≤ 500 by omega) (by decide), fun p hp => r p _ (same_new hp) upd_same (DeAll.keep (same_new hp) _ _ (DeAll.app df db))⟩) (fun i hi x H' R hx sx hR => ⟨rfl, _, rfl, _, x, rfl, hx, okzAll_at hand_okz (List.getElem?_eq_getElem hi), fun H4 s4 => hR H4 s4⟩) fun D H17 s17 hD => ?_
        refine ⟨_, rfl, p6, vf, 1, _, rfl, rfl, SqL.of (s17 _ _ ef), L2.at_of (j := 1) rfl hv1, fine1, _, rfl, De.keep s17 _ _ hf1, okzAll_at hand_okz (i := 1) (by rfl), fun H18 s18 => ⟨by show 1 ≤ sizeLine; decide, fun r1 nr1 => ?_⟩⟩
        have s19 := same_new (o := .lst [.bl (jobB fine1)]) nr1
        refine ⟨D, r1, _, _, rfl, rfl, (s18.trans s19) _ _ hD, upd_same, Nat.le_trans (show _ ≤ 500 by rw [List.length_map, List.length_map]; decide +kernel) (by decide), fun r2 nr2 => ?_⟩
        have s20 := same_new (o := .lst (((fineD ++ badD).map jobB).map V.bl ++ [.bl (jobB fine1)])) nr2
        have g20 : L2.upd (L2.upd H18 r1 (.lst [.bl (jobB fine1)])) r2 (.lst (((fineD ++ badD).map jobB).map V.bl ++ [.bl (jobB fine1)])) r2 = some (.lst (dueB.map V.bl)) := by
          rw [upd_same, ← hand_due, List.map_append]
          rfl
        have S20 := s17.trans (s18.trans (s19.trans s20))
        generalize L2.upd (L2.upd H18 r1 (.lst [.bl (jobB fine1)])) r2 (.lst (((fineD ++ badD).map jobB).map V.bl ++ [.bl (jobB fine1)])) = H20 at S20 g20 ⊢
        refine ⟨_, rfl, (by show 1 ≤ sizeLine; decide), fun a1 n1 => ⟨_, rfl, p6, vf, rfl, .inl (SqL.of ((same_new n1) _ _ (S20 _ _ ef))), a1, (vf.length : Nat), [.bl true], rfl, rfl, upd_same, by rw [zf9]; decide, by rw [zf9]; decide, by rw [zf9]; decide, fun a2 n2 => ?_⟩⟩
        rw [zf9]
        have t1 := same_new (o := .lst [.bl true]) n1
        have t2 := same_new (o := .lst (List.replicate ((9 : Nat) : Int).toNat [V.bl true]).flatten) n2
        have T2 := t1.trans t2
        have g2 : L2.upd (L2.upd H20 a1 (.lst [.bl true])) a2 (.lst (List.replicate ((9 : Nat) : Int).toNat [V.bl true]).flatten) a2 = some (.lst ((List.replicate 9 true).map V.bl)) := upd_same
        generalize L2.upd (L2.upd H20 a1 (.lst [.bl true])) a2 (.lst (List.replicate ((9 : Nat) : Int).toNat [V.bl true]).flatten) = H22 at T2 g2 ⊢
        have S22 := S20.trans T2
        refine ⟨(by show 1 ≤ sizeLine; decide), fun a3 n3 => ⟨_, rfl, p16, vb, rfl, .inl (SqL.of ((same_new n3) _ _ (S22 _ _ eb))), a3, (vb.length : Nat), [.bl false], rfl, rfl, upd_same, by rw [zbN]; decide, by rw [zbN]; decide, by rw [zbN]; decide, fun a4 n4 => ?_⟩⟩
        rw [zbN]
        have t3 := same_new (o := .lst [.bl false]) n3
        have t4 := same_new (o := .lst (List.replicate ((37 : Nat) : Int).toNat [V.bl false]).flatten) n4
        have T4 := t3.trans t4
        have g4 : L2.upd (L2.upd H22 a3 (.lst [.bl false])) a4 (.lst (List.replicate ((37 : Nat) : Int).toNat [V.bl false]).flatten) a4 = some (.lst ((List.replicate 37 false).map V.bl)) := upd_same
        generalize L2.upd (L2.upd H22 a3 (.lst [.bl false])) a4 (.lst (List.replicate ((37 : Nat) : Int).toNat [V.bl false]).flatten) = H24 at T4 g4 ⊢
        refine ⟨a2, a4, _, _, rfl, rfl, T4 _ _ g2, g4, Nat.le_trans (show _ ≤ 500 by decide +kernel) (by decide), fun a5 n5 => ?_⟩
        have t5 := same_new (o := .lst ((List.replicate 9 true).map V.bl ++ (List.replicate 37 false).map V.bl)) n5
        have g5 : L2.upd H24 a5 (.lst ((List.replicate 9 true).map V.bl ++ (List.replicate 37 false).map V.bl)) a5 = some (.lst ((List.replicate 9 true).map V.bl ++ (List.replicate 37 false).map V.bl)) := upd_same
        generalize L2.upd H24 a5 (.lst ((List.replicate 9 true).map V.bl ++ (List.replicate 37 false).map V.bl)) = H25 at t5 g5 ⊢
        refine ⟨(by show 1 ≤ sizeLine; decide), fun a6 n6 => ?_⟩
        have t6 := same_new (o := .lst [.bl true]) n6
        refine ⟨a5, a6, _, _, rfl, rfl, t6 _ _ g5, upd_same, Nat.le_trans (show _ ≤ 500 by decide +kernel) (by decide), fun a7 n7 => ?_⟩
        have t7 := same_new (o := .lst ((List.replicate 9 true).map V.bl ++ (List.replicate 37 false).map V.bl ++ [.bl true])) n7
        have T7 := T2.trans (T4.trans (t5.trans (t6.trans t7)))
        refine ⟨.list (dueB.map .bool), .ref r2, .ref a7, rfl, ⟨r2, _, rfl, T7 _ _ g20, bools_all _ _⟩, ⟨a7, dueB.map V.bl, rfl, ?_, bools_all _ _⟩, by decide +kernel, ⟨by decide +kernel, okw_bools _⟩, fun H30 s30 => k H30 ((c0_16.trans S20).trans (T7.trans s30))⟩
        rw [upd_same]
        rfl
end
end Nal

namespace Nal
open PySem L2 RZ PyProof.Rows
abbrev slaw : Stmt := topS 26
abbrev Nlaw : List Str := ["_law_script", "_law_cells_here", "_law_k"]
abbrev Plaw : List Str := ["_law_script"]
theorem sclaw : FnScope ["_law_script", "_law_cells_here", "_law_k"] ["_law_script"] (defScope slaw) := ⟨rfl, rfl, rfl, by decide +kernel, rfl, by decide +kernel, by decide +kernel⟩
section
variable {P : Program} {w : World} {K : PySem.W.Frag} {mg : Str → Option Value} {base : Heap}
def spLaw (K : PySem.W.Frag) : Sp := fun vs H Q _ => ∃ (a : Addr) (ns : List Int), vs = [.ref a] ∧ SqL K H a (ns.map V.int) ∧ ∀ H', Q (.bl true) H'
theorem ok_law {f f1 f2 f3 f4 : Addr} {fd fd1 fd2 fd3 fd4 : FuncData} (F : Fun K "law" "law" slaw f fd) (T : Txt K mg)
    (G_law_hand_right : FnOk P w K mg base CX0 6 f1 fd1 [] spHand) (m_law_hand_right : mg "_law_hand_right" = some (.ref f1)) (k_law_hand_right : PySem.W.keepIn K (.ref f1) = true) (b_law_hand_right : Binds K fd1 [] [])
    (G_law_cells : FnOk P w K mg base CX0 1 f2 fd2 ["_law_script", "_law_most"] (spCells K)) (m_law_cells : mg "_law_cells" = some (.ref f2)) (k_law_cells : PySem.W.keepIn K (.ref f2) = true) (b_law_cells : Binds K fd2 ["_law_script", "_law_most"] [])
    (G_law_box : FnOk P w K mg base CX0 1 f3 fd3 ["_law_script", "_law_k"] (spBox K)) (m_law_box : mg "_law_box" = some (.ref f3)) (k_law_box : PySem.W.keepIn K (.ref f3) = true) (b_law_box : Binds K fd3 ["_law_script", "_law_k"] [])
    (G_law_right : FnOk P w K mg base CX0 9 f4 fd4 ["_law_tin"] spRight) (m_law_right : mg "_law_right" = some (.ref f4)) (k_law_right : PySem.W.keepIn K (.ref f4) = true) (b_law_right : Binds K fd4 ["_law_tin"] []) :
    FnOk P w K mg base CX0 10 f fd ["_law_script"] (spLaw K) := by
  refine F.ok sclaw (fun vs H Q E h => ?_) (fun cdv A outer s H vs Q E hr h => ?_)
  · obtain ⟨a, ns, rfl, _⟩ := h
    rfl
  · obtain ⟨a, ns, rfl, hS, k⟩ := h
    refine ⟨_, (pss_cons (ps_if (pt_not (pt_val (pe_call0 G_law_hand_right (hr.mono (by decide)) rfl m_law_hand_right k_law_hand_right b_law_hand_right .nil pass0))) (pss_one (ps_ret pe_bl)) pss_nil)
      (pss_cons (ps_set (i := 1) sclaw.nd rfl (Or.inr rfl) (pe_call G_law_cells (hr.mono (by decide)) rfl m_law_cells k_law_cells b_law_cells .nil pass0 (pa_cons (pv 0) (pa_cons pe_int pa_nil))))
      (pss_one (ps_ret (pe_callB (r := rAll K) (cr_all rfl) (by rfl) T.b_all (by decide +kernel) (pa_cons (pe_lc (own := [("_law_k", 2)]) (g := (gName 2)) (tt := tYes) rfl sclaw.nd (pi_range1 (by rfl) T.b_range (pa_cons (pe_callB (r := rLn K) call_len_seq (by rfl) T.b_len (by decide +kernel) (pa_cons (pv 1) pa_nil)) pa_nil)) (blkOk_by (own := [("_law_k", 2)]) (N := ["_law_script", "_law_cells_here", "_law_k"]) (sc := defScope slaw) (by decide +kernel)) (fun _ _ _ _ _ => (pg_name (i := 2) sclaw.nd rfl (Or.inl rfl))) (fun _ _ _ _ _ => pts_nil) (fun _ _ _ _ _ => (pe_call G_law_right (hr.mono (by decide)) rfl m_law_right k_law_right b_law_right .nil pass0 (pa_cons (pe_call G_law_box (hr.mono (by decide)) rfl m_law_box k_law_box b_law_box .nil pass0 (pa_cons (pv 1) (pa_cons (pv 2) pa_nil))) pa_nil)))) pa_nil)))))), ?_⟩
    refine ⟨rfl, fun H1 s1 => ?_⟩
    refine ⟨true, rfl, ite2 (fun c => nomatch c) (fun _ => ?_)⟩
    refine ⟨_, rfl, a, ns, rfl, s1.seq hS, fun p H2 ms hp s2 h2 lm => ?_⟩
    have ln : (ms.map V.int).length = ms.length := List.length_map _
    refine ⟨_, rfl, p, _, rfl, .inl (SqL.of h2), _, rfl, (by omega), (by rw [ln]; omega), fun D hD => lc_it (w := walk_range (lo := 0) (n := (ms.map V.int).length)) (fun i H' => Same H2 H' ∧ H' D = some (.lst ((List.replicate i true).map V.bl))) ⟨same_new hD, upd_same⟩ (fun _ _ _ _ => trivial) ?_ ?_⟩
    · rintro i x _ H3 hi ⟨s3, h3⟩ ⟨rfl, rfl⟩
      refine ⟨rfl, _, rfl, _, rfl, p, ms, i, (by show [V.ref p, V.int (0 + (i : Int))] = [V.ref p, V.int (i : Int)]; rw [Int.zero_add]), SqL.of (s3 _ _ h2), (by omega), fun t H4 nt s4 T4 => ?_⟩
      refine ⟨t, 0, rfl, T4, (by decide), fun H5 s5 => ?_⟩
      have sb : ∀ b o, H3 b = some o → H5 b = some o := fun b o e => s5 b o (ne_of_none e nt) (s4 _ _ e)
      refine ⟨_, sb _ _ h3, Nat.lt_of_le_of_lt (show _ ≤ 1000 by rw [List.length_map, List.length_replicate]; omega) (by decide), fun b o e => ?_, ?_⟩
      · rw [upd_ne (ne_of_none e hD)]
        exact sb _ _ (s3 _ _ e)
      · rw [upd_same, List.replicate_succ', List.map_append]
        rfl
    · rintro H3 ⟨s3, h3⟩
      refine ⟨D, _, rfl, SqL.of h3, ?_⟩
      rw [all_true]
      exact k H3
end
end Nal

namespace Nal
open PySem L2 RZ PyProof.Rows
/-- what the top has written, and what follows of it -/
theorem all_mk {l : PySem.W.OpenLaw} {w : World} {K : PySem.W.Frag} {h : Heap} {mg : Str → Option Value} {fa f0 f1 f2 f3 f4 f5 f6 f7 f8 f9 f10 f11 f12 f13 f14 f15 f16 f17 f18 f19 f20 f21 : Addr} {tkL tkN : Tok} (X : K.In h) (G : h.Ns mainGlobals mg) (hfa : mg "law" = some (.ref fa))
    {od0 an0 od1 an1 od2 an2 od3 an3 od4 an4 od5 an5 od6 an6 od7 an7 od8 an8 od9 an9 od10 an10 od11 an11 od12 an12 od13 an13 od14 an14 od15 an15 od16 an16 od17 an17 od18 an18 od19 an19 od20 an20 od21 an21 : Option Addr} {sl0 sl1 sl2 sl3 sl4 sl5 sl6 sl7 sl8 sl9 sl10 sl11 sl12 sl13 sl14 sl15 sl16 sl17 sl18 sl19 sl20 sl21 : Array (Option Value)}
    {oc0 kV0 dc0 pm0 cd0 ct0 oc1 kV1 dc1 pm1 cd1 ct1 oc2 kV2 dc2 pm2 cd2 ct2 oc3 kV3 dc3 pm3 cd3 ct3 oc4 kV4 dc4 pm4 cd4 ct4 oc5 kV5 dc5 pm5 cd5 ct5 oc6 kV6 dc6 pm6 cd6 ct6 oc7 kV7 dc7 pm7 cd7 ct7 oc8 kV8 dc8 pm8 cd8 ct8 oc9 kV9 dc9 pm9 cd9 ct9 oc10 kV10 dc10 pm10 cd10 ct10 oc11 kV11 dc11 pm11 cd11 ct11 oc12 kV12 dc12 pm12 cd12 ct12 oc13 kV13 dc13 pm13 cd13 ct13 oc14 kV14 dc14 pm14 cd14 ct14 oc15 kV15 dc15 pm15 cd15 ct15 oc16 kV16 dc16 pm16 cd16 ct16 oc17 kV17 dc17 pm17 cd17 ct17 oc18 kV18 dc18 pm18 cd18 ct18 oc19 kV19 dc19 pm19 cd19 ct19 oc20 kV20 dc20 pm20 cd20 ct20 oc21 kV21 dc21 pm21 cd21 ct21 : Value}
    (a0 : PySem.W.nsIn K mainGlobals "is_name" = some (some (.ref f0)))
    (l0 : K.lookup f0 = some ⟨oc0, od0, .func (PySem.W.fnOf "is_name" "is_name" (defArgs sis_name) (defBody sis_name) (defScope sis_name) .none kV0 dc0 pm0 an0 cd0 ct0), sl0⟩)
    (c0 : PySem.W.codeIn K cd0 "is_name" = true)
    (k0 : PySem.W.keepIn K (.ref f0) = true)
    (a1 : PySem.W.nsIn K mainGlobals "is_pair" = some (some (.ref f1)))
    (l1 : K.lookup f1 = some ⟨oc1, od1, .func (PySem.W.fnOf "is_pair" "is_pair" (defArgs sis_pair) (defBody sis_pair) (defScope sis_pair) .none kV1 dc1 pm1 an1 cd1 ct1), sl1⟩)
    (c1 : PySem.W.codeIn K cd1 "is_pair" = true)
    (k1 : PySem.W.keepIn K (.ref f1) = true)
    (a2 : PySem.W.nsIn K mainGlobals "is_ascending" = some (some (.ref f2)))
    (l2 : K.lookup f2 = some ⟨oc2, od2, .func (PySem.W.fnOf "is_ascending" "is_ascending" (defArgs sis_ascending) (defBody sis_ascending) (defScope sis_ascending) .none kV2 dc2 pm2 an2 cd2 ct2), sl2⟩)
    (c2 : PySem.W.codeIn K cd2 "is_ascending" = true)
    (k2 : PySem.W.keepIn K (.ref f2) = true)
    (a3 : PySem.W.nsIn K mainGlobals "are_different" = some (some (.ref f3)))
    (l3 : K.lookup f3 = some ⟨oc3, od3, .func (PySem.W.fnOf "are_different" "are_different" (defArgs sare_different) (defBody sare_different) (defScope sare_different) .none kV3 dc3 pm3 an3 cd3 ct3), sl3⟩)
    (c3 : PySem.W.codeIn K cd3 "are_different" = true)
    (k3 : PySem.W.keepIn K (.ref f3) = true)
    (a4 : PySem.W.nsIn K mainGlobals "is_name_set" = some (some (.ref f4)))
    (l4 : K.lookup f4 = some ⟨oc4, od4, .func (PySem.W.fnOf "is_name_set" "is_name_set" (defArgs sis_name_set) (defBody sis_name_set) (defScope sis_name_set) .none kV4 dc4 pm4 an4 cd4 ct4), sl4⟩)
    (c4 : PySem.W.codeIn K cd4 "is_name_set" = true)
    (k4 : PySem.W.keepIn K (.ref f4) = true)
    (a5 : PySem.W.nsIn K mainGlobals "is_name_pair" = some (some (.ref f5)))
    (l5 : K.lookup f5 = some ⟨oc5, od5, .func (PySem.W.fnOf "is_name_pair" "is_name_pair" (defArgs sis_name_pair) (defBody sis_name_pair) (defScope sis_name_pair) .none kV5 dc5 pm5 an5 cd5 ct5), sl5⟩)
    (c5 : PySem.W.codeIn K cd5 "is_name_pair" = true)
    (k5 : PySem.W.keepIn K (.ref f5) = true)
    (a6 : PySem.W.nsIn K mainGlobals "is_way" = some (some (.ref f6)))
    (l6 : K.lookup f6 = some ⟨oc6, od6, .func (PySem.W.fnOf "is_way" "is_way" (defArgs sis_way) (defBody sis_way) (defScope sis_way) .none kV6 dc6 pm6 an6 cd6 ct6), sl6⟩)
    (c6 : PySem.W.codeIn K cd6 "is_way" = true)
    (k6 : PySem.W.keepIn K (.ref f6) = true)
    (a7 : PySem.W.nsIn K mainGlobals "is_job" = some (some (.ref f7)))
    (l7 : K.lookup f7 = some ⟨oc7, od7, .func (PySem.W.fnOf "is_job" "is_job" (defArgs sis_job) (defBody sis_job) (defScope sis_job) .none kV7 dc7 pm7 an7 cd7 ct7), sl7⟩)
    (c7 : PySem.W.codeIn K cd7 "is_job" = true)
    (k7 : PySem.W.keepIn K (.ref f7) = true)
    (a8 : PySem.W.nsIn K mainGlobals "_is_goal" = some (some (.ref f8)))
    (l8 : K.lookup f8 = some ⟨oc8, od8, .func (PySem.W.fnOf "_is_goal" "_is_goal" (defArgs s_is_goal) (defBody s_is_goal) (defScope s_is_goal) .none kV8 dc8 pm8 an8 cd8 ct8), sl8⟩)
    (c8 : PySem.W.codeIn K cd8 "_is_goal" = true)
    (k8 : PySem.W.keepIn K (.ref f8) = true)
    (a9 : PySem.W.nsIn K mainGlobals "_law_box" = some (some (.ref f9)))
    (l9 : K.lookup f9 = some ⟨oc9, od9, .func (PySem.W.fnOf "_law_box" "_law_box" (defArgs s_law_box) (defBody s_law_box) (defScope s_law_box) .none kV9 dc9 pm9 an9 cd9 ct9), sl9⟩)
    (c9 : PySem.W.codeIn K cd9 "_law_box" = true)
    (k9 : PySem.W.keepIn K (.ref f9) = true)
    (a10 : PySem.W.nsIn K mainGlobals "_law_take" = some (some (.ref f10)))
    (l10 : K.lookup f10 = some ⟨oc10, od10, .func (PySem.W.fnOf "_law_take" "_law_take" (defArgs s_law_take) (defBody s_law_take) (defScope s_law_take) .none kV10 dc10 pm10 an10 cd10 ct10), sl10⟩)
    (c10 : PySem.W.codeIn K cd10 "_law_take" = true)
    (k10 : PySem.W.keepIn K (.ref f10) = true)
    (a11 : PySem.W.nsIn K mainGlobals "_law_cells" = some (some (.ref f11)))
    (l11 : K.lookup f11 = some ⟨oc11, od11, .func (PySem.W.fnOf "_law_cells" "_law_cells" (defArgs s_law_cells) (defBody s_law_cells) (defScope s_law_cells) .none kV11 dc11 pm11 an11 cd11 ct11), sl11⟩)
    (c11 : PySem.W.codeIn K cd11 "_law_cells" = true)
    (k11 : PySem.W.keepIn K (.ref f11) = true)
    (a12 : PySem.W.nsIn K mainGlobals "_law_of" = some (some (.ref f12)))
    (l12 : K.lookup f12 = some ⟨oc12, od12, .func (PySem.W.fnOf "_law_of" "_law_of" (defArgs s_law_of) (defBody s_law_of) (defScope s_law_of) .none kV12 dc12 pm12 an12 cd12 ct12), sl12⟩)
    (c12 : PySem.W.codeIn K cd12 "_law_of" = true)
    (k12 : PySem.W.keepIn K (.ref f12) = true)
    (a13 : PySem.W.nsIn K mainGlobals "_law_pick" = some (some (.ref f13)))
    (l13 : K.lookup f13 = some ⟨oc13, od13, .func (PySem.W.fnOf "_law_pick" "_law_pick" (defArgs s_law_pick) (defBody s_law_pick) (defScope s_law_pick) .none kV13 dc13 pm13 an13 cd13 ct13), sl13⟩)
    (c13 : PySem.W.codeIn K cd13 "_law_pick" = true)
    (k13 : PySem.W.keepIn K (.ref f13) = true)
    (a14 : PySem.W.nsIn K mainGlobals "_law_same" = some (some (.ref f14)))
    (l14 : K.lookup f14 = some ⟨oc14, od14, .func (PySem.W.fnOf "_law_same" "_law_same" (defArgs s_law_same) (defBody s_law_same) (defScope s_law_same) .none kV14 dc14 pm14 an14 cd14 ct14), sl14⟩)
    (c14 : PySem.W.codeIn K cd14 "_law_same" = true)
    (k14 : PySem.W.keepIn K (.ref f14) = true)
    (a15 : PySem.W.nsIn K mainGlobals "_law_task" = some (some (.ref f15)))
    (l15 : K.lookup f15 = some ⟨oc15, od15, .func (PySem.W.fnOf "_law_task" "_law_task" (defArgs s_law_task) (defBody s_law_task) (defScope s_law_task) .none kV15 dc15 pm15 an15 cd15 ct15), sl15⟩)
    (c15 : PySem.W.codeIn K cd15 "_law_task" = true)
    (k15 : PySem.W.keepIn K (.ref f15) = true)
    (a16 : PySem.W.nsIn K mainGlobals "_law_is_tag" = some (some (.ref f16)))
    (l16 : K.lookup f16 = some ⟨oc16, od16, .func (PySem.W.fnOf "_law_is_tag" "_law_is_tag" (defArgs s_law_is_tag) (defBody s_law_is_tag) (defScope s_law_is_tag) .none kV16 dc16 pm16 an16 cd16 ct16), sl16⟩)
    (c16 : PySem.W.codeIn K cd16 "_law_is_tag" = true)
    (k16 : PySem.W.keepIn K (.ref f16) = true)
    (a17 : PySem.W.nsIn K mainGlobals "_law_is_task" = some (some (.ref f17)))
    (l17 : K.lookup f17 = some ⟨oc17, od17, .func (PySem.W.fnOf "_law_is_task" "_law_is_task" (defArgs s_law_is_task) (defBody s_law_is_task) (defScope s_law_is_task) .none kV17 dc17 pm17 an17 cd17 ct17), sl17⟩)
    (c17 : PySem.W.codeIn K cd17 "_law_is_task" = true)
    (k17 : PySem.W.keepIn K (.ref f17) = true)
    (a18 : PySem.W.nsIn K mainGlobals "_law_spoilt" = some (some (.ref f18)))
    (l18 : K.lookup f18 = some ⟨oc18, od18, .func (PySem.W.fnOf "_law_spoilt" "_law_spoilt" (defArgs s_law_spoilt) (defBody s_law_spoilt) (defScope s_law_spoilt) .none kV18 dc18 pm18 an18 cd18 ct18), sl18⟩)
    (c18 : PySem.W.codeIn K cd18 "_law_spoilt" = true)
    (k18 : PySem.W.keepIn K (.ref f18) = true)
    (a19 : PySem.W.nsIn K mainGlobals "_law_hand_right" = some (some (.ref f19)))
    (l19 : K.lookup f19 = some ⟨oc19, od19, .func (PySem.W.fnOf "_law_hand_right" "_law_hand_right" (defArgs s_law_hand_right) (defBody s_law_hand_right) (defScope s_law_hand_right) .none kV19 dc19 pm19 an19 cd19 ct19), sl19⟩)
    (c19 : PySem.W.codeIn K cd19 "_law_hand_right" = true)
    (k19 : PySem.W.keepIn K (.ref f19) = true)
    (a20 : PySem.W.nsIn K mainGlobals "_law_right" = some (some (.ref f20)))
    (l20 : K.lookup f20 = some ⟨oc20, od20, .func (PySem.W.fnOf "_law_right" "_law_right" (defArgs s_law_right) (defBody s_law_right) (defScope s_law_right) .none kV20 dc20 pm20 an20 cd20 ct20), sl20⟩)
    (c20 : PySem.W.codeIn K cd20 "_law_right" = true)
    (k20 : PySem.W.keepIn K (.ref f20) = true)
    (a21 : PySem.W.nsIn K mainGlobals "law" = some (some (.ref f21)))
    (l21 : K.lookup f21 = some ⟨oc21, od21, .func (PySem.W.fnOf "law" "law" (defArgs slaw) (defBody slaw) (defScope slaw) .none kV21 dc21 pm21 an21 cd21 ct21), sl21⟩)
    (c21 : PySem.W.codeIn K cd21 "law" = true)
    (k21 : PySem.W.keepIn K (.ref f21) = true)
    (aLET : PySem.W.nsIn K mainGlobals "LETTERS" = some (some (.str "abcdefghijklmnopqrstuvwxyz" tkL)))
    (aLON : PySem.W.nsIn K mainGlobals "LONGEST_NAME" = some (some (.int 8 tkN)))
    (z_len : PySem.W.nsIn K mainGlobals "len" = some none)
    (z_abs : PySem.W.nsIn K mainGlobals "abs" = some none)
    (z_int : PySem.W.nsIn K mainGlobals "int" = some none)
    (z_list : PySem.W.nsIn K mainGlobals "list" = some none)
    (z_tuple : PySem.W.nsIn K mainGlobals "tuple" = some none)
    (z_dict : PySem.W.nsIn K mainGlobals "dict" = some none)
    (z_str : PySem.W.nsIn K mainGlobals "str" = some none)
    (z_bool : PySem.W.nsIn K mainGlobals "bool" = some none)
    (z_all : PySem.W.nsIn K mainGlobals "all" = some none)
    (z_min : PySem.W.nsIn K mainGlobals "min" = some none)
    (z_zip : PySem.W.nsIn K mainGlobals "zip" = some none)
    (z_range : PySem.W.nsIn K mainGlobals "range" = some none)
    (z_enumerate : PySem.W.nsIn K mainGlobals "enumerate" = some none)
    (z_sorted : PySem.W.nsIn K mainGlobals "sorted" = some none)
    (z_isinstance : PySem.W.nsIn K mainGlobals "isinstance" = some none)
    (z_set : PySem.W.nsIn K mainGlobals "set" = some none) :
    ∃ fd : FuncData, (∀ (s : Shared) (v : Value), BindsTo s fd ⟨[v], []⟩ [("_law_script", v)]) ∧ ∀ base : Heap, K.In base → base.Ns mainGlobals mg → FnOk l.prog w K mg base CX0 10 fa fd ["_law_script"] (spLaw K) := by
  have e := hfa.symm.trans (PySem.W.mg_of X G a21)
  cases e
  have T : Txt K mg := ⟨PySem.W.mg_none_of X G z_len, PySem.W.mg_none_of X G z_abs, PySem.W.mg_none_of X G z_int, PySem.W.mg_none_of X G z_list, PySem.W.mg_none_of X G z_tuple, PySem.W.mg_none_of X G z_dict, PySem.W.mg_none_of X G z_str, PySem.W.mg_none_of X G z_bool, PySem.W.mg_none_of X G z_all, PySem.W.mg_none_of X G z_min, PySem.W.mg_none_of X G z_zip, PySem.W.mg_none_of X G z_range, PySem.W.mg_none_of X G z_enumerate, PySem.W.mg_none_of X G z_sorted, PySem.W.mg_none_of X G z_isinstance⟩
  have b_set := PySem.W.mg_none_of X G z_set
  have F0 := fun_mk (st := sis_name) l0 c0 k0
  have b0 := F0.binds (ps := ["thing"]) fun _ _ _ _ _ _ us hl => match us, hl with | [_], _ => rfl
  have m0 := PySem.W.mg_of X G a0
  have F1 := fun_mk (st := sis_pair) l1 c1 k1
  have b1 := F1.binds (ps := ["thing"]) fun _ _ _ _ _ _ us hl => match us, hl with | [_], _ => rfl
  have m1 := PySem.W.mg_of X G a1
  have F2 := fun_mk (st := sis_ascending) l2 c2 k2
  have b2 := F2.binds (ps := ["row"]) fun _ _ _ _ _ _ us hl => match us, hl with | [_], _ => rfl
  have m2 := PySem.W.mg_of X G a2
  have F3 := fun_mk (st := sare_different) l3 c3 k3
  have b3 := F3.binds (ps := ["names"]) fun _ _ _ _ _ _ us hl => match us, hl with | [_], _ => rfl
  have m3 := PySem.W.mg_of X G a3
  have F4 := fun_mk (st := sis_name_set) l4 c4 k4
  have b4 := F4.binds (ps := ["thing"]) fun _ _ _ _ _ _ us hl => match us, hl with | [_], _ => rfl
  have m4 := PySem.W.mg_of X G a4
  have F5 := fun_mk (st := sis_name_pair) l5 c5 k5
  have b5 := F5.binds (ps := ["thing"]) fun _ _ _ _ _ _ us hl => match us, hl with | [_], _ => rfl
  have m5 := PySem.W.mg_of X G a5
  have F6 := fun_mk (st := sis_way) l6 c6 k6
  have b6 := F6.binds (ps := ["thing"]) fun _ _ _ _ _ _ us hl => match us, hl with | [_], _ => rfl
  have m6 := PySem.W.mg_of X G a6
  have F7 := fun_mk (st := sis_job) l7 c7 k7
  have b7 := F7.binds (ps := ["thing"]) fun _ _ _ _ _ _ us hl => match us, hl with | [_], _ => rfl
  have m7 := PySem.W.mg_of X G a7
  have F8 := fun_mk (st := s_is_goal) l8 c8 k8
  have b8 := F8.binds (ps := ["thing", "known"]) fun _ _ _ _ _ _ us hl => match us, hl with | [_, _], _ => rfl
  have m8 := PySem.W.mg_of X G a8
  have F9 := fun_mk (st := s_law_box) l9 c9 k9
  have b9 := F9.binds (ps := ["_law_script", "_law_k"]) fun _ _ _ _ _ _ us hl => match us, hl with | [_, _], _ => rfl
  have m9 := PySem.W.mg_of X G a9
  have F10 := fun_mk (st := s_law_take) l10 c10 k10
  have b10 := F10.binds (ps := ["_law_tin", "_law_top_so"]) fun _ _ _ _ _ _ us hl => match us, hl with | [_, _], _ => rfl
  have m10 := PySem.W.mg_of X G a10
  have F11 := fun_mk (st := s_law_cells) l11 c11 k11
  have b11 := F11.binds (ps := ["_law_script", "_law_most"]) fun _ _ _ _ _ _ us hl => match us, hl with | [_, _], _ => rfl
  have m11 := PySem.W.mg_of X G a11
  have F12 := fun_mk (st := s_law_of) l12 c12 k12
  have b12 := F12.binds (ps := ["_law_tin", "_law_some"]) fun _ _ _ _ _ _ us hl => match us, hl with | [_, _], _ => rfl
  have m12 := PySem.W.mg_of X G a12
  have F13 := fun_mk (st := s_law_pick) l13 c13 k13
  have b13 := F13.binds (ps := ["_law_tin", "_law_pool", "_law_size_so"]) fun _ _ _ _ _ _ us hl => match us, hl with | [_, _, _], _ => rfl
  have m13 := PySem.W.mg_of X G a13
  have F14 := fun_mk (st := s_law_same) l14 c14 k14
  have b14 := F14.binds (ps := ["_law_got", "_law_due"]) fun _ _ _ _ _ _ us hl => match us, hl with | [_, _], _ => rfl
  have m14 := PySem.W.mg_of X G a14
  have F15 := fun_mk (st := s_law_task) l15 c15 k15
  have b15 := F15.binds (ps := ["_law_tin", "_law_many", "_law_full"]) fun _ _ _ _ _ _ us hl => match us, hl with | [_, _, _], _ => rfl
  have m15 := PySem.W.mg_of X G a15
  have F16 := fun_mk (st := s_law_is_tag) l16 c16 k16
  have b16 := F16.binds (ps := ["_law_matter"]) fun _ _ _ _ _ _ us hl => match us, hl with | [_], _ => rfl
  have m16 := PySem.W.mg_of X G a16
  have F17 := fun_mk (st := s_law_is_task) l17 c17 k17
  have b17 := F17.binds (ps := ["_law_matter"]) fun _ _ _ _ _ _ us hl => match us, hl with | [_], _ => rfl
  have m17 := PySem.W.mg_of X G a17
  have F18 := fun_mk (st := s_law_spoilt) l18 c18 k18
  have b18 := F18.binds (ps := ["_law_tin", "_law_matter", "_law_levels"]) fun _ _ _ _ _ _ us hl => match us, hl with | [_, _, _], _ => rfl
  have m18 := PySem.W.mg_of X G a18
  have F19 := fun_mk (st := s_law_hand_right) l19 c19 k19
  have b19 := F19.binds (ps := []) fun _ _ _ _ _ _ us hl => match us, hl with | [], _ => rfl
  have m19 := PySem.W.mg_of X G a19
  have F20 := fun_mk (st := s_law_right) l20 c20 k20
  have b20 := F20.binds (ps := ["_law_tin"]) fun _ _ _ _ _ _ us hl => match us, hl with | [_], _ => rfl
  have m20 := PySem.W.mg_of X G a20
  have F21 := fun_mk (st := slaw) l21 c21 k21
  have kb7 : ByName K _ ["thing"] ["thing"] false := ⟨fun s ws _ hl => match ws, hl with | [_], _ => BindsTo.of_eq (fd := PySem.W.fnOf "is_job" "is_job" (defArgs sis_job) (defBody sis_job) (defScope sis_job) .none kV7 dc7 pm7 an7 cd7 ct7) rfl, rfl⟩
  refine ⟨PySem.W.fnOf "law" "law" (defArgs slaw) (defBody slaw) (defScope slaw) .none kV21 dc21 pm21 an21 cd21 ct21, fun s v => .of_eq rfl, fun base _ _ => ?_⟩
  have G1 := ok_is_name (P := l.prog) (w := w) (base := base) F0 T (PySem.W.mg_of X G aLET) ⟨tkL, rfl⟩ (PySem.W.mg_of X G aLON) ⟨tkN, rfl⟩
  have G2 := ok_is_pair (P := l.prog) (w := w) (base := base) F1 T
  have G3 := ok_asc (P := l.prog) (w := w) (base := base) F2 T
  have G4 := ok_diff (P := l.prog) (w := w) (base := base) F3 T b_set
  have G5 := ok_name_set (P := l.prog) (w := w) (base := base) F4 T G1 m0 k0 b0 G3 m2 k2 b2
  have G6 := ok_is_name_pair (P := l.prog) (w := w) (base := base) F5 T G2 m1 k1 b1 G1 m0 k0 b0
  have G7 := ok_is_way (P := l.prog) (w := w) (base := base) F6 T G2 m1 k1 b1 G1 m0 k0 b0 G6 m5 k5 b5
  have G8 := ok_goal (P := l.prog) (w := w) (base := base) F8 T G7 m6 k6 b6 G3 m2 k2 b2 G4 m3 k3 b3
  have G9 := ok_job (P := l.prog) (w := w) (base := base) F7 T G2 m1 k1 b1 G5 m4 k4 b4 G8 m8 k8 b8
  have GM := ok_same (P := l.prog) (w := w) (base := base) F14 T m14 k14 b14 4
  have GK := ok_take (P := l.prog) (w := w) (base := base) F10 T
  have GQ := ok_pick (P := l.prog) (w := w) (base := base) F13 T GK m10 k10 b10
  have GX := ok_box (P := l.prog) (w := w) (base := base) F9 T
  have GC := ok_cells (P := l.prog) (w := w) (base := base) F11 T
  have GA := ok_task (P := l.prog) (w := w) (base := base) F15 T GK m10 k10 b10 GQ m13 k13 b13
  have GO := ok_of (P := l.prog) (w := w) (base := base) F12 T GK m10 k10 b10
  have GT := ok_tag (P := l.prog) (w := w) (base := base) F16 T
  have GI := ok_is_task (P := l.prog) (w := w) (base := base) F17 T b_set GT m16 k16 b16
  have GS := ok_spoilt (P := l.prog) (w := w) (base := base) F18 T GK m10 k10 b10 GO m12 k12 b12 m18 k18 b18 5
  have GH := ok_hand (P := l.prog) (w := w) (base := base) F19 T G9 m7 k7 b7 kb7 GM m14 k14 b14
  have GR := ok_right (P := l.prog) (w := w) (base := base) F20 T GA m15 k15 b15 GK m10 k10 b10 GS m18 k18 b18 GM m14 k14 b14 G9 m7 k7 b7 GI m17 k17 b17
  exact ok_law F21 T GH m19 k19 b19 GC m11 k11 b11 GX m9 k9 b9 GR m20 k20 b20
theorem walk {l : PySem.W.OpenLaw} {q : Program} {loose : List Str} {XP : (Str → Option Value) → Heap → Prop} {YP : World → Heap → Prop} {d : DefRec} {K : Params → PySem.W.Frag} (hn : l.most = some 63) (hdf : d.params.defaults = [])
    (hY : ∀ (w : World) (h : Heap), YP w h → (K w.params).In h)
    (F : ∀ (w : World) (mg : Str → Option Value) (fa : Addr) (h : Heap), (K w.params).In h → h.Ns mainGlobals mg → mg d.name = some (.ref fa) →
      ∃ fd : FuncData, (∀ (s : Shared) (u : Value), BindsTo s fd ⟨[u], []⟩ [("_law_script", u)]) ∧ ∀ base : Heap, (K w.params).In base → base.Ns mainGlobals mg → FnOk l.prog w (K w.params) mg base CX0 10 fa fd ["_law_script"] (spLaw (K w.params))) :
    PySem.W.WalkO q loose XP YP l.row.toRowW d [] (fun f vs => PySem.call f vs) :=
  L2.walk_of (n := 63) (k := 10) (x := "_law_script") (CX := fun _ => CX0) (sp := fun w => spLaw (K w.params)) hn (by decide) hdf ⟨rfl, by decide, by decide⟩ hY F (fun _ _ a ns hl _ hS => ⟨a, ns, rfl, hS, fun _ => rfl⟩) fun _ _ _ _ _ z => z
end Nal

open PySem PySem.W PyProof.Rows in
set_option maxRecDepth 100000 in
set_option maxHeartbeats 0 in
theorem PySem.Challenge.cw_namesalone_k00_jobs_or_none_holds : PySem.Challenge.rw_namesalone_k00_jobs_or_none.Holds := by
  w_on; o_law; k_head; (case hw => w_witness2)
  k_fill
  refine Nal.walk (l := PySem.Challenge.rw_namesalone_k00_jobs_or_none) rfl rfl (fun w h Y => PySem.W.kIn_of Y) ?F
  case F =>
    intro w mg fa h KX G hmg
    refine' Nal.all_mk KX G hmg ?a0 ?l0 ?c0 ?k0 ?a1 ?l1 ?c1 ?k1 ?a2 ?l2 ?c2 ?k2 ?a3 ?l3 ?c3 ?k3 ?a4 ?l4 ?c4 ?k4 ?a5 ?l5 ?c5 ?k5 ?a6 ?l6 ?c6 ?k6 ?a7 ?l7 ?c7 ?k7 ?a8 ?l8 ?c8 ?k8 ?a9 ?l9 ?c9 ?k9 ?a10 ?l10 ?c10 ?k10 ?a11 ?l11 ?c11 ?k11 ?a12 ?l12 ?c12 ?k12 ?a13 ?l13 ?c13 ?k13 ?a14 ?l14 ?c14 ?k14 ?a15 ?l15 ?c15 ?k15 ?a16 ?l16 ?c16 ?k16 ?a17 ?l17 ?c17 ?k17 ?a18 ?l18 ?c18 ?k18 ?a19 ?l19 ?c19 ?k19 ?a20 ?l20 ?c20 ?k20 ?a21 ?l21 ?c21 ?k21 ?aLET ?aLON ?z_len ?z_abs ?z_int ?z_list ?z_tuple ?z_dict ?z_str ?z_bool ?z_all ?z_min ?z_zip ?z_range ?z_enumerate ?z_sorted ?z_isinstance ?z_set
    (case a0 => k_is)
    (case l0 => k_is)
    (case c0 => k_is)
    (case k0 => k_is)
    (case a1 => k_is)
    (case l1 => k_is)
    (case c1 => k_is)
    (case k1 => k_is)
    (case a2 => k_is)
    (case l2 => k_is)
    (case c2 => k_is)
    (case k2 => k_is)
    (case a3 => k_is)
    (case l3 => k_is)
    (case c3 => k_is)
    (case k3 => k_is)
    (case a4 => k_is)
    (case l4 => k_is)
    (case c4 => k_is)
    (case k4 => k_is)
    (case a5 => k_is)
    (case l5 => k_is)
    (case c5 => k_is)
    (case k5 => k_is)
    (case a6 => k_is)
    (case l6 => k_is)
    (case c6 => k_is)
    (case k6 => k_is)
    (case a7 => k_is)
    (case l7 => k_is)
    (case c7 => k_is)
    (case k7 => k_is)
    (case a8 => k_is)
    (case l8 => k_is)
    (case c8 => k_is)
    (case k8 => k_is)
    (case a9 => k_is)
    (case l9 => k_is)
    (case c9 => k_is)
    (case k9 => k_is)
    (case a10 => k_is)
    (case l10 => k_is)
    (case c10 => k_is)
    (case k10 => k_is)
    (case a11 => k_is)
    (case l11 => k_is)
    (case c11 => k_is)
    (case k11 => k_is)
    (case a12 => k_is)
    (case l12 => k_is)
    (case c12 => k_is)
    (case k12 => k_is)
    (case a13 => k_is)
    (case l13 => k_is)
    (case c13 => k_is)
    (case k13 => k_is)
    (case a14 => k_is)
    (case l14 => k_is)
    (case c14 => k_is)
    (case k14 => k_is)
    (case a15 => k_is)
    (case l15 => k_is)
    (case c15 => k_is)
    (case k15 => k_is)
    (case a16 => k_is)
    (case l16 => k_is)
    (case c16 => k_is)
    (case k16 => k_is)
    (case a17 => k_is)
    (case l17 => k_is)
    (case c17 => k_is)
    (case k17 => k_is)
    (case a18 => k_is)
    (case l18 => k_is)
    (case c18 => k_is)
    (case k18 => k_is)
    (case a19 => k_is)
    (case l19 => k_is)
    (case c19 => k_is)
    (case k19 => k_is)
    (case a20 => k_is)
    (case l20 => k_is)
    (case c20 => k_is)
    (case k20 => k_is)
    (case a21 => k_is)
    (case l21 => k_is)
    (case c21 => k_is)
    (case k21 => k_is)
    (case aLET => k_is)
    (case aLON => k_is)
    (case z_len => k_is)
    (case z_abs => k_is)
    (case z_int => k_is)
    (case z_list => k_is)
    (case z_tuple => k_is)
    (case z_dict => k_is)
    (case z_str => k_is)
    (case z_bool => k_is)
    (case z_all => k_is)
    (case z_min => k_is)
    (case z_zip => k_is)
    (case z_range => k_is)
    (case z_enumerate => k_is)
    (case z_sorted => k_is)
    (case z_isinstance => k_is)
    (case z_set => k_is)
